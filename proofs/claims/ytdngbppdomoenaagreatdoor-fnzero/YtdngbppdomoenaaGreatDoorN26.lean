import Derived.Test.YtdngbppdomoenaaGreatDoorN21
set_option linter.unusedVariables false
set_option linter.unusedSimpArgs false
set_option maxRecDepth 20000
set_option maxHeartbeats 8000000
namespace Go.Proofs.YtdngbppdomoenaaGreatDoor
open Go.Proofs.Tryz
variable {W:World} {v:Value} {B c j n s:Nat} {y:Ly} {d:Dy} {cf:Cf} {h:Hs}
section
open Go.RowKit
theorem wF:¬hI 190:=by unfold hI;decide
theorem A4:¬hI 210:=by unfold hI;decide
theorem aD {b:Nat} {e:TypeId} {d:Nat} {f:List Value} (h:W.ownsRow b e d v n f):∃ a n c,v=.slice a n c:=by
 obtain⟨a,c,h⟩:=aK h;exact⟨a,n,c,h⟩
theorem Hp.off {i:World} (j:Hp B y d cf h W) {t:TypeId} (l:t≠90/\t≠162/\t≠194/\t≠173/\t≠174/\t≠178/\t≠169/\t≠167/\t≠3/\t≠197/\t≠23) {Y:Nat} {c:Array Value} (k:W.heap[Y]?=some (.cells c t)) (b:Below B W i) (g:W.grownBy i (some Y)):Hp B y d cf h i:=by
 refine j.keep ⟨(Ky.grown k rfl g:Ky (· = t) W i).more (λu a=>by subst a;exact l),?_,?_⟩ b;·obtain⟨a,⟨m,n,f,_⟩,_⟩:=j.sp.map;exact g.block _ (ai f) (λe=>by simp at e;rw [e,k] at f;cases f)
 obtain⟨m,n,f⟩:=j.mp.typ;exact g.block _ (ai f) (λe=>by simp at e;rw [e,k] at f;cases f)
theorem Bi.loc {Y:Nat} {V b:World} (h:Bi B W V) (g:V.grownBy b (some Y)) (j:W.heap.size<=Y) (e:B<=W.heap.size):Bi B W b :=
 ⟨h.bel.trans ((Fc B V).grown g (Fg e h.bel.size) (λr a=>by simp at a;omega)),g.os.trans h.ky.os,g.tape.trans h.ky.tape,g.output.trans h.ky.output,Fg h.ky.size g.size,λd c u f a i=>by
  rw [g.block d (Fq (ai a) h.ky.size) (λe=>by simp at e;have:=ai a;omega)]
  exact h.ky.cells d c u f a i⟩
def Cs (B:Nat) (y:Ly) (d:Dy) (cf:Cf) (h:Hs) (W:World) (j:Nat->Option (Bool×List Int)) (code:Int) (data:List Int) (e:Ending) (W':World):Prop :=
 ∃ i,Hp B y { d with f:=i } cf { h with m:=j } W'/\Bi B W W'/\((code=0/\∃ v,e=.returned v/\W'.ownsRow W.heap.size 5 1 v data.length (Ns .u8 data))\/(code≠0/\e=.panicked (ij code)))
theorem ay {W'} {e:TypeId} {sz:Nat} {a:List Value} (h:W.ownsRow B e sz v n a) (b:D W W'):W'.ownsRow B e sz v n a:=aj h (Ky.below b:Ky (λ_=>False) W W') (λe=>e)
theorem Da.belowD {S M f w w' p ys} (h:Da S M f w p n ys) (b:D w w'):Da S M f w' p n ys :=
 ⟨h.1,λi a=>by obtain ⟨x,c,d,e,g⟩:=h.2 i a;exact⟨x,c,ad b d,Fq e b.size,g⟩⟩
theorem mB (B y d cf h kd) (p:Int) (c) (a:Nat) (n da dl) (M:Nat) (ys W) (e:Hp B y d cf h W) (a4:∀ k,283<=k->h.m k=none) (ha:a<18446744073709551616) (a7:p<=9223372036854775807) (k:Da y.S y.M d.f W da dl ys) (a8:dl<=M) :
  Calls prog 109 #[J y.P 0,j_ kd p c a n da dl M] W (Cs B y d cf h W (bT 283 (cf.bud:Nat) h.m kd p c a n ys).1 (bT 283 (cf.bud:Nat) h.m kd p c a n ys).2.1 (bT 283 (cf.bud:Nat) h.m kd p c a n ys).2.2):=by
 have DO:=H (λV (hV:D W V)=>D_ y.S y.M 283 (cf.bud:Nat) d.f h.m kd p c a n da dl M ys V (e.below hV).sp (e.below hV).pg a4 Z ha a7 (k.belowD hV) a8);have FI:=H (λV b G m' (hV:D W V) (hi:Im y.S y.M 0 283 (cf.bud:Nat) G b) (hg:Pg G m' b) (hf:Fr y.S y.M d.f G V b)=>(e.below hV).space hi hg hf);have o:=e.cell 6 Z _ rfl;have BW:=H e.bW;generalize bT 283 (cf.bud:Nat) h.m kd p c a n ys=r at *;obtain⟨m',g,F⟩:=r;dsimp only at *;unfold j_ at DO ⊢;obtain⟨V,hV⟩:∃ V,V=W.alloc (.cells #[I kd,I p,I c,U a,I n,.slice da dl M] 190):=⟨_,rfl⟩;have i:D W V:=by rw [hV];exact (Fc _ _).alloc (Fe _) _
 have X:=(show V.heap[W.heap.size]?=some (.cells #[I kd,I p,I c,U a,I n,.slice da dl M] 190) by rw [hV];exact ao W _);have b:=ad i o;have BV:=H i;obtain⟨SP,j⟩:∃ SP,SP=y.S:=⟨_,rfl⟩;obtain⟨PP,l⟩:∃ PP,PP=y.P:=⟨_,rfl⟩;have q:boxF cf y d h.used 6=J y.S 0:=rfl;rw [q] at b;rw [<-j] at DO b;rw [<-l] at b ⊢;clear e k o i q;obtain⟨i,e⟩:∃ i,i=W.heap.size:=⟨_,rfl⟩;have CK:=H (show ∀ k:World,k.cell? ⟨PP,6,none⟩=some (J SP 0)->k.heap[i]?=some (.cells #[I kd,I p,I c,U a,I n,.slice da dl M] 190)->k.cell? ⟨PP,6,none⟩=some (J SP 0)/\k.cell? ⟨i,0,none⟩=some (I kd)/\k.cell? ⟨i,1,none⟩=some (I p)/\k.cell? ⟨i,2,none⟩=some (I c)/\k.cell? ⟨i,3,none⟩=some (U a)/\k.cell? ⟨i,4,none⟩=some (I n)/\k.cell? ⟨i,5,none⟩=some (.slice da dl M) from λk o x=>by
  exact⟨o,bY x,bY x,bY x,bY x,bY x,bY x⟩)
 have K:=H j;have a0:=H l;rw [<-e] at X;have b0:=H e;have XV:=H X;have a5:=H b;clear b X j l;go_enter func109,ntmps109;go_upto_region 1 with fail
 refine Eq.mp (congrArg _ hV) ?_;clear hV;rw [<-e];clear e;refine rh (S:=λk=>k.cell? ⟨PP,6,none⟩=some (J SP 0)/\k.cell? ⟨i,0,none⟩=some (I kd)/\k.cell? ⟨i,1,none⟩=some (I p)/\k.cell? ⟨i,2,none⟩=some (I c)/\k.cell? ⟨i,3,none⟩=some (U a)/\k.cell? ⟨i,4,none⟩=some (I n)/\k.cell? ⟨i,5,none⟩=some (.slice da dl M)) ?_;have u:=CK.out V.drew a5 XV.out;iterate 5 (refine py u ?_;simp only [f0,f1,Nat.reduceAdd,lz,l0,ls])
 refine lW [5,6] λi9 O=>?_;rcases (by simpa using O:i9=5\/i9=6) with O|O
 ·subst O;refine cv λK' l=>?_;go_simp;refine (DO _ (BV.drew)).mono ?_;rintro e L ⟨v,rfl,o,G,i1,g1,P⟩;rw [K.out] at i1 P;obtain⟨Q,w⟩:=FI.out _ L G m' (BV.drew) i1 g1 P;have a1:=w.ky;obtain⟨q,s,t,rfl⟩:=aD o;have x1:L.heap[i]?=some (.cells #[I kd,I p,I c,U a,I n,.slice da dl M] 190):=a1.cells _ _ _ _ (show V.drew.heap[i]?=_ from XV) wF;have p1:L.cell? ⟨PP,6,none⟩=some (J SP 0):=by rw [a0.out,K.out];exact Q.cell 6 Z _ rfl
  have h1:=CK.out _ p1 x1;refine l _ _ ⟨h1,?_⟩;clear u;have u:=h1;clear l K';refine po 6 λK' l=>?_;go_simp;have N:D L (L.alloc (.cells #[I 0,C] 210)):=(Fc _ _).alloc (Fe _) _;have R:=ao L (.cells #[I 0,C] 210);have h2:=CK.out _ (ad N p1) ((N.block _ (ai x1)).trans x1);refine l _ _ ⟨h2,?_⟩;clear u l K';have u:=h2;have BI:=(Bi.ofBelow BV.drew BW).trans (w.add N (Fg BW (Fg BV.size w.bel.size)));have x:=Q.below N;have T:=ay (dx o (BV.size)) N;have a2:=(N.block _ (ai x1)).trans x1;generalize L.alloc _=j at *;generalize X:L.heap.size=Y at *;have BY:W.heap.size<=Y:=by rw [<-X];exact Fg BV.size w.bel.size
  have X2:=a2;clear X;refine po 7 λK' l=>?_;refine Hr 210 _ _ rfl Y _ rfl rfl 210 _ R E rfl jv ?_;have g3:=al j Y #[I g,.slice q s t];have k3:Ky (· = 210) j (j.setRow Y #[I g,.slice q s t]):=Ky.grown R rfl g3;have x2:j.heap[i]?=some (.cells #[I kd,I p,I c,U a,I n,.slice da dl M] 190):=X2;have a3:B<=Y:=Fg BW BY;have b3:Below B j (j.setRow Y #[I g,.slice q s t]):=(Fc _ _).grown g3 x.bW (λr hr=>by simp at hr;omega);have z:=x.off av R b3 g3;have h3:=CK.out _ (show (j.setRow Y #[I g,.slice q s t]).cell? ⟨PP,6,none⟩=_ by rw [a0.out,K.out];exact z.cell 6 Z _ rfl) (k3.cells _ _ _ _ x2 av);refine l _ _ ⟨h3,?_⟩;clear u l K';have u:=h3;refine bN ?_;have XU:=aw (v:=j) R #[I g,.slice q s t];have HU:=IB z (IB (BI.loc g3 BY BW) (aj T k3 av));clear h3 x2 X2 k3 g3 b3 x z BI T R a3 BY;generalize j.setRow Y #[I g,.slice q s t]=b at *;have HF:=H (show Hp B y { d with f:=G } cf { h with m:=m' } b/\Bi B W b/\b.ownsRow W.heap.size 5 1 (.slice q s t) F.length (Ns .u8 F) from HU);have y0:b.cell? ⟨Y,0,none⟩=some (I g):=bY XU
  have y1:b.cell? ⟨Y,1,none⟩=some (.slice q s t):=bY XU;clear HU XU u;by_cases A:g=0;·subst A;go_wp2;go_ret;exact⟨G,HF.1,HF.2.1,.inl ⟨rfl,_,rfl,HF.2.2⟩⟩
  have a6:(g != 0)=true:=by simpa using A
  go_wp2;exact⟨rfl,G,HF.1,HF.2.1,.inr ⟨A,rfl⟩⟩
 subst O;refine cv λK' l=>?_;go_simp;have N:D V (V.alloc (.cells #[I 0,C] 210)).drew:=((Fc _ _).alloc (Fe _) _).drew;have Y1:(V.alloc (.cells #[I 0,C] 210)).drew.heap[V.heap.size]?=_:=ao V (.cells #[I 0,C] 210);have h2:=CK.out _ (ad N a5) ((N.block _ (ai XV)).trans XV);refine l _ _ ⟨h2,?_⟩;clear u l K';have u:=h2;have x0:=(N.block _ (ai XV)).trans XV.out;have a2:=BV.trans (N.mono BV.size);have SZ:=N.size;generalize World.drew (V.alloc _)=V0 at *;generalize X:V.heap.size=Y at *;refine po 5 λK' l=>?_
 go_simp;refine (DO _ (a2)).mono ?_;rintro e L ⟨v,rfl,o,G,i1,g1,P⟩;rw [K.out] at i1 P;obtain⟨Q,w⟩:=FI.out _ L G m' (a2) i1 g1 P;have a1:=w.ky;obtain⟨q,s,t,rfl⟩:=aD o;have x1:L.heap[i]?=some (.cells #[I kd,I p,I c,U a,I n,.slice da dl M] 190):=a1.cells _ _ _ _ x0 wF;have p1:L.cell? ⟨PP,6,none⟩=some (J SP 0):=by rw [a0.out,K.out];exact Q.cell 6 Z _ rfl
 have h1:=CK.out _ p1 x1;refine l _ _ ⟨h1,?_⟩;clear u;have u:=h1;clear l K';have R:=a1.cells _ _ _ _ Y1 A4;have BI:=(Bi.ofBelow a2 BW).trans w;have x:=Q;have T:=dx o a2.size;have BY:W.heap.size<=Y:=by rw [<-X];exact BV.size
 have X2:=x1;clear X;generalize a9:L=j at *;clear a9;refine po 7 λK' l=>?_;refine Hr 210 _ _ rfl Y _ rfl rfl 210 _ R E rfl jv ?_;have g3:=al j Y #[I g,.slice q s t];have k3:Ky (· = 210) j (j.setRow Y #[I g,.slice q s t]):=Ky.grown R rfl g3;have x2:j.heap[i]?=some (.cells #[I kd,I p,I c,U a,I n,.slice da dl M] 190):=X2;have a3:B<=Y:=Fg BW BY;have b3:Below B j (j.setRow Y #[I g,.slice q s t]):=(Fc _ _).grown g3 x.bW (λr hr=>by simp at hr;omega);have z:=x.off av R b3 g3;have h3:=CK.out _ (show (j.setRow Y #[I g,.slice q s t]).cell? ⟨PP,6,none⟩=_ by rw [a0.out,K.out];exact z.cell 6 Z _ rfl) (k3.cells _ _ _ _ x2 av);refine l _ _ ⟨h3,?_⟩;clear u l K';have u:=h3;refine bN ?_;have XU:=aw (v:=j) R #[I g,.slice q s t];have HU:=IB z (IB (BI.loc g3 BY BW) (aj T k3 av));clear h3 x2 X2 k3 g3 b3 x z BI T R a3 BY;generalize j.setRow Y #[I g,.slice q s t]=b at *;have HF:=H (show Hp B y { d with f:=G } cf { h with m:=m' } b/\Bi B W b/\b.ownsRow W.heap.size 5 1 (.slice q s t) F.length (Ns .u8 F) from HU);have y0:b.cell? ⟨Y,0,none⟩=some (I g):=bY XU
 have y1:b.cell? ⟨Y,1,none⟩=some (.slice q s t):=bY XU;clear HU XU u;by_cases A:g=0;·subst A;go_wp2;go_ret;exact⟨G,HF.1,HF.2.1,.inl ⟨rfl,_,rfl,HF.2.2⟩⟩
 have a6:(g != 0)=true:=by simpa using A
 go_wp2;exact⟨rfl,G,HF.1,HF.2.1,.inr ⟨A,rfl⟩⟩
theorem Da.nil (S M f w):Da S M f w none 0 []:=⟨rfl,λi a=>Z⟩
theorem ju (B y d cf h) (a n:Nat) (W) (e:Hp B y d cf h W) (c:∀ k,283<=k->h.m k=none) (ha:a<18446744073709551616) (p:n<18446744073709551616) :
  Calls prog 74 #[J y.P 0,U a,U n] W (Cs B y d cf h W h.m (b_ h.m a ((min n 4097:Nat):Int)) (if b_ h.m a ((min n 4097:Nat):Int)=0 then aI h.m a (min n 4097) else [])):=by
 have b:=H (mB B y d cf h 4 0 0 a ((min n 4097:Nat):Int) none 0 0 [] W e c ha Z (Da.nil _ _ _ _) (Fe _));unfold bT at b;simp only [Gv] at b;rw [FD] at b;unfold j_ at b;generalize (if b_ h.m a ((min n 4097:Nat):Int)=0 then aI h.m a (min n 4097) else [])=l at *;generalize b_ h.m a ((min n 4097:Nat):Int)=m at *;clear e c;generalize y.P=P at *;by_cases k:n<=4097
 ·rw [Hh k] at b;go_enter func74,ntmps74;go_wp2_with fail;refine (b).mono ?_;rintro e o ⟨j,c,f,⟨g,v,rfl,own⟩|⟨g,rfl⟩⟩;·have i:=H (IB c (IB f own));clear c f own b;go_wp2;go_ret;exact⟨j,i.1,i.2.1,.inl ⟨g,v,rfl,i.2.2⟩⟩
  exact⟨rfl,j,c,f,.inr ⟨g,rfl⟩⟩
 rw [Nat.min_eq_right Z] at b;go_enter func74,ntmps74;go_wp2_with fail;refine (b).mono ?_;rintro e o ⟨j,c,f,⟨g,v,rfl,own⟩|⟨g,rfl⟩⟩;·have i:=H (IB c (IB f own));clear c f own b;go_wp2;go_ret;exact⟨j,i.1,i.2.1,.inl ⟨g,v,rfl,i.2.2⟩⟩
 exact⟨rfl,j,c,f,.inr ⟨g,rfl⟩⟩
def AY (B:Nat) (y:Ly) (d:Dy) (cf:Cf) (h:Hs) (W:World) (j:Nat->Option (Bool×List Int)) (code:Int) (e:Ending) (W':World):Prop :=
 ∃ i,Hp B y { d with f:=i } cf { h with m:=j } W'/\Bi B W W'/\((code=0/\e=.returned (.tuple #[]))\/(code≠0/\e=.panicked (ij code)))
theorem it (B y d cf h) (a:Nat) (da dl) (f:Nat) (ys W) (e:Hp B y d cf h W) (c:∀ k,283<=k->h.m k=none) (ha:a<18446744073709551616) (i:Da y.S y.M d.f W da dl ys) (g:dl<=f) :
  Calls prog 75 #[J y.P 0,U a,.slice da dl f] W (AY B y d cf h W (if b_ h.m a (ys.length:Int)=0 then ax h.m a ys ys.length else h.m) (b_ h.m a (ys.length:Int))):=by
 have b:=H (mB B y d cf h 5 0 0 a 0 da dl f ys W e c ha Z i g);unfold bT at b;rw [Gu av,Gv rfl] at b;unfold j_ at b;dsimp only at b;generalize (if b_ h.m a (ys.length:Int)=0 then ax h.m a ys ys.length else h.m)=n at *;generalize b_ h.m a (ys.length:Int)=k at *;clear e c i;generalize y.P=P at *;go_enter func75,ntmps75;go_wp2_with fail;refine (b).mono ?_;rintro e o ⟨l,c,i,⟨j,v,rfl,own⟩|⟨j,rfl⟩⟩
 ·have m:=H (IB c (IB i own));clear c i own b;go_wp2;go_end0;exact⟨l,m.1,m.2.1,.inl ⟨j,rfl⟩⟩
 exact⟨rfl,l,c,i,.inr ⟨j,rfl⟩⟩
end
section
open Go.RowKit Go.Maps
theorem Af {a d f:Nat} (p:c<12) (q:s<6) (r:j<aM c) (g:a<12) (i:d<6) (l:f<aM a) (h:aX c s j=aX a d f):(c,s,j)=(a,d,f):=by
 obtain⟨k,t,e⟩:=pw p q r;obtain⟨n,m,o⟩:=pw g i l;have u:gu k=aX c s j:=by unfold gu;rw [e]
 have v:gu n=aX a d f:=by unfold gu;rw [o]
 rcases Hn k n with b|b|b;·have:=mQ b m;omega
 ·rw [<-e,<-o,b]
 have:=mQ b t;omega
theorem gC {p} (h:cH p=some (c,s,j)):c<12/\s<6/\j<aM c/\aX c s j=p:=by
 unfold cH at h;have a:=tF (Hz h);have b:=List.find?_some h;simp at b;exact⟨a.1,a.2.1,a.2.2,b⟩
theorem gS (a:c<12) (b:s<6) (d:j<aM c):cH (aX c s j)=some (c,s,j):=by
 cases e:cH (aX c s j) with
 | some t =>
  obtain⟨l,m,n⟩:=t;obtain⟨f,g,i,k⟩:=gC e;rw [Af f g i a b d k]
 | none =>
  unfold cH at e;have f:(c,s,j)∈dG:=by
   unfold dG;simp only [List.mem_flatMap,F0,FC];exact⟨c,a,s,b,j,d,rfl⟩
  have:=List.find?_eq_none.1 e _ f;simp at this
theorem wP {p:Nat} (h:Dec (p:Int) v):(∃ c s j:Nat,c<12/\s<6/\j<aM c/\p=aX c s j/\v=pl 3 (c:Nat) (s:Nat) (j:Nat) 0 0)\/(cH p=none/\∃ k c s t q o:Int,v=pl k c s t q o/\(k≠3\/o≠0)):=by
 have i:∀ {c s j:Nat},cH p=some (c,s,j)->1024<=p/\p<191488:=λ{c s j} e=>by
  obtain⟨k,u,g,G⟩:=gC e;have:=cI k u g;omega
 have a:(∀ c s j,cH p≠some (c,s,j))->cH p=none:=λh=>by
  cases e:cH p with
  | none=>rfl
  | some t=>obtain ⟨c,s,j⟩:=t;exact absurd e (h c s j)
 cases h with
 | out h=>exact .inr ⟨a (λc s j e=>by have:=i e;omega),0,0,0,0,0,0,rfl,.inl av⟩
 | large K k=>exact .inr ⟨a (λc s j e=>by have:=i e;omega),4,0,0,0,_,_,rfl,.inl av⟩
 | zero K k=>exact .inr ⟨a (λc s j e=>by have:=i e;omega),1,0,0,0,0,0,rfl,.inl av⟩
 | slab c s K k m =>
  obtain⟨b,rfl⟩:∃ b:Nat,c=(b:Int):=⟨c.toNat,by have:=m.c0;omega⟩;obtain⟨d,rfl⟩:∃ d:Nat,s=(d:Int):=⟨s.toNat,by have:=m.s0;omega⟩;have f:b<12:=by have:=m.c1;omega
  have L:d<6:=by have:=m.s1;omega
  have N:=bd f;have n:=m.lo;have q:=m.hi;rw [vY f,pU f] at n q;rw [vY f,pU f];have x:((yI b:Nat):Int)+(d:Int)*((dH b:Nat)+1)=(aB b d:Nat):=by unfold aB;simp
  rw [x] at n q ⊢;obtain⟨o,Q⟩:∃ o:Nat,p=aB b d*1024+o:=⟨p-aB b d*1024,Z⟩;have O:(p:Int)-(aB b d:Nat)*1024=(o:Int):=Z;rw [O];have l:∀ c s j,cH p=some (c,s,j)->c=b/\s=d/\o=j*bX b/\j<aM b:=λc s j e=>by
   obtain⟨k,u,g,G⟩:=gC e;have z:=cI k u g;have y:aB c s*1024<=aX c s j:=(by unfold aX;omega);by_cases w:c=b/\s=d;·obtain⟨rfl,rfl⟩:=w;refine⟨rfl,rfl,?_,g⟩;unfold aX at G;omega
   rcases dP k u f L w with r|r <;> omega
  unfold xo;rw [pU f,vt f,se f];by_cases M:((dH b:Nat):Int)*1024<=(o:Int)
  ·rw [Gv M];refine .inr ⟨a (λc s j e=>?_),_,_,_,_,_,_,rfl,.inl av⟩;obtain⟨rfl,rfl,y,g⟩:=l c s j e;have r:(j+1)*bX c<=aM c*bX c:=F5 _ g;rw [Gj] at r;have w:aM c*bX c<=dH c*1024:=N.2.2.2.2.2.2.1;have z:(dH c*1024:Nat)<=o:=Z;omega
  rw [Gu M];by_cases w:((aM b:Nat):Int)*((bX b:Nat):Int)<=(o:Int)
  ·rw [Gv w];refine .inr ⟨a (λc s j e=>?_),_,_,_,_,_,_,rfl,.inl av⟩;obtain⟨rfl,rfl,y,g⟩:=l c s j e;have r:(j+1)*bX c<=aM c*bX c:=F5 _ g;rw [Gj] at r;have z:aM c*bX c<=o:=(by exact_mod_cast w);omega
  rw [Gu w];have z:o<aM b*bX b:=by
   have:¬(aM b*bX b<=o):=λh=>w (by exact_mod_cast h)
   omega
  have A:((o:Int)/((bX b:Nat):Int))=((o/bX b:Nat):Int):=bF;have B:((o:Int)%((bX b:Nat):Int))=((o%bX b:Nat):Int):=bF;rw [A,B];by_cases F:o%bX b=0;·have P:o/bX b<aM b:=(Nat.div_lt_iff_lt_mul Z).2 z;refine .inl ⟨b,d,o/bX b,f,L,P,?_,by rw [F];rfl⟩;unfold aX;have:=Nat.div_add_mod o (bX b);rw [F,Gq] at this;omega
  refine .inr ⟨a (λc s j e=>?_),_,_,_,_,_,_,rfl,.inr Z⟩;obtain⟨rfl,rfl,y,g⟩:=l c s j e;exact F (by rw [y];exact Nat.mul_mod_left _ _)
/-! the map of ranges -/
theorem fD:Keyed prog 23:=int_keyed underlying23
theorem zN (w:World):(zeroValue 184).run prog w=.ok (.pointer none) w:=E
theorem xk (k:Nat) (h:k<18446744073709551616):keyOf prog 23 (.int .u64 k)=some (.int .u64 k):=keyOf_int_mk underlying23 (WalkArith.wf_u64 ⟨Z,Z⟩)
theorem Mr.look {R lo} (h:Mr R n lo W) (k:Nat) (i:k<18446744073709551616) :
  (Instr.lookup 88 (.map (some R)) (.int .u64 k) false).run prog W=.ok (.pointer ((lo k).map λb=>⟨b,0,none⟩)) W:=by
 obtain⟨a,d,_,g,_⟩:=h.map;obtain⟨v,ps,e,j⟩:=d.lookup fD underlying88 (zN W) (show eM (.pointer none)=some (.nil,[]) from rfl) (xk k i);rw [g k i] at j;rw [e];rcases g_ j with ⟨b,rfl,c⟩|⟨rfl,c⟩
 ·cases f:lo k with
  | none=>rw [f] at c;simp [sD] at c
  | some l =>
   rw [f] at c;simp [sD] at c;have:l=b:=Z;subst this;rfl
 cases f:lo k with
 | none=>rfl
 | some l=>rw [f] at c;simp [sD] at c
theorem kS {k:Nat} (h:j≠k):(Lit.int .u64 (j:Int))≠.int .u64 (k:Int):=by
 intro e;injection e with _ e;omega
theorem AV {b:Nat} {a:DataW Unit} {R:Value->Option (DataW Unit×List MemPlace)} (h:W.ownsMap prog 23 R b n a) {d:Nat} (e:Maps.size a<=d):W.ownsMap prog 23 R b d a:=by
 obtain⟨f,c,g,F,i,rfl⟩:=h;exact⟨f,c,g,F,by simpa [Maps.size,length_sorted] using e,rfl⟩
theorem Mr.del {R n lo W} (h:Mr R n lo W) (k:Nat) (m:k<18446744073709551616) (o:TypeId) :
  ∃ f,(Builtin.delete_ #[88,23] o #[.map (some R),.int .u64 k]).run prog W=.ok (.tuple #[]) f/\Mr R (if (lo k).isSome then n-1 else n) (upd lo k none) f/\W.mapTurned f R:=by
 obtain⟨a,b,p,i,c⟩:=h.map;obtain⟨f,g,d,q⟩:=b.drop fD underlying88 (xk k m) o;refine⟨f,g,⟨a.del (.int .u64 k),d,?_,?_,?_⟩,q⟩
 ·have e:=Maps.size_del (k:=.int .u64 k) (b.tidy fD);rw [c k m] at e;cases l:lo k <;> rw [l] at e <;> simp at e ⊢<;> omega
 ·intro j l;by_cases e:j=k;·subst e;rw [Maps.atKey_del_same,upd_same];rfl
  rw [Maps.atKey_del_other (kS e),aJ lo k j _ e];exact i j l
 intro j l;by_cases e:j=k;·subst e;rw [Maps.has_del_same,upd_same];rfl
 rw [Maps.has_del_other (kS e),aJ lo k j _ e];exact c j l
theorem Mr.put {R n lo W} (h:Mr R n lo W) (k b:Nat) (p:k<18446744073709551616) (q:lo k=none) (u:n<4096) :
  ∃ i,(Instr.mapUpdate 88 (.map (some R)) (.int .u64 k) (.pointer (some ⟨b,0,none⟩))).run prog W=.ok () i/\Mr R (n+1) (upd lo k (some b)) i/\W.mapTurned i R:=by
 obtain⟨a,c,r,m,d⟩:=h.map;obtain⟨i,l,g,s⟩:=c.store fD underlying88 av (xk k p) (oo b);have f:WideAt.IsKeyLit (.int .u64 (k:Int)):=by simp [WideAt.IsKeyLit]
 have t:Maps.size (a.put (.int .u64 k) (.lit (.int .i64 b)))<=n+1:=by
  have e:=Maps.size_put (k:=.int .u64 k) (c.tidy fD) (.lit (.int .i64 b));rw [d k p,q] at e;simp at e;omega
 refine⟨i,l,⟨_,AV g Z,t,?_,?_⟩,s⟩
 ·intro j o;by_cases e:j=k;·subst e;rw [Maps.atKey_put_same c.isMap f,upd_same];rfl
  rw [Maps.atKey_put_other (kS e),aJ lo k j _ e];exact m j o
 intro j o;by_cases e:j=k;·subst e;rw [Maps.has_put_same c.isMap f,upd_same];rfl
 rw [Maps.has_put_other (kS e),aJ lo k j _ e];exact d j o
/-! methods by way of an interface -/
theorem zL (g : Nat) (w : World) : (method 660 174 (.pointer (some ⟨g, 0, none⟩)) "loop.example/s01868/impl.kept").run prog w=.ok (273, .pointer (some ⟨g, 0, none⟩)) w := E
theorem yO (g : Nat) (w : World) : (method 660 184 (.pointer (some ⟨g, 0, none⟩)) "loop.example/s01868/impl.kept").run prog w=.ok (273, .pointer (some ⟨g, 0, none⟩)) w := E
def yk (y:Ly) (d:Dy) (p:Nat):Value :=
 match d.lg p with
 | some g=>.iface 184 (J g 0)
 | none=>match cH p with
  | some (c,s,j)=>.iface 174 (J (y.sm c s j) 0)
  | none=>.nilIface
theorem xh (cf y d u) (c s:Nat) (e:c<12) (f:s<6):boxF cf y d u (7+c*6+s)=J (y.sb c s) 0:=by
 unfold boxF;rw [Gu Z,Gv Z];have a:(7+c*6+s-7)/6=c:=Z;have b:(7+c*6+s-7)%6=s:=Z;rw [a,b]
theorem Hp.slabAt (a:Hp B y d cf h W) (c s:Nat) (b:c<12) (e:s<6):W.cell? ⟨y.P,7+c*6+s,none⟩=some (J (y.sb c s) 0):=a.cell _ Z _ (xh cf y d h.used c s b e)
theorem Hp.bc (b:Hp B y d cf h W) (c s:Nat) (e:c<12) (f:s<6):Bc (y.sb c s) (y.sr c s) c s (aM c) (y.sc c s) (d.on c s) W:=by
 have a:=b.sl c s e f;exact⟨bY a,bY a,bY a,bY a⟩
theorem Hp.rowAt (b:Hp B y d cf h W) (c s j:Nat) (e:c<12) (f:s<6) (a:j<aM c):W.cell? ⟨y.sr c s,j,none⟩=some (J (y.sm c s j) 0):=by
 rw [(b.rw c s e f).cell j (by simpa using a)];simp [a]
theorem Hp.smAt (b:Hp B y d cf h W) (c s j:Nat) (e:c<12) (f:s<6) (g:j<aM c):W.cell? ⟨y.sm c s j,0,none⟩=some (I (h.st c s j))/\W.cell? ⟨y.sm c s j,1,none⟩=some (I (h.rq c s j)):=by
 have a:=b.sm c s j e f g;exact⟨bY a,bY a⟩
theorem Hp.scAt (a:Hp B y d cf h W) (c s j:Nat) (b:c<12) (e:s<6) (f:j<aM c):Sc (y.sm c s j) (y.sb c s) c s j W:=by
 have g:=a.sm c s j b e f;have i:=a.bc c s b e;exact⟨bY g,bY g,i.d0,i.d1,a.tb,b,e,f⟩
theorem Dp (B y d cf h) (p:Nat) (W) (m:Hp B y d cf h W) (L:p<18446744073709551616) :
  Calls prog 108 #[J y.P 0,U p] W λe W'=>e=.returned (yk y d p)/\D W W':=by
 have r:W.cell? ⟨y.P,115,none⟩=some (.map (some y.R)):=m.cell 115 Z _ rfl;have u:=m.mp.look p L;cases n:d.lg p with
 | some g =>
  have a:=H (show yk y d p=.iface 184 (J g 0) by unfold yk;rw [n]);rw [n] at u;simp only [GW] at u;clear m n;go_enter func108,ntmps108;go_wp2;go_ret;rw [a.out];exact⟨rfl,Fc _ _⟩
 | none =>
  rw [n] at u;simp only [Option.map_none] at u;have g:=H (nR (p:Nat) Z Z W m.tb);have M:=H (λV (a:D W V)=>m.below a);have i:=H (show yk y d p=match cH p with
    | some (c,s,j)=>.iface 174 (J (y.sm c s j) 0)
    | none=>.nilIface by unfold yk;rw [n])
  clear m n;go_enter func108,ntmps108;go_wp2_with fail;refine (g).mono ?_;rintro e V ⟨⟨v,f,rfl⟩,b⟩;have O:=H b;have P:∀ {a:World},D V a->D W a:=λhU=>b.trans (hU.mono b.size)
  clear b g u r;rcases wP f with ⟨c,s,j,w,F,Q,rfl,rfl⟩|⟨N,k,c,s,t,q,o,rfl,l⟩
  ·rw [gS w F Q] at i;dsimp only at i;unfold pl;(go_upto_region 5 with fail);have g:=ao V (.cells #[I 3,I c,I s,I j,I 0,I 0] 58);have x:D V (V.alloc (.cells #[I 3,I c,I s,I j,I 0,I 0] 58)):=(Fc _ _).alloc (Fe _) _;generalize V.alloc _=a at *;generalize V.heap.size=X at *;have z0:a.cell? ⟨X,0,none⟩=some (I 3):=bY g;have z1:a.cell? ⟨X,1,none⟩=some (I c):=bY g;have z2:a.cell? ⟨X,2,none⟩=some (I s):=bY g;have z3:a.cell? ⟨X,3,none⟩=some (I j):=bY g;have z5:a.cell? ⟨X,5,none⟩=some (I 0):=bY g;have z:=H (show D W a from P x);have b:=M.out a z.out;have q1:=b.slabAt c s w F;have q2:=(b.bc c s w F).d3;have q3:=b.rowAt c s j w F Q;have R:=(bd w).2.2.2.2.2.1;clear b g x O f;generalize y.sm c s j=G at *;generalize y.sr c s=K at *;generalize y.sb c s=A at *;generalize y.sc c s=T at *;generalize aM c=Y at *;(go_upto_region 7 with fail);refine rh (S:=λb=>b.cell? ⟨X,1,none⟩=some (I c)/\b.cell? ⟨X,2,none⟩=some (I s)/\b.cell? ⟨X,3,none⟩=some (I j)/\b.cell? ⟨y.P,7+c*6+s,none⟩=some (J A 0)/\b.cell? ⟨A,3,none⟩=some (Vl K Y T)/\b.cell? ⟨K,j,none⟩=some (J G 0)) ?_;have b:=IB (show a.drew.cell? _=_ from z1) (IB (show a.drew.cell? _=_ from z2) (IB (show a.drew.cell? _=_ from z3) (IB (show a.drew.cell? _=_ from q1) (IB (show a.drew.cell? _=_ from q2) (show a.drew.cell? _=_ from q3)))));refine pk 0 (J y.P 0) b ?_;refine pk 1 (J X 1) b ?_;refine pz 2 (I c) b ?_;refine pk 3 (J X 2) b ?_;refine pz 4 (I s) b ?_;refine pk 5 (J y.P 0) b ?_;refine pk 6 (J y.P 7) b ?_;refine pz 7 (J y.P (7+c*6)) b ?_;refine pz 8 (J y.P (7+c*6+s)) b ?_;refine pz 9 (J A 0) b ?_;refine pk 10 (J A 0) b ?_;refine pk 11 (J A 3) b ?_;refine pz 12 (Vl K Y T) b ?_;refine pk 13 (J X 3) b ?_;refine pz 14 (I j) b ?_;refine pz 15 (J K j) b ?_;refine pz 16 (J G 0) b ?_;refine pz 17 (.iface 174 (J G 0)) b ?_;refine pk 18 (.iface 174 (J G 0)) b ?_;refine bN ?_;clear b;go_wp2;go_ret;rw [i.out];exact⟨rfl,z.drew⟩
  rw [N] at i;dsimp only at i;unfold pl;go_upto_region 5 with fail
  have g:=ao V (.cells #[I k,I c,I s,I t,I q,I o] 58);have x:D V (V.alloc (.cells #[I k,I c,I s,I t,I q,I o] 58)):=(Fc _ _).alloc (Fe _) _;generalize V.alloc _=a at *;generalize V.heap.size=X at *;have z0:a.cell? ⟨X,0,none⟩=some (I k):=bY g;have z5:a.cell? ⟨X,5,none⟩=some (I o):=bY g;have z:=H (show D W a from P x);clear g x O f;by_cases b:k=3
  ·have A:(o != 0)=true:=(by rcases l with f|f;exact absurd b f;simpa using f);subst b;clear l;go_wp2;go_ret;rw [i.out];exact⟨rfl,z⟩
  have f:(k != 3)=true:=by simpa using b
  clear l b;go_wp2;go_ret;rw [i.out];exact⟨rfl,z⟩
end
end Go.Proofs.YtdngbppdomoenaaGreatDoor
