import Derived.Maps.RangeWalk
import Derived.Test.YtdhegekcmmlohaaGreatDoorM05
import Derived.Test.YtdhegekcmmlohaaGreatDoorM06
set_option linter.unusedVariables false
set_option linter.unusedSimpArgs false
set_option maxRecDepth 20000
set_option maxHeartbeats 8000000
namespace Go.Proofs.YtdhegekcmmlohaaGreatDoor
open Go.Proofs.Tryz Go.RowKit Go.Maps Go.Shelf Go.ChangeShapes Go.WideShapes Go.ChangeAt
section
variable {W W' W1:World}{v:Value}{B R c j n p s:Nat}{y:Ly}{d:Dy}{cf:Cf}{h:Hs}
theorem wF:¬hI 284:=by unfold hI;decide
theorem Be:¬hI 172:=by unfold hI;decide
theorem aA{b:Nat}{e:QO}{d:Nat}{f:List QN}(h:W.ownsRow b e d v n f):∃a n c,v=.slice a n c:=by
 have⟨a,c,h⟩:=aK h;exact⟨a,n,c,h⟩
theorem Hp.off(i:Hp B y d cf h W){t:QO}(k:t≠154/\t≠256/\t≠288/\t≠267/\t≠268/\t≠272/\t≠263/\t≠261/\t≠3/\t≠291/\t≠27){Y:Nat}{c:Array QN}(j:W.heap[Y]?=some (.cells c t))(b:Below B W W')(g:W.grownBy W' (some Y)):Hp B y d cf h W':=by
 refine i.keep ⟨(Ky.grown j rfl g:Ky (· =t) W W').more (λu a=>by subst a;exact k),?_,?_⟩ b;·obtain⟨a,⟨l,m,f,_⟩,_⟩:=i.sp.map;exact g.block _ (ag f) (λe=>by simp at e;rw[e,j]at f;cases f)
 have⟨l,m,f⟩:=i.mp.typ;exact g.block _ (ag f) (λe=>by simp at e;rw[e,j]at f;cases f)
theorem Bi.loc{Y:Nat}{V b:QM}(h:Bi B W V)(g:V.grownBy b (some Y))(j:W.heap.size<=Y)(e:B<=W.heap.size):Bi B W b:=
 ⟨h.bel.trans ((Fu B V).grown g (Fx e h.bel.size) (λr a=>by simp at a;omega)),g.os.trans h.ky.os,g.tape.trans h.ky.tape,g.output.trans h.ky.output,Fx h.ky.size g.size,λd c u f a i=>by
  rw[g.block d (FG (ag a) h.ky.size) (λe=>by simp at e;have:=ag a;omega)]
  exact h.ky.cells d c u f a i⟩
def CU(B:Nat)(y:Ly)(d:Dy)(cf:Cf)(h:Hs)(W:World)(j:Nat->Option (Bool×List Int))(code:Int)(data:List Int)(e:Ending)(W':World):Prop:=
 ∃i,Hp B y {d with f:=i} cf {h with m:=j} W'/\Bi B W W'/\((code=0/\∃v,e=.returned v/\W'.ownsRow W.heap.size 5 1 v data.length (Ns .u8 data))\/(code≠0/\e=.panicked (ip code)))
theorem ax{e:QO}{sz:Nat}{a:List QN}(h:W.ownsRow B e sz v n a)(b:D W W'):W'.ownsRow B e sz v n a:=ai h (Ky.below b:Ky (λ_=>False) W W') (λe=>e)
theorem Da.belowD{S M f w w' p ys}(h:Da S M f w p n ys)(b:D w w'):Da S M f w' p n ys:=
 ⟨h.1,λi a=>by obtain⟨x,c,d,e,g⟩:=h.2 i a;exact⟨x,c,NI b d,FG e b.size,g⟩⟩
theorem mC(B y d cf h kd)(p:Int)(c)(a:Nat)(n da dl)(M:Nat)(ys W)(e:Hp B y d cf h W)(a4:∀k,283<=k->h.m k=none)(ha:a<18446744073709551616)(a7:p<=9223372036854775807)(k:Da y.S y.M d.f W da dl ys)(a8:dl<=M):
  QA 165 #[J y.P 0,kf kd p c a n da dl M] W (CU B y d cf h W (bZ 283 (cf.bud:Nat) h.m kd p c a n ys).1 (bZ 283 (cf.bud:Nat) h.m kd p c a n ys).2.1 (bZ 283 (cf.bud:Nat) h.m kd p c a n ys).2.2):=by
 have⟨DO,FI⟩:=y7 (λV(hV:D W V)=>Ek y.S y.M 283 (cf.bud:Nat) d.f h.m kd p c a n da dl M ys V (e.below hV).sp (e.below hV).pg a4 Z ha a7 (k.belowD hV) a8) (λV b G m'(hV:D W V)(hi:Im y.S y.M 0 283 (cf.bud:Nat) G b)(hg:Pg G m' b)(hf:Fr y.S y.M d.f G V b)=>(e.below hV).space hi hg hf);have o:=e.cell 6 Z _ rfl;have BW:=H e.bW;generalize bZ 283 (cf.bud:Nat) h.m kd p c a n ys=r at*;have⟨m',g,F⟩:=r;dsimp only at*;unfold kf at DO⊢;have⟨V,hV⟩:=Qb (W.alloc (.cells #[I kd,I p,I c,U a,I n,.slice da dl M] 284));have i:D W V:=by rw[hV];exact(Fu _ _).alloc (Fv _) _
 have X:=(show V.heap[W.heap.size]?=some (.cells #[I kd,I p,I c,U a,I n,.slice da dl M] 284) by rw[hV];exact ao W _);have b:=NI i o;have BV:=H i;have⟨SP,j⟩:=Qb y.S;have⟨PP,l⟩:=Qb y.P;have e6:boxF cf y d h.used 6=J y.S 0:=rfl;rw[e6]at b;rw[<-j]at DO b;rw[<-l]at b⊢;clear e k o i e6;have⟨i,e⟩:=Qb W.heap.size;have CK:Hid (∀k:QM,QG k PP 6 (J SP 0)->k.heap[i]?=some (.cells #[I kd,I p,I c,U a,I n,.slice da dl M] 284)->QG k PP 6 (J SP 0)/\QG k i 0 (I kd)/\QG k i 1 (I p)/\QG k i 2 (I c)/\QG k i 3 (U a)/\QG k i 4 (I n)/\QG k i 5 (.slice da dl M)):=(λk o x=>by
  exact⟨o,bJ x,bJ x,bJ x,bJ x,bJ x,bJ x⟩)
 have⟨K,a0⟩:=y7 j l;rw[<-e]at X;have⟨b0,XV,a5⟩:=Qe e X b;clear b X j l;go_enter func165,ntmps165;go_upto_region 1 with fail
 refine Eq.mp (congrArg _ hV) ?_;clear hV;rw[<-e];clear e;refine rh (S:=λk=>QG k PP 6 (J SP 0)/\QG k i 0 (I kd)/\QG k i 1 (I p)/\QG k i 2 (I c)/\QG k i 3 (U a)/\QG k i 4 (I n)/\QG k i 5 (.slice da dl M)) ?_;have u:=CK.out V.drew a5 XV;iterate 5 (refine py u ?_;simp only[f0,f1,Nat.reduceAdd,lz,l0,ls])
 refine lZ [5,6] λi9 O=>?_;rcases(by simpa using O:i9=5\/i9=6)with O|O
 ·subst O;refine cw λK' l=>?_;go_simp;refine(DO _ (BV.drew)).mono ?_;rintro e L⟨v,rfl,o,G,i1,g1,P⟩;rw[K]at i1 P;have⟨Q,w⟩:=FI.out _ L G m' (BV.drew) i1 g1 P;have a1:=w.ky;obtain⟨q,s,t,rfl⟩:=aA o;have x1:L.heap[i]?=some (.cells #[I kd,I p,I c,U a,I n,.slice da dl M] 284):=a1.cells _ _ _ _ (show V.drew.heap[i]?=_ from XV) wF;have p1:L.cell? (Qz PP 6)=some (J SP 0):=by rw[a0,K];exact Q.cell 6 Z _ rfl
  have h1:=CK.out _ p1 x1;refine l _ _ ⟨h1,?_⟩;clear u;have u:=h1;clear l K';refine po 6 λK' l=>?_;go_simp;have N:D L (L.alloc Qw):=(Fu _ _).alloc (Fv _) _;have R:=ao L Qw;have h2:=CK.out _ (NI N p1) ((N.block _ (ag x1)).trans x1);refine l _ _ ⟨h2,?_⟩;clear u l K';have u:=h2;have BI:=(Bi.ofBelow BV.drew BW).trans (w.add N (Fx BW (Fx BV.size w.bel.size)));have x:=Q.below N;have T:=ax (dm o (BV.size)) N;have a2:=(N.block _ (ag x1)).trans x1;generalize L.alloc _=j at*;generalize X:L.heap.size=Y at*;have BY:W.heap.size<=Y:=by rw[<-X];exact Fx BV.size w.bel.size
  have X2:=a2;clear X;refine po 7 λK' l=>?_;refine Ih 172 _ _ rfl Y _ rfl rfl 172 _ R E rfl mL ?_;have g3:=aj j Y #[I g,.slice q s t];have k3:Ky (· =172) j (j.setRow Y #[I g,.slice q s t]):=Ky.grown R rfl g3;have x2:j.heap[i]?=some (.cells #[I kd,I p,I c,U a,I n,.slice da dl M] 284):=X2;have a3:B<=Y:=Fx BW BY;have b3:Below B j (j.setRow Y #[I g,.slice q s t]):=(Fu _ _).grown g3 x.bW (λr hr=>by simp at hr;omega);have z:=x.off ar R b3 g3;have h3:=CK.out _ (show(j.setRow Y #[I g,.slice q s t]).cell? (Qz PP 6)=_ by rw[a0,K];exact z.cell 6 Z _ rfl) (k3.cells _ _ _ _ x2 ar);refine l _ _ ⟨h3,?_⟩;clear u l K';have u:=h3;refine bY ?_;have XU:=aw (v:=j) R #[I g,.slice q s t];have HU:=IT z (IT (BI.loc g3 BY BW) (ai T k3 ar));clear h3 x2 X2 k3 g3 b3 x z BI T R a3 BY;generalize j.setRow Y #[I g,.slice q s t]=b at*;have HF:Hid (Hp B y {d with f:=G} cf {h with m:=m'} b/\Bi B W b/\b.ownsRow W.heap.size 5 1 (.slice q s t) F.length (Ns .u8 F)):=HU;have y0:b.cell? (Qz Y 0)=some (I g):=bJ XU
  have y1:b.cell? (Qz Y 1)=some (.slice q s t):=bJ XU;clear HU XU u;by_cases A:g=0;·subst A;go_wp2;go_ret;exact⟨G,HF.1,HF.2.1,.inl ⟨rfl,_,rfl,HF.2.2⟩⟩
  have a6:(g !=0)=true:=by simpa using A
  go_wp2;exact⟨rfl,G,HF.1,HF.2.1,.inr ⟨A,rfl⟩⟩
 subst O;refine cw λK' l=>?_;go_simp;have N:D V (V.alloc Qw).drew:=((Fu _ _).alloc (Fv _) _).drew;have Y1:(V.alloc Qw).drew.heap[V.heap.size]?=_:=ao V Qw;have h2:=CK.out _ (NI N a5) ((N.block _ (ag XV)).trans XV);refine l _ _ ⟨h2,?_⟩;clear u l K';have u:=h2;have x0:=(N.block _ (ag XV)).trans XV;have a2:=BV.trans (N.mono BV.size);have SZ:=N.size;generalize World.drew (V.alloc _)=V0 at*;generalize X:V.heap.size=Y at*;refine po 5 λK' l=>?_
 go_simp;refine(DO _ (a2)).mono ?_;rintro e L⟨v,rfl,o,G,i1,g1,P⟩;rw[K]at i1 P;have⟨Q,w⟩:=FI.out _ L G m' (a2) i1 g1 P;have a1:=w.ky;obtain⟨q,s,t,rfl⟩:=aA o;have x1:L.heap[i]?=some (.cells #[I kd,I p,I c,U a,I n,.slice da dl M] 284):=a1.cells _ _ _ _ x0 wF;have p1:L.cell? (Qz PP 6)=some (J SP 0):=by rw[a0,K];exact Q.cell 6 Z _ rfl
 have h1:=CK.out _ p1 x1;refine l _ _ ⟨h1,?_⟩;clear u;have u:=h1;clear l K';have R:=a1.cells _ _ _ _ Y1 Be;have BI:=(Bi.ofBelow a2 BW).trans w;have x:=Q;have T:=dm o a2.size;have BY:W.heap.size<=Y:=by rw[<-X];exact BV.size
 have X2:=x1;clear X;generalize a9:L=j at*;clear a9;refine po 7 λK' l=>?_;refine Ih 172 _ _ rfl Y _ rfl rfl 172 _ R E rfl mL ?_;have g3:=aj j Y #[I g,.slice q s t];have k3:Ky (· =172) j (j.setRow Y #[I g,.slice q s t]):=Ky.grown R rfl g3;have x2:j.heap[i]?=some (.cells #[I kd,I p,I c,U a,I n,.slice da dl M] 284):=X2;have a3:B<=Y:=Fx BW BY;have b3:Below B j (j.setRow Y #[I g,.slice q s t]):=(Fu _ _).grown g3 x.bW (λr hr=>by simp at hr;omega);have z:=x.off ar R b3 g3;have h3:=CK.out _ (show(j.setRow Y #[I g,.slice q s t]).cell? (Qz PP 6)=_ by rw[a0,K];exact z.cell 6 Z _ rfl) (k3.cells _ _ _ _ x2 ar);refine l _ _ ⟨h3,?_⟩;clear u l K';have u:=h3;refine bY ?_;have XU:=aw (v:=j) R #[I g,.slice q s t];have HU:=IT z (IT (BI.loc g3 BY BW) (ai T k3 ar));clear h3 x2 X2 k3 g3 b3 x z BI T R a3 BY;generalize j.setRow Y #[I g,.slice q s t]=b at*;have HF:Hid (Hp B y {d with f:=G} cf {h with m:=m'} b/\Bi B W b/\b.ownsRow W.heap.size 5 1 (.slice q s t) F.length (Ns .u8 F)):=HU;have y0:b.cell? (Qz Y 0)=some (I g):=bJ XU
 have y1:b.cell? (Qz Y 1)=some (.slice q s t):=bJ XU;clear HU XU u;by_cases A:g=0;·subst A;go_wp2;go_ret;exact⟨G,HF.1,HF.2.1,.inl ⟨rfl,_,rfl,HF.2.2⟩⟩
 have a6:(g !=0)=true:=by simpa using A
 go_wp2;exact⟨rfl,G,HF.1,HF.2.1,.inr ⟨A,rfl⟩⟩
theorem Da.nil(S M f w):Da S M f w none 0 []:=⟨rfl,λi a=>Z⟩
theorem jy(B y d cf h)(a n:Nat)(W)(e:Hp B y d cf h W)(c:∀k,283<=k->h.m k=none)(ha:a<18446744073709551616)(o:n<18446744073709551616):
  QA 105 #[J y.P 0,U a,U n] W (CU B y d cf h W h.m (ci h.m a ((min n 4097:Nat):Int)) (if ci h.m a ((min n 4097:Nat):Int)=0 then aH h.m a (min n 4097)else[])):=by
 have b:=H (mC B y d cf h 4 0 0 a ((min n 4097:Nat):Int) none 0 0 [] W e c ha Z (Da.nil _ _ _ _) (Fv _));unfold bZ at b;simp only[GP]at b;rw[F0]at b;unfold kf at b;generalize (if ci h.m a ((min n 4097:Nat):Int)=0 then aH h.m a (min n 4097)else[])=l at*;generalize ci h.m a ((min n 4097:Nat):Int)=m at*;generalize y.P=P at*;by_cases k:n<=4097
 ·rw[Hz k]at b;go_enter func105,ntmps105;go_wp2_with fail;refine(b).mono ?_;rintro e W'⟨j,c,f,⟨g,v,rfl,own⟩|⟨g,rfl⟩⟩;·have i:=H (IT c (IT f own));go_wp2;go_ret;exact⟨j,i.1,i.2.1,.inl ⟨g,v,rfl,i.2.2⟩⟩
  exact⟨rfl,j,c,f,.inr ⟨g,rfl⟩⟩
 rw[Nat.min_eq_right Z]at b;go_enter func105,ntmps105;go_wp2_with fail;refine(b).mono ?_;rintro e W'⟨j,c,f,⟨g,v,rfl,own⟩|⟨g,rfl⟩⟩;·have i:=H (IT c (IT f own));go_wp2;go_ret;exact⟨j,i.1,i.2.1,.inl ⟨g,v,rfl,i.2.2⟩⟩
 exact⟨rfl,j,c,f,.inr ⟨g,rfl⟩⟩
def A9(B:Nat)(y:Ly)(d:Dy)(cf:Cf)(h:Hs)(W:World)(j:Nat->Option (Bool×List Int))(code:Int)(e:Ending)(W':World):Prop:=
 ∃i,Hp B y {d with f:=i} cf {h with m:=j} W'/\Bi B W W'/\((code=0/\e=.returned (.tuple #[]))\/(code≠0/\e=.panicked (ip code)))
theorem iw(B y d cf h)(a:Nat)(da dl)(f:Nat)(ys W)(e:Hp B y d cf h W)(c:∀k,283<=k->h.m k=none)(ha:a<18446744073709551616)(i:Da y.S y.M d.f W da dl ys)(g:dl<=f):
  QA 106 #[J y.P 0,U a,.slice da dl f] W (A9 B y d cf h W (if ci h.m a (ys.length:Int)=0 then ay h.m a ys ys.length else h.m) (ci h.m a (ys.length:Int))):=by
 have b:=H (mC B y d cf h 5 0 0 a 0 da dl f ys W e c ha Z i g);unfold bZ at b;rw[GO ar,GP rfl]at b;unfold kf at b;dsimp only at b;generalize (if ci h.m a (ys.length:Int)=0 then ay h.m a ys ys.length else h.m)=n at*;generalize ci h.m a (ys.length:Int)=k at*;generalize y.P=P at*;go_enter func106,ntmps106;go_wp2_with fail;refine(b).mono ?_;rintro e W'⟨l,c,i,⟨j,v,rfl,own⟩|⟨j,rfl⟩⟩
 ·have m:=H (IT c (IT i own));go_wp2;go_end0;exact⟨l,m.1,m.2.1,.inl ⟨j,rfl⟩⟩
 exact⟨rfl,l,c,i,.inr ⟨j,rfl⟩⟩
theorem Al{a d f:Nat}(p:c<12)(q:s<6)(r:j<aM c)(g:a<12)(i:d<6)(l:f<aM a)(h:bh c s j=bh a d f):(c,s,j)=(a,d,f):=by
 have⟨k,t,e⟩:=Oa p q r;have⟨n,m,o⟩:=Oa g i l;have e1:gt k=bh c s j:=by unfold gt;rw[e]
 have u:gt n=bh a d f:=by unfold gt;rw[o]
 rcases Ie k n with b|b|b;·have:=mS b m;omega
 ·rw[<-e,<-o,b]
 have:=mS b t;omega
theorem gB(h:ce p=some (c,s,j)):c<12/\s<6/\j<aM c/\bh c s j=p:=by
 unfold ce at h;have a:=oD (Ip h);have b:=List.find?_some h;simp at b;exact⟨a.1,a.2.1,a.2.2,b⟩
theorem fI(a:c<12)(b:s<6)(d:j<aM c):ce (bh c s j)=some (c,s,j):=by
 cases e:ce (bh c s j)with
 |some t=>
  have⟨l,m,n⟩:=t;have⟨f,g,i,k⟩:=gB e;rw[Al f g i a b d k]
 | none=>
  unfold ce at e;have f:(c,s,j)∈dF:=by
   unfold dF;simp only[List.mem_flatMap,Gh,FQ];exact⟨c,a,s,b,j,d,rfl⟩
  have:=List.find?_eq_none.1 e _ f;simp at this
theorem wP(h:Dec (p:Int) v):(∃c s j:Nat,c<12/\s<6/\j<aM c/\p=bh c s j/\v=pl 3 (c:Nat) (s:Nat) (j:Nat) 0 0)\/(ce p=none/\∃k c s t q o:Int,v=pl k c s t q o/\(k≠3\/o≠0)):=by
 have i:∀{c s j:Nat},ce p=some (c,s,j)->1024<=p/\p<191488:=λ{c s j}e=>by
  have⟨k,u,g,G⟩:=gB e;have:=ca k u g;omega
 have a:(∀c s j,ce p≠some (c,s,j))->ce p=none:=λh=>by
  cases e:ce p with
  |none=>rfl
  |some t=>obtain⟨c,s,j⟩:=t;exact absurd e (h c s j)
 cases h with
 |out h=>exact .inr ⟨a (λc s j e=>by have:=i e;omega),0,0,0,0,0,0,rfl,.inl ar⟩
 |large K k=>exact .inr ⟨a (λc s j e=>by have:=i e;omega),4,0,0,0,_,_,rfl,.inl ar⟩
 |zero K k=>exact .inr ⟨a (λc s j e=>by have:=i e;omega),1,0,0,0,0,0,rfl,.inl ar⟩
 | slab c s K k m=>
  obtain⟨b,rfl⟩:∃b:Nat,c=(b:Int):=⟨c.toNat,by have:=m.c0;omega⟩;obtain⟨d,rfl⟩:∃d:Nat,s=(d:Int):=⟨s.toNat,by have:=m.s0;omega⟩;have f:b<12:=by have:=m.c1;omega
  have L:d<6:=by have:=m.s1;omega
  have N:=aX f;have n:=m.lo;have q:=m.hi;rw[OT f,pU f]at n q;rw[OT f,pU f];have x:((yJ b:Nat):Int)+(d:Int)*((dI b:Nat)+1)=(aD b d:Nat):=by unfold aD;simp
  rw[x]at n q⊢;obtain⟨o,Q⟩:∃o:Nat,p=aD b d*1024+o:=⟨p-aD b d*1024,Z⟩;have O:(p:Int)-(aD b d:Nat)*1024=(o:Int):=Z;rw[O];have l:∀c s j,ce p=some (c,s,j)->c=b/\s=d/\o=j*cy b/\j<aM b:=λc s j e=>by
   have⟨k,u,g,G⟩:=gB e;have z:=ca k u g;have y:aD c s*1024<=bh c s j:=(by unfold bh;omega);by_cases w:c=b/\s=d;·obtain⟨rfl,rfl⟩:=w;refine⟨rfl,rfl,?_,g⟩;unfold bh at G;omega
   rcases ew k u f L w with r|r<;>omega
  unfold zT;rw[pU f,vA f,uT f];by_cases M:((dI b:Nat):Int)*1024<=(o:Int)
  ·rw[GP M];refine .inr ⟨a (λc s j e=>?_),_,_,_,_,_,_,rfl,.inl ar⟩;obtain⟨rfl,rfl,y,g⟩:=l c s j e;have r:(j+1)*cy c<=aM c*cy c:=Gm _ g;rw[Gy]at r;have w:aM c*cy c<=dI c*1024:=N.2.2.2.2.2.2.1;have z:(dI c*1024:Nat)<=o:=Z;omega
  rw[GO M];by_cases w:((aM b:Nat):Int)*((cy b:Nat):Int)<=(o:Int)
  ·rw[GP w];refine .inr ⟨a (λc s j e=>?_),_,_,_,_,_,_,rfl,.inl ar⟩;obtain⟨rfl,rfl,y,g⟩:=l c s j e;have r:(j+1)*cy c<=aM c*cy c:=Gm _ g;rw[Gy]at r;have z:aM c*cy c<=o:=(by exact_mod_cast w);omega
  rw[GO w];have z:o<aM b*cy b:=by
   have:¬(aM b*cy b<=o):=λh=>w (by exact_mod_cast h)
   omega
  have A:((o:Int)/((cy b:Nat):Int))=((o/cy b:Nat):Int):=bH;have B:((o:Int)%((cy b:Nat):Int))=((o%cy b:Nat):Int):=bH;rw[A,B];by_cases F:o%cy b=0;·have P:o/cy b<aM b:=(Nat.div_lt_iff_lt_mul Z).2 z;refine .inl ⟨b,d,o/cy b,f,L,P,?_,by rw[F];rfl⟩;unfold bh;have:=Nat.div_add_mod o (cy b);rw[F,GL]at this;omega
  refine .inr ⟨a (λc s j e=>?_),_,_,_,_,_,_,rfl,.inr Z⟩;obtain⟨rfl,rfl,y,g⟩:=l c s j e;exact F (by rw[y];exact Nat.mul_mod_left _ _)
/-! the map of ranges -/
theorem fa:Keyed prog 27:=int_keyed underlying27
theorem zV(w:QM):(zeroValue 278).run prog w=.ok (.pointer none) w:=E
theorem xo(k:Nat)(h:k<18446744073709551616):keyOf prog 27 (.int .u64 k)=some (.int .u64 k):=keyOf_int_mk underlying27 (WalkArith.wf_u64 ⟨Z,Z⟩)
theorem Mr.look{lo}(h:Mr R n lo W)(k:Nat)(i:k<18446744073709551616):
  (Instr.lookup 152 (.map (some R)) (.int .u64 k) false).run prog W=.ok (.pointer ((lo k).map λb=>(Qz b 0))) W:=by
 have⟨a,d,_,g,_⟩:=h.map;have⟨v,ps,e,hv⟩:=d.lookup fa underlying152 (zV W) (show ev (.pointer none)=some (.nil,[])from rfl) (xo k i);rw[g k i]at hv;rw[e];rcases hF hv with⟨b,rfl,c⟩|⟨rfl,c⟩
 ·cases f:lo k with
  |none=>rw[f]at c;simp[sG]at c
  |some j=>
   rw[f]at c;simp[sG]at c;have:j=b:=Z;subst this;rfl
 cases f:lo k with
 |none=>rfl
 |some j=>rw[f]at c;simp[sG]at c
theorem kY{k:Nat}(h:j≠k):(Lit.int .u64 (j:Int))≠.int .u64 (k:Int):=by
 intro e;injection e with _ e;omega
theorem A0{b:Nat}{a:DataW Unit}{R:QN->Option (DataW Unit×List MemPlace)}(h:W.ownsMap prog 27 R b n a){d:Nat}(e:Maps.size a<=d):W.ownsMap prog 27 R b d a:=by
 obtain⟨f,c,g,F,i,rfl⟩:=h;exact⟨f,c,g,F,by simpa[Maps.size,length_sorted]using e,rfl⟩
theorem Mr.del{R n lo W}(h:Mr R n lo W)(k:Nat)(l:k<18446744073709551616)(m:QO):
  ∃W',(Builtin.delete_ #[152,27] m #[.map (some R),.int .u64 k]).run prog W=.ok (.tuple #[]) W'/\Mr R (if(lo k).isSome then n-1 else n) (upd lo k none) W'/\W.mapTurned W' R:=by
 have⟨a,b,o,g,c⟩:=h.map;have⟨W',f,d,p⟩:=b.drop fa underlying152 (xo k l) m;refine⟨W',f,⟨a.del (.int .u64 k),d,?_,?_,?_⟩,p⟩
 ·have e1:=Maps.size_del (k:=.int .u64 k) (b.tidy fa);rw[c k l]at e1;cases e:lo k<;>rw[e]at e1<;>simp at e1⊢<;>omega
 ·intro j i;by_cases e:j=k;·subst e;rw[Maps.atKey_del_same,upd_same];rfl
  rw[Maps.atKey_del_other (kY e),aI lo k j _ e];exact g j i
 intro j i;by_cases e:j=k;·subst e;rw[Maps.has_del_same,upd_same];rfl
 rw[Maps.has_del_other (kY e),aI lo k j _ e];exact c j i
theorem Mr.put{R n lo W}(h:Mr R n lo W)(k b:Nat)(o:k<18446744073709551616)(p:lo k=none)(s:n<4096):
  ∃W',(Instr.mapUpdate 152 (.map (some R)) (.int .u64 k) (.pointer (some (Qz b 0)))).run prog W=.ok () W'/\Mr R (n+1) (upd lo k (some b)) W'/\W.mapTurned W' R:=by
 have⟨a,c,q,l,d⟩:=h.map;have⟨W',i,g,r⟩:=c.store fa underlying152 ar (xo k o) (ol b);have f:WideAt.IsKeyLit (.int .u64 (k:Int)):=by simp[WideAt.IsKeyLit]
 have e0:Maps.size (a.put (.int .u64 k) (.lit (.int .i64 b)))<=n+1:=by
  have e1:=Maps.size_put (k:=.int .u64 k) (c.tidy fa) (.lit (.int .i64 b));rw[d k o,p]at e1;simp at e1;omega
 refine⟨W',i,⟨_,A0 g Z,e0,?_,?_⟩,r⟩
 ·intro j m;by_cases e:j=k;·subst e;rw[Maps.atKey_put_same c.isMap f,upd_same];rfl
  rw[Maps.atKey_put_other (kY e),aI lo k j _ e];exact l j m
 intro j m;by_cases e:j=k;·subst e;rw[Maps.has_put_same c.isMap f,upd_same];rfl
 rw[Maps.has_put_other (kY e),aI lo k j _ e];exact d j m
/-! methods by way of an interface -/
theorem zQ(g:Nat)(w:QM): (method 524 268 (.pointer (some ⟨g,0,none⟩)) "loop.example/s01868/impl.kept").run prog w=.ok (345,.pointer (some ⟨g,0,none⟩)) w:=E
theorem yQ(g:Nat)(w:QM): (method 524 278 (.pointer (some ⟨g,0,none⟩)) "loop.example/s01868/impl.kept").run prog w=.ok (345,.pointer (some ⟨g,0,none⟩)) w:=E
def ym(y:Ly)(d:Dy)(p:Nat):Value:=
 match d.lg p with
 |some g=>.iface 278 (J g 0)
 |none=>match ce p with
  |some (c,s,j)=>.iface 268 (J (y.sm c s j) 0)
  |none=>.nilIface
theorem xj(cf y d u)(c s:Nat)(b:c<12)(e:s<6):boxF cf y d u (7+c*6+s)=J (y.sb c s) 0:=by
 unfold boxF;rw[GO Z,GP Z];have e1:(7+c*6+s-7)/6=c:=Z;have a:(7+c*6+s-7)%6=s:=Z;rw[e1,a]
theorem Hp.slabAt(a:Hp B y d cf h W)(c s:Nat)(b:c<12)(e:s<6):W.cell? (Qz y.P (7+c*6+s))=some (J (y.sb c s) 0):=a.cell _ Z _ (xj cf y d h.used c s b e)
theorem Hp.bc(b:Hp B y d cf h W)(c s:Nat)(e:c<12)(f:s<6):Bc (y.sb c s) (y.sr c s) c s (aM c) (y.sc c s) (d.on c s) W:=by
 have a:=b.sl c s e f;exact⟨bJ a,bJ a,bJ a,bJ a⟩
theorem Hp.rowAt(b:Hp B y d cf h W)(c s j:Nat)(e:c<12)(f:s<6)(a:j<aM c):W.cell? ⟨y.sr c s,j,none⟩=some (J (y.sm c s j) 0):=by
 rw[(b.rw c s e f).cell j (by simpa using a)];simp[a]
theorem Hp.smAt(b:Hp B y d cf h W)(c s j:Nat)(e:c<12)(f:s<6)(g:j<aM c):W.cell? ⟨y.sm c s j,0,none⟩=some (I (h.st c s j))/\W.cell? ⟨y.sm c s j,1,none⟩=some (I (h.rq c s j)):=by
 have a:=b.sm c s j e f g;exact⟨bJ a,bJ a⟩
theorem Hp.scAt(a:Hp B y d cf h W)(c s j:Nat)(b:c<12)(e:s<6)(f:j<aM c):Sc (y.sm c s j) (y.sb c s) c s j W:=by
 have g:=a.sm c s j b e f;have i:=a.bc c s b e;exact⟨bJ g,bJ g,i.d0,i.d1,a.tb,b,e,f⟩
theorem DI(B y d cf h)(p:Nat)(W)(m:Hp B y d cf h W)(L:p<18446744073709551616):
  QA 164 #[J y.P 0,U p] W λe W'=>e=QJ (ym y d p)/\D W W':=by
 have r:W.cell? (Qz y.P 115)=some (.map (some y.R)):=m.cell 115 Z _ rfl;have u:=m.mp.look p L;cases n:d.lg p with
 |some g=>
  have a:=H (show ym y d p=.iface 278 (J g 0) by unfold ym;rw[n]);rw[n]at u;simp only[Hi]at u;clear m n;go_enter func164,ntmps164;go_wp2;go_ret;rw[a];exact⟨rfl,Fu _ _⟩
 | none=>
  rw[n]at u;simp only[Option.map_none]at u;have⟨g,M⟩:=y7 (iB (p:Nat) Z Z W m.tb) (λV(a:D W V)=>m.below a);have i:=H (show ym y d p=match ce p with
    |some (c,s,j)=>.iface 268 (J (y.sm c s j) 0)
    |none=>.nilIface by unfold ym;rw[n])
  clear m n;go_enter func164,ntmps164;go_wp2_with fail;refine(g).mono ?_;rintro e V⟨⟨v,f,rfl⟩,b⟩;have O:=H b;have P:∀{a:QM},D V a->D W a:=λhU=>b.trans (hU.mono b.size)
  clear b g u r;rcases wP f with⟨c,s,j,w,F,Q,rfl,rfl⟩|⟨N,k,c,s,t,q,o,rfl,l⟩
  ·rw[fI w F Q]at i;dsimp only at i;unfold pl;(go_upto_region 5 with fail);have g:=ao V (.cells #[I 3,I c,I s,I j,I 0,I 0] 322);have x:D V (V.alloc (.cells #[I 3,I c,I s,I j,I 0,I 0] 322)):=(Fu _ _).alloc (Fv _) _;generalize V.alloc _=a at*;generalize V.heap.size=X at*;have z0:a.cell? (Qz X 0)=some (I 3):=bJ g;have z1:a.cell? (Qz X 1)=some (I c):=bJ g;have z2:a.cell? (Qz X 2)=some (I s):=bJ g;have z3:a.cell? (Qz X 3)=some (I j):=bJ g;have z5:a.cell? (Qz X 5)=some (I 0):=bJ g;have z:Hid (D W a):=P x;have b:=M.out a z;have q1:=b.slabAt c s w F;have q2:=(b.bc c s w F).d3;have q3:=b.rowAt c s j w F Q;have R:=(aX w).2.2.2.2.2.1;clear b g x f;generalize y.sm c s j=G at*;generalize y.sr c s=K at*;generalize y.sb c s=A at*;generalize y.sc c s=T at*;generalize aM c=Y at*;(go_upto_region 7 with fail);refine rh (S:=λb=>QG b X 1 (I c)/\QG b X 2 (I s)/\QG b X 3 (I j)/\QG b y.P (7+c*6+s) (J A 0)/\QG b A 3 (Vl K Y T)/\QG b K j (J G 0)) ?_;have b:=IT (show a.drew.cell? _=_ from z1) (IT (show a.drew.cell? _=_ from z2) (IT (show a.drew.cell? _=_ from z3) (IT (show a.drew.cell? _=_ from q1) (IT (show a.drew.cell? _=_ from q2) (show a.drew.cell? _=_ from q3)))));refine pk 0 (J y.P 0) b ?_;refine pk 1 (J X 1) b ?_;refine pz 2 (I c) b ?_;refine pk 3 (J X 2) b ?_;refine pz 4 (I s) b ?_;refine pk 5 (J y.P 0) b ?_;refine pk 6 (J y.P 7) b ?_;refine pz 7 (J y.P (7+c*6)) b ?_;refine pz 8 (J y.P (7+c*6+s)) b ?_;refine pz 9 (J A 0) b ?_;refine pk 10 (J A 0) b ?_;refine pk 11 (J A 3) b ?_;refine pz 12 (Vl K Y T) b ?_;refine pk 13 (J X 3) b ?_;refine pz 14 (I j) b ?_;refine pz 15 (J K j) b ?_;refine pz 16 (J G 0) b ?_;refine pz 17 (.iface 268 (J G 0)) b ?_;refine pk 18 (.iface 268 (J G 0)) b ?_;refine bY ?_;clear b;go_wp2;go_ret;rw[i];exact⟨rfl,z.drew⟩
  rw[N]at i;dsimp only at i;unfold pl;go_upto_region 5 with fail
  have g:=ao V (.cells #[I k,I c,I s,I t,I q,I o] 322);have x:D V (V.alloc (.cells #[I k,I c,I s,I t,I q,I o] 322)):=(Fu _ _).alloc (Fv _) _;generalize V.alloc _=a at*;generalize V.heap.size=X at*;have z0:a.cell? (Qz X 0)=some (I k):=bJ g;have z5:a.cell? (Qz X 5)=some (I o):=bJ g;have z:Hid (D W a):=P x;clear g x f;by_cases b:k=3
  ·have A:(o !=0)=true:=(by rcases l with f|f;exact absurd b f;simpa using f);subst b;clear l;go_wp2;go_ret;rw[i];exact⟨rfl,z⟩
  have f:(k !=3)=true:=by simpa using b
  clear l b;go_wp2;go_ret;rw[i];exact⟨rfl,z⟩
structure Gd(d:Dy)(h:Hs)(an:QN):Prop where
 on:EN d h
 un:d.un=.nilFunc
 an:d.an=an
def Hg(B:Nat)(y:Ly)(cf:Cf)(h:Hs)(an:Value)(W:World):Prop:=∃d,Hp B y d cf h W/\Gd d h an
def Tk(B:Nat)(y:Ly)(cf:Cf)(h:Hs)(an:Value)(W:World):Prop:=∀V,D W V->QA 97 #[J y.P 0] V λe i=>e=.returned (.tuple #[])/\Hg B y cf h an i/\Bi B V i
theorem Hp.setDy(b:Hp B y d cf h W)(i:Nat)(v:QN)(f:Dy)(t:(i=119/\f={d with an:=v})\/(i=120/\f={d with un:=v})):Hp B y f cf h (W.setCell (Qz y.P i) v):=by
 have k:=b.box.kyS i v;have p:Below B W (W.setCell (Qz y.P i) v):=(Fu B W).grown (au (al W y.P) _ _) b.bW (λr q=>by simp at q;have:=b.ap.bP;omega);have u:=b.box.set i Z v;rw[pi cf y d h.used i v f (by rcases t with l|l;exact .inr (.inr (.inl l));exact .inr (.inr (.inr l)))]at u;have z:(W.setCell (Qz y.P i) v).heap[y.M]?=W.heap[y.M]?:=GQ _ _ _ _ (λe=>by
  have⟨c,l,_⟩:=b.box;obtain⟨a,⟨A,F,m,_⟩,_⟩:=b.sp.map;rw[e,l]at m;cases m)
 have G:(W.setCell (Qz y.P i) v).heap[y.R]?=W.heap[y.R]?:=GQ _ _ _ _ (λe=>by
  have⟨c,l,_⟩:=b.box;have⟨A,F,m⟩:=b.mp.typ;rw[e,l]at m;cases m)
 have e1:f.f=d.f/\f.on=d.on/\f.lg=d.lg/\f.ro=d.ro/\f.rl=d.rl:=by rcases t with⟨_,rfl⟩|⟨_,rfl⟩<;>exact⟨rfl,rfl,rfl,rfl,rfl⟩
 have⟨e1,K,o,w,x⟩:=e1;exact⟨b.ap,Fx b.bW p.size,u,b.ds.belowB p b.ap.da,e1▸b.sp.ky k ar z,e1▸b.pg.ky k ar,e1▸b.bf,
 λc s a n=>by rw[K];exact k.cells _ _ _ _ (b.sl c s a n) ar,λc s a n=>cL (b.rw c s a n) k ar,λc s j a n L=>k.cells _ _ _ _ (b.sm c s j a n L) ar,
 λc a=>(b.wt c a).ky k ar ar ar,o▸b.mp.same G,o▸b.lo,λr q=>by obtain⟨g,l,m,M⟩:=b.lb r q;exact⟨g,by rw[o];exact l,m,k.cells _ _ _ _ M ar⟩,o▸b.li,w▸b.ro.ky k ar,x▸ai b.rl k ar,by rw[w,x];exact b.rr,b.tb.belowB p b.ap.b0⟩
theorem yH(w:QM):(binOp .neq 1 .nilFunc .nilFunc).run prog w=.ok Qk w:=E
theorem qM(a:Fn)(b c:Array QN)(w:QM):(binOp .neq 1 (.func a b c) .nilFunc).run prog w=.ok Ql w:=E
theorem zK(w:QM)(d:QN)(g i:Nat)(a:Fn)(b c:Array QN)(e:QG w g i d)(f:w.frozen? (Qz g i)=false):(store (Qz g i) (.func a b c)).run prog w=.ok () (w.setCell (Qz g i) (.func a b c)):=by
 rw[_root_.Go.run_store _ _ _ _ _ rfl,e];simp[f]
theorem mG(w:QM)(a:QN)(g i:Nat)(b:QG w g i a)(c:w.frozen? (Qz g i)=false):(store (Qz g i) .nilFunc).run prog w=.ok () (w.setCell (Qz g i) .nilFunc):=by
 rw[_root_.Go.run_store _ _ _ _ _ rfl,b];simp[c]
theorem pO(P:Nat)(W:QM)(c:W.cell? (Qz P 120)=some .nilFunc):QA 97 #[J P 0] W λe W'=>e=QJ (.tuple #[])/\W'=W:=by
 have nq:=yH;go_enter func97,ntmps97;go_wp2;go_end0;exact QB
theorem Hg.tk{an}(f:Hg B y cf h an W):Tk B y cf h an W:=by
 intro V g;have⟨d,i,b⟩:=f;have a:=i.below g;have c:=a.cell 120 Z _ rfl;have e:boxF cf y d h.used 120=d.un:=rfl;rw[e,b.un]at c;refine(pO y.P V c).mono ?_;rintro e W'⟨rfl,rfl⟩;exact⟨rfl,⟨d,a,b⟩,Bi.refl _ _⟩
theorem Tk.below{an}(k:Tk B y cf h an W)(b:D W W'):Tk B y cf h an W':=λV a=>k V (b.trans (a.mono b.size))
theorem jS{m:Nat->Option (Bool×List Int)}{p:Nat}{v:Bool}: ∀{c:Nat},(∀i,i<c->(m (p+i)).isSome=v)->fC m p v c=true
 |0,_=>rfl
 |c+1,h=>by
  unfold fC
  rw[jS (λi a=>h i Z),h c Z]
  simp
theorem px{bud}{m:Nat->Option (Bool×List Int)}(b:1<=c)(d:p+c<=283)(a:∀i,i<c->(m (p+i)).isSome=false):bZ 283 bud m 0 (p:Nat) (c:Nat) 0 0 []=if bud<(bz m 283:Int)+c then(m,1,[])else(aT m p c,0,[]):=by
 unfold bZ;rw[GO ar,GO ar,GO ar,GP (by unfold AB;omega)];unfold kx;rw[GP rfl,F0,F0,jS a,GO ar];split<;>rfl
theorem mH{bud}{m:Nat->Option (Bool×List Int)}(b:1<=c)(d:p+c<=283)(a:∀i,i<c->(m (p+i)).isSome=true):bZ 283 bud m 1 (p:Nat) (c:Nat) 0 0 []=(bQ m p c,0,[]):=by
 unfold bZ;rw[GO ar,GO ar,GO ar,GP (by unfold AB;omega)];unfold kx;rw[GO ar,F0,F0,jS a,GO ar,GP rfl]
def Ff(B:Nat)(y:Ly)(d:Dy)(cf:Cf)(h:Hs)(p c:Nat)(u:Fn)(j t:Array Value)(W:World)(e:Ending)(W':World):Prop:=∃i,Bi B W W' /\
   ((¬((cf.bud:Int)<(bz h.m 283:Int)+c)/\e=.returned (.tuple #[])/\Hp B y {d with f:=i,un:=.nilFunc} cf {h with m:=aT h.m p c} W')\/((cf.bud:Int)<(bz h.m 283:Int)+c/\e=.panicked (ip 1)/\Hp B y {d with f:=i,un:=.func u j t} cf h W'))
theorem nA(B y d cf h)(p c:Nat)(b:Fn)(g j:Array QN)(W)(s:Hp B y d cf h W)(q:∀k,283<=k->h.m k=none)(K:1<=c)(L:p+c<=283)(M:∀i,i<c->(h.m (p+i)).isSome=false):
  QA 211 #[J y.P 0,kf 0 (p:Nat) (c:Nat) 0 0 none 0 0,.func b g j] W (Ff B y d cf h p c b g j W):=by
 have A:=px (bud:=(cf.bud:Nat)) K L M;have⟨V,t⟩:=Qb (W.alloc (.cells #[I 0,I p,I c,U (0:Nat),I 0,C] 284));have w:D W V:=by rw[t];exact(Fu _ _).alloc (Fv _) _
 have X:=(show V.heap[W.heap.size]?=some (.cells #[I 0,I p,I c,U (0:Nat),I 0,C] 284) by rw[t];exact ao W _);have e:=s.below w;have k:=e.setDy 120 (.func b g j) {d with un:=.func b g j} (.inr ⟨rfl,rfl⟩);have l:=H ((Bi.ofBelow w s.bW).trans (e.bi118 120 (.func b g j)));have i:=e.cell 120 Z _ rfl;have f120:V.frozen? (Qz y.P 120)=false:=e.box.free 120;have u:=H (λa(o:Hp B y {d with un:=.func b g j} cf h a)=>mC B y {d with un:=.func b g j} cf h 0 (p:Nat) (c:Nat) 0 0 none 0 0 [] a o q Z Z (Da.nil _ _ _ _) (Fv _));rw[A]at u;have x:W.heap.size≠y.P:=by have:=s.box.lt;omega
 have⟨z,F⟩:=y7 (show(V.setCell (Qz y.P 120) (.func b g j)).heap[W.heap.size]?=some (.cells #[I 0,I p,I c,U (0:Nat),I 0,C] 284)from(GQ _ _ _ _ x).trans X) k;have r:boxF cf y d h.used 120=d.un:=rfl;rw[r]at i;unfold kf at u⊢;have G:=H (λa n q(o:Hp B y {d with f:=n,un:=.func b g j} cf {h with m:=q} a)=>IT (o.setDy 120 .nilFunc {d with f:=n,un:=.nilFunc} (.inr ⟨rfl,rfl⟩)) (IT (o.bi118 120 .nilFunc) (IT (o.cell 120 Z (.func b g j) rfl) (o.box.free 120))));have N:=zK V _ y.P 120 b g j i f120;clear k e w X s A;go_enter func211,ntmps211;go_upto_region 1 with fail
 refine Eq.mp (congrArg _ t) ?_;clear t;go_upto_region 2 with fail
 generalize V.setCell (Qz y.P 120) (.func b g j)=Q at*;generalize W.heap.size=X at z⊢;go_wp2_with (first|(refine Gt rfl 284 _ rfl _ rfl _ _ _ _ z underlying284 rfl E ?_));refine(u _ F).mono ?_;clear i f120;by_cases s:(cf.bud:Int)<(bz h.m 283:Int)+c
 ·rw[GP s];rintro e a⟨n,i,k,⟨t,_⟩|⟨_,rfl⟩⟩;·cases t
  exact⟨rfl,n,l.trans k,.inr ⟨s,rfl,i⟩⟩
 rw[GO s];rintro e a⟨n,i,k,⟨_,v,rfl,_⟩|⟨t,_⟩⟩
 ·have⟨u,w,z,A⟩:=G.out a n _ i;have⟨F,O⟩:=y7 u (l.trans (k.trans w));have P:=mG a _ y.P 120 z A;clear u w i k;go_wp2;go_end0;exact⟨n,O,.inl ⟨Z,rfl,F⟩⟩
 exact absurd rfl t
theorem nC(a:W.mapTurned W' R):Fr R R (λ_=>none) (λ_=>none) W W':=(Fr.refl R R (λ_=>none) W).turned a
theorem iC(i:W.mapTurned W' R)(j:∃d c,W.heap[R]?=some (.map d c)):Ky (λ_=>False) W W':=by
 have f:=nC i;have⟨d,c,k⟩:=j;refine⟨f.os,f.tape,f.output,f.size,λg l t m b _=>?_⟩;have a:g≠R:=λe=>by rw[e,k]at b;cases b
 rw[f.block g (ag b) a a (λk a=>by cases a)];exact b
theorem lW(d e:QO){o:Oper}{a:Act}{K:Act->QM->Prop}{Q:Exit->Act->QM->Prop}(m x:Operand){vm vx:QN}(c:o.op=Op.call {callee:=Callee.builtin Builtin.delete,args:=#[m,x],argTypes:=#[d,e]})(f:a.eval m=vm)(g:a.eval x=vx)
  (b:(Builtin.delete_ #[d,e] o.type #[vm,vx]).run prog W=.ok v W') (i:K (a.put o.dst v) W'):Oper.wp prog o a W K Q:=by
 unfold Oper.wp;simp[execOp,c,resolve,invoke,builtin,f,g,b,Result.andThen];exact i
theorem mb(d:QO){o:Oper}{a:Act}{K:Act->QM->Prop}{Q:Exit->Act->QM->Prop}(m x u:Operand){vm vx vu:QN}(c:o.op=Op.mapUpdate d m x u)(e:a.eval m=vm)(f:a.eval x=vx)(g:a.eval u=vu)
  (b:(Instr.mapUpdate d vm vx vu).run prog W=.ok () W') (i:K (a.put o.dst undef) W'):Oper.wp prog o a W K Q:=by
 unfold Oper.wp;simp[execOp,c,e,f,g,b,Result.andThen];exact i
theorem Ky.cellK(k:Ky (λ_=>False) W W'){g i:Nat}(h:W.cell? (Qz g i)=some v):W'.cell? (Qz g i)=some v:=by
 unfold World.cell? at h⊢;split at h
 case h_1 c t f hg=>
  rw[k.cells g c t f hg (λe=>e)];exact h
 case h_2=>cases h
theorem Hp.turn(a:Hp B y d cf h W)(o:W.mapTurned W' y.R)(lg')(b:List Rg9)(p:Mr y.R b.length lg' W')(q:∀k,(lg' k).isSome=b.any λr=>r.base==k)(t:∀r∈b,∃g,lg' r.base=some g/\B<=g/\W.heap[g]?=some (.cells (oV r) 291))(u:∀k e g,lg' k=some g->lg' e=some g->k=e):
  Hp B y {d with lg:=lg'} cf {h with rg:=b} W'/\Bi B W W':=by
 have f:=nC o;have k:=iC o a.mp.typ;have n:Below B W W':=⟨f.os,f.tape,f.output,f.size,λg v=>f.block g (FG v a.bW) (by have:=a.ap.bR;omega) (by have:=a.ap.bR;omega) (λj l=>by cases l)⟩;have w:W'.heap[y.M]?=W.heap[y.M]?:=f.block _ a.sp.lt.2 a.ap.mr a.ap.mr (λj l=>by cases l);exact⟨⟨a.ap,Fx a.bW n.size,a.box.ky k (λe=>e),a.ds.belowB n a.ap.da,a.sp.ky k (λe=>e) w,a.pg.ky k (λe=>e),a.bf,
 λc s i m=>k.cells _ _ _ _ (a.sl c s i m) (λe=>e),λc s i m=>cL (a.rw c s i m) k (λe=>e),λc s j i m l=>k.cells _ _ _ _ (a.sm c s j i m l) (λe=>e),
 λc i=>(a.wt c i).ky k (λe=>e) (λe=>e) (λe=>e),p,q,λr x=>by obtain⟨g,z,A,F⟩:=t r x;exact⟨g,z,A,k.cells _ _ _ _ F (λe=>e)⟩,u,a.ro.ky k (λe=>e),ai a.rl k (λe=>e),a.rr,a.tb.belowB n a.ap.b0⟩,n,k.more (λt e=>e.elim)⟩
theorem Hp.addR(i:Hp B y d cf h W){r}{L:Nat}(p:W.heap[L]?=some (.cells (oV r) 291))(l:B<=L)(b:∀k,d.lg k≠some L)(q:d.lg r.base=none)(s:Mr y.R (h.rg.length+1) (upd d.lg r.base (some L)) W')(t:W.mapTurned W' y.R):
  Hp B y {d with lg:=upd d.lg r.base (some L)} cf {h with rg:=h.rg++[r]} W'/\Bi B W W':=by
 refine i.turn t _ (h.rg++[r]) (by rw[FC];exact s) (λk=>?_) (λm n=>?_) (λk j g a c=>?_)
 ·rw[List.any_append];by_cases e:k=r.base;·subst e;rw[upd_same];simp
  rw[aI _ _ _ _ e,i.lo k];have:(r.base==k)=false:=bG;simp[this]
 ·rcases F8.1 n with a|a
  ·have⟨g,f,u,v⟩:=i.lb m a;have o:m.base≠r.base:=λe=>by rw[e,q]at f;cases f
   exact⟨g,by rw[aI _ _ _ _ o];exact f,u,v⟩
  have:m=r:=by simpa using a
  subst this;exact⟨L,upd_same _ _ _,l,p⟩
 by_cases e:k=r.base
 ·subst e;rw[upd_same]at a;cases a;by_cases f:j=r.base;·exact f.symm
  rw[aI _ _ _ _ f]at c;exact absurd c (b j)
 rw[aI _ _ _ _ e]at a;by_cases f:j=r.base
 ·subst f;rw[upd_same]at c;cases c;exact absurd a (b k)
 rw[aI _ _ _ _ f]at c;exact i.li k j g a c
theorem Hp.backR{r:Rg9}{L:Nat}{lg}(c:Hp B y d cf {h with rg:=h.rg++[r]} W)(f:d.lg=upd lg r.base (some L))(i:lg r.base=none)(l:∀k,(lg k).isSome=h.rg.any λr=>r.base==k)(m:Mr y.R h.rg.length (upd d.lg r.base none) W')(o:W.mapTurned W' y.R):
  Hp B y {d with lg:=lg} cf h W'/\Bi B W W':=by
 have e1:upd d.lg r.base none=lg:=by
  rw[f];funext k;by_cases e:k=r.base;·subst e;rw[upd_same,i]
  rw[aI _ _ _ _ e,aI _ _ _ _ e]
 rw[e1]at m;have p:∀b∈h.rg,b.base≠r.base:=λb a e=>by
  have:=l b.base;rw[e,i]at this;have j:h.rg.any (λx=>x.base==r.base)=true:=List.any_eq_true.2 ⟨b,a,by simp[e]⟩;rw[j]at this;cases this
 exact c.turn o lg h.rg m l (λb a=>by
  have⟨g,n,q,s⟩:=c.lb b (IF _ a);rw[f,aI _ _ _ _ (p b a)]at n;exact⟨g,n,q,s⟩) (λk b g l j=>by
  have q:∀k,lg k=some g->d.lg k=some g:=λk a=>by
   rw[f];by_cases e:k=r.base;·subst e;rw[i]at a;cases a
   rw[aI _ _ _ _ e];exact a
  exact c.li k b g (q k l) (q b j))
theorem yi(B y d cf)(h:Hs)(r:Rg9)(L l m:Nat)(lg W)(f:Hp B y d cf {h with rg:=h.rg++[r]} W)(g:d.lg=upd lg r.base (some L))(j:lg r.base=none)(s:∀k,(lg k).isSome=h.rg.any λr=>r.base==k)(k:Lc L r W)(A:r.base<18446744073709551616)(n:QG W l 0 (J y.P 0))(t:QG W m 0 (J L 0)):
  QA 213 #[J l 0,J m 0] W λe W'=>e=QJ (.tuple #[])/\Hp B y {d with lg:=lg} cf h W'/\Bi B W W':=by
 have b:W.cell? (Qz y.P 115)=some (.map (some y.R)):=f.cell 115 Z _ rfl;have⟨u,c,i,o⟩:=Qf (λV(a:D W V)=>ie L r V (k.below a)) (λV(a:D W V)=>f.below a) (λV W'(a:D W V)(mr:Mr y.R h.rg.length (upd d.lg r.base none) W')(mt:V.mapTurned W' y.R)=>(f.below a).backR g j s mr mt) f.bW;have p:=H (show((d.lg r.base).isSome=true) by rw[g,upd_same];rfl);have q:Hid (∀V,D W V->QG V l 0 (J y.P 0)/\QG V m 0 (J L 0)/\QG V y.P 115 (.map (some y.R))):=λV a=>⟨NI a n,NI a t,NI a b⟩;clear f g j s k n t b;go_enter func213,ntmps213;go_wp2;refine rh (S:=λa=>QG a l 0 (J y.P 0)/\QG a m 0 (J L 0)/\QG a y.P 115 (.map (some y.R))) ?_;have k:=q.out _ (Fu _ _).drew;iterate 5 (refine py k ?_;simp only[f0,f1,Nat.reduceAdd,lz,l0,ls])
 refine po 5 λK' n=>?_;go_simp;refine(u _ (Fu _ _).drew).mono ?_;rintro e G⟨rfl,rfl⟩;have g:=q.out W.drew.drew (Fu _ _).drew.drew;refine n _ _ ⟨g,?_⟩;clear k;have k:=g;clear n K';refine po 6 λK' n=>?_
 have⟨t,b,j,f⟩:=(c W.drew.drew (Fu _ _).drew.drew).mp.del r.base A 0;have K2:=H ((iC f (c W.drew.drew (Fu _ _).drew.drew).mp.typ));have v:=K2.cellK g.1;have w:=K2.cellK g.2.1;have x:=K2.cellK g.2.2;refine lW 152 27 (.tmp 5) (.tmp 7) (vm:=.map (some y.R)) (vx:=U r.base) E E E b ?_;refine n _ _ ⟨⟨v,w,x⟩,?_⟩;refine bY ?_;have z:=H (i _ t (Fu _ _).drew.drew (by
   have:=j;rw[GP p.out]at this;simpa using this) f)
 have F:Hid (Bi B W t):=((Bi.refl B W).add (Fu _ _).drew.drew o).trans z.2;clear j f b v w x g k;go_wp2;go_end0;exact⟨rfl,z.1,F⟩
theorem N8(B y d cf)(h:Hs)(r:Rg9)(L b c:Nat)(lg W)(g:Hp B y d cf {h with rg:=h.rg++[r]} W)(j:d.lg=upd lg r.base (some L))(l:lg r.base=none)(m:∀k,(lg k).isSome=h.rg.any λr=>r.base==k)(k:Lc L r W)(q:r.base<18446744073709551616)(n:QG W b 0 (J y.P 0))(o:QG W c 0 (J L 0))(i:d.un=.func (.func 213) #[] #[J b 0,J c 0]):
  QA 97 #[J y.P 0] W λe W'=>e=QJ (.tuple #[])/\Hp B y {d with lg:=lg,un:=.nilFunc} cf h W'/\Bi B W W':=by
 have p:=H (yi B y d cf h r L b c lg W g j l m k q n o);have f:=g.cell 120 Z _ rfl;have a:∀u,boxF cf y d u 120=d.un:=λ_=>rfl
 rw[a,i]at f;have nq:=λw=>qM (.func 213) #[] #[J b 0,J c 0] w
 have s:=H i;go_enter func97,ntmps97;go_wp2_with fail;refine(p).mono ?_;rintro e n⟨rfl,a,g⟩;have i:=a.cell 120 Z (.func (.func 213) #[] #[J b 0,J c 0]) (by show d.un=_;exact s);have j:=mG _ _ y.P 120 i (a.box.free 120);have⟨k,l⟩:=y7 (a.setDy 120 .nilFunc {d with lg:=lg,un:=.nilFunc} (.inr ⟨rfl,rfl⟩)) (g.trans (a.bi118 120 .nilFunc));go_wp2;go_end0;exact⟨rfl,k,l⟩
theorem Hp.rows(a:Hp B y d cf h W)(k:Ky (λt=>t=27\/t=154) W W')(n:Below B W W')(t:W'.heap[y.M]?=W.heap[y.M]?)(u:W'.heap[y.R]?=W.heap[y.R]?)(l m:QN)(f b:List Nat)(v:Bxh y.P (boxF cf y {d with ro:=l,rl:=m} h.used) W')(o:Um B W' l f)(p:W'.ownsRow B 27 1 m b.length (Us b))(q:∀g,ee l=some g->m.ownBlock≠some g):
  Hp B y {d with ro:=l,rl:=m} cf {h with row:=f,rel:=b} W':=
 ⟨a.ap,Fx a.bW n.size,v,a.ds.belowB n a.ap.da,a.sp.ky k ar t,a.pg.ky k ar,a.bf,
 λc s e i=>k.cells _ _ _ _ (a.sl c s e i) ar,λc s e i=>cL (a.rw c s e i) k ar,λc s j e i w=>k.cells _ _ _ _ (a.sm c s j e i w) ar,
 λc e=>(a.wt c e).ky k ar ar ar,a.mp.same u,a.lo,λr x=>by obtain⟨g,o,p,q⟩:=a.lb r x;exact⟨g,o,p,k.cells _ _ _ _ q ar⟩,a.li,o,p,q,a.tb.belowB n a.ap.b0⟩
theorem lS{l}(h:Um B W v l){g:Nat}(a:ee v=some g):B<=g/\∃c,W.heap[g]?=some (.cells c 27):=by
 rcases h with⟨rfl,_⟩|⟨f,o,b,c,rfl,d,e,_⟩;·cases a
 cases a;exact⟨d,c,e⟩
theorem Um.kept{l}(h:Um B W v l){r:Option Nat}(e:W.grownBy W' r)(a:∀g,ee v=some g->r≠some g):Um B W' v l:=by
 rcases h with h|⟨g,o,b,c,rfl,f,d,i⟩;·exact .inl h
 exact .inr ⟨g,o,b,c,rfl,f,by rw[e.block g (ag d) (λe=>a g rfl e.symm)];exact d,i⟩
structure Gw(B:Nat)(y:Ly)(W W1:QM):Prop where
 k:Ky (· =27) W W1
 bl:Below B W W1
 m:W1.heap[y.M]?=W.heap[y.M]?
 r:W1.heap[y.R]?=W.heap[y.R]?
theorem Hp.gw(i:Hp B y d cf h W){o:Option Nat}(j:∀g,o=some g->B<=g/\∃c,W.heap[g]?=some (.cells c 27))(g:W.grownBy W1 o):Gw B y W W1:=by
 refine⟨Ky.grownO (λP a=>by obtain⟨_,c,f⟩:=j P a;exact⟨c,27,(0,0),f,rfl⟩) g,(Fu B W).grown g i.bW (λr a=>(j r a).1),?_,?_⟩;·refine g.block _ i.sp.lt.2 (λe=>?_);have⟨_,c,f⟩:=j _ e.symm;obtain⟨a,⟨k,l,b,_⟩,_⟩:=i.sp.map;rw[f]at b;cases b
 have⟨k,l,b⟩:=i.mp.typ;refine g.block _ (ag b) (λe=>?_);have⟨_,c,f⟩:=j _ e.symm;rw[f]at b;cases b
theorem Gw.bi(g:Gw B y W W1):Bi B W W1:=⟨g.bl,g.k.more (λt e=>by subst e;unfold hI;decide)⟩
theorem Hp.setRl(b:Hp B y d cf h W){v':QN}{k:List Nat}(own:W1.ownsRow B 27 1 v' k.length (Us k))(g:W.grownBy W1 d.rl.ownBlock)(p:∀g,ee d.ro=some g->v'.ownBlock≠some g):
  Hp B y {d with rl:=v'} cf {h with rel:=k} (W1.setCell (Qz y.P 117) v')/\Bi B W (W1.setCell (Qz y.P 117) v')/\QG W1 y.P 117 d.rl/\W1.frozen? (Qz y.P 117)=false:=by
 have f:=b.gw (λg a=>aF b.rl a) g;have l:=b.box.ky f.k ar;have i:=l.set 117 Z v';rw[pi cf y d h.used 117 v' {d with rl:=v'} (.inr (.inl ⟨rfl,rfl⟩))]at i;have q:=b.ro.kept g (λe a=>b.rr e a);have m:=l.kyS 117 v';have o:Below B W1 (W1.setCell (Qz y.P 117) v'):=(Fu B W1).grown (au (al W1 y.P) _ _) (Fx b.bW f.bl.size) (λr a=>by simp at a;have:=b.ap.bP;omega);have r:(W1.setCell (Qz y.P 117) v').heap[y.M]?=W1.heap[y.M]?:=GQ _ _ _ _ (λe=>by
  have⟨c,n,_⟩:=b.box;obtain⟨a,⟨s,u,j,_⟩,_⟩:=b.sp.map;rw[e,n]at j;cases j)
 have a:(W1.setCell (Qz y.P 117) v').heap[y.R]?=W1.heap[y.R]?:=GQ _ _ _ _ (λe=>by
  have⟨c,n,_⟩:=b.box;have⟨s,u,j⟩:=b.mp.typ;rw[e,n]at j;cases j)
 have v:=l.cell 117 Z;refine⟨b.rows ((f.k.more (λt e=>.inl e)).trans (m.more (λt e=>.inr e))) (f.bl.trans o) (r.trans f.m) (a.trans f.r) d.ro v' h.row k i (q.ky m ar) (ai own m ar) p,f.bi.trans ⟨o,m.more (λt e=>by subst e;unfold hI;decide)⟩,v,l.free 117⟩
end
end Go.Proofs.YtdhegekcmmlohaaGreatDoor
