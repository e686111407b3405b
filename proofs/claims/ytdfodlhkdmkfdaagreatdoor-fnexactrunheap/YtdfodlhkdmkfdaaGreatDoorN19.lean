import Derived.Test.YtdfodlhkdmkfdaaGreatDoorN16
import Derived.Test.YtdfodlhkdmkfdaaGreatDoorN18
set_option linter.unusedVariables false
set_option linter.unusedSimpArgs false
set_option maxRecDepth 20000
set_option maxHeartbeats 8000000
namespace Go.Proofs.YtdfodlhkdmkfdaaGreatDoor
open Go.Proofs.Tryz
variable {Q:Exit->Act->World->Prop} {o:Oper} {K:Act->World->Prop} {a:Act} {v:Value} {B R c g j n p s sz:Nat} {x:Sm} {cf:Cf} {h:Hs} {W W' W1:World} {e:TypeId} {xs:List Value} {r:Option Nat} {y:Ly} {d:Dy}
section
open Go.RowKit
theorem ge {P:Program} {t:TypeId} {b:Array Oper} {i:Nat} {w:World} (j:b[i]?=some o) (c:o.guard=none) (s x:Operand)
  (k:o.op=.call { callee:=.builtin .append,args:=#[s,x],argTypes:=#[t,t] }) (l:o.type=t) {e f:Value} {g:World} (m:a.eval s=v) (n:a.eval x=e)
  (p:(Builtin.append_ #[t,t] t #[v,e]).run P w=.ok f g) (q:K (a.put o.dst f) g):wpOp P b Q i K a w:=by
 refine ma j (by simp [Region.wanted,c]) (λK' d=>?_);unfold Oper.wp;simp [execOp,k,l,resolve,invoke,builtin,m,n,p,Result.andThen];exact d _ _ q
theorem Sh.books (d:Sh B x cf h W) (k:Ky (λt=>t=97\/t=106\/t=22) W W') (f i j:Value) (e:List Rg9) (a b:List Nat)
  (m:W'.heap[x.P]?=some (.cells (gx cf { x with rv:=f,ov:=i,lv:=j } h.used) 97)) (n:W'.ownsRow B 106 6 f e.length (ft e)) (o:W'.ownsRow B 22 1 i a.length (Us a)) (p:W'.ownsRow B 22 1 j b.length (Us b)) :
  Sh B { x with rv:=f,ov:=i,lv:=j } cf { h with rg:=e,row:=a,rel:=b } W' :=
 ⟨m,d.bp,d.bq,λg q=>d.bg g (di (d.sp.qEq k al) q),d.ds.ky k al,d.sp.ky k al al al,ai d.sl k al,ai d.wt k al,λc l=>⟨(d.wm c l).1.ky k al,(d.wm c l).2.ky k al⟩,n,o,p⟩
def nl (x:Sm):Prop:=∀ g,x.ov.ownBlock=some g->x.lv.ownBlock≠some g
theorem aD (h:W.ownsRow B e sz v n xs) (a:v.ownBlock=some g):B<=g/\∃ c,W.heap[g]?=some (.cells c e):=by
 rcases h.2 with ⟨rfl,j⟩|⟨k,d,b,rfl,f,i,_⟩;·simp [Value.ownBlock] at a
 simp [Value.ownBlock] at a;subst a;exact⟨f,b,i⟩
theorem mH (h:W.ownsRow B e sz v n xs) (i:W.grownBy W' r) (b:∀ g,v.ownBlock=some g->r≠some g):W'.ownsRow B e sz v n xs:=by
 refine⟨h.1,?_⟩;rcases h.2 with a|⟨c,d,f,rfl,j,a,k⟩;·exact .inl a
 refine .inr ⟨c,d,f,rfl,j,?_,k⟩;rw [i.block c (ah a) (λe=>b c rfl e.symm)];exact a
theorem Ky.grownO {S:TypeId->Prop} (i:∀ P,r=some P->∃ c t f,W.heap[P]?=some (.cells c t f)/\S t) (b:W.grownBy W' r):Ky S W W':=by
 refine⟨b.os,b.tape,b.output,b.size,λg l m n a j=>?_⟩;rw [b.block g (ah a) (λe=>?_)];·exact a
 obtain⟨c,t,f,d,k⟩:=i g e.symm;rw [a] at d;simp at d;exact j (d.2.1▸k)
theorem Bk.ofGrownO {Q:Nat} {n:Array Value} {o:Nat×Nat} (d:∀ P,r=some P->B<=P/\∃ c t f,W.heap[P]?=some (.cells c t f)/\hT t/\t≠5/\t≠164) (m:W.heap[Q]?=some (.cells n 164 o)) (j:B<=W.heap.size) (i:W.grownBy W' r):Bk B Q W W':=by
 have k:some Q≠r:=λe=>by
  obtain⟨_,c,t,f,b,_,_,a⟩:=d Q e.symm;rw [m] at b;simp at b;exact a b.2.1.symm
 refine⟨(Jn B W).grown i j (λP l=>(d P l).1),Ky.grownO (λP l=>?_) i,λg q s a _=>?_,λg a=>.inl (di (i.block Q (ah m) k) a)⟩;·obtain⟨_,c,t,f,b,p,_⟩:=d P l;exact⟨c,t,f,b,p⟩
 rw [i.block g (ah a) (λe=>?_)];·exact a
 obtain⟨_,c,t,f,b,_,p,_⟩:=d g e.symm;rw [a] at b;simp at b;exact p b.2.1.symm
theorem Sh.boxSet (a:Sh B x cf h W) (i:Nat) (v:Value):(W.setCell ⟨x.P,i,none⟩ v).heap[x.P]?=some (.cells ((gx cf x h.used).setIfInBounds i v) 97):=by
 simp [World.setCell,Jw,a.box]
theorem Sh.boxF (a:Sh B x cf h W) (i:Nat):W.frozen? ⟨x.P,i,none⟩=false:=by simp [World.frozen?,a.box]
theorem yW:¬hI 202:=by unfold hI;decide
theorem EE:¬hI 157:=by unfold hI;decide
theorem aE {b:Nat} {d:Nat} (h:W.ownsRow b e d v n xs):∃ a n c,v=.slice a n c:=by
 obtain⟨a,c,h⟩:=aG h;exact⟨a,n,c,h⟩
theorem Hp.off (i:Hp B y d cf h W) {t:TypeId} (k:t≠79/\t≠174/\t≠206/\t≠185/\t≠186/\t≠190/\t≠181/\t≠179/\t≠3/\t≠209/\t≠22) {Y:Nat} {c:Array Value} (j:W.heap[Y]?=some (.cells c t)) (b:Below B W W') (g:W.grownBy W' (some Y)):Hp B y d cf h W':=by
 refine i.keep ⟨(Ky.grown j rfl g:Ky (· = t) W W').more (λu a=>by subst a;exact k),?_,?_⟩ b;·obtain⟨a,⟨l,m,f,_⟩,_⟩:=i.sp.map;exact g.block _ (ah f) (λe=>by simp at e;rw [e,j] at f;cases f)
 obtain⟨l,m,f⟩:=i.mp.typ;exact g.block _ (ah f) (λe=>by simp at e;rw [e,j] at f;cases f)
theorem Bi.loc {Y:Nat} {V b:World} (h:Bi B W V) (g:V.grownBy b (some Y)) (k:W.heap.size<=Y) (i:B<=W.heap.size):Bi B W b :=
 ⟨h.bel.trans ((Jn B V).grown g (Jp i h.bel.size) (λr a=>by simp at a;omega)),g.os.trans h.ky.os,g.tape.trans h.ky.tape,g.output.trans h.ky.output,Jp h.ky.size g.size,λd c u f a j=>by
  rw [g.block d (Ju (ah a) h.ky.size) (λe=>by simp at e;have:=ah a;omega)]
  exact h.ky.cells d c u f a j⟩
def Eu (B:Nat) (y:Ly) (d:Dy) (cf:Cf) (h:Hs) (W:World) (j:Nat->Option (Bool×List Int)) (code:Int) (data:List Int) (e:Ending) (W':World):Prop :=
 ∃ i,Hp B y { d with f:=i } cf { h with m:=j } W'/\Bi B W W'/\((code=0/\∃ v,e=.returned v/\W'.ownsRow W.heap.size 5 1 v data.length (Ns .u8 data))\/(code≠0/\e=.panicked (iG code)))
theorem ay (h:W.ownsRow B e sz v n xs) (b:D W W'):W'.ownsRow B e sz v n xs:=ai h (Ky.below b:Ky (λ_=>False) W W') (λe=>e)
theorem Da.belowD {S M f w w' p ys} (h:Da S M f w p n ys) (b:D w w'):Da S M f w' p n ys :=
 ⟨h.1,λi a=>by obtain ⟨x,c,d,e,g⟩:=h.2 i a;exact⟨x,c,ol b d,Ju e b.size,g⟩⟩
theorem mA (B y d cf h kd) (p:Int) (c) (a:Nat) (n da dl) (N:Nat) (ys W) (i:Hp B y d cf h W) (a5:∀ k,283<=k->h.m k=none) (ha:a<18446744073709551616) (a8:p<=9223372036854775807) (k:Da y.S y.M d.f W da dl ys) (a9:dl<=N) :
  Calls prog 116 #[J y.P 0,kN kd p c a n da dl N] W (Eu B y d cf h W (b_ 283 (cf.bud:Nat) h.m kd p c a n ys).1 (b_ 283 (cf.bud:Nat) h.m kd p c a n ys).2.1 (b_ 283 (cf.bud:Nat) h.m kd p c a n ys).2.2):=by
 have DO:=H (λV (hV:D W V)=>Ks y.S y.M 283 (cf.bud:Nat) d.f h.m kd p c a n da dl N ys V (i.below hV).sp (i.below hV).pg a5 Z ha a8 (k.belowD hV) a9);have FI:=H (λV b K m' (hV:D W V) (hi:Im y.S y.M 0 283 (cf.bud:Nat) K b) (hg:Pg K m' b) (hf:Fr y.S y.M d.f K V b)=>(i.below hV).space hi hg hf);have q:=i.cell 6 Z _ rfl;have BW:=H i.bW;generalize b_ 283 (cf.bud:Nat) h.m kd p c a n ys=r at *;obtain⟨m',g,G⟩:=r;dsimp only at *;unfold kN at DO ⊢;obtain⟨V,hV⟩:∃ V,V=W.alloc (.cells #[I kd,I p,I c,U a,I n,.slice da dl N] 202):=⟨_,rfl⟩;have j:D W V:=by rw [hV];exact (Jn _ _).alloc (Jo _) _
 have X:=(show V.heap[W.heap.size]?=some (.cells #[I kd,I p,I c,U a,I n,.slice da dl N] 202) by rw [hV];exact av W _);have b:=ol j q;have BV:=H j;obtain⟨SP,l⟩:∃ SP,SP=y.S:=⟨_,rfl⟩;obtain⟨PP,o⟩:∃ PP,PP=y.P:=⟨_,rfl⟩;have s:boxF cf y d h.used 6=J y.S 0:=rfl;rw [s] at b;rw [<-l] at DO b;rw [<-o] at b ⊢;clear i k q j s;obtain⟨i,j⟩:∃ i,i=W.heap.size:=⟨_,rfl⟩;have CK:=H (show ∀ k:World,k.cell? ⟨PP,6,none⟩=some (J SP 0)->k.heap[i]?=some (.cells #[I kd,I p,I c,U a,I n,.slice da dl N] 202)->k.cell? ⟨PP,6,none⟩=some (J SP 0)/\k.cell? ⟨i,0,none⟩=some (I kd)/\k.cell? ⟨i,1,none⟩=some (I p)/\k.cell? ⟨i,2,none⟩=some (I c)/\k.cell? ⟨i,3,none⟩=some (U a)/\k.cell? ⟨i,4,none⟩=some (I n)/\k.cell? ⟨i,5,none⟩=some (.slice da dl N) from λk q x=>by
  exact⟨q,aM x,aM x,aM x,aM x,aM x,aM x⟩)
 have L:=H l;have a1:=H o;rw [<-j] at X;have b1:=H j;have XV:=H X;have a6:=H b;clear b X l o;go_enter func116,ntmps116;go_upto_region 1 with fail
 refine Eq.mp (congrArg _ hV) ?_;clear hV;rw [<-j];clear j;refine rh (S:=λk=>k.cell? ⟨PP,6,none⟩=some (J SP 0)/\k.cell? ⟨i,0,none⟩=some (I kd)/\k.cell? ⟨i,1,none⟩=some (I p)/\k.cell? ⟨i,2,none⟩=some (I c)/\k.cell? ⟨i,3,none⟩=some (U a)/\k.cell? ⟨i,4,none⟩=some (I n)/\k.cell? ⟨i,5,none⟩=some (.slice da dl N)) ?_;have u:=CK.out V.drew a6 XV.out;iterate 5 (refine py u ?_;simp only [f0,f1,Nat.reduceAdd,lz,l0,ls])
 refine ns [5,6] λi9 P=>?_;rcases (by simpa using P:i9=5\/i9=6) with P|P
 ·subst P;refine cS λK' l=>?_;go_simp;refine (DO _ (BV.drew)).mono ?_;rintro e M ⟨v,rfl,o,K,i1,g1,Q⟩;rw [L.out] at i1 Q;obtain⟨R,w⟩:=FI.out _ M K m' (BV.drew) i1 g1 Q;have a2:=w.ky;obtain⟨q,s,t,rfl⟩:=aE o;have x1:M.heap[i]?=some (.cells #[I kd,I p,I c,U a,I n,.slice da dl N] 202):=a2.cells _ _ _ _ (show V.drew.heap[i]?=_ from XV) yW;have p1:M.cell? ⟨PP,6,none⟩=some (J SP 0):=by rw [a1.out,L.out];exact R.cell 6 Z _ rfl
  have h1:=CK.out _ p1 x1;refine l _ _ ⟨h1,?_⟩;clear u;have u:=h1;clear l K';refine po 6 λK' l=>?_;go_simp;have O:D M (M.alloc (.cells #[I 0,C] 157)):=(Jn _ _).alloc (Jo _) _;have T:=av M (.cells #[I 0,C] 157);have h2:=CK.out _ (ol O p1) ((O.block _ (ah x1)).trans x1);refine l _ _ ⟨h2,?_⟩;clear u l K';have u:=h2;have BI:=(Bi.ofBelow BV.drew BW).trans (w.add O (Jp BW (Jp BV.size w.bel.size)));have z:=R.below O;have X:=ay (cv o (BV.size)) O;have a3:=(O.block _ (ah x1)).trans x1;generalize M.alloc _=j at *;generalize a0:M.heap.size=Y at *;have BY:W.heap.size<=Y:=by rw [<-a0];exact Jp BV.size w.bel.size
  have X2:=a3;clear a0;refine po 7 λK' l=>?_;refine Kz 157 _ _ rfl Y _ rfl rfl 157 _ T E rfl nm ?_;have g3:=ar j Y #[I g,.slice q s t];have k3:Ky (· = 157) j (j.setRow Y #[I g,.slice q s t]):=Ky.grown T rfl g3;have x2:j.heap[i]?=some (.cells #[I kd,I p,I c,U a,I n,.slice da dl N] 202):=X2;have a4:B<=Y:=Jp BW BY;have b3:Below B j (j.setRow Y #[I g,.slice q s t]):=(Jn _ _).grown g3 z.bW (λr hr=>by simp at hr;omega);have A:=z.off al T b3 g3;have h3:=CK.out _ (show (j.setRow Y #[I g,.slice q s t]).cell? ⟨PP,6,none⟩=_ by rw [a1.out,L.out];exact A.cell 6 Z _ rfl) (k3.cells _ _ _ _ x2 al);refine l _ _ ⟨h3,?_⟩;clear u l K';have u:=h3;refine bY ?_;have XU:=aw (v:=j) T #[I g,.slice q s t];have HU:=LG A (LG (BI.loc g3 BY BW) (ai X k3 al));clear h3 x2 X2 k3 g3 b3 z A BI X T a4 BY;generalize j.setRow Y #[I g,.slice q s t]=b at *;have HF:=H (show Hp B y { d with f:=K } cf { h with m:=m' } b/\Bi B W b/\b.ownsRow W.heap.size 5 1 (.slice q s t) G.length (Ns .u8 G) from HU);have y0:b.cell? ⟨Y,0,none⟩=some (I g):=aM XU
  have y1:b.cell? ⟨Y,1,none⟩=some (.slice q s t):=aM XU;clear HU XU u;by_cases F:g=0;·subst F;go_wp2;go_ret;exact⟨K,HF.1,HF.2.1,.inl ⟨rfl,_,rfl,HF.2.2⟩⟩
  have a7:(g != 0)=true:=by simpa using F
  go_wp2;exact⟨rfl,K,HF.1,HF.2.1,.inr ⟨F,rfl⟩⟩
 subst P;refine cS λK' l=>?_;go_simp;have O:D V (V.alloc (.cells #[I 0,C] 157)).drew:=((Jn _ _).alloc (Jo _) _).drew;have Y1:(V.alloc (.cells #[I 0,C] 157)).drew.heap[V.heap.size]?=_:=av V (.cells #[I 0,C] 157);have h2:=CK.out _ (ol O a6) ((O.block _ (ah XV)).trans XV);refine l _ _ ⟨h2,?_⟩;clear u l K';have u:=h2;have x0:=(O.block _ (ah XV)).trans XV.out;have a3:=BV.trans (O.mono BV.size);have SZ:=O.size;generalize World.drew (V.alloc _)=V0 at *;generalize a0:V.heap.size=Y at *;refine po 5 λK' l=>?_
 go_simp;refine (DO _ (a3)).mono ?_;rintro e M ⟨v,rfl,o,K,i1,g1,Q⟩;rw [L.out] at i1 Q;obtain⟨R,w⟩:=FI.out _ M K m' (a3) i1 g1 Q;have a2:=w.ky;obtain⟨q,s,t,rfl⟩:=aE o;have x1:M.heap[i]?=some (.cells #[I kd,I p,I c,U a,I n,.slice da dl N] 202):=a2.cells _ _ _ _ x0 yW;have p1:M.cell? ⟨PP,6,none⟩=some (J SP 0):=by rw [a1.out,L.out];exact R.cell 6 Z _ rfl
 have h1:=CK.out _ p1 x1;refine l _ _ ⟨h1,?_⟩;clear u;have u:=h1;clear l K';have T:=a2.cells _ _ _ _ Y1 EE;have BI:=(Bi.ofBelow a3 BW).trans w;have z:=R;have X:=cv o a3.size;have BY:W.heap.size<=Y:=by rw [<-a0];exact BV.size
 have X2:=x1;clear a0;generalize b0:M=j at *;clear b0;refine po 7 λK' l=>?_;refine Kz 157 _ _ rfl Y _ rfl rfl 157 _ T E rfl nm ?_;have g3:=ar j Y #[I g,.slice q s t];have k3:Ky (· = 157) j (j.setRow Y #[I g,.slice q s t]):=Ky.grown T rfl g3;have x2:j.heap[i]?=some (.cells #[I kd,I p,I c,U a,I n,.slice da dl N] 202):=X2;have a4:B<=Y:=Jp BW BY;have b3:Below B j (j.setRow Y #[I g,.slice q s t]):=(Jn _ _).grown g3 z.bW (λr hr=>by simp at hr;omega);have A:=z.off al T b3 g3;have h3:=CK.out _ (show (j.setRow Y #[I g,.slice q s t]).cell? ⟨PP,6,none⟩=_ by rw [a1.out,L.out];exact A.cell 6 Z _ rfl) (k3.cells _ _ _ _ x2 al);refine l _ _ ⟨h3,?_⟩;clear u l K';have u:=h3;refine bY ?_;have XU:=aw (v:=j) T #[I g,.slice q s t];have HU:=LG A (LG (BI.loc g3 BY BW) (ai X k3 al));clear h3 x2 X2 k3 g3 b3 z A BI X T a4 BY;generalize j.setRow Y #[I g,.slice q s t]=b at *;have HF:=H (show Hp B y { d with f:=K } cf { h with m:=m' } b/\Bi B W b/\b.ownsRow W.heap.size 5 1 (.slice q s t) G.length (Ns .u8 G) from HU);have y0:b.cell? ⟨Y,0,none⟩=some (I g):=aM XU
 have y1:b.cell? ⟨Y,1,none⟩=some (.slice q s t):=aM XU;clear HU XU u;by_cases F:g=0;·subst F;go_wp2;go_ret;exact⟨K,HF.1,HF.2.1,.inl ⟨rfl,_,rfl,HF.2.2⟩⟩
 have a7:(g != 0)=true:=by simpa using F
 go_wp2;exact⟨rfl,K,HF.1,HF.2.1,.inr ⟨F,rfl⟩⟩
theorem Da.nil (S M f w):Da S M f w none 0 []:=⟨rfl,λi a=>Z⟩
theorem ka (B y d cf h) (a n:Nat) (W) (f:Hp B y d cf h W) (c:∀ k,283<=k->h.m k=none) (ha:a<18446744073709551616) (o:n<18446744073709551616) :
  Calls prog 60 #[J y.P 0,U a,U n] W (Eu B y d cf h W h.m (cr h.m a ((min n 4097:Nat):Int)) (if cr h.m a ((min n 4097:Nat):Int)=0 then aI h.m a (min n 4097) else [])):=by
 have b:=H (mA B y d cf h 4 0 0 a ((min n 4097:Nat):Int) none 0 0 [] W f c ha Z (Da.nil _ _ _ _) (Jo _));unfold b_ at b;simp only [tm] at b;rw [JL] at b;unfold kN at b;generalize (if cr h.m a ((min n 4097:Nat):Int)=0 then aI h.m a (min n 4097) else [])=l at *;generalize cr h.m a ((min n 4097:Nat):Int)=m at *;clear f c;generalize y.P=P at *;by_cases k:n<=4097
 ·rw [I7 k] at b;go_enter func60,ntmps60;go_wp2_with fail;refine (b).mono ?_;rintro e W' ⟨j,c,f,⟨g,v,rfl,own⟩|⟨g,rfl⟩⟩;·have i:=H (LG c (LG f own));clear c f own b;go_wp2;go_ret;exact⟨j,i.1,i.2.1,.inl ⟨g,v,rfl,i.2.2⟩⟩
  exact⟨rfl,j,c,f,.inr ⟨g,rfl⟩⟩
 rw [Nat.min_eq_right Z] at b;go_enter func60,ntmps60;go_wp2_with fail;refine (b).mono ?_;rintro e W' ⟨j,c,f,⟨g,v,rfl,own⟩|⟨g,rfl⟩⟩;·have i:=H (LG c (LG f own));clear c f own b;go_wp2;go_ret;exact⟨j,i.1,i.2.1,.inl ⟨g,v,rfl,i.2.2⟩⟩
 exact⟨rfl,j,c,f,.inr ⟨g,rfl⟩⟩
def Ej (B:Nat) (y:Ly) (d:Dy) (cf:Cf) (h:Hs) (W:World) (j:Nat->Option (Bool×List Int)) (code:Int) (e:Ending) (W':World):Prop :=
 ∃ i,Hp B y { d with f:=i } cf { h with m:=j } W'/\Bi B W W'/\((code=0/\e=.returned (.tuple #[]))\/(code≠0/\e=.panicked (iG code)))
theorem iZ (B y d cf h) (a:Nat) (da dl) (f:Nat) (ys W) (i:Hp B y d cf h W) (c:∀ k,283<=k->h.m k=none) (ha:a<18446744073709551616) (j:Da y.S y.M d.f W da dl ys) (g:dl<=f) :
  Calls prog 61 #[J y.P 0,U a,.slice da dl f] W (Ej B y d cf h W (if cr h.m a (ys.length:Int)=0 then ax h.m a ys ys.length else h.m) (cr h.m a (ys.length:Int))):=by
 have b:=H (mA B y d cf h 5 0 0 a 0 da dl f ys W i c ha Z j g);unfold b_ at b;rw [tg al,tm rfl] at b;unfold kN at b;dsimp only at b;generalize (if cr h.m a (ys.length:Int)=0 then ax h.m a ys ys.length else h.m)=n at *;generalize cr h.m a (ys.length:Int)=k at *;clear i c j;generalize y.P=P at *;go_enter func61,ntmps61;go_wp2_with fail;refine (b).mono ?_;rintro e W' ⟨l,c,i,⟨j,v,rfl,own⟩|⟨j,rfl⟩⟩
 ·have m:=H (LG c (LG i own));clear c i own b;go_wp2;go_end0;exact⟨l,m.1,m.2.1,.inl ⟨j,rfl⟩⟩
 exact⟨rfl,l,c,i,.inr ⟨j,rfl⟩⟩
end
section
open Go.RowKit Go.Maps
theorem AO {a d f:Nat} (p:c<12) (q:s<6) (r:j<aU c) (g:a<12) (i:d<6) (l:f<aU a) (h:bF c s j=bF a d f):(c,s,j)=(a,d,f):=by
 obtain⟨k,t,e⟩:=qo p q r;obtain⟨n,m,o⟩:=qo g i l;have u:gJ k=bF c s j:=by unfold gJ;rw [e]
 have v:gJ n=bF a d f:=by unfold gJ;rw [o]
 rcases Kv k n with b|b|b;·have:=nj b m;omega
 ·rw [<-e,<-o,b]
 have:=nj b t;omega
theorem gV (h:bj p=some (c,s,j)):c<12/\s<6/\j<aU c/\bF c s j=p:=by
 unfold bj at h;have a:=cP (KJ h);have b:=List.find?_some h;simp at b;exact⟨a.1,a.2.1,a.2.2,b⟩
theorem ua (a:c<12) (b:s<6) (d:j<aU c):bj (bF c s j)=some (c,s,j):=by
 cases e:bj (bF c s j) with
 | some t =>
  obtain⟨l,m,n⟩:=t;obtain⟨f,g,i,k⟩:=gV e;rw [AO f g i a b d k]
 | none =>
  unfold bj at e;have f:(c,s,j)∈dM:=by
   unfold dM;simp only [List.mem_flatMap,JW,JE];exact⟨c,a,s,b,j,d,rfl⟩
  have:=List.find?_eq_none.1 e _ f;simp at this
theorem EL (h:Dec (p:Int) v):(∃ c s j:Nat,c<12/\s<6/\j<aU c/\p=bF c s j/\v=pl 3 (c:Nat) (s:Nat) (j:Nat) 0 0)\/(bj p=none/\∃ k c s t q o:Int,v=pl k c s t q o/\(k≠3\/o≠0)):=by
 have i:∀ {c s j:Nat},bj p=some (c,s,j)->1024<=p/\p<191488:=λ{c s j} e=>by
  obtain⟨k,u,g,G⟩:=gV e;have:=cY k u g;omega
 have a:(∀ c s j,bj p≠some (c,s,j))->bj p=none:=λh=>by
  cases e:bj p with
  | none=>rfl
  | some t=>obtain ⟨c,s,j⟩:=t;exact absurd e (h c s j)
 cases h with
 | out h=>exact .inr ⟨a (λc s j e=>by have:=i e;omega),0,0,0,0,0,0,rfl,.inl al⟩
 | large K k=>exact .inr ⟨a (λc s j e=>by have:=i e;omega),4,0,0,0,_,_,rfl,.inl al⟩
 | zero K k=>exact .inr ⟨a (λc s j e=>by have:=i e;omega),1,0,0,0,0,0,rfl,.inl al⟩
 | slab c s K k m =>
  obtain⟨b,rfl⟩:∃ b:Nat,c=(b:Int):=⟨c.toNat,by have:=m.c0;omega⟩;obtain⟨d,rfl⟩:∃ d:Nat,s=(d:Int):=⟨s.toNat,by have:=m.s0;omega⟩;have f:b<12:=by have:=m.c1;omega
  have L:d<6:=by have:=m.s1;omega
  have N:=bI f;have n:=m.lo;have q:=m.hi;rw [zt f,sY f] at n q;rw [zt f,sY f];have x:((AC b:Nat):Int)+(d:Int)*((dQ b:Nat)+1)=(aF b d:Nat):=by unfold aF;simp
  rw [x] at n q ⊢;obtain⟨o,Q⟩:∃ o:Nat,p=aF b d*1024+o:=⟨p-aF b d*1024,Z⟩;have O:(p:Int)-(aF b d:Nat)*1024=(o:Int):=Z;rw [O];have l:∀ c s j,bj p=some (c,s,j)->c=b/\s=d/\o=j*cR b/\j<aU b:=λc s j e=>by
   obtain⟨k,u,g,G⟩:=gV e;have z:=cY k u g;have y:aF c s*1024<=bF c s j:=(by unfold bF;omega);by_cases w:c=b/\s=d;·obtain⟨rfl,rfl⟩:=w;refine⟨rfl,rfl,?_,g⟩;unfold bF at G;omega
   rcases eT k u f L w with r|r <;> omega
  unfold AD;rw [sY f,wO f,xH f];by_cases M:((dQ b:Nat):Int)*1024<=(o:Int)
  ·rw [tm M];refine .inr ⟨a (λc s j e=>?_),_,_,_,_,_,_,rfl,.inl al⟩;obtain⟨rfl,rfl,y,g⟩:=l c s j e;have r:(j+1)*cR c<=aU c*cR c:=JR _ g;rw [J4] at r;have w:aU c*cR c<=dQ c*1024:=N.2.2.2.2.2.2.1;have z:(dQ c*1024:Nat)<=o:=Z;omega
  rw [tg M];by_cases w:((aU b:Nat):Int)*((cR b:Nat):Int)<=(o:Int)
  ·rw [tm w];refine .inr ⟨a (λc s j e=>?_),_,_,_,_,_,_,rfl,.inl al⟩;obtain⟨rfl,rfl,y,g⟩:=l c s j e;have r:(j+1)*cR c<=aU c*cR c:=JR _ g;rw [J4] at r;have z:aU c*cR c<=o:=(by exact_mod_cast w);omega
  rw [tg w];have z:o<aU b*cR b:=by
   have:¬(aU b*cR b<=o):=λh=>w (by exact_mod_cast h)
   omega
  have A:((o:Int)/((cR b:Nat):Int))=((o/cR b:Nat):Int):=bh;have B:((o:Int)%((cR b:Nat):Int))=((o%cR b:Nat):Int):=bh;rw [A,B];by_cases F:o%cR b=0;·have P:o/cR b<aU b:=(Nat.div_lt_iff_lt_mul Z).2 z;refine .inl ⟨b,d,o/cR b,f,L,P,?_,by rw [F];rfl⟩;unfold bF;have:=Nat.div_add_mod o (cR b);rw [F,Nat.mul_comm] at this;omega
  refine .inr ⟨a (λc s j e=>?_),_,_,_,_,_,_,rfl,.inr Z⟩;obtain⟨rfl,rfl,y,g⟩:=l c s j e;exact F (by rw [y];exact Nat.mul_mod_left _ _)
/-! the map of ranges -/
theorem fM:Keyed prog 22:=int_keyed underlying22
theorem Bb (w:World):(zeroValue 196).run prog w=.ok (.pointer none) w:=E
theorem y_ (k:Nat) (h:k<18446744073709551616):keyOf prog 22 (.int .u64 k)=some (.int .u64 k):=keyOf_int_mk underlying22 (WalkArith.wf_u64 ⟨Z,Z⟩)
theorem Mr.look {lo} (h:Mr R n lo W) (k:Nat) (i:k<18446744073709551616) :
  (Instr.lookup 77 (.map (some R)) (.int .u64 k) false).run prog W=.ok (.pointer ((lo k).map λb=>⟨b,0,none⟩)) W:=by
 obtain⟨a,d,_,g,_⟩:=h.map;obtain⟨v,ps,e,j⟩:=d.lookup fM underlying77 (Bb W) (show eN (.pointer none)=some (.nil,[]) from rfl) (y_ k i);rw [g k i] at j;rw [e];rcases iJ j with ⟨b,rfl,c⟩|⟨rfl,c⟩
 ·cases f:lo k with
  | none=>rw [f] at c;simp [tz] at c
  | some l =>
   rw [f] at c;simp [tz] at c;have:l=b:=Z;subst this;rfl
 cases f:lo k with
 | none=>rfl
 | some l=>rw [f] at c;simp [tz] at c
theorem mj {k:Nat} (h:j≠k):(Lit.int .u64 (j:Int))≠.int .u64 (k:Int):=by
 intro e;injection e with _ e;omega
theorem Fb {b:Nat} {a:DataW Unit} {R:Value->Option (DataW Unit×List MemPlace)} (h:W.ownsMap prog 22 R b n a) {d:Nat} (e:Maps.size a<=d):W.ownsMap prog 22 R b d a:=by
 obtain⟨f,c,g,F,i,rfl⟩:=h;exact⟨f,c,g,F,by simpa [Maps.size,length_sorted] using e,rfl⟩
theorem Mr.del {R n lo W} (h:Mr R n lo W) (k:Nat) (l:k<18446744073709551616) (m:TypeId) :
  ∃ W',(Builtin.delete_ #[77,22] m #[.map (some R),.int .u64 k]).run prog W=.ok (.tuple #[]) W'/\Mr R (if (lo k).isSome then n-1 else n) (upd lo k none) W'/\W.mapTurned W' R:=by
 obtain⟨a,b,o,g,c⟩:=h.map;obtain⟨W',f,d,p⟩:=b.drop fM underlying77 (y_ k l) m;refine⟨W',f,⟨a.del (.int .u64 k),d,?_,?_,?_⟩,p⟩
 ·have i:=Maps.size_del (k:=.int .u64 k) (b.tidy fM);rw [c k l] at i;cases q:lo k <;> rw [q] at i <;> simp at i ⊢<;> omega
 ·intro j i;by_cases e:j=k;·subst e;rw [Maps.atKey_del_same,upd_same];rfl
  rw [Maps.atKey_del_other (mj e),aL lo k j _ e];exact g j i
 intro j i;by_cases e:j=k;·subst e;rw [Maps.has_del_same,upd_same];rfl
 rw [Maps.has_del_other (mj e),aL lo k j _ e];exact c j i
theorem Mr.put {R n lo W} (h:Mr R n lo W) (k b:Nat) (o:k<18446744073709551616) (p:lo k=none) (t:n<4096) :
  ∃ W',(Instr.mapUpdate 77 (.map (some R)) (.int .u64 k) (.pointer (some ⟨b,0,none⟩))).run prog W=.ok () W'/\Mr R (n+1) (upd lo k (some b)) W'/\W.mapTurned W' R:=by
 obtain⟨a,c,q,l,d⟩:=h.map;obtain⟨W',i,g,r⟩:=c.store fM underlying77 al (y_ k o) (pN b);have f:WideAt.IsKeyLit (.int .u64 (k:Int)):=by simp [WideAt.IsKeyLit]
 have s:Maps.size (a.put (.int .u64 k) (.lit (.int .i64 b)))<=n+1:=by
  have m:=Maps.size_put (k:=.int .u64 k) (c.tidy fM) (.lit (.int .i64 b));rw [d k o,p] at m;simp at m;omega
 refine⟨W',i,⟨_,Fb g Z,s,?_,?_⟩,r⟩
 ·intro j m;by_cases e:j=k;·subst e;rw [Maps.atKey_put_same c.isMap f,upd_same];rfl
  rw [Maps.atKey_put_other (mj e),aL lo k j _ e];exact l j m
 intro j m;by_cases e:j=k;·subst e;rw [Maps.has_put_same c.isMap f,upd_same];rfl
 rw [Maps.has_put_other (mj e),aL lo k j _ e];exact d j m
/-! methods by way of an interface -/
theorem AW (g : Nat) (w : World) : (method 660 186 (.pointer (some ⟨g, 0, none⟩)) "loop.example/s01868/impl.kept").run prog w=.ok (287, .pointer (some ⟨g, 0, none⟩)) w := E
theorem By (g : Nat) (w : World) : (method 660 196 (.pointer (some ⟨g, 0, none⟩)) "loop.example/s01868/impl.kept").run prog w=.ok (287, .pointer (some ⟨g, 0, none⟩)) w := E
def zl (y:Ly) (d:Dy) (p:Nat):Value :=
 match d.lg p with
 | some g=>.iface 196 (J g 0)
 | none=>match bj p with
  | some (c,s,j)=>.iface 186 (J (y.sm c s j) 0)
  | none=>.nilIface
theorem yh (cf y d u) (c s:Nat) (e:c<12) (f:s<6):boxF cf y d u (7+c*6+s)=J (y.sb c s) 0:=by
 unfold boxF;rw [tg Z,tm Z];have a:(7+c*6+s-7)/6=c:=Z;have b:(7+c*6+s-7)%6=s:=Z;rw [a,b]
theorem Hp.slabAt (a:Hp B y d cf h W) (c s:Nat) (b:c<12) (e:s<6):W.cell? ⟨y.P,7+c*6+s,none⟩=some (J (y.sb c s) 0):=a.cell _ Z _ (yh cf y d h.used c s b e)
theorem Hp.bc (b:Hp B y d cf h W) (c s:Nat) (e:c<12) (f:s<6):Bc (y.sb c s) (y.sr c s) c s (aU c) (y.sc c s) (d.on c s) W:=by
 have a:=b.sl c s e f;exact⟨aM a,aM a,aM a,aM a⟩
theorem Hp.rowAt (b:Hp B y d cf h W) (c s j:Nat) (e:c<12) (f:s<6) (a:j<aU c):W.cell? ⟨y.sr c s,j,none⟩=some (J (y.sm c s j) 0):=by
 rw [(b.rw c s e f).cell j (by simpa using a)];simp [a]
theorem Hp.smAt (b:Hp B y d cf h W) (c s j:Nat) (e:c<12) (f:s<6) (g:j<aU c):W.cell? ⟨y.sm c s j,0,none⟩=some (I (h.st c s j))/\W.cell? ⟨y.sm c s j,1,none⟩=some (I (h.rq c s j)):=by
 have a:=b.sm c s j e f g;exact⟨aM a,aM a⟩
theorem Hp.scAt (a:Hp B y d cf h W) (c s j:Nat) (b:c<12) (e:s<6) (f:j<aU c):Sc (y.sm c s j) (y.sb c s) c s j W:=by
 have g:=a.sm c s j b e f;have i:=a.bc c s b e;exact⟨aM g,aM g,i.d0,i.d1,a.tb,b,e,f⟩
theorem Ho (B y d cf h) (p:Nat) (W) (n:Hp B y d cf h W) (M:p<18446744073709551616) :
  Calls prog 115 #[J y.P 0,U p] W λe W'=>e=.returned (zl y d p)/\D W W':=by
 have u:W.cell? ⟨y.P,115,none⟩=some (.map (some y.R)):=n.cell 115 Z _ rfl;have w:=n.mp.look p M;cases r:d.lg p with
 | some g =>
  have a:=H (show zl y d p=.iface 196 (J g 0) by unfold zl;rw [r]);rw [r] at w;simp only [DC] at w;clear n r;go_enter func115,ntmps115;go_wp2;go_ret;rw [a.out];exact⟨rfl,Jn _ _⟩
 | none =>
  rw [r] at w;simp only [Option.map_none] at w;have i:=H (oX (p:Nat) Z Z W n.tb);have N:=H (λV (a:D W V)=>n.below a);have l:=H (show zl y d p=match bj p with
    | some (c,s,j)=>.iface 186 (J (y.sm c s j) 0)
    | none=>.nilIface by unfold zl;rw [r])
  clear n r;go_enter func115,ntmps115;go_wp2_with fail;refine (i).mono ?_;rintro e V ⟨⟨v,f,rfl⟩,b⟩;have P:=H b;have Q:∀ {a:World},D V a->D W a:=λhU=>b.trans (hU.mono b.size)
  clear b i w u;rcases EL f with ⟨c,s,j,x,G,R,rfl,rfl⟩|⟨O,k,c,s,t,q,o,rfl,m⟩
  ·rw [ua x G R] at l;dsimp only at l;unfold pl;(go_upto_region 5 with fail);have i:=av V (.cells #[I 3,I c,I s,I j,I 0,I 0] 243);have z:D V (V.alloc (.cells #[I 3,I c,I s,I j,I 0,I 0] 243)):=(Jn _ _).alloc (Jo _) _;generalize V.alloc _=a at *;generalize V.heap.size=X at *;have z0:a.cell? ⟨X,0,none⟩=some (I 3):=aM i;have z1:a.cell? ⟨X,1,none⟩=some (I c):=aM i;have z2:a.cell? ⟨X,2,none⟩=some (I s):=aM i;have z3:a.cell? ⟨X,3,none⟩=some (I j):=aM i;have z5:a.cell? ⟨X,5,none⟩=some (I 0):=aM i;have A:=H (show D W a from Q z);have b:=N.out a A.out;have q1:=b.slabAt c s x G;have q2:=(b.bc c s x G).d3;have q3:=b.rowAt c s j x G R;have T:=(bI x).2.2.2.2.2.1;clear b i z P f;generalize y.sm c s j=K at *;generalize y.sr c s=L at *;generalize y.sb c s=F at *;generalize y.sc c s=Y at *;generalize aU c=nn at *;(go_upto_region 7 with fail);refine rh (S:=λb=>b.cell? ⟨X,1,none⟩=some (I c)/\b.cell? ⟨X,2,none⟩=some (I s)/\b.cell? ⟨X,3,none⟩=some (I j)/\b.cell? ⟨y.P,7+c*6+s,none⟩=some (J F 0)/\b.cell? ⟨F,3,none⟩=some (Vl L nn Y)/\b.cell? ⟨L,j,none⟩=some (J K 0)) ?_;have b:=LG (show a.drew.cell? _=_ from z1) (LG (show a.drew.cell? _=_ from z2) (LG (show a.drew.cell? _=_ from z3) (LG (show a.drew.cell? _=_ from q1) (LG (show a.drew.cell? _=_ from q2) (show a.drew.cell? _=_ from q3)))));refine pk 0 (J y.P 0) b ?_;refine pk 1 (J X 1) b ?_;refine pz 2 (I c) b ?_;refine pk 3 (J X 2) b ?_;refine pz 4 (I s) b ?_;refine pk 5 (J y.P 0) b ?_;refine pk 6 (J y.P 7) b ?_;refine pz 7 (J y.P (7+c*6)) b ?_;refine pz 8 (J y.P (7+c*6+s)) b ?_;refine pz 9 (J F 0) b ?_;refine pk 10 (J F 0) b ?_;refine pk 11 (J F 3) b ?_;refine pz 12 (Vl L nn Y) b ?_;refine pk 13 (J X 3) b ?_;refine pz 14 (I j) b ?_;refine pz 15 (J L j) b ?_;refine pz 16 (J K 0) b ?_;refine pz 17 (.iface 186 (J K 0)) b ?_;refine pk 18 (.iface 186 (J K 0)) b ?_;refine bY ?_;clear b;go_wp2;go_ret;rw [l.out];exact⟨rfl,A.drew⟩
  rw [O] at l;dsimp only at l;unfold pl;go_upto_region 5 with fail
  have i:=av V (.cells #[I k,I c,I s,I t,I q,I o] 243);have z:D V (V.alloc (.cells #[I k,I c,I s,I t,I q,I o] 243)):=(Jn _ _).alloc (Jo _) _;generalize V.alloc _=a at *;generalize V.heap.size=X at *;have z0:a.cell? ⟨X,0,none⟩=some (I k):=aM i;have z5:a.cell? ⟨X,5,none⟩=some (I o):=aM i;have A:=H (show D W a from Q z);clear i z P f;by_cases b:k=3
  ·have F:(o != 0)=true:=(by rcases m with f|f;exact absurd b f;simpa using f);subst b;clear m;go_wp2;go_ret;rw [l.out];exact⟨rfl,A⟩
  have f:(k != 3)=true:=by simpa using b
  clear m b;go_wp2;go_ret;rw [l.out];exact⟨rfl,A⟩
structure Gd (d:Dy) (h:Hs) (an:Value):Prop where
 on:Ip d h
 un:d.un=.nilFunc
 an:d.an=an
def Hg (B:Nat) (y:Ly) (cf:Cf) (h:Hs) (an:Value) (W:World):Prop:=∃ d,Hp B y d cf h W/\Gd d h an
def Tk (B:Nat) (y:Ly) (cf:Cf) (h:Hs) (an:Value) (W:World):Prop:=∀ V,D W V->Calls prog 52 #[J y.P 0] V λe i=>e=.returned (.tuple #[])/\Hg B y cf h an i/\Bi B V i
theorem Hp.setDy (b:Hp B y d cf h W) (i:Nat) (v:Value) (f:Dy) (u:(i=119/\f={ d with an:=v })\/(i=120/\f={ d with un:=v })):Hp B y f cf h (W.setCell ⟨y.P,i,none⟩ v):=by
 have k:=b.box.kyS i v;have q:Below B W (W.setCell ⟨y.P,i,none⟩ v):=(Jn B W).grown (au (ao W y.P) _ _) b.bW (λr t=>by simp at t;have:=b.ap.bP;omega);have w:=b.box.set i Z v;rw [qi cf y d h.used i v f (by rcases u with l|l;exact .inr (.inr (.inl l));exact .inr (.inr (.inr l)))] at w;have A:(W.setCell ⟨y.P,i,none⟩ v).heap[y.M]?=W.heap[y.M]?:=t4 _ _ _ _ (λe=>by
  obtain⟨c,l,_⟩:=b.box;obtain⟨a,⟨F,G,m,_⟩,_⟩:=b.sp.map;rw [e,l] at m;cases m)
 have K:(W.setCell ⟨y.P,i,none⟩ v).heap[y.R]?=W.heap[y.R]?:=t4 _ _ _ _ (λe=>by
  obtain⟨c,l,_⟩:=b.box;obtain⟨F,G,m⟩:=b.mp.typ;rw [e,l] at m;cases m)
 have n:f.f=d.f/\f.on=d.on/\f.lg=d.lg/\f.ro=d.ro/\f.rl=d.rl:=by rcases u with ⟨_,rfl⟩|⟨_,rfl⟩ <;> exact ⟨rfl,rfl,rfl,rfl,rfl⟩
 obtain⟨n,L,p,x,z⟩:=n;exact⟨b.ap,Jp b.bW q.size,w,b.ds.belowB q b.ap.da,n▸b.sp.ky k al A,n▸b.pg.ky k al,n▸b.bf,
 λc s a o=>by rw [L];exact k.cells _ _ _ _ (b.sl c s a o) al,λc s a o=>cZ (b.rw c s a o) k al,λc s j a o M=>k.cells _ _ _ _ (b.sm c s j a o M) al,
 λc a=>(b.wt c a).ky k al al al,p▸b.mp.same K,p▸b.lo,λr t=>by obtain ⟨g,l,m,N⟩:=b.lb r t;exact⟨g,by rw [p];exact l,m,k.cells _ _ _ _ N al⟩,p▸b.li,x▸b.ro.ky k al,z▸ai b.rl k al,by rw [x,z];exact b.rr,b.tb.belowB q b.ap.b0⟩
theorem z_ (w:World):(binOp .neq 1 .nilFunc .nilFunc).run prog w=.ok (.bool false) w:=E
theorem rN (a:Fn) (b c:Array Value) (w:World):(binOp .neq 1 (.func a b c) .nilFunc).run prog w=.ok (.bool true) w:=E
theorem Bl (w:World) (d:Value) (g i:Nat) (a:Fn) (b c:Array Value) (e:w.cell? ⟨g,i,none⟩=some d) (f:w.frozen? ⟨g,i,none⟩=false):(store ⟨g,i,none⟩ (.func a b c)).run prog w=.ok () (w.setCell ⟨g,i,none⟩ (.func a b c)):=by
 rw [_root_.Go.run_store _ _ _ _ _ rfl,e];simp [f]
theorem mq (w:World) (a:Value) (g i:Nat) (b:w.cell? ⟨g,i,none⟩=some a) (c:w.frozen? ⟨g,i,none⟩=false):(store ⟨g,i,none⟩ .nilFunc).run prog w=.ok () (w.setCell ⟨g,i,none⟩ .nilFunc):=by
 rw [_root_.Go.run_store _ _ _ _ _ rfl,b];simp [c]
theorem q_ (P:Nat) (W:World) (c:W.cell? ⟨P,120,none⟩=some .nilFunc):Calls prog 52 #[J P 0] W λe W'=>e=.returned (.tuple #[])/\W'=W:=by
 have nq:=z_;go_enter func52,ntmps52;go_wp2;go_end0;exact⟨rfl,rfl⟩
theorem Hg.tk {an} (f:Hg B y cf h an W):Tk B y cf h an W:=by
 intro V g;obtain⟨d,i,b⟩:=f;have a:=i.below g;have c:=a.cell 120 Z _ rfl;have e:boxF cf y d h.used 120=d.un:=rfl;rw [e,b.un] at c;refine (q_ y.P V c).mono ?_;rintro e W' ⟨rfl,rfl⟩;exact⟨rfl,⟨d,a,b⟩,Bi.refl _ _⟩
theorem Tk.below {an} (k:Tk B y cf h an W) (b:D W W'):Tk B y cf h an W':=λV a=>k V (b.trans (a.mono b.size))
theorem ku {m:Nat->Option (Bool×List Int)} {p:Nat} {v:Bool} : ∀ {c:Nat},(∀ i,i<c->(m (p+i)).isSome=v)->fX m p v c=true
 | 0,_=>rfl
 | c+1,h=>by
  unfold fX
  rw [ku (λi a=>h i Z),h c Z]
  simp
theorem qY {bud} {m:Nat->Option (Bool×List Int)} (b:1<=c) (d:p+c<=283) (a:∀ i,i<c->(m (p+i)).isSome=false):b_ 283 bud m 0 (p:Nat) (c:Nat) 0 0 []=if bud<(bG m 283:Int)+c then (m,1,[]) else (aT m p c,0,[]):=by
 unfold b_;rw [tg al,tg al,tg al,tm (by unfold DN;omega)];unfold lA;rw [tm rfl,JL,JL,ku a,tg al];split <;> rfl
theorem nL {bud} {m:Nat->Option (Bool×List Int)} (b:1<=c) (d:p+c<=283) (a:∀ i,i<c->(m (p+i)).isSome=true):b_ 283 bud m 1 (p:Nat) (c:Nat) 0 0 []=(bQ m p c,0,[]):=by
 unfold b_;rw [tg al,tg al,tg al,tm (by unfold DN;omega)];unfold lA;rw [tg al,JL,JL,ku a,tg al,tm rfl]
def Jg (B:Nat) (y:Ly) (d:Dy) (cf:Cf) (h:Hs) (p c:Nat) (t:Fn) (j u:Array Value) (W:World) (e:Ending) (W':World):Prop:=∃ i,Bi B W W' /\
   ((¬((cf.bud:Int)<(bG h.m 283:Int)+c)/\e=.returned (.tuple #[])/\Hp B y { d with f:=i,un:=.nilFunc } cf { h with m:=aT h.m p c } W')\/((cf.bud:Int)<(bG h.m 283:Int)+c/\e=.panicked (iG 1)/\Hp B y { d with f:=i,un:=.func t j u } cf h W'))
theorem pS (B y d cf h) (p c:Nat) (b:Fn) (g j:Array Value) (W) (t:Hp B y d cf h W) (q:∀ k,283<=k->h.m k=none) (L:1<=c) (M:p+c<=283) (N:∀ i,i<c->(h.m (p+i)).isSome=false) :
  Calls prog 163 #[J y.P 0,kN 0 (p:Nat) (c:Nat) 0 0 none 0 0,.func b g j] W (Jg B y d cf h p c b g j W):=by
 have F:=qY (bud:=(cf.bud:Nat)) L M N;obtain⟨V,u⟩:∃ V,V=W.alloc (.cells #[I 0,I p,I c,U (0:Nat),I 0,C] 202):=⟨_,rfl⟩;have x:D W V:=by rw [u];exact (Jn _ _).alloc (Jo _) _
 have X:=(show V.heap[W.heap.size]?=some (.cells #[I 0,I p,I c,U (0:Nat),I 0,C] 202) by rw [u];exact av W _);have i:=t.below x;have r:=i.setDy 120 (.func b g j) { d with un:=.func b g j } (.inr ⟨rfl,rfl⟩);have l:=H ((Bi.ofBelow x t.bW).trans (i.bi118 120 (.func b g j)));have k:=i.cell 120 Z _ rfl;have f120:V.frozen? ⟨y.P,120,none⟩=false:=i.box.free 120;have w:=H (λa (o:Hp B y { d with un:=.func b g j } cf h a)=>mA B y { d with un:=.func b g j } cf h 0 (p:Nat) (c:Nat) 0 0 none 0 0 [] a o q Z Z (Da.nil _ _ _ _) (Jo _));rw [F] at w;have z:W.heap.size≠y.P:=by have:=t.box.lt;omega
 have A:=H (show (V.setCell ⟨y.P,120,none⟩ (.func b g j)).heap[W.heap.size]?=some (.cells #[I 0,I p,I c,U (0:Nat),I 0,C] 202) from (t4 _ _ _ _ z).trans X);have G:=H r;have s:boxF cf y d h.used 120=d.un:=rfl;rw [s] at k;unfold kN at w ⊢;have K:=H (λa n q (o:Hp B y { d with f:=n,un:=.func b g j } cf { h with m:=q } a)=>LG (o.setDy 120 .nilFunc { d with f:=n,un:=.nilFunc } (.inr ⟨rfl,rfl⟩)) (LG (o.bi118 120 .nilFunc) (LG (o.cell 120 Z (.func b g j) rfl) (o.box.free 120))));have O:=Bl V _ y.P 120 b g j k f120;clear r i x X t F;go_enter func163,ntmps163;go_upto_region 1 with fail
 refine Eq.mp (congrArg _ u) ?_;clear u;go_upto_region 2 with fail
 generalize V.setCell ⟨y.P,120,none⟩ (.func b g j)=Q at *;generalize W.heap.size=X at A ⊢;go_wp2_with (first|(refine J0 rfl 202 _ rfl _ rfl _ _ _ _ A underlying202 rfl E ?_));refine (w _ G).mono ?_;clear w k f120 A G;by_cases r:(cf.bud:Int)<(bG h.m 283:Int)+c
 ·rw [tm r];rintro e a ⟨n,i,k,⟨t,_⟩|⟨_,rfl⟩⟩;·cases t
  exact⟨rfl,n,l.trans k,.inr ⟨r,rfl,i⟩⟩
 rw [tg r];rintro e a ⟨n,i,k,⟨_,v,rfl,_⟩|⟨t,_⟩⟩
 ·obtain⟨u,w,x,A⟩:=K.out a n _ i;have F:=H u;have G:=H (l.trans (k.trans w));have P:=mq a _ y.P 120 x A;clear u w i k K l;go_wp2;go_end0;exact⟨n,G,.inl ⟨Z,rfl,F⟩⟩
 exact absurd rfl t
theorem oO (a:W.mapTurned W' R):Fr R R (λ_=>none) (λ_=>none) W W':=(Fr.refl R R (λ_=>none) W).turned a
theorem iX (i:W.mapTurned W' R) (j:∃ d c,W.heap[R]?=some (.map d c)):Ky (λ_=>False) W W':=by
 have f:=oO i;obtain⟨d,c,k⟩:=j;refine⟨f.os,f.tape,f.output,f.size,λg l t m b _=>?_⟩;have a:g≠R:=λe=>by rw [e,k] at b;cases b
 rw [f.block g (ah b) a a (λk a=>by cases a)];exact b
theorem nE (d e:TypeId) (m x:Operand) {vm vx:Value} (c:o.op=Op.call { callee:=Callee.builtin Builtin.delete,args:=#[m,x],argTypes:=#[d,e] }) (f:a.eval m=vm) (g:a.eval x=vx)
  (b:(Builtin.delete_ #[d,e] o.type #[vm,vx]).run prog W=.ok v W') (i:K (a.put o.dst v) W'):Oper.wp prog o a W K Q:=by
 unfold Oper.wp;simp [execOp,c,resolve,invoke,builtin,f,g,b,Result.andThen];exact i
theorem tL (d:TypeId) (m x u:Operand) {vm vx vu:Value} (c:o.op=Op.mapUpdate d m x u) (e:a.eval m=vm) (f:a.eval x=vx) (g:a.eval u=vu)
  (b:(Instr.mapUpdate d vm vx vu).run prog W=.ok () W') (i:K (a.put o.dst undef) W'):Oper.wp prog o a W K Q:=by
 unfold Oper.wp;simp [execOp,c,e,f,g,b,Result.andThen];exact i
theorem Ky.cellK (k:Ky (λ_=>False) W W') {i:Nat} (h:W.cell? ⟨g,i,none⟩=some v):W'.cell? ⟨g,i,none⟩=some v:=by
 unfold World.cell? at h ⊢;split at h
 case h_1 c t f hg =>
  rw [k.cells g c t f hg (λe=>e)];exact h
 case h_2=>cases h
theorem Hp.turn (a:Hp B y d cf h W) (o:W.mapTurned W' y.R) (lg') (b:List Rg9) (p:Mr y.R b.length lg' W') (q:∀ k,(lg' k).isSome=b.any λr=>r.base==k) (t:∀ r∈b,∃ g,lg' r.base=some g/\B<=g/\W.heap[g]?=some (.cells (qk r) 209)) (u:∀ k f g,lg' k=some g->lg' f=some g->k=f) :
  Hp B y { d with lg:=lg' } cf { h with rg:=b } W'/\Bi B W W':=by
 have f:=oO o;have k:=iX o a.mp.typ;have n:Below B W W':=⟨f.os,f.tape,f.output,f.size,λg v=>f.block g (Ju v a.bW) (by have:=a.ap.bR;omega) (by have:=a.ap.bR;omega) (λj l=>by cases l)⟩;have w:W'.heap[y.M]?=W.heap[y.M]?:=f.block _ a.sp.lt.2 a.ap.mr a.ap.mr (λj l=>by cases l);exact⟨⟨a.ap,Jp a.bW n.size,a.box.ky k (λe=>e),a.ds.belowB n a.ap.da,a.sp.ky k (λe=>e) w,a.pg.ky k (λe=>e),a.bf,
 λc s i m=>k.cells _ _ _ _ (a.sl c s i m) (λe=>e),λc s i m=>cZ (a.rw c s i m) k (λe=>e),λc s j i m l=>k.cells _ _ _ _ (a.sm c s j i m l) (λe=>e),
 λc i=>(a.wt c i).ky k (λe=>e) (λe=>e) (λe=>e),p,q,λr x=>by obtain ⟨g,z,A,F⟩:=t r x;exact⟨g,z,A,k.cells _ _ _ _ F (λe=>e)⟩,u,a.ro.ky k (λe=>e),ai a.rl k (λe=>e),a.rr,a.tb.belowB n a.ap.b0⟩,n,k.more (λt e=>e.elim)⟩
theorem Hp.addR (i:Hp B y d cf h W) {r} {L:Nat} (p:W.heap[L]?=some (.cells (qk r) 209)) (l:B<=L) (b:∀ k,d.lg k≠some L) (q:d.lg r.base=none) (s:Mr y.R (h.rg.length+1) (upd d.lg r.base (some L)) W') (t:W.mapTurned W' y.R) :
  Hp B y { d with lg:=upd d.lg r.base (some L) } cf { h with rg:=h.rg++[r] } W'/\Bi B W W':=by
 refine i.turn t _ (h.rg++[r]) (by rw [Jv];exact s) (λk=>?_) (λm n=>?_) (λk j g a c=>?_)
 ·rw [List.any_append];by_cases e:k=r.base;·subst e;rw [upd_same];simp
  rw [aL _ _ _ _ e,i.lo k];have:(r.base==k)=false:=cd;simp [this]
 ·rcases JV.1 n with a|a
  ·obtain⟨g,f,u,v⟩:=i.lb m a;have o:m.base≠r.base:=λe=>by rw [e,q] at f;cases f
   exact⟨g,by rw [aL _ _ _ _ o];exact f,u,v⟩
  have:m=r:=by simpa using a
  subst this;exact⟨L,upd_same _ _ _,l,p⟩
 by_cases e:k=r.base
 ·subst e;rw [upd_same] at a;cases a;by_cases f:j=r.base;·exact f.symm
  rw [aL _ _ _ _ f] at c;exact absurd c (b j)
 rw [aL _ _ _ _ e] at a;by_cases f:j=r.base
 ·subst f;rw [upd_same] at c;cases c;exact absurd a (b k)
 rw [aL _ _ _ _ f] at c;exact i.li k j g a c
theorem Hp.backR {r:Rg9} {L:Nat} {lg} (c:Hp B y d cf { h with rg:=h.rg++[r] } W) (f:d.lg=upd lg r.base (some L)) (i:lg r.base=none) (l:∀ k,(lg k).isSome=h.rg.any λr=>r.base==k) (m:Mr y.R h.rg.length (upd d.lg r.base none) W') (o:W.mapTurned W' y.R) :
  Hp B y { d with lg:=lg } cf h W'/\Bi B W W':=by
 have p:upd d.lg r.base none=lg:=by
  rw [f];funext k;by_cases e:k=r.base;·subst e;rw [upd_same,i]
  rw [aL _ _ _ _ e,aL _ _ _ _ e]
 rw [p] at m;have s:∀ b∈h.rg,b.base≠r.base:=λb a e=>by
  have:=l b.base;rw [e,i] at this;have j:h.rg.any (λx=>x.base==r.base)=true:=List.any_eq_true.2 ⟨b,a,by simp [e]⟩;rw [j] at this;cases this
 exact c.turn o lg h.rg m l (λb a=>by
  obtain⟨g,n,q,t⟩:=c.lb b (Ll _ a);rw [f,aL _ _ _ _ (s b a)] at n;exact⟨g,n,q,t⟩) (λk b g l j=>by
  have q:∀ k,lg k=some g->d.lg k=some g:=λk a=>by
   rw [f];by_cases e:k=r.base;·subst e;rw [i] at a;cases a
   rw [aL _ _ _ _ e];exact a
  exact c.li k b g (q k l) (q b j))
theorem zj (B y d cf) (h:Hs) (r:Rg9) (L l m:Nat) (lg W) (f:Hp B y d cf { h with rg:=h.rg++[r] } W) (g:d.lg=upd lg r.base (some L)) (j:lg r.base=none) (t:∀ k,(lg k).isSome=h.rg.any λr=>r.base==k) (k:Lc L r W) (F:r.base<18446744073709551616) (n:W.cell? ⟨l,0,none⟩=some (J y.P 0)) (o:W.cell? ⟨m,0,none⟩=some (J L 0)) :
  Calls prog 165 #[J l 0,J m 0] W λe W'=>e=.returned (.tuple #[])/\Hp B y { d with lg:=lg } cf h W'/\Bi B W W':=by
 have b:W.cell? ⟨y.P,115,none⟩=some (.map (some y.R)):=f.cell 115 Z _ rfl;have u:=H (λV (a:D W V)=>iK L r V (k.below a));have c:=H (λV (a:D W V)=>f.below a);have i:=H (λV W' (a:D W V) (mr:Mr y.R h.rg.length (upd d.lg r.base none) W') (mt:V.mapTurned W' y.R)=>(f.below a).backR g j t mr mt);have p:=H f.bW;have q:=H (show ((d.lg r.base).isSome=true) by rw [g,upd_same];rfl);have s:=H (show ∀ V,D W V->V.cell? ⟨l,0,none⟩=some (J y.P 0)/\V.cell? ⟨m,0,none⟩=some (J L 0)/\V.cell? ⟨y.P,115,none⟩=some (.map (some y.R)) from λV a=>⟨ol a n,ol a o,ol a b⟩);clear f g j t k n o b;go_enter func165,ntmps165;go_wp2;refine rh (S:=λa=>a.cell? ⟨l,0,none⟩=some (J y.P 0)/\a.cell? ⟨m,0,none⟩=some (J L 0)/\a.cell? ⟨y.P,115,none⟩=some (.map (some y.R))) ?_;have k:=s.out _ (Jn _ _).drew;iterate 5 (refine py k ?_;simp only [f0,f1,Nat.reduceAdd,lz,l0,ls])
 refine po 5 λK' n=>?_;go_simp;refine (u _ (Jn _ _).drew).mono ?_;rintro e K ⟨rfl,rfl⟩;have g:=s.out W.drew.drew (Jn _ _).drew.drew;refine n _ _ ⟨g,?_⟩;clear k;have k:=g;clear n K';refine po 6 λK' n=>?_
 obtain⟨v,b,j,f⟩:=(c W.drew.drew (Jn _ _).drew.drew).mp.del r.base F 0;have o:=H ((iX f (c W.drew.drew (Jn _ _).drew.drew).mp.typ));have w:=o.cellK g.1;have x:=o.cellK g.2.1;have z:=o.cellK g.2.2;refine nE 77 22 (.tmp 5) (.tmp 7) (vm:=.map (some y.R)) (vx:=U r.base) E E E b ?_;refine n _ _ ⟨⟨w,x,z⟩,?_⟩;refine bY ?_;have A:=H (i _ v (Jn _ _).drew.drew (by
   have:=j;rw [tm q.out] at this;simpa using this) f)
 have G:=H (show Bi B W v from ((Bi.refl B W).add (Jn _ _).drew.drew p).trans A.2);clear j f b o w x z g k i s u c;go_wp2;go_end0;exact⟨rfl,A.1,G⟩
theorem qJ (B y d cf) (h:Hs) (r:Rg9) (L b c:Nat) (lg W) (g:Hp B y d cf { h with rg:=h.rg++[r] } W) (j:d.lg=upd lg r.base (some L)) (l:lg r.base=none) (m:∀ k,(lg k).isSome=h.rg.any λr=>r.base==k) (k:Lc L r W) (q:r.base<18446744073709551616) (n:W.cell? ⟨b,0,none⟩=some (J y.P 0)) (o:W.cell? ⟨c,0,none⟩=some (J L 0)) (i:d.un=.func (.func 165) #[] #[J b 0,J c 0]) :
  Calls prog 52 #[J y.P 0] W λe W'=>e=.returned (.tuple #[])/\Hp B y { d with lg:=lg,un:=.nilFunc } cf h W'/\Bi B W W':=by
 have p:=H (zj B y d cf h r L b c lg W g j l m k q n o);have f:=g.cell 120 Z _ rfl;have a:∀ u,boxF cf y d u 120=d.un:=λ_=>rfl
 rw [a,i] at f;have nq:=λw=>rN (.func 165) #[] #[J b 0,J c 0] w
 have s:=H i;clear g j l m k n o a i;go_enter func52,ntmps52;go_wp2_with fail;refine (p).mono ?_;rintro e n ⟨rfl,a,g⟩;have i:=a.cell 120 Z (.func (.func 165) #[] #[J b 0,J c 0]) (by show d.un=_;exact s);have j:=mq _ _ y.P 120 i (a.box.free 120);have k:=H (a.setDy 120 .nilFunc { d with lg:=lg,un:=.nilFunc } (.inr ⟨rfl,rfl⟩));have l:=H (g.trans (a.bi118 120 .nilFunc));clear p a g;go_wp2;go_end0;exact⟨rfl,k,l⟩
theorem Hp.rows (a:Hp B y d cf h W) (k:Ky (λt=>t=22\/t=79) W W') (n:Below B W W') (t:W'.heap[y.M]?=W.heap[y.M]?) (u:W'.heap[y.R]?=W.heap[y.R]?) (l m:Value) (f b:List Nat) (v:Bxh y.P (boxF cf y { d with ro:=l,rl:=m } h.used) W') (o:Um B W' l f) (p:W'.ownsRow B 22 1 m b.length (Us b)) (q:∀ g,ew l=some g->m.ownBlock≠some g) :
  Hp B y { d with ro:=l,rl:=m } cf { h with row:=f,rel:=b } W' :=
 ⟨a.ap,Jp a.bW n.size,v,a.ds.belowB n a.ap.da,a.sp.ky k al t,a.pg.ky k al,a.bf,
 λc s e i=>k.cells _ _ _ _ (a.sl c s e i) al,λc s e i=>cZ (a.rw c s e i) k al,λc s j e i w=>k.cells _ _ _ _ (a.sm c s j e i w) al,
 λc e=>(a.wt c e).ky k al al al,a.mp.same u,a.lo,λr x=>by obtain ⟨g,o,p,q⟩:=a.lb r x;exact⟨g,o,p,k.cells _ _ _ _ q al⟩,a.li,o,p,q,a.tb.belowB n a.ap.b0⟩
theorem nS {l} (h:Um B W v l) (a:ew v=some g):B<=g/\∃ c,W.heap[g]?=some (.cells c 22):=by
 rcases h with ⟨rfl,_⟩|⟨f,o,b,c,rfl,d,e,_⟩;·cases a
 cases a;exact⟨d,c,e⟩
theorem Um.kept {l} (h:Um B W v l) (f:W.grownBy W' r) (a:∀ g,ew v=some g->r≠some g):Um B W' v l:=by
 rcases h with h|⟨g,o,b,c,rfl,i,d,j⟩;·exact .inl h
 exact .inr ⟨g,o,b,c,rfl,i,by rw [f.block g (ah d) (λe=>a g rfl e.symm)];exact d,j⟩
structure Gw (B:Nat) (y:Ly) (W W1:World):Prop where
 k:Ky (· = 22) W W1
 bl:Below B W W1
 m:W1.heap[y.M]?=W.heap[y.M]?
 r:W1.heap[y.R]?=W.heap[y.R]?
theorem Hp.gw (i:Hp B y d cf h W) {o:Option Nat} (j:∀ g,o=some g->B<=g/\∃ c,W.heap[g]?=some (.cells c 22)) (g:W.grownBy W1 o):Gw B y W W1:=by
 refine⟨Ky.grownO (λP a=>by obtain ⟨_,c,f⟩:=j P a;exact⟨c,22,(0,0),f,rfl⟩) g,(Jn B W).grown g i.bW (λr a=>(j r a).1),?_,?_⟩;·refine g.block _ i.sp.lt.2 (λe=>?_);obtain⟨_,c,f⟩:=j _ e.symm;obtain⟨a,⟨k,l,b,_⟩,_⟩:=i.sp.map;rw [f] at b;cases b
 obtain⟨k,l,b⟩:=i.mp.typ;refine g.block _ (ah b) (λe=>?_);obtain⟨_,c,f⟩:=j _ e.symm;rw [f] at b;cases b
theorem Gw.bi (g:Gw B y W W1):Bi B W W1:=⟨g.bl,g.k.more (λt e=>by subst e;unfold hI;decide)⟩
theorem Hp.setRl (b:Hp B y d cf h W) {v':Value} {k:List Nat} (own:W1.ownsRow B 22 1 v' k.length (Us k)) (g:W.grownBy W1 d.rl.ownBlock) (o:∀ g,ew d.ro=some g->v'.ownBlock≠some g) :
  Hp B y { d with rl:=v' } cf { h with rel:=k } (W1.setCell ⟨y.P,117,none⟩ v')/\Bi B W (W1.setCell ⟨y.P,117,none⟩ v')/\W1.cell? ⟨y.P,117,none⟩=some d.rl/\W1.frozen? ⟨y.P,117,none⟩=false:=by
 have f:=b.gw (λg a=>aD b.rl a) g;have l:=b.box.ky f.k al;have i:=l.set 117 Z v';rw [qi cf y d h.used 117 v' { d with rl:=v' } (.inr (.inl ⟨rfl,rfl⟩))] at i;have p:=b.ro.kept g (λj a=>b.rr j a);have kS:=l.kyS 117 v';have n:Below B W1 (W1.setCell ⟨y.P,117,none⟩ v'):=(Jn B W1).grown (au (ao W1 y.P) _ _) (Jp b.bW f.bl.size) (λr a=>by simp at a;have:=b.ap.bP;omega);have q:(W1.setCell ⟨y.P,117,none⟩ v').heap[y.M]?=W1.heap[y.M]?:=t4 _ _ _ _ (λe=>by
  obtain⟨c,m,_⟩:=b.box;obtain⟨a,⟨s,u,j,_⟩,_⟩:=b.sp.map;rw [e,m] at j;cases j)
 have a:(W1.setCell ⟨y.P,117,none⟩ v').heap[y.R]?=W1.heap[y.R]?:=t4 _ _ _ _ (λe=>by
  obtain⟨c,m,_⟩:=b.box;obtain⟨s,u,j⟩:=b.mp.typ;rw [e,m] at j;cases j)
 have v:=l.cell 117 Z;refine⟨b.rows ((f.k.more (λt e=>.inl e)).trans (kS.more (λt e=>.inr e))) (f.bl.trans n) (q.trans f.m) (a.trans f.r) d.ro v' h.row k i (p.ky kS al) (ai own kS al) o,f.bi.trans ⟨n,kS.more (λt e=>by subst e;unfold hI;decide)⟩,v,l.free 117⟩
end
end Go.Proofs.YtdfodlhkdmkfdaaGreatDoor
