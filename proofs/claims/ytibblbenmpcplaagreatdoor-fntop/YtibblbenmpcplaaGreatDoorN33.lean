import Derived.Test.YtibblbenmpcplaaGreatDoorN32
set_option linter.unusedVariables false
set_option linter.unusedSimpArgs false
set_option maxRecDepth 20000
set_option maxHeartbeats 8000000
namespace Go.Proofs.YtibblbenmpcplaaGreatDoor
open Go.Proofs.Tryz
section
open Go.RowKit
def eZ (o:fL) (d:Option Addr) (dc:Nat):Value:=.agg #[I o.kd,I o.ref,U o.p,U o.a,U o.b,.slice d o.ys.length dc]
def vS (B:Nat) (x:Sm) (cf:Cf) (W:World) (r:An4×Hs) (e:Ending) (W':World):Prop:=∃ (i:Sm) (v:Value),e=.returned (jP r.1 v)/\W'.ownsRow W.heap.size 5 1 v r.1.data.length (Ns .u8 r.1.data)/\(∀ g,v.ownBlock=some g->¬e_ x.Q W' g)/\i.P=x.P/\i.Q=x.Q/\l_ i/\Sh B i cf r.2 W'/\Bk B x.Q W W'
structure vT (B:Nat) (x:Sm) (cf:Cf) (h:Hs) (k:Nat) (o:fL) (p:Nat) (d:Option Addr) (W:World):Prop where
 sh:Sh B x cf h W
 sep:l_ x
 b:B<=W.heap.size
 inv:Inv cf h
 few:Few k h
 hk:k<=300
 dok:mE cf
 large:1<=cf.large
 hp:p<18446744073709551616
 ha:o.a<18446744073709551616
 hb:o.b<18446744073709551616
 dt:Dt x.Q W d o.ys.length o.ys
theorem eL (W:World) (B:Nat):W.ownsRow B 5 1 (C) ([]:List Int).length (Ns .u8 []):=⟨rfl,.inl ⟨rfl,rfl⟩⟩
theorem cH {B} {x c:Sm} {cf W W'} {a:An4} {h'} (d:a.data=[]) (e:c.P=x.P) (f:c.Q=x.Q) (i:l_ c) (s:Sh B c cf h' W') (b:Bk B x.Q W W'):vS B x cf W (a,h') (.returned (jP a (C))) W' :=
 ⟨c,C,rfl,by rw [d];exact eL W' _,λg j=>by simp [Value.ownBlock] at j,e,f,i,s,b⟩
theorem mV (cf h p a old):(iQ cf h p a old).1.data=[]:=by
 unfold iQ;cases av cf h a with
 | mk u b=>cases u <;> rfl
theorem pI (cf h p a):(a_ cf h p a).1.data=[]:=by
 rw [hH];split;·unfold oW;cases (av cf h a).1 <;> rfl
 cases aB h p with
 | no b=>rfl
 | slot c s j =>
  dsimp only;split;·rfl
  split;·rfl
  exact mV _ _ _ _ _
 | range r =>
  dsimp only;split;·rfl
  exact mV _ _ _ _ _
theorem fB {P:Program} {e:Array Oper} {Q:Exit->Act->World->Prop} {i:Nat} {o:Oper} {K:Act->World->Prop} {a:Act} {w:World} (l:e[i]?=some o) (j:o.guard=none) (k:TypeId) (x y:Operand) (m:o.op=.store k x y) (g) (b:Array Value) (n:a.eval x=J g 0) (p:a.eval y=.agg b) (t:TypeId) (c:Array Value) (q:w.heap[g]?=some (.cells c t)) (d:(P.info? k).map (·.size)=some b.size) (f:c.size=b.size) (r:b.all (·.oneCell')=true) (h:K (a.put o.dst undef) (w.setRow g b)):wpOp P e Q i K a w :=
 fO l (by simp [Region.wanted,j]) (λK' a=>Ih k x y m g b n p t c q d f r (a _ _ h))
theorem vM {w:World} {g r:Nat} {c:Array Value} {t:TypeId} {f:Nat×Nat} (a:w.heap[g]?=some (.cells c t f)) (b:Array Value) (d:g≠r):(w.setRow r b).heap[g]?=some (.cells c t f):=by
 rw [(aj w r b).block g (ag a) bG];exact a
theorem iH {B x cf h k o p d W} {V:World} (b:vT B x cf h k o p d W) (kd) (a:Nat) (g:(W.alloc (.cells #[I kd,I o.ref,U o.p,U o.a,U o.b,.slice d o.ys.length a] 42)).alloc (.cells #[I 0,U 0,I 0,C] 44)=V) :
  Hid (Sh B x cf h V)/\Hid (Bk B x.Q W V)/\Hid (V.heap[W.heap.size+1]?=some (.cells #[I 0,U 0,I 0,C] 44))/\Hid (Dt x.Q V d o.ys.length o.ys)/\V.cell? ⟨W.heap.size,0,none⟩=some (I kd)/\V.cell? ⟨W.heap.size,3,none⟩=some (U o.a)/\V.cell? ⟨W.heap.size,4,none⟩=some (U o.b)/\V.cell? ⟨W.heap.size,5,none⟩=some (.slice d o.ys.length a)/\V.heap[W.heap.size]?=some (.cells #[I kd,I o.ref,U o.p,U o.a,U o.b,.slice d o.ys.length a] 42):=by
 subst g;have c:D W ((W.alloc (.cells #[I kd,I o.ref,U o.p,U o.a,U o.b,.slice d o.ys.length a] 42)).alloc (.cells #[I 0,U 0,I 0,C] 44)):=((Fu _ _).alloc (Fv _) _).alloc (by rw [aO];omega) _;have e:=ao (W.alloc (.cells #[I kd,I o.ref,U o.p,U o.a,U o.b,.slice d o.ys.length a] 42)) (.cells #[I 0,U 0,I 0,C] 44);have f:=(eg (W.alloc (.cells #[I kd,I o.ref,U o.p,U o.a,U o.b,.slice d o.ys.length a] 42)) (.cells #[I 0,U 0,I 0,C] 44) W.heap.size (by rw [aO];omega)).trans (ao W _);rw [aO] at e;refine⟨H (b.sh.below c),H (b.sh.bkB (Bk.refl _ _ _) b.b c),H e,H (b.dt.keep (Sf.ofBelow c b.sh.ltQ)),?_,?_,?_,?_,f⟩ <;> (simp only [World.cell?,f];rfl)
theorem Ei (B x cf h k o p d dc W) (z:vT B x cf h k o p d W) (c:o.kd=0) :
  Calls prog 56 #[J x.P 0,eZ o d dc,U p] W λe P=>vS B x cf W (dv cf h o p) e P:=by
 have A:=H (show dv cf h o p=oW cf h o.a by
  unfold dv oW;dsimp only;rw [GP c];cases av cf h o.a with
  | mk u a=>cases u <;> rfl)
 obtain⟨f,a⟩:∃ f,dv cf h o p=f:=⟨_,rfl⟩;rw [a];rw [a] at A;unfold eZ;rw [c];obtain⟨F,g⟩:∃ F,(W.alloc (.cells #[I 0,I o.ref,U o.p,U o.a,U o.b,.slice d o.ys.length dc] 42)).alloc (.cells #[I 0,U 0,I 0,C] 44)=F:=⟨_,rfl⟩;obtain⟨G,n,l,Q,q,r,s,t,O⟩:=iH z 0 dc g;subst g;obtain⟨y,b,S,i,m,T,j,X,hp,ha,hb,v⟩:=z;have K:=H S;have HD:=H j;have HI:=H i;have L:=H b;have Y:=H m;have M:=y.ltQ;have a0:=m.rg;have hrel:=m.rel;have N:=H (λV (w:Sh B x cf h V) (c:B<=V.heap.size)=>jT B x cf h k o.a V w b c i m T j ha);clear y i j b O v a;go_enter func56,ntmps56;go_wp2_with fail;generalize w:(W.alloc _).alloc _=V at G n l Q q r s t ⊢;obtain⟨O,a⟩:∃ O,O=W.heap.size:=⟨_,rfl⟩;rw [<-a] at q r s t l ⊢;have HO:=H a;have HQ:=H M;clear a M w;obtain⟨R,a⟩:∃ R,R=O+1:=⟨_,rfl⟩;rw [<-a] at l ⊢;have HR:=H (show W.heap.size<=R by rw [a,HO.out];omega);clear a;refine (N _ G (Fx K n.bel.size)).mono ?_;rintro e V1 ⟨x1,rfl,b,i,j,M,v⟩;have y:=H (v.at l (eB ar));have S1:=H M;have B1:=H (n.trans v);have a:=H (IT b (IT i j));clear M v b i j N q r s t;go_wp2_with (refine eG y ?_);refine fM (aw y _) underlying44 ?_;rw [A.out];refine cH ?_ a.1 a.2.1 a.2.2 (S1.off81 y _) (B1.loc (aj _ R _) HR HQ K);cases (av cf h o.a).1 <;> rfl
theorem CQ (B x cf h k o p d dc W) (u:vT B x cf h k o p d W) (g:o.kd=1) (b:18446744073709551616<=o.a*o.b) :
  Calls prog 56 #[J x.P 0,eZ o d dc,U p] W λe M=>vS B x cf W (dv cf h o p) e M:=by
 have v:=H (show dv cf h o p=(.no 1,h) by
  unfold dv;dsimp only;rw [GO Z,GP g,GP b])
 obtain⟨i,a⟩:∃ i,dv cf h o p=i:=⟨_,rfl⟩;rw [a];rw [a] at v;unfold eZ;rw [g];obtain⟨w,j⟩:∃ w,(W.alloc (.cells #[I 1,I o.ref,U o.p,U o.a,U o.b,.slice d o.ys.length dc] 42)).alloc (.cells #[I 0,U 0,I 0,C] 44)=w:=⟨_,rfl⟩;obtain⟨y,z,f,N,m,n,q,r,O⟩:=iH u 1 dc j;subst j;obtain⟨A,c,P,F,s,hk,G,Q,hp,ha,S,t⟩:=u;have T:=H P;have HD:=H G;have HI:=H F;have l:=H c;have X:=H s;have K:=A.ltQ;have Y:=s.rg;have hrel:=s.rel;have L:=H (λV=>product.sp_Product_no o.a o.b ha S b V);clear A F G c O t a;go_enter func56,ntmps56;go_wp2_with fail;generalize c:(W.alloc _).alloc _=V at y z f N m n q r ⊢;obtain⟨O,a⟩:∃ O,O=W.heap.size:=⟨_,rfl⟩;rw [<-a] at m n q r f ⊢;have t:=H a;have A:=H K;clear a K c;obtain⟨R,a⟩:∃ R,R=O+1:=⟨_,rfl⟩;rw [<-a] at f ⊢;have c:=H (show W.heap.size<=R by rw [a,t.out];omega);clear a;refine (L _).mono ?_;rintro e a ⟨rfl,rfl⟩;clear L m n q r;go_wp2_with (refine eG f ?_);refine fM (aw f _) underlying44 ?_;rw [v.out];exact cH rfl rfl rfl l (y.off81 f _) (z.loc (aj _ R _) c A T)
theorem Co (B x cf h k o p d dc W) (A:vT B x cf h k o p d W) (f:o.kd=1) (c:o.a*o.b<18446744073709551616) :
  Calls prog 56 #[J x.P 0,eZ o d dc,U p] W λe T=>vS B x cf W (dv cf h o p) e T:=by
 have F:=H (show dv cf h o p=oW cf h (o.a*o.b) by
  unfold dv oW;dsimp only;rw [GO Z,GP f,GO Z];cases av cf h (o.a*o.b) with
  | mk u a=>cases u <;> rfl)
 obtain⟨g,a⟩:∃ g,dv cf h o p=g:=⟨_,rfl⟩;rw [a];rw [a] at F;unfold eZ;rw [f];obtain⟨G,i⟩:∃ G,(W.alloc (.cells #[I 1,I o.ref,U o.p,U o.a,U o.b,.slice d o.ys.length dc] 42)).alloc (.cells #[I 0,U 0,I 0,C] 44)=G:=⟨_,rfl⟩;obtain⟨K,q,m,X,r,s,t,v,O⟩:=iH A 1 dc i;subst i;obtain⟨L,b,Y,j,n,hk,l,a0,hp,ha,M,w⟩:=A;have N:=H Y;have HD:=H l;have HI:=H j;have P:=H b;have a1:=H n;have Q:=L.ltQ;have a2:=n.rg;have hrel:=n.rel;have S:=H (λV (y:Sh B x cf h V) (f:B<=V.heap.size)=>jT B x cf h k (o.a*o.b) V y b f j n hk l c);have PR:=H (λV=>show Calls prog 20 #[U o.a,U o.b] V λe f=>e=.returned (.tuple #[U ((o.a*o.b:Nat):Int),.bool true])/\f=V by
  rcases Nat.eq_zero_or_pos o.a with z|z;·have:=product.sp_Product_zero o.b M V;rw [z];simpa using this
  exact product.sp_Product_yes o.a o.b z ha M c V)
 generalize o.a*o.b=ab at *;clear L j l b O w a;go_enter func56,ntmps56;go_wp2_with fail;generalize y:(W.alloc _).alloc _=V at K q m X r s t v ⊢;obtain⟨O,a⟩:∃ O,O=W.heap.size:=⟨_,rfl⟩;rw [<-a] at r s t v m ⊢;have HO:=H a;have HQ:=H Q;clear a Q y;obtain⟨R,a⟩:∃ R,R=O+1:=⟨_,rfl⟩;rw [<-a] at m ⊢;have Q:=H (show W.heap.size<=R by rw [a,HO.out];omega);clear a;refine (PR _).mono ?_;rintro e V0 ⟨rfl,rfl⟩;go_wp2_with fail;refine (S _ K (Fx N q.bel.size)).mono ?_;rintro e V1 ⟨x1,rfl,b,j,l,L,w⟩;have z:=H (w.at m (eB ar));have S1:=H L;have B1:=H (q.trans w);have a:=H (IT b (IT j l));clear L w b j l S r s t v;go_wp2_with (refine eG z ?_);refine fM (aw z _) underlying44 ?_;rw [F.out];refine cH ?_ a.1 a.2.1 a.2.2 (S1.off81 z _) (B1.loc (aj _ R _) Q HQ N);cases (av cf h ab).1 <;> rfl
theorem DX (B x cf h k o p d dc W) (z:vT B x cf h k o p d W) (c:o.kd=2) :
  Calls prog 56 #[J x.P 0,eZ o d dc,U p] W λe P=>vS B x cf W (dv cf h o p) e P:=by
 have A:=H (show dv cf h o p=a_ cf h p o.a by
  unfold dv;dsimp only;rw [GO Z,GO Z,GP c])
 obtain⟨f,a⟩:∃ f,dv cf h o p=f:=⟨_,rfl⟩;rw [a];rw [a] at A;unfold eZ;rw [c];obtain⟨F,g⟩:∃ F,(W.alloc (.cells #[I 2,I o.ref,U o.p,U o.a,U o.b,.slice d o.ys.length dc] 42)).alloc (.cells #[I 0,U 0,I 0,C] 44)=F:=⟨_,rfl⟩;obtain⟨G,n,l,Q,q,r,s,t,O⟩:=iH z 2 dc g;subst g;obtain⟨y,b,S,i,m,T,j,u,X,ha,hb,v⟩:=z;have K:=H S;have HD:=H j;have HI:=H i;have L:=H b;have Y:=H m;have M:=y.ltQ;have a0:=m.rg;have hrel:=m.rel;have N:=H (λV (w:Sh B x cf h V) (c:B<=V.heap.size)=>tv B x cf h k p o.a V w b c i m T j u X ha);clear y i j b O v a;go_enter func56,ntmps56;go_wp2_with fail;generalize w:(W.alloc _).alloc _=V at G n l Q q r s t ⊢;obtain⟨O,a⟩:∃ O,O=W.heap.size:=⟨_,rfl⟩;rw [<-a] at q r s t l ⊢;have HO:=H a;have HQ:=H M;clear a M w;obtain⟨R,a⟩:∃ R,R=O+1:=⟨_,rfl⟩;rw [<-a] at l ⊢;have HR:=H (show W.heap.size<=R by rw [a,HO.out];omega);clear a;refine (N _ G (Fx K n.bel.size)).mono ?_;rintro e V1 ⟨x1,rfl,b,i,j,M,v⟩;have y:=H (v.at l (eB ar));have S1:=H M;have B1:=H (n.trans v);have a:=H (IT b (IT i j));clear M v b i j N q r s t;go_wp2_with (refine eG y ?_);refine fM (aw y _) underlying44 ?_;rw [A.out];refine cH ?_ a.1 a.2.1 a.2.2 (S1.off81 y _) (B1.loc (aj _ R _) HR HQ K);exact pI cf h p o.a
theorem Dm (B x cf h k o p d dc W) (hA:vT B x cf h k o p d W) (L:o.kd=3) :
  Calls prog 56 #[J x.P 0,eZ o d dc,U p] W λe W'=>vS B x cf W (dv cf h o p) e W':=by
 have n:=H (show dv cf h o p=(match aB h p with
  | .no code=>(.no code,h)
  | .slot c s j=>if sound cf h c s j=false then (.no 5,h) else (.no 0,aL cf h c s j)
  | .range r=>(.no 0,aJ cf h r)) by
  unfold dv;dsimp only;rw [GO Z,GO Z,GO Z,GP L];cases aB h p <;> rfl)
 obtain⟨f,a⟩:∃ f,dv cf h o p=f:=⟨_,rfl⟩;rw [a];rw [a] at n;unfold eZ;rw [L];obtain⟨V9,M⟩:∃ V9,(W.alloc (.cells #[I 3,I o.ref,U o.p,U o.a,U o.b,.slice d o.ys.length dc] 42)).alloc (.cells #[I 0,U 0,I 0,C] 44)=V9:=⟨_,rfl⟩;obtain⟨l,v,m,DT,w,y,G,K,S⟩:=iH hA 3 dc M;subst M;obtain⟨P,b,hB,A,T,hk,F,a0,hp,ha,hb,O⟩:=hA;have q:=H hB;have HD:=H F;have HI:=H A;have t:=H b;have a1:=H T;have R:=P.ltQ;have a2:=T.rg;have hrel:=T.rel;have Q:=H (λV (N:Sh B x cf h V)=>kZ B x cf h p V N Z Z);have u:=jt h p;obtain⟨fd,g⟩:∃ fd,aB h p=fd:=⟨_,rfl⟩;obtain⟨⟨t1,t2,X⟩,i⟩:∃ z,fE h p=z:=⟨_,rfl⟩;rw [g,i] at u;rw [g] at n;rw [i] at Q;clear g i;have z:=H (λV (N:Sh B x cf h V) (g:B<=V.heap.size) (h3:Hid (X=0))=>uq B x cf h k p fd t1 t2 X V N b g A T Z F a0 u h3);clear P A F b S O a;go_enter func56,ntmps56;go_wp2_with fail;generalize N:(W.alloc _).alloc _=V at l v m DT w y G K ⊢;obtain⟨O,a⟩:∃ O,O=W.heap.size:=⟨_,rfl⟩;rw [<-a] at w y G K m ⊢;have HO:=H a;have Y:=H R;clear a R N;obtain⟨R,a⟩:∃ R,R=O+1:=⟨_,rfl⟩;rw [<-a] at m ⊢;have HR:=H (show W.heap.size<=R by rw [a,HO.out];omega);clear a;refine (Q _ l).mono ?_;rintro e V1 ⟨rfl,a⟩;have A:=H (l.below a);have P:=H (l.bkB v q a);have F:=H (ae m a);clear a l v m Q w y G K;unfold C4;cases u with
 | no code G =>
  have b:(X==0)=false:=by rcases G with rfl|rfl <;> rfl
  have a:=H (show f=(.no X,h) from n);clear G n z;go_wp2_with (refine eG F ?_);refine fM (aw F _) underlying44 ?_;rw [a.out];exact cH rfl rfl rfl t (A.off81 F _) (P.loc (aj _ R _) HR Y q)
 | slot c s j K hK g m w =>
  have v:=mj hK;rw [g] at v;dsimp only at v;obtain⟨G,Q,hj⟩:=v;have S:=aX G;have l:=HI.on1 G Q hj (by rw [w];rfl);have y:=H (q_ B x cf h K c s j V1 A hK g HD.key0 HD.key1 (λi b=>by
   have:=HI.openS (k:=eV c+i) G Q hj l Z;rw [H_];exact this))
  have a3:(0:Int)<=(K:Int):=Z;have b:=H (show f=if sound cf h c s j=false then (.no 5,h) else (.no 0,aL cf h c s j) from n);clear n S l g m w;go_wp2_with fail;refine y.mono ?_;rintro e V2 ⟨rfl,g⟩;have S2:=H (A.below g);have B2:=H (A.bkB P q g);have X2:=H (ae F g);clear g y A P F;cases g:sound cf h c s j;·have a:=H (b.trans (GP g));clear g z b;go_wp2_with (refine eG X2 ?_);refine fM (aw X2 _) underlying44 ?_;rw [a.out];exact cH rfl rfl rfl t (S2.off81 X2 _) (B2.loc (aj _ R _) HR Y q)
  have a:=H (b.trans (GO (by rw [g];decide)));clear g b;go_wp2_with fail;refine (z _ S2 (Fx q B2.bel.size) (H (by trivial))).mono ?_;rintro e V3 ⟨rfl,x3,g,l,m,S,w⟩;have y:=H (w.at X2 (eB ar));have S3:=H S;have B3:=H (B2.trans w);have b:=H (IT g (IT l m));clear S w g l m z;go_wp2_with (refine eG y ?_);refine fM (aw y _) underlying44 ?_;rw [a.out];exact cH rfl b.1 b.2.1 b.2.2 (S3.off81 y _) (B3.loc (aj _ R _) HR Y q)
 | range r i K hb v =>
  have a:=H (show f=(.no 0,aJ cf h r) from n);clear n;go_wp2_with fail;refine (z _ A (Fx q P.bel.size) (H (by trivial))).mono ?_;rintro e V3 ⟨rfl,x3,g,l,m,S,w⟩;have y:=H (w.at F (eB ar));have S3:=H S;have B3:=H (P.trans w);have b:=H (IT g (IT l m));clear S w g l m z;go_wp2_with (refine eG y ?_);refine fM (aw y _) underlying44 ?_;rw [a.out];exact cH rfl b.1 b.2.1 b.2.2 (S3.off81 y _) (B3.loc (aj _ R _) HR Y q)
theorem Ec (B x cf h k o p d dc W) (X:vT B x cf h k o p d W) (t:o.kd=4) :
  Calls prog 56 #[.pointer (some ⟨x.P,0,none⟩),eZ o d dc,.int .u64 p] W λe W'=>vS B x cf W (dv cf h o p) e W':=by
 have m:=H (show dv cf h o p=(match aB h p with
  | .no code=>(.no code,h)
  | .slot c s j=>(⟨0,0,eV c,[]⟩,h)
  | .range r=>(⟨0,0,r.pages*1024,[]⟩,h)) by
  unfold dv;dsimp only;rw [GO Z,GO Z,GO Z,GO Z,GP t];cases aB h p <;> rfl)
 obtain⟨a,b⟩:∃ a,dv cf h o p=a:=⟨_,rfl⟩;rw [b];rw [b] at m;unfold eZ;rw [t];obtain⟨Y,u⟩:∃ Y,(W.alloc (.cells #[.int .i64 4,.int .i64 o.ref,.int .u64 (o.p:Nat),.int .u64 (o.a:Nat),.int .u64 (o.b:Nat),.slice d o.ys.length dc] 42)).alloc (.cells #[.int .i64 0,.int .u64 0,.int .i64 0,.slice none 0 0] 44)=Y:=⟨_,rfl⟩;obtain⟨q,A,v,DT,F,G,K,L,S⟩:=iH X 4 dc u;subst u;obtain⟨z,g,hB,O,M,hk,Q,a0,hp,ha,hb,n⟩:=X;have w:=H hB;have HD:=H Q;have HI:=H O;have f:=H g;have a1:=H M;have R:=z.ltQ;have a2:=M.rg;have hrel:=M.rel;have N:=H (λV (P:Sh B x cf h V)=>kZ B x cf h p V P Z Z);have y:=jt h p;obtain⟨fd,i⟩:∃ fd,aB h p=fd:=⟨_,rfl⟩;obtain⟨⟨t1,t2,t3⟩,l⟩:∃ t,fE h p=t:=⟨_,rfl⟩;rw [i,l] at y;rw [i] at m;rw [l] at N;clear i l;clear z O Q g S n b;go_enter func56,ntmps56;go_wp2_with fail;generalize P:(W.alloc _).alloc _=V at q A v DT F G K L ⊢;obtain⟨O,b⟩:∃ O,O=W.heap.size:=⟨_,rfl⟩;rw [<-b] at F G K L v ⊢;have HO:=H b;have Q:=H R;clear b R P;obtain⟨R,b⟩:∃ R,R=O+1:=⟨_,rfl⟩;rw [<-b] at v ⊢;have S:=H (show W.heap.size<=R by rw [b,HO.out];omega);clear b;refine (N _ q).mono ?_;rintro e T ⟨rfl,g⟩;have b:=H (q.below g);have z:=H (q.bkB A w g);have n:=H (ae v g);clear g q A v N F G K L;unfold C4;cases y with
 | no code v =>
  have g:(t3 != 0)=true:=by rcases v with rfl|rfl <;> rfl
  have l:=H (show a=(.no t3,h) from m);clear v m;go_wp2_with (refine eG n ?_);refine fM (aw n _) underlying44 ?_;rw [l.out];exact cH rfl rfl rfl f (b.off81 n _) (z.loc (aj _ R _) S Q w)
 | slot c s j K F g A L =>
  have i:=mj F;rw [g] at i;dsimp only at i;obtain⟨v,N,hj⟩:=i;have a3:(0:Int)<=(K:Int):=Z;have l:=H (show a=(⟨0,0,eV c,[]⟩,h) from m);have c7:T.cell? ⟨x.P,7,none⟩=some (.slice (some ⟨x.G,0,none⟩) 1062 x.gc):=b.cell 7 _ rfl;obtain⟨q,_,_,_,_,_⟩:=b.slot F;rw [g] at q;have q:T.cell? ⟨x.G,K*6,none⟩=some (.int .i64 (c:Nat)):=q;have G:=H (λV=>xq c V v);clear m g A L;go_wp2_with fail;refine (G _).mono ?_;rintro e V2 ⟨rfl,g⟩;have L:=H (b.below g);have B2:=H (b.bkB z w g);have A:=H (ae n g);clear g b z n c7 q G;go_wp2_with (refine eG A ?_);refine fM (aw A _) underlying44 ?_;rw [l.out];exact cH rfl rfl rfl f (L.off81 A _) (B2.loc (aj _ R _) S Q w)
 | range r i A F K =>
  have L:=(Fz.1 A).1;have q:=HI.rgs r (FM A);have N:r.pages<=96:=by unfold Rg9.ext at q;omega
  obtain⟨ra,rc,g⟩:=aK b.rg;obtain⟨G,rfl⟩:=cr (g▸b.rg) Z;obtain⟨_,_,_,d3,_,_⟩:=b.range g A;have c9:T.cell? ⟨x.P,9,none⟩=some (.slice (some ⟨G,0,none⟩) h.rg.length rc):=by rw [<-g];exact b.cell 9 _ rfl
  have l:=H (show a=(⟨0,0,r.pages*1024,[]⟩,h) from m);have a3:(i:Int)<(h.rg.length:Int):=Z;have HM:=H (show ((r.pages*1024:Nat):Int)=((r.pages:Nat):Int)*1024 by simp);generalize r.pages=rp at *;clear m q g A F K;go_wp2_with (refine eG n ?_);refine fM (aw n _) underlying44 ?_;rw [l.out];refine⟨x,.slice none 0 0,?_,eL _ _,λg q=>by simp [Value.ownBlock] at q,rfl,rfl,f,b.off81 n _,z.loc (aj _ R _) S Q w⟩;unfold jP;dsimp only;rw [HM.out];rfl
theorem BZ (B x cf h k o p d dc W) (r:vT B x cf h k o p d W) (c:o.kd=5) (f:4096<o.a) :
  Calls prog 56 #[J x.P 0,eZ o d dc,U p] W λe z=>vS B x cf W (dv cf h o p) e z:=by
 have s:=H (show dv cf h o p=(.no 6,h) by
  unfold dv;dsimp only;rw [GO Z,GO Z,GO Z,GO Z,GO Z,GP c,GP f])
 obtain⟨g,a⟩:∃ g,dv cf h o p=g:=⟨_,rfl⟩;rw [a];rw [a] at s;unfold eZ;rw [c];obtain⟨t,i⟩:∃ t,(W.alloc (.cells #[I 5,I o.ref,U o.p,U o.a,U o.b,.slice d o.ys.length dc] 42)).alloc (.cells #[I 0,U 0,I 0,C] 44)=t:=⟨_,rfl⟩;obtain⟨N,O,P,Q,R,S,T,V,A⟩:=iH r 5 dc i;subst i;obtain⟨l,b,F,u,m,X,w,G,Y,ha,hb,n⟩:=r;have K:=H F;have HD:=H w;have HI:=H u;have j:=H b;have L:=H m;have hQ:=l.ltQ;have M:=m.rg;have hrel:=m.rel;have y:=H l;have q:(4096:Int)<(o.a:Int):=Z;clear l u w b A n a;go_enter func56,ntmps56;go_wp2;have a:D W ((W.alloc (.cells #[I 5,I o.ref,U o.p,U o.a,U o.b,.slice d o.ys.length dc] 42)).alloc (.cells #[I 6,U 0,I 0,C] 44)):=((Fu _ _).alloc (Fv _) _).alloc (by rw [aO];omega) _;refine GX (v:=.agg #[I 6,U 0,I 0,C]) (by simp [results,Tryz.results56,go_sem]) rfl ?_;rw [s.out];exact cH rfl rfl rfl j (y.below a) (y.bkB (Bk.refl _ _ _) K a)
theorem AU (B x cf h k o p d dc W) (hA:vT B x cf h k o p d W) (L:o.kd=5) (a3:o.a<=4096) :
  Calls prog 56 #[J x.P 0,eZ o d dc,U p] W λe X=>vS B x cf W (dv cf h o p) e X:=by
 have Y:=H (show dv cf h o p=(⟨ci h.m p (o.a:Int),0,0,if ci h.m p (o.a:Int)=0 then aH h.m p o.a else []⟩,h) by
  unfold dv;dsimp only;rw [GO Z,GO Z,GO Z,GO Z,GO Z,GP L,GO Z])
 obtain⟨M,f⟩:∃ M,dv cf h o p=M:=⟨_,rfl⟩;rw [f];rw [f] at Y;unfold eZ;rw [L];obtain⟨V9,N⟩:∃ V9,(W.alloc (.cells #[I 5,I o.ref,U o.p,U o.a,U o.b,.slice d o.ys.length dc] 42)).alloc (.cells #[I 0,U 0,I 0,C] 44)=V9:=⟨_,rfl⟩;obtain⟨s,BA,XA,DT,o0,q,o4,o5,P⟩:=iH hA 5 dc N;subst N;obtain⟨n,g,hB,r,hf,hk,t,a4,hp,ha,hb,m⟩:=hA;have HB:=H hB;have HD:=H t;have HI:=H r;have Q:=H g;have a5:=H hf;have u:=n.ltQ;have a6:=hf.rg;have hrel:=hf.rel;obtain⟨j,i⟩:∃ j,ci h.m p (o.a:Int)=j:=⟨_,rfl⟩;rw [i] at Y;obtain⟨b,a⟩:∃ b,(if j=0 then aH h.m p o.a else [])=b:=⟨_,rfl⟩;rw [a] at Y;obtain⟨c,l⟩:∃ c,b.length=c:=⟨_,rfl⟩;have LD:=H (show ∀ V,Sx x.T x.Q 283 (cf.bud:Nat) h.m V->Calls prog 104 #[J x.T 0,U p,I o.a] V λe F=>∃ v,e=.returned (.agg #[I j,v])/\F.ownsRow V.heap.size 5 1 v c (Ns .u8 b)/\D V F from λV hV=>by
  have:=yY x.T x.Q 283 (cf.bud:Nat) h.m p (o.a:Int) V hV Z hp j i;rw [F0,a] at this;have e:(if j=0 then o.a else 0)=c:=by
   rw [<-l,<-a];split <;> simp [aH]
  rw [e] at this;exact this)
 have a0:=H l;have P:=H P;have a2:¬((4096:Int)<(o.a:Int)):=Z;have a7:IntKind.i64.wrap (o.a:Int)=(o.a:Int):=by rw [Hh];omega
 clear i a l;clear n r t g P m f;go_enter func56,ntmps56;go_wp2_with fail;generalize hV:(W.alloc _).alloc _=V at s BA XA DT P o0 q o4 o5 ⊢;obtain⟨O,a⟩:∃ O,O=W.heap.size:=⟨_,rfl⟩;rw [<-a] at o0 q o4 o5 XA P ⊢;have HO:=H a;have HQ:=H u;clear a u hV;obtain⟨R,a⟩:∃ R,R=O+1:=⟨_,rfl⟩;rw [<-a] at XA ⊢;have HR:=H (show W.heap.size<=R by rw [a,HO.out];omega);clear a;have w:V.cell? ⟨x.P,6,none⟩=some (J x.T 0):=s.cell 6 _ rfl;go_upto_region 28 with fail
 go_cut [15] (λg F=>∃ (a:Nat) (f:Option Addr) (i:Nat),g=J a 0/\Hid (D V F)/\Hid (F.heap[a]?=some (.cells #[I j,.slice f c i] 197))/\Hid (F.ownsRow V.heap.size 5 1 (.slice f c i) c (Ns .u8 b)));case first =>
  refine rh (S:=λX=>X.cell? ⟨x.P,6,none⟩=some (J x.T 0)/\X.cell? ⟨O,3,none⟩=some (U o.a)) ?_;have g:=(show _/\_ from ⟨w,q⟩);iterate 8 (refine py g ?_;simp only [f0,f1,Nat.reduceAdd,lz,l0,ls])
  refine lZ [8,9] λi9 l=>?_;rcases (by simpa using l:i9=8\/i9=9) with l|l
  ·subst l;refine cw λK' m=>?_;go_simp;refine (LD.out _ (s.below (Fu _ _).drew).sp).mono ?_;rintro e n ⟨v,rfl,T,t⟩;have y:D V n:=⟨t.os,t.tape,t.output,t.size,t.block⟩;have u:_/\_:=⟨ad y w,ad y q⟩;obtain⟨f,i,z⟩:=aK T;subst z;refine m.out _ _ ⟨u,?_⟩;clear g;have g:=u;clear m K';refine po 9 λK' m=>?_
   go_simp;have r:D n (n.alloc (.cells #[I 0,C] 197)):=(Fu _ _).alloc (Fv _) _;have G:_/\_:=⟨ad r u.1,ad r u.2⟩;refine m.out _ _ ⟨G,?_⟩;clear g;have g:=G;clear m K';refine gu 10 ?_;have K:=ao n (.cells #[I 0,C] 197);have k2:D n ((n.alloc (.cells #[I 0,C] 197)).setRow n.heap.size #[I j,.slice f c i]):=Below.setRow r (Fv _) _;have A:=az y k2;have zF:=aw K #[I j,.slice f c i];have oF:=ai T (Ky.below k2:Ky (λ_=>False) _ _) (λe=>e);refine fB rfl rfl 197 _ _ rfl n.heap.size #[I j,.slice f c i] rfl rfl 197 _ K E rfl mL ⟨⟨ad A w,ad A q⟩,?_⟩;clear g;refine bY ?_;go_wp2_with fail;go_meet;case rel=>exact ⟨_,f,i,rfl,H A,H zF,H oF⟩
  subst l;refine cw λK' m=>?_;go_simp;have r:D V (V.alloc (.cells #[I 0,C] 197)).drew:=((Fu _ _).alloc (Fv _) _).drew;have u:_/\_:=⟨ad r w,ad r q⟩;refine m.out _ _ ⟨u,?_⟩;clear g;have g:=u;clear m K';refine po 8 λK' m=>?_
  go_simp;refine (LD.out _ (s.below r).sp).mono ?_;rintro e n ⟨v,rfl,T,t⟩;have y:=az r t;have G:_/\_:=⟨ad y w,ad y q⟩;obtain⟨f,i,z⟩:=aK T;subst z;refine m.out _ _ ⟨G,?_⟩;clear g;have g:=G;clear m K';refine gu 10 ?_;have a1:(V.alloc (.cells #[I 0,C] 197)).drew.heap[V.heap.size]?=some (.cells #[I 0,C] 197):=ao V (.cells #[I 0,C] 197);have K:=ae a1 t;have A:D V (n.setRow V.heap.size #[I j,.slice f c i]):=Below.setRow y (Fv _) _;have zF:=aw K #[I j,.slice f c i];have oF:=dm (ai T (Ky.grown K rfl (aj n V.heap.size #[I j,.slice f c i]):Ky (· = 197) _ _) ar) r.size;refine fB rfl rfl 197 _ _ rfl V.heap.size #[I j,.slice f c i] rfl rfl 197 _ K E rfl mL ⟨⟨ad A w,ad A q⟩,?_⟩;clear g;refine bY ?_;go_wp2_with fail;go_meet;case rel=>exact ⟨_,f,i,rfl,H A,H zF,H oF⟩
 case rest =>
 obtain⟨a,f,i,rfl,z,A,OF⟩:=hcut;have l:=z.out;have K:=H (s.below l);have B3:=H (s.bkB BA.out HB.out l);have m:=H (ae XA.out l);have n:=A.out;have T:=OF;have r:=H (show ∀ g,e_ x.Q wc g->g<V.heap.size from λg t=>by
  obtain⟨c9,y⟩:=s.sp.pgT (cV (l.block x.Q s.ltQ) t);exact ag y)
 have z0:wc.cell? ⟨a,0,none⟩=some (I j):=by simp [World.cell?,n]
 have z1:wc.cell? ⟨a,1,none⟩=some (.slice f c i):=by simp [World.cell?,n]
 have y:=H (show W.heap.size<=V.heap.size from BA.bel.size);clear l n z A LD w o0 q o4 o5;go_wp2_with (refine eG m.out ?_);refine fM (aw m.out _) underlying44 ?_;rw [Y.out];have n:=aj wc R #[I j,U 0,I 0,.slice f c i];refine⟨x,.slice f c i,rfl,?_,λg t hp=>?_,rfl,rfl,Q.out,K.off81 m.out _,B3.loc n HR.out HQ.out HB.out⟩;·show World.ownsRow _ _ 5 1 _ b.length (Ns .u8 b);rw [a0.out];exact dm (ai T.out (Ky.grown m.out rfl n:Ky (· = 44) _ _) ar) y.out
 have u:V.heap.size<=g:=(aF T.out t).1;obtain⟨q,l⟩:=K.qrow;have G:=r.out g (cV (((Ky.grown m.out rfl n:Ky (· = 44) _ _).cells _ _ _ _ l ar).trans l.symm) hp);omega
theorem Em (B x cf h k o p d dc W) (N:vT B x cf h k o p d W) (i:o.kd=6) :
  Calls prog 56 #[J x.P 0,eZ o d dc,U p] W λe q=>vS B x cf W (dv cf h o p) e q:=by
 have v:=H (show dv cf h o p=(.no (ci h.m p (o.ys.length:Int)),{ h with m:=if ci h.m p (o.ys.length:Int)=0 then ay h.m p o.ys o.ys.length else h.m }) by
  unfold dv;dsimp only;rw [GO Z,GO Z,GO Z,GO Z,GO Z,GO Z,GP i])
 obtain⟨j,a⟩:∃ j,dv cf h o p=j:=⟨_,rfl⟩;rw [a];rw [a] at v;unfold eZ;rw [i];obtain⟨P,l⟩:∃ P,(W.alloc (.cells #[I 6,I o.ref,U o.p,U o.a,U o.b,.slice d o.ys.length dc] 42)).alloc (.cells #[I 0,U 0,I 0,C] 44)=P:=⟨_,rfl⟩;obtain⟨b,w,r,Q,y,z,A,s,g⟩:=iH N 6 dc l;subst l;obtain⟨L,c,hB,M,F,hk,O,a0,hp,ha,hb,G⟩:=N;have t:=H hB;have HD:=H O;have HI:=H M;have n:=H c;have a1:=H F;have R:=L.ltQ;have a2:=F.rg;have hrel:=F.rel;obtain⟨u,f⟩:∃ u,ci h.m p (o.ys.length:Int)=u:=⟨_,rfl⟩;rw [f] at v;have ST:=H (λV (K:Sx x.T x.Q 283 (cf.bud:Nat) h.m V) (hD:Dt x.Q V d o.ys.length o.ys)=>qR x.T x.Q 283 (cf.bud:Nat) h.m p o.ys.length dc d o.ys V K hD Z hp u f);have g:=H g;clear f;clear L M O c g G a;go_enter func56,ntmps56;go_wp2_with fail;generalize K:(W.alloc _).alloc _=V at b w r Q g y z A s ⊢;obtain⟨O,a⟩:∃ O,O=W.heap.size:=⟨_,rfl⟩;rw [<-a] at y z A s r g ⊢;have T:=H a;have HQ:=H R;clear a R K;obtain⟨R,a⟩:∃ R,R=O+1:=⟨_,rfl⟩;rw [<-a] at r ⊢;have X:=H (show W.heap.size<=R by rw [a,T.out];omega);have f:=H (show R=O+1 from a);clear a;have G:=H (show O≠R by have:=X.out;have:=T.out;have:=f.out;omega);have Y:V.cell? ⟨x.P,6,none⟩=some (J x.T 0):=b.cell 6 _ rfl;refine rh (S:=λq=>q.cell? ⟨x.P,6,none⟩=some (J x.T 0)/\q.cell? ⟨O,5,none⟩=some (.slice d o.ys.length dc)) ?_;have a:=(show _/\_ from ⟨Y,s⟩);iterate 7 (refine py a ?_;simp only [f0,f1,Nat.reduceAdd,lz,l0,ls])
 refine po 7 λK' hK=>?_;go_simp;refine (ST.out _ (b.below (Fu _ _).drew).sp (Q.keep (Sf.ofBelow (Fu _ _).drew b.ltQ))).mono ?_;rintro e V1 ⟨rfl,x1,f1⟩;have L:=H ((b.below (Fu _ _).drew).space (Fx t.out w.bel.size) _ x1 f1);have B1:=H ((b.below (Fu _ _).drew).bkS (b.bkB w.out t.out (Fu _ _).drew) t.out f1);have c:=H ((f1.ky (b.below (Fu _ _).drew).sp).cells _ _ _ _ r.out ar);have O1:=(f1.ky (b.below (Fu _ _).drew).sp).cells _ _ _ _ g ar;have M:_/\_:=⟨L.cell 6 _ rfl,(show V1.cell? ⟨O,5,none⟩=some (.slice d o.ys.length dc) by simp only [World.cell?,O1];rfl)⟩;refine hK.out _ _ ⟨M,?_⟩;clear a;have a:=M;clear hK K'
 iterate 2 (refine py a ?_;simp only [f0,f1,Nat.reduceAdd,lz,l0,ls])
 refine gu 10 ?_;refine fB rfl rfl 44 _ _ rfl R #[I u,U 0,I 0,C] rfl rfl 44 _ c.out E rfl mL ⟨⟨(L.off81 c.out _).cell 6 _ rfl,(show (V1.setRow R _).cell? ⟨O,5,none⟩=some (.slice d o.ys.length dc) by simp only [World.cell?,vM O1 _ G.out];rfl)⟩,?_⟩;clear a;refine bY ?_;clear x1 f1 Y y z A s M;go_wp2;refine fM (aw c.out _) underlying44 ?_;rw [v.out];exact cH rfl rfl rfl n.out (L.off81 c.out _) (B1.loc (aj _ R _) X.out HQ.out t.out)
theorem Ds (B x cf h k o p d dc W) (n:vT B x cf h k o p d W) (i:o.kd<0\/6<o.kd) :
  Calls prog 56 #[J x.P 0,eZ o d dc,U p] W λe w=>vS B x cf W (dv cf h o p) e w:=by
 have q:=H (show dv cf h o p=(.no 6,h) by
  unfold dv;dsimp only;rw [GO Z,GO Z,GO Z,GO Z,GO Z,GO Z,GO Z])
 obtain⟨c,a⟩:∃ c,dv cf h o p=c:=⟨_,rfl⟩;rw [a];rw [a] at q;unfold eZ;obtain⟨r,f⟩:∃ r,(W.alloc (.cells #[I o.kd,I o.ref,U o.p,U o.a,U o.b,.slice d o.ys.length dc] 42)).alloc (.cells #[I 0,U 0,I 0,C] 44)=r:=⟨_,rfl⟩;obtain⟨L,M,N,O,P,Q,R,S,y⟩:=iH n _ dc f;subst f;obtain⟨j,b,z,s,l,T,t,A,V,ha,X,m⟩:=n;have F:=H z;have Y:=H t;have HI:=H s;have g:=H b;have G:=H l;have hQ:=j.ltQ;have K:=l.rg;have hrel:=l.rel;have e0:(o.kd==0)=false:=bG;have e1:(o.kd==1)=false:=bG;have e2:(o.kd==2)=false:=bG;have e3:(o.kd==3)=false:=bG;have e4:(o.kd==4)=false:=bG;have e5:(o.kd==5)=false:=bG;have e6:(o.kd==6)=false:=bG;have u:=H j;clear j s t b y m a;go_enter func56,ntmps56;clear i;go_wp2;have a:D W ((W.alloc (.cells #[I o.kd,I o.ref,U o.p,U o.a,U o.b,.slice d o.ys.length dc] 42)).alloc (.cells #[I 6,U 0,I 0,C] 44)):=((Fu _ _).alloc (Fv _) _).alloc (by rw [aO];omega) _;refine GX (v:=.agg #[I 6,U 0,I 0,C]) (by simp [results,Tryz.results56,go_sem]) rfl ?_;rw [q.out];exact cH rfl rfl rfl g (u.below a) (u.bkB (Bk.refl _ _ _) F a)
theorem Dn (B x cf h k o p d dc W) (a:vT B x cf h k o p d W) :
  Calls prog 56 #[J x.P 0,eZ o d dc,U p] W λe g=>vS B x cf W (dv cf h o p) e g:=by
 by_cases i:o.kd=0;·exact Ei B x cf h k o p d dc W a i
 by_cases c:o.kd=1
 ·by_cases b:18446744073709551616<=o.a*o.b;·exact CQ B x cf h k o p d dc W a c b
  exact Co B x cf h k o p d dc W a c Z
 by_cases j:o.kd=2;·exact DX B x cf h k o p d dc W a j
 by_cases l:o.kd=3;·exact Dm B x cf h k o p d dc W a l
 by_cases m:o.kd=4;·exact Ec B x cf h k o p d dc W a m
 by_cases f:o.kd=5
 ·by_cases b:4096<o.a;·exact BZ B x cf h k o p d dc W a f b
  exact AU B x cf h k o p d dc W a f Z
 by_cases n:o.kd=6;·exact Em B x cf h k o p d dc W a n
 exact Ds B x cf h k o p d dc W a Z
def gZ (cf:Cf) (da:Option Addr) (dc:Nat):Value:=.agg #[I cf.mix,I cf.fifo,I cf.large,I cf.bud,U cf.key,.slice da cf.ds.length dc]
def DG:Prop:=∀ (cf:Cf) (da:Option Addr) (dc:Nat) (W:World),mE cf->Sl W da cf.ds ->
 Calls prog 55 #[gZ cf da dc] W λe W'=>∃ x:Sm,e=.returned (J x.P 0)/\l_ x/\Sh W.heap.size x cf (aP cf) W'/\Below W.heap.size W W'
theorem b_ {P:Program} {b:Func} {p q:Tmp} (h:b.results=#[.tmp p,.tmp q]) (a:Array Value) (w:World):(results b a).run P w=.ok (.tuple #[a.getD p undef,a.getD q undef]) w:=by
 simp [results,h]
theorem Few.new (cf):Few 0 (aP cf):=⟨Fv _,Fv _,Fv _,Fv _⟩
theorem CW (b:DG) (cf da dc A) (b8:Nat) (ops w) (f:mE cf) (b9:1<=cf.large) (d:Sl w da cf.ds) (g:Ois w A ops) (hN:ops.length<=300) :
  Calls prog 17 #[gZ cf da dc,.slice A ops.length b8] w λe W'=>∃ (x:Sm) (l:List Aw) (v:Value) (B:Nat),e=.returned (.tuple #[J x.P 0,v])/\w.heap.size<=B/\l_ x/\Sh B x cf (bd cf (ops.map df.o) (aP cf) []).1 W'/\l.map (·.1)=(bd cf (ops.map df.o) (aP cf) []).2/\Rs B x.Q W' l v/\Below w.heap.size w W':=by
 obtain⟨N,a⟩:∃ N,ops.length=N:=⟨_,rfl⟩;rw [a];rw [a] at hN;have HN:=H a;have HO:=H g;have HD:=H f;have j:Below w.heap.size w (w.alloc (.cells #[I cf.mix,I cf.fifo,I cf.large,I cf.bud,U cf.key,.slice da cf.ds.length dc] 26)):=(Fu _ _).alloc (Fv _) _;have c:=ao w (.cells #[I cf.mix,I cf.fifo,I cf.large,I cf.bud,U cf.key,.slice da cf.ds.length dc] 26);have i:=H (λW (k:Below w.heap.size w W)=>b cf da dc W f (d.ky (Ky.below k:Ky (λ_=>False) _ _) (λe=>e)));unfold gZ at i ⊢;have k:(w.alloc (.cells #[I cf.mix,I cf.fifo,I cf.large,I cf.bud,U cf.key,.slice da cf.ds.length dc] 26)).cell? ⟨w.heap.size,0,none⟩=some (I cf.mix):=by simp only [World.cell?,c];rfl
 have m:(w.alloc (.cells #[I cf.mix,I cf.fifo,I cf.large,I cf.bud,U cf.key,.slice da cf.ds.length dc] 26)).cell? ⟨w.heap.size,1,none⟩=some (I cf.fifo):=by simp only [World.cell?,c];rfl
 have n:(w.alloc (.cells #[I cf.mix,I cf.fifo,I cf.large,I cf.bud,U cf.key,.slice da cf.ds.length dc] 26)).cell? ⟨w.heap.size,2,none⟩=some (I cf.large):=by simp only [World.cell?,c];rfl
 have o:(w.alloc (.cells #[I cf.mix,I cf.fifo,I cf.large,I cf.bud,U cf.key,.slice da cf.ds.length dc] 26)).cell? ⟨w.heap.size,3,none⟩=some (I cf.bud):=by simp only [World.cell?,c];rfl
 have p:(w.alloc (.cells #[I cf.mix,I cf.fifo,I cf.large,I cf.bud,U cf.key,.slice da cf.ds.length dc] 26)).cell? ⟨w.heap.size,4,none⟩=some (U cf.key):=by simp only [World.cell?,c];rfl
 have q:(w.alloc (.cells #[I cf.mix,I cf.fifo,I cf.large,I cf.bud,U cf.key,.slice da cf.ds.length dc] 26)).cell? ⟨w.heap.size,5,none⟩=some (.slice da cf.ds.length dc):=by simp only [World.cell?,c];rfl
 have BW:=H j;clear c d g f a b j;go_enter func17,ntmps17;go_wp2_with fail;refine (i _ BW).mono ?_;rintro e W2 ⟨x0,rfl,a,f,g⟩;clear k m n o p q i;generalize w.alloc _=X at BW f g;obtain⟨B,b⟩:∃ B,X.heap.size=B:=⟨_,rfl⟩;rw [b] at f g;have j:=H (show B<=X.heap.size by omega);have T:=H (show w.heap.size<=B by rw [<-b];exact BW.size);have a6:=H a;have S0:=H f;have B0:=H g;obtain⟨P0,c⟩:∃ P0,x0.P=P0:=⟨_,rfl⟩;obtain⟨S,d⟩:∃ S,x0.Q=S:=⟨_,rfl⟩;rw [c];have a7:=H c;have a8:=H d;have a2:=H (show ∀ V,Below B X V->Below w.heap.size w V from λV hV=>BW.trans (hV.mono T));clear a f g b c d;go_wp2;go_loopw [7,15] (λv i a=>∃ k:Nat,k<=N/\i=I k/\∃ (x:Sm) (l:List Aw),Hid (x.P=P0)/\Hid (x.Q=S)/\Hid (l_ x)/\Hid (Sh B x cf (bd cf ((ops.take k).map df.o) (aP cf) []).1 a)/\Hid (l.map (·.1)=(bd cf ((ops.take k).map df.o) (aP cf) []).2)/\Hid (Rs B S a l v)/\Hid (Below B X a)) (λ_ i _=>N-(intOf i).toNat);case atStart=>exact ⟨0,FH _,rfl,x0,[],a7,a8,a6,S0,H rfl,H ⟨⟨rfl,.inl ⟨rfl,rfl⟩⟩,λy hy=>(by cases hy),List.Pairwise.nil⟩,B0⟩
 case round =>
  clear S0 B0 a6 a7 a8;obtain⟨k,hk,rfl,x,l,O,b,W,HS,f,HR,HB⟩:=hrel;obtain⟨va,vc,c0⟩:=aK HR.row;subst c0;by_cases c1:k<N
  ·obtain⟨q,F⟩:∃ q,ops[k]?=some q:=⟨_,Fy (by rw [HN.out];exact c1)⟩;have a0:=FM F;obtain⟨G,rfl,hG,c⟩:=HO.at_ k q F;have a3:=HO.wf q a0;have c2:=H (λV (hV:Below B X V) (hp:∀ g,e_ S V g->B<=g) (a:B<=S)=>HO.dt (a2 V hV) (Fx T a) (λg s=>Fx T (hp g s)) a0);have p:=a2.out _ HB.out;have u0:wr.cell? ⟨G,k*6,none⟩=some (I q.o.kd):=cR p (c 0 _ rfl);have u1:=cR p (c 1 _ rfl);have u2:=cR p (c 2 _ rfl);have u3:=cR p (c 3 _ rfl);have u4:=cR p (c 4 _ rfl);have u5:=cR p (c 5 _ rfl);obtain⟨⟨a,t⟩,n⟩:∃ r,bd cf ((ops.take k).map df.o) (aP cf) []=r:=⟨_,rfl⟩;have o:t.length=k:=by
    have:=ft cf ((ops.take k).map df.o) (aP cf) [];rw [n] at this;simp at this;rw [this,HN.out];omega
   obtain⟨K,r⟩:=jp cf HD.fifo1 ((ops.take k).map df.o) (aP cf) [] 0 (Inv.new cf) (Few.new cf);rw [n] at K r HS f;dsimp only at K r HS f;have r:Few k a:=r.mono bG;have z:l.length=k:=(by have:=congrArg List.length f.out;simp at this;omega);have a9:=H z;have c6:l.length<=300:=Z;have d:bd cf ((ops.take (k+1)).map df.o) (aP cf) []=((bU cf a t q.o).2,t++[(bU cf a t q.o).1]):=by
    rw [F_,F];simp only [IQ,Hr,It,List.map_nil];rw [gF,n]
   have NX:=H (show (bd cf ((ops.take (k+1)).map df.o) (aP cf) []).1=(bU cf a t q.o).2 by rw [d]);have m:=H (show (bd cf ((ops.take (k+1)).map df.o) (aP cf) []).2=t++[(bU cf a t q.o).1] by rw [d]);have IV:=H K;have FW:=H r;have a1:=H o;have L:Below wr.heap.size wr (wr.alloc (.cells #[I q.o.kd,I q.o.ref,U q.o.p,U q.o.a,U q.o.b,.slice q.d q.o.ys.length q.dc] 42)):=(Fu _ _).alloc (Fv _) _;have Y1:=H (ao wr (.cells #[I q.o.kd,I q.o.ref,U q.o.p,U q.o.a,U q.o.b,.slice q.d q.o.ys.length q.dc] 42));have S1:=H (HS.below L);have R1:=H (HR.bk (Bk.ofBelow L (b.out▸HS.ltQ) (Fv _)));have B1:=H (show Below B X (wr.alloc (.cells #[I q.o.kd,I q.o.ref,U q.o.p,U q.o.a,U q.o.b,.slice q.d q.o.ys.length q.dc] 42)) from HB.trans (L.mono (Fx j HB.size)));have z1:(wr.alloc (.cells #[I q.o.kd,I q.o.ref,U q.o.p,U q.o.a,U q.o.b,.slice q.d q.o.ys.length q.dc] 42)).cell? ⟨wr.heap.size,1,none⟩=some (I q.o.ref):=(by simp only [World.cell?,Y1.out];rfl);clear c F n d K r L p o HS HR HB z;have n:=H (show bU cf a t q.o=if q.o.ref=0 then dv cf a q.o q.o.p else if q.o.ref<0\/(t.length:Int)<q.o.ref then (.no 6,a) else dv cf a q.o ((q.o.p+((t[q.o.ref.toNat-1]?.map An4.addr).getD 0))%18446744073709551616) from rfl);by_cases c:q.o.ref<0\/(k:Int)<q.o.ref
   ·have d:bU cf a t q.o=(.no 6,a):=(by rw [n.out,GO Z,GP (by rw [a1.out];exact c)]);rw [d] at NX m;clear n d;have d:=S1;have p:=R1;have K:Below (wr.alloc (.cells #[I q.o.kd,I q.o.ref,U q.o.p,U q.o.a,U q.o.b,.slice q.d q.o.ys.length q.dc] 42)).heap.size (wr.alloc (.cells #[I q.o.kd,I q.o.ref,U q.o.p,U q.o.a,U q.o.b,.slice q.d q.o.ys.length q.dc] 42)) ((wr.alloc (.cells #[I q.o.kd,I q.o.ref,U q.o.p,U q.o.a,U q.o.b,.slice q.d q.o.ys.length q.dc] 42)).alloc (.cells #[I 6,U 0,I 0,C] 44)):=(Fu _ _).alloc (Fv _) _;have SA:=H (S1.below K);have P:=H (R1.bk (Bk.ofBelow (B:=0) K (b.out▸S1.ltQ) (FH _)));have LB:=H (show B<=((wr.alloc (.cells #[I q.o.kd,I q.o.ref,U q.o.p,U q.o.a,U q.o.b,.slice q.d q.o.ys.length q.dc] 42)).alloc (.cells #[I 6,U 0,I 0,C] 44)).heap.size from Fx (Fx j B1.size) K.size);have BA:=H (show Below B X ((wr.alloc (.cells #[I q.o.kd,I q.o.ref,U q.o.p,U q.o.a,U q.o.b,.slice q.d q.o.ys.length q.dc] 42)).alloc (.cells #[I 6,U 0,I 0,C] 44)) from B1.trans (K.mono (Fx j B1.size)));obtain⟨v4,w4,e4,o4,g4⟩:=pA _ B (.slice va l.length vc) l ((An4.no 6,C):Aw) _ 1 P.row (ao (wr.alloc (.cells #[I q.o.kd,I q.o.ref,U q.o.p,U q.o.a,U q.o.b,.slice q.d q.o.ys.length q.dc] 42)) (.cells #[I 6,U 0,I 0,C] 44)) rfl Z LB.out;obtain⟨cq,o⟩:=SA.qrow;rw [b.out] at o;obtain⟨k4,L,Q⟩:=Bk.ofAns P.row o g4;have S4:=H (SA.kyO k4 (.inl rfl));have B4:=H (BA.trans (Q B (Fv _) LB));have R4:=H (show Rs B S w4 (l++[((An4.no 6,C):Aw)]) v4 from ⟨o4,λz hz=>by
     rcases F8.1 hz with M|M;·exact⟨ai (P.dat z M).1 k4 ar,λg s hp=>(P.dat z M).2 g s (L g hp)⟩
     simp at M;subst M;exact⟨eL _ _,λg s=>by simp [Value.ownBlock] at s⟩,by
     rw [Is];exact⟨P.dis,bH,λz hz u hu g s a4=>by
      simp at hu;subst hu;simp [Value.ownBlock] at a4⟩⟩)
    rw [aO] at e4;clear o4 k4 L Q o g4 K;by_cases R:q.o.ref<0
    ·clear c;go_wp2_with (at_builtin;refine cY rfl (.tmp 29) (.tmp 31) (by with_reducible rfl) rfl rfl rfl e4 ?_);go_roundw;(case rel=>exact ⟨k+1,Z,aY,x,l++[((An4.no 6,C):Aw)],O,b,W,by rw [NX.out];exact S4,H (by rw [m.out,Hr,f.out];rfl),R4,B4⟩);case measure=>(simp [intOf];try omega)
    have a5:(l.length:Int)<q.o.ref:=(by have:=a9.out;omega);clear c;go_wp2_with (at_builtin;refine cY rfl (.tmp 29) (.tmp 31) (by with_reducible rfl) rfl rfl rfl e4 ?_);go_roundw;(case rel=>exact ⟨k+1,Z,aY,x,l++[((An4.no 6,C):Aw)],O,b,W,by rw [NX.out];exact S4,H (by rw [m.out,Hr,f.out];rfl),R4,B4⟩);case measure=>(simp [intOf];try omega)
   skip
   have R:¬(q.o.ref<0):=Z;have a5:¬((l.length:Int)<q.o.ref):=(by have:=a9.out;omega);have z0:(wr.alloc (.cells #[I q.o.kd,I q.o.ref,U q.o.p,U q.o.a,U q.o.b,.slice q.d q.o.ys.length q.dc] 42)).cell? ⟨wr.heap.size,0,none⟩=some (I q.o.kd):=(by simp only [World.cell?,Y1.out];rfl);have z2:(wr.alloc (.cells #[I q.o.kd,I q.o.ref,U q.o.p,U q.o.a,U q.o.b,.slice q.d q.o.ys.length q.dc] 42)).cell? ⟨wr.heap.size,2,none⟩=some (U q.o.p):=(by simp only [World.cell?,Y1.out];rfl);have z3:(wr.alloc (.cells #[I q.o.kd,I q.o.ref,U q.o.p,U q.o.a,U q.o.b,.slice q.d q.o.ys.length q.dc] 42)).cell? ⟨wr.heap.size,3,none⟩=some (U q.o.a):=(by simp only [World.cell?,Y1.out];rfl);have z4:(wr.alloc (.cells #[I q.o.kd,I q.o.ref,U q.o.p,U q.o.a,U q.o.b,.slice q.d q.o.ys.length q.dc] 42)).cell? ⟨wr.heap.size,4,none⟩=some (U q.o.b):=(by simp only [World.cell?,Y1.out];rfl);have z5:(wr.alloc (.cells #[I q.o.kd,I q.o.ref,U q.o.p,U q.o.a,U q.o.b,.slice q.d q.o.ys.length q.dc] 42)).cell? ⟨wr.heap.size,5,none⟩=some (.slice q.d q.o.ys.length q.dc):=(by simp only [World.cell?,Y1.out];rfl);(go_upto_if 37 with fail);generalize wr.alloc _=V at Y1 S1 R1 B1 z0 z1 z2 z3 z4 z5 ⊢;generalize wr.heap.size=Y at Y1 z0 z1 z2 z3 z4 z5 ⊢;clear u0 u1 u2 u3 u4 u5;go_cut [10] (λd i=>∃ pp:Nat,d=U pp/\pp<18446744073709551616/\Hid (bU cf a t q.o=dv cf a q.o pp)/\i=V);case first =>
    by_cases p:q.o.ref=0
    ·have r:¬((0:Int)<q.o.ref):=Z;have HE:=H (n.trans (GP p));clear p c n;go_wp2;go_meet;case rel=>exact ⟨q.o.p,rfl,a3.1,HE,rfl⟩
    have r:(0:Int)<q.o.ref:=Z;obtain⟨d,F⟩:∃ d:Nat,q.o.ref=(d:Int)+1:=⟨(q.o.ref-1).toNat,Z⟩;have b3:d<l.length:=Z;obtain⟨y,hy⟩:∃ y,l[d]?=some y:=⟨_,Fy b3⟩;obtain⟨gA,b4⟩:=cr R1.row Z;subst b4;have cA:V.cell? ⟨gA,d*4+1,none⟩=some (U y.1.addr):=bC R1.row (d*4+1) _ (eC aC 4 (λ_=>rfl) l d y hy 1 Z);have HE:=H (show bU cf a t q.o=dv cf a q.o ((q.o.p+y.1.addr)%18446744073709551616) by
     rw [n.out,GO p,GO (by rw [a1.out];exact c)];have e1:q.o.ref.toNat-1=d:=Z;have e2:t[d]?=some y.1:=(by rw [<-f.out,Gv,hy];rfl);rw [e1,e2];rfl)
    have b5:((d:Int)+1-1)=(d:Int):=Z;have c3:IntKind.i64.wrap ((d:Int)+1-1)=(d:Int):=(by rw [b5];rw [Hh];omega);have b7:(d:Int)<(l.length:Int):=Z;have b6:=H (show IntKind.u64.wrap ((q.o.p:Int)+(y.1.addr:Int))=(((q.o.p+y.1.addr)%18446744073709551616:Nat):Int) by rw [eu];simp);rw [F] at z1 r R a5 ⊢;clear p c n hy F;generalize y.1.addr=p at *;go_wp2;go_meet;case rel=>exact ⟨(q.o.p+p)%18446744073709551616,by rw [<-b6.out],Nat.mod_lt _ Z,HE,rfl⟩
   case rest =>
    obtain⟨pp,rfl,c3,HE,c4⟩:=hcut;subst c4;rw [HE.out] at NX m;have DO:=H (Dn B x cf a k q.o pp q.d q.dc wc ⟨S1,W,Fx j B1.size,IV,FW,Z,HD,b9,c3,a3.2.1,a3.2.2,b.out▸c2.out wc B1 (λg s=>S1.bg g (b.out▸s)) (b.out▸S1.bq)⟩);unfold eZ at DO;rw [O.out] at DO;obtain⟨r9,d⟩:∃ r9,dv cf a q.o pp=r9:=⟨_,rfl⟩;rw [d] at DO NX m;clear n HE c R a5 d;go_wp2_with fail;refine DO.mono ?_;rintro e V2 ⟨x2,vd,rfl,od,np,b3,b4,b5,s2,b2⟩;obtain⟨p,r,c5⟩:=aK od;subst c5;rw [b.out] at np b2;have S2:=H s2;have F:=H (show x2.Q=S by rw [b4];exact b);have b6:=H (show x2.P=P0 by rw [b3];exact O);have b7:=H b5;have R2:=H (R1.bk b2);have B2:=H (B1.trans b2.bel);have LV:=H (show B<=wc.heap.size from Fx j B1.size);obtain⟨d,r2⟩:=r9;clear s2 b2 b3 b4 b5 DO;unfold jP;dsimp only at od NX m ⊢;have K:Below V2.heap.size V2 (V2.alloc (.cells #[I d.code,U d.addr,I d.size,.slice p d.data.length r] 44)):=(Fu _ _).alloc (Fv _) _;have SA:=H (S2.below K);have P:=H (R2.bk (Bk.ofBelow (B:=0) K (F.out▸S2.ltQ) (FH _)));have LB:=H (show B<=(V2.alloc (.cells #[I d.code,U d.addr,I d.size,.slice p d.data.length r] 44)).heap.size from Fx (Fx j B2.size) K.size);have BA:=H (show Below B X (V2.alloc (.cells #[I d.code,U d.addr,I d.size,.slice p d.data.length r] 44)) from B2.trans (K.mono (Fx j B2.size)));obtain⟨v4,w4,e4,o4,g4⟩:=pA _ B (.slice va l.length vc) l ((d,.slice p d.data.length r):Aw) _ 1 P.row (ao V2 (.cells #[I d.code,U d.addr,I d.size,.slice p d.data.length r] 44)) rfl Z LB.out;obtain⟨cq,o⟩:=SA.qrow;rw [F.out] at o;obtain⟨k4,L,Q⟩:=Bk.ofAns P.row o g4;have S4:=H (SA.kyO k4 (.inl rfl));have B4:=H (BA.trans (Q B (Fv _) LB));have R4:=H (show Rs B S w4 (l++[((d,.slice p d.data.length r):Aw)]) v4 from ⟨o4,λz hz=>by
     rcases F8.1 hz with M|M;·exact⟨ai (P.dat z M).1 k4 ar,λg s hp=>(P.dat z M).2 g s (L g hp)⟩
     simp at M;subst M;exact⟨dm (ai (ai od (Ky.below K:Ky (λ_=>False) _ _) (λe=>e)) k4 ar) LV,λg s hp=>np g s (cV (K.block S (F.out▸S2.ltQ)) (L g hp))⟩,by
     rw [Is];exact⟨P.dis,bH,λz hz u hu g s a4=>by
      simp at hu;subst hu;have M:=(aF od a4).1;obtain⟨_,c9,b3⟩:=aF (R1.dat z hz).1 s;have h2:=ag b3;omega⟩⟩)
    clear o4 k4 L Q o g4 K od np z0 z2 z3 z4 z5;go_wp2_with (at_builtin;refine cY rfl (.tmp 47) (.tmp 52) (by with_reducible rfl) rfl rfl rfl e4 ?_);go_roundw;(case rel=>exact ⟨k+1,Z,aY,x2,l++[((d,.slice p d.data.length r):Aw)],b6,F,b7,by rw [NX.out];exact S4,H (by rw [m.out,Hr,f.out];rfl),R4,B4⟩);case measure=>(simp [intOf];try omega)
  obtain rfl:k=N:=Z;have a:=H (show ops.take k=ops from Ge (by rw [HN.out];exact Fv _));rw [a.out] at HS f;go_wp2;refine GX (b_ dU _ _) dU ?_;exact⟨x,l,_,B,by rw [O.out];rfl,T,W,HS,f,b.out▸HR.out,a2 _ HB⟩
end
end Go.Proofs.YtibblbenmpcplaaGreatDoor
