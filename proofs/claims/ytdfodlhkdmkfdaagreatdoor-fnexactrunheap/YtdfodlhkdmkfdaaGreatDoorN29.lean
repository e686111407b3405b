import Derived.Test.YtdfodlhkdmkfdaaGreatDoorN28
set_option linter.unusedVariables false
set_option linter.unusedSimpArgs false
set_option maxRecDepth 20000
set_option maxHeartbeats 8000000
namespace Go.Proofs.YtdfodlhkdmkfdaaGreatDoor
open Go.Proofs.Tryz
section
open Go.RowKit
def fH (o:eL) (d:Option Addr) (dc:Nat):Value:=.agg #[I o.kd,I o.ref,U o.p,U o.a,U o.b,.slice d o.ys.length dc]
def xZ (B:Nat) (x:Sm) (cf:Cf) (W:World) (r:An4×Hs) (e:Ending) (W':World):Prop:=∃ (i:Sm) (v:Value),e=.returned (kC r.1 v)/\W'.ownsRow W.heap.size 5 1 v r.1.data.length (Ns .u8 r.1.data)/\(∀ g,v.ownBlock=some g->¬fm x.Q W' g)/\i.P=x.P/\i.Q=x.Q/\nl i/\Sh B i cf r.2 W'/\Bk B x.Q W W'
structure xX (B:Nat) (x:Sm) (cf:Cf) (h:Hs) (k:Nat) (o:eL) (p:Nat) (d:Option Addr) (W:World):Prop where
 sh:Sh B x cf h W
 sep:nl x
 b:B<=W.heap.size
 inv:Inv cf h
 few:Few k h
 hk:k<=300
 dok:kz cf
 large:1<=cf.large
 hp:p<18446744073709551616
 ha:o.a<18446744073709551616
 hb:o.b<18446744073709551616
 dt:Dt x.Q W d o.ys.length o.ys
theorem fq (W:World) (B:Nat):W.ownsRow B 5 1 (C) ([]:List Int).length (Ns .u8 []):=⟨rfl,.inl ⟨rfl,rfl⟩⟩
theorem cQ {B} {x c:Sm} {cf W W'} {a:An4} {h'} (d:a.data=[]) (e:c.P=x.P) (f:c.Q=x.Q) (i:nl c) (s:Sh B c cf h' W') (b:Bk B x.Q W W'):xZ B x cf W (a,h') (.returned (kC a (C))) W' :=
 ⟨c,C,rfl,by rw [d];exact fq W' _,λg j=>by simp [Value.ownBlock] at j,e,f,i,s,b⟩
theorem nJ (cf h p a old):(jo cf h p a old).1.data=[]:=by
 unfold jo;cases az cf h a with
 | mk u b=>cases u <;> rfl
theorem qz (cf h p a):(cF cf h p a).1.data=[]:=by
 rw [iC];split;·unfold qw;cases (az cf h a).1 <;> rfl
 cases aP h p with
 | no b=>rfl
 | slot c s j =>
  dsimp only;split;·rfl
  split;·rfl
  exact nJ _ _ _ _ _
 | range r =>
  dsimp only;split;·rfl
  exact nJ _ _ _ _ _
theorem gh {P:Program} {e:Array Oper} {Q:Exit->Act->World->Prop} {i:Nat} {o:Oper} {K:Act->World->Prop} {a:Act} {w:World} (l:e[i]?=some o) (j:o.guard=none) (k:TypeId) (x y:Operand) (m:o.op=.store k x y) (g) (b:Array Value) (n:a.eval x=J g 0) (p:a.eval y=.agg b) (t:TypeId) (c:Array Value) (q:w.heap[g]?=some (.cells c t)) (d:(P.info? k).map (·.size)=some b.size) (f:c.size=b.size) (r:b.all (·.oneCell')=true) (h:K (a.put o.dst undef) (w.setRow g b)):wpOp P e Q i K a w :=
 ma l (by simp [Region.wanted,j]) (λK' a=>Kz k x y m g b n p t c q d f r (a _ _ h))
theorem xr {w:World} {g r:Nat} {c:Array Value} {t:TypeId} {f:Nat×Nat} (a:w.heap[g]?=some (.cells c t f)) (b:Array Value) (d:g≠r):(w.setRow r b).heap[g]?=some (.cells c t f):=by
 rw [(ar w r b).block g (ah a) cd];exact a
theorem jh {B x cf h k o p d W} {V:World} (b:xX B x cf h k o p d W) (kd) (a:Nat) (g:(W.alloc (.cells #[I kd,I o.ref,U o.p,U o.a,U o.b,.slice d o.ys.length a] 61)).alloc (.cells #[I 0,U 0,I 0,C] 81)=V) :
  Hid (Sh B x cf h V)/\Hid (Bk B x.Q W V)/\Hid (V.heap[W.heap.size+1]?=some (.cells #[I 0,U 0,I 0,C] 81))/\Hid (Dt x.Q V d o.ys.length o.ys)/\V.cell? ⟨W.heap.size,0,none⟩=some (I kd)/\V.cell? ⟨W.heap.size,3,none⟩=some (U o.a)/\V.cell? ⟨W.heap.size,4,none⟩=some (U o.b)/\V.cell? ⟨W.heap.size,5,none⟩=some (.slice d o.ys.length a)/\V.heap[W.heap.size]?=some (.cells #[I kd,I o.ref,U o.p,U o.a,U o.b,.slice d o.ys.length a] 61):=by
 subst g;have c:D W ((W.alloc (.cells #[I kd,I o.ref,U o.p,U o.a,U o.b,.slice d o.ys.length a] 61)).alloc (.cells #[I 0,U 0,I 0,C] 81)):=((Jn _ _).alloc (Jo _) _).alloc (by rw [aA];omega) _;have e:=av (W.alloc (.cells #[I kd,I o.ref,U o.p,U o.a,U o.b,.slice d o.ys.length a] 61)) (.cells #[I 0,U 0,I 0,C] 81);have f:=(dG (W.alloc (.cells #[I kd,I o.ref,U o.p,U o.a,U o.b,.slice d o.ys.length a] 61)) (.cells #[I 0,U 0,I 0,C] 81) W.heap.size (by rw [aA];omega)).trans (av W _);rw [aA] at e;refine⟨H (b.sh.below c),H (b.sh.bkB (Bk.refl _ _ _) b.b c),H e,H (b.dt.keep (Sf.ofBelow c b.sh.ltQ)),?_,?_,?_,?_,f⟩ <;> (simp only [World.cell?,f];rfl)
theorem Gl (B x cf h k o p d dc W) (z:xX B x cf h k o p d W) (c:o.kd=0) :
  Calls prog 41 #[J x.P 0,fH o d dc,U p] W λe P=>xZ B x cf W (dP cf h o p) e P:=by
 have A:=H (show dP cf h o p=qw cf h o.a by
  unfold dP qw;dsimp only;rw [tm c];cases az cf h o.a with
  | mk u a=>cases u <;> rfl)
 obtain⟨f,a⟩:∃ f,dP cf h o p=f:=⟨_,rfl⟩;rw [a];rw [a] at A;unfold fH;rw [c];obtain⟨F,g⟩:∃ F,(W.alloc (.cells #[I 0,I o.ref,U o.p,U o.a,U o.b,.slice d o.ys.length dc] 61)).alloc (.cells #[I 0,U 0,I 0,C] 81)=F:=⟨_,rfl⟩;obtain⟨G,n,l,Q,q,r,s,t,O⟩:=jh z 0 dc g;subst g;obtain⟨y,b,S,i,m,T,j,X,hp,ha,hb,v⟩:=z;have K:=H S;have HD:=H j;have HI:=H i;have L:=H b;have Y:=H m;have M:=y.ltQ;have a0:=m.rg;have hrel:=m.rel;have N:=H (λV (w:Sh B x cf h V) (c:B<=V.heap.size)=>kn B x cf h k o.a V w b c i m T j ha);clear y i j b O v a;go_enter func41,ntmps41;go_wp2_with fail;generalize w:(W.alloc _).alloc _=V at G n l Q q r s t ⊢;obtain⟨O,a⟩:∃ O,O=W.heap.size:=⟨_,rfl⟩;rw [<-a] at q r s t l ⊢;have HO:=H a;have HQ:=H M;clear a M w;obtain⟨R,a⟩:∃ R,R=O+1:=⟨_,rfl⟩;rw [<-a] at l ⊢;have HR:=H (show W.heap.size<=R by rw [a,HO.out];omega);clear a;refine (N _ G (Jp K n.bel.size)).mono ?_;rintro e V1 ⟨x1,rfl,b,i,j,M,v⟩;have y:=H (v.at l (eO al));have S1:=H M;have B1:=H (n.trans v);have a:=H (LG b (LG i j));clear M v b i j N q r s t;go_wp2_with (refine fG y ?_);refine gH (aw y _) underlying81 ?_;rw [A.out];refine cQ ?_ a.1 a.2.1 a.2.2 (S1.off81 y _) (B1.loc (ar _ R _) HR HQ K);cases (az cf h o.a).1 <;> rfl
theorem EB (B x cf h k o p d dc W) (u:xX B x cf h k o p d W) (g:o.kd=1) (b:18446744073709551616<=o.a*o.b) :
  Calls prog 41 #[J x.P 0,fH o d dc,U p] W λe M=>xZ B x cf W (dP cf h o p) e M:=by
 have v:=H (show dP cf h o p=(.no 1,h) by
  unfold dP;dsimp only;rw [tg Z,tm g,tm b])
 obtain⟨i,a⟩:∃ i,dP cf h o p=i:=⟨_,rfl⟩;rw [a];rw [a] at v;unfold fH;rw [g];obtain⟨w,j⟩:∃ w,(W.alloc (.cells #[I 1,I o.ref,U o.p,U o.a,U o.b,.slice d o.ys.length dc] 61)).alloc (.cells #[I 0,U 0,I 0,C] 81)=w:=⟨_,rfl⟩;obtain⟨y,z,f,N,m,n,q,r,O⟩:=jh u 1 dc j;subst j;obtain⟨A,c,P,F,s,hk,G,Q,hp,ha,S,t⟩:=u;have T:=H P;have HD:=H G;have HI:=H F;have l:=H c;have X:=H s;have K:=A.ltQ;have Y:=s.rg;have hrel:=s.rel;have L:=H (λV=>product.sp_Product_no o.a o.b ha S b V);clear A F G c O t a;go_enter func41,ntmps41;go_wp2_with fail;generalize c:(W.alloc _).alloc _=V at y z f N m n q r ⊢;obtain⟨O,a⟩:∃ O,O=W.heap.size:=⟨_,rfl⟩;rw [<-a] at m n q r f ⊢;have t:=H a;have A:=H K;clear a K c;obtain⟨R,a⟩:∃ R,R=O+1:=⟨_,rfl⟩;rw [<-a] at f ⊢;have c:=H (show W.heap.size<=R by rw [a,t.out];omega);clear a;refine (L _).mono ?_;rintro e a ⟨rfl,rfl⟩;clear L m n q r;go_wp2_with (refine fG f ?_);refine gH (aw f _) underlying81 ?_;rw [v.out];exact cQ rfl rfl rfl l (y.off81 f _) (z.loc (ar _ R _) c A T)
theorem D7 (B x cf h k o p d dc W) (A:xX B x cf h k o p d W) (f:o.kd=1) (c:o.a*o.b<18446744073709551616) :
  Calls prog 41 #[J x.P 0,fH o d dc,U p] W λe T=>xZ B x cf W (dP cf h o p) e T:=by
 have F:=H (show dP cf h o p=qw cf h (o.a*o.b) by
  unfold dP qw;dsimp only;rw [tg Z,tm f,tg Z];cases az cf h (o.a*o.b) with
  | mk u a=>cases u <;> rfl)
 obtain⟨g,a⟩:∃ g,dP cf h o p=g:=⟨_,rfl⟩;rw [a];rw [a] at F;unfold fH;rw [f];obtain⟨G,i⟩:∃ G,(W.alloc (.cells #[I 1,I o.ref,U o.p,U o.a,U o.b,.slice d o.ys.length dc] 61)).alloc (.cells #[I 0,U 0,I 0,C] 81)=G:=⟨_,rfl⟩;obtain⟨K,q,m,X,r,s,t,v,O⟩:=jh A 1 dc i;subst i;obtain⟨L,b,Y,j,n,hk,l,a0,hp,ha,M,w⟩:=A;have N:=H Y;have HD:=H l;have HI:=H j;have P:=H b;have a1:=H n;have Q:=L.ltQ;have a2:=n.rg;have hrel:=n.rel;have S:=H (λV (y:Sh B x cf h V) (f:B<=V.heap.size)=>kn B x cf h k (o.a*o.b) V y b f j n hk l c);have PR:=H (λV=>show Calls prog 91 #[U o.a,U o.b] V λe f=>e=.returned (.tuple #[U ((o.a*o.b:Nat):Int),.bool true])/\f=V by
  rcases Nat.eq_zero_or_pos o.a with z|z;·have:=product.sp_Product_zero o.b M V;rw [z];simpa using this
  exact product.sp_Product_yes o.a o.b z ha M c V)
 generalize o.a*o.b=ab at *;clear L j l b O w a;go_enter func41,ntmps41;go_wp2_with fail;generalize y:(W.alloc _).alloc _=V at K q m X r s t v ⊢;obtain⟨O,a⟩:∃ O,O=W.heap.size:=⟨_,rfl⟩;rw [<-a] at r s t v m ⊢;have HO:=H a;have HQ:=H Q;clear a Q y;obtain⟨R,a⟩:∃ R,R=O+1:=⟨_,rfl⟩;rw [<-a] at m ⊢;have Q:=H (show W.heap.size<=R by rw [a,HO.out];omega);clear a;refine (PR _).mono ?_;rintro e V0 ⟨rfl,rfl⟩;go_wp2_with fail;refine (S _ K (Jp N q.bel.size)).mono ?_;rintro e V1 ⟨x1,rfl,b,j,l,L,w⟩;have z:=H (w.at m (eO al));have S1:=H L;have B1:=H (q.trans w);have a:=H (LG b (LG j l));clear L w b j l S r s t v;go_wp2_with (refine fG z ?_);refine gH (aw z _) underlying81 ?_;rw [F.out];refine cQ ?_ a.1 a.2.1 a.2.2 (S1.off81 z _) (B1.loc (ar _ R _) Q HQ N);cases (az cf h ab).1 <;> rfl
theorem He (B x cf h k o p d dc W) (z:xX B x cf h k o p d W) (c:o.kd=2) :
  Calls prog 41 #[J x.P 0,fH o d dc,U p] W λe P=>xZ B x cf W (dP cf h o p) e P:=by
 have A:=H (show dP cf h o p=cF cf h p o.a by
  unfold dP;dsimp only;rw [tg Z,tg Z,tm c])
 obtain⟨f,a⟩:∃ f,dP cf h o p=f:=⟨_,rfl⟩;rw [a];rw [a] at A;unfold fH;rw [c];obtain⟨F,g⟩:∃ F,(W.alloc (.cells #[I 2,I o.ref,U o.p,U o.a,U o.b,.slice d o.ys.length dc] 61)).alloc (.cells #[I 0,U 0,I 0,C] 81)=F:=⟨_,rfl⟩;obtain⟨G,n,l,Q,q,r,s,t,O⟩:=jh z 2 dc g;subst g;obtain⟨y,b,S,i,m,T,j,u,X,ha,hb,v⟩:=z;have K:=H S;have HD:=H j;have HI:=H i;have L:=H b;have Y:=H m;have M:=y.ltQ;have a0:=m.rg;have hrel:=m.rel;have N:=H (λV (w:Sh B x cf h V) (c:B<=V.heap.size)=>uW B x cf h k p o.a V w b c i m T j u X ha);clear y i j b O v a;go_enter func41,ntmps41;go_wp2_with fail;generalize w:(W.alloc _).alloc _=V at G n l Q q r s t ⊢;obtain⟨O,a⟩:∃ O,O=W.heap.size:=⟨_,rfl⟩;rw [<-a] at q r s t l ⊢;have HO:=H a;have HQ:=H M;clear a M w;obtain⟨R,a⟩:∃ R,R=O+1:=⟨_,rfl⟩;rw [<-a] at l ⊢;have HR:=H (show W.heap.size<=R by rw [a,HO.out];omega);clear a;refine (N _ G (Jp K n.bel.size)).mono ?_;rintro e V1 ⟨x1,rfl,b,i,j,M,v⟩;have y:=H (v.at l (eO al));have S1:=H M;have B1:=H (n.trans v);have a:=H (LG b (LG i j));clear M v b i j N q r s t;go_wp2_with (refine fG y ?_);refine gH (aw y _) underlying81 ?_;rw [A.out];refine cQ ?_ a.1 a.2.1 a.2.2 (S1.off81 y _) (B1.loc (ar _ R _) HR HQ K);exact qz cf h p o.a
theorem Gj (B x cf h k o p d dc W) (hA:xX B x cf h k o p d W) (G:o.kd=3) :
  Calls prog 41 #[J x.P 0,fH o d dc,U p] W λe W'=>xZ B x cf W (dP cf h o p) e W':=by
 have n:=H (show dP cf h o p=(match aP h p with
  | .no code=>(.no code,h)
  | .slot c s j=>if sound cf h c s j=false then (.no 5,h) else (.no 0,bH cf h c s j)
  | .range r=>(.no 0,aZ cf h r)) by
  unfold dP;dsimp only;rw [tg Z,tg Z,tg Z,tm G];cases aP h p <;> rfl)
 obtain⟨f,a⟩:∃ f,dP cf h o p=f:=⟨_,rfl⟩;rw [a];rw [a] at n;unfold fH;rw [G];obtain⟨V9,L⟩:∃ V9,(W.alloc (.cells #[I 3,I o.ref,U o.p,U o.a,U o.b,.slice d o.ys.length dc] 61)).alloc (.cells #[I 0,U 0,I 0,C] 81)=V9:=⟨_,rfl⟩;obtain⟨l,v,m,DT,w,y,F,K,X⟩:=jh hA 3 dc L;subst L;obtain⟨Q,b,hB,A,S,hk,N,a0,hp,ha,hb,O⟩:=hA;have q:=H hB;have HD:=H N;have HI:=H A;have t:=H b;have a1:=H S;have R:=Q.ltQ;have a2:=S.rg;have hrel:=S.rel;have P:=H (λV (M:Sh B x cf h V)=>mf B x cf h p V M Z Z);have u:=jQ h p;obtain⟨fd,g⟩:∃ fd,aP h p=fd:=⟨_,rfl⟩;obtain⟨⟨t1,t2,T⟩,i⟩:∃ z,ga h p=z:=⟨_,rfl⟩;rw [g,i] at u;rw [g] at n;rw [i] at P;clear g i;have z:=H (λV (M:Sh B x cf h V) (g:B<=V.heap.size) (h3:Hid (T=0))=>vS B x cf h k p fd t1 t2 T V M b g A S Z N a0 u h3);clear Q A N b X O a;go_enter func41,ntmps41;go_wp2_with fail;generalize M:(W.alloc _).alloc _=V at l v m DT w y F K ⊢;obtain⟨O,a⟩:∃ O,O=W.heap.size:=⟨_,rfl⟩;rw [<-a] at w y F K m ⊢;have HO:=H a;have X:=H R;clear a R M;obtain⟨R,a⟩:∃ R,R=O+1:=⟨_,rfl⟩;rw [<-a] at m ⊢;have Y:=H (show W.heap.size<=R by rw [a,HO.out];omega);clear a;refine (P _ l).mono ?_;rintro e V1 ⟨rfl,a⟩;have S1:=H (l.below a);have N:=H (l.bkB v q a);have A:=H (ae m a);clear a l v m P w y F K;unfold FN;cases u with
 | no code F =>
  have b:(T==0)=false:=by rcases F with rfl|rfl <;> rfl
  have a:=H (show f=(.no T,h) from n);clear F n z;go_wp2_with (refine fG A ?_);refine gH (aw A _) underlying81 ?_;rw [a.out];exact cQ rfl rfl rfl t (S1.off81 A _) (N.loc (ar _ R _) Y X q)
 | slot c s j K hK g m w =>
  have v:=nH hK;rw [g] at v;dsimp only at v;obtain⟨F,P,hj⟩:=v;have Q:=bI F;have l:=HI.on1 F P hj (by rw [w];rfl);have y:=H (sj B x cf h K c s j V1 S1 hK g HD.key0 HD.key1 (λi b=>by
   have:=HI.openS (k:=fy c+i) F P hj l Z;rw [J2];exact this))
  have a3:(0:Int)<=(K:Int):=Z;have b:=H (show f=if sound cf h c s j=false then (.no 5,h) else (.no 0,bH cf h c s j) from n);clear n Q l g m w;go_wp2_with fail;refine y.mono ?_;rintro e V2 ⟨rfl,g⟩;have S2:=H (S1.below g);have B2:=H (S1.bkB N q g);have X2:=H (ae A g);clear g y S1 N A;cases g:sound cf h c s j;·have a:=H (b.trans (tm g));clear g z b;go_wp2_with (refine fG X2 ?_);refine gH (aw X2 _) underlying81 ?_;rw [a.out];exact cQ rfl rfl rfl t (S2.off81 X2 _) (B2.loc (ar _ R _) Y X q)
  have a:=H (b.trans (tg (by rw [g];decide)));clear g b;go_wp2_with fail;refine (z _ S2 (Jp q B2.bel.size) (H (by trivial))).mono ?_;rintro e V3 ⟨rfl,x3,g,l,m,Q,w⟩;have y:=H (w.at X2 (eO al));have S3:=H Q;have B3:=H (B2.trans w);have b:=H (LG g (LG l m));clear Q w g l m z;go_wp2_with (refine fG y ?_);refine gH (aw y _) underlying81 ?_;rw [a.out];exact cQ rfl b.1 b.2.1 b.2.2 (S3.off81 y _) (B3.loc (ar _ R _) Y X q)
 | range r i K hb v =>
  have a:=H (show f=(.no 0,aZ cf h r) from n);clear n;go_wp2_with fail;refine (z _ S1 (Jp q N.bel.size) (H (by trivial))).mono ?_;rintro e V3 ⟨rfl,x3,g,l,m,Q,w⟩;have y:=H (w.at A (eO al));have S3:=H Q;have B3:=H (N.trans w);have b:=H (LG g (LG l m));clear Q w g l m z;go_wp2_with (refine fG y ?_);refine gH (aw y _) underlying81 ?_;rw [a.out];exact cQ rfl b.1 b.2.1 b.2.2 (S3.off81 y _) (B3.loc (ar _ R _) Y X q)
theorem F5 (B x cf h k o p d dc W) (T:xX B x cf h k o p d W) (q:o.kd=4) :
  Calls prog 41 #[.pointer (some ⟨x.P,0,none⟩),fH o d dc,.int .u64 p] W λe W'=>xZ B x cf W (dP cf h o p) e W':=by
 have l:=H (show dP cf h o p=(match aP h p with
  | .no code=>(.no code,h)
  | .slot c s j=>(⟨0,0,fy c,[]⟩,h)
  | .range r=>(⟨0,0,r.pages*1024,[]⟩,h)) by
  unfold dP;dsimp only;rw [tg Z,tg Z,tg Z,tg Z,tm q];cases aP h p <;> rfl)
 obtain⟨a,b⟩:∃ a,dP cf h o p=a:=⟨_,rfl⟩;rw [b];rw [b] at l;unfold fH;rw [q];obtain⟨X,t⟩:∃ X,(W.alloc (.cells #[.int .i64 4,.int .i64 o.ref,.int .u64 (o.p:Nat),.int .u64 (o.a:Nat),.int .u64 (o.b:Nat),.slice d o.ys.length dc] 61)).alloc (.cells #[.int .i64 0,.int .u64 0,.int .i64 0,.slice none 0 0] 81)=X:=⟨_,rfl⟩;obtain⟨n,z,u,DT,A,F,G,K,S⟩:=jh T 4 dc t;subst t;obtain⟨O,g,hB,P,L,hk,Q,a0,hp,ha,hb,y⟩:=T;have v:=H hB;have HD:=H Q;have HI:=H P;have f:=H g;have a1:=H L;have R:=O.ltQ;have a2:=L.rg;have hrel:=L.rel;have M:=H (λV (N:Sh B x cf h V)=>mf B x cf h p V N Z Z);have w:=jQ h p;obtain⟨Y,i⟩:∃ Y,aP h p=Y:=⟨_,rfl⟩;obtain⟨⟨t1,t2,t3⟩,m⟩:∃ q,ga h p=q:=⟨_,rfl⟩;rw [i,m] at w;rw [i] at l;rw [m] at M;clear i m;clear O P Q g S y b;go_enter func41,ntmps41;go_wp2_with fail;generalize N:(W.alloc _).alloc _=V at n z u DT A F G K ⊢;obtain⟨O,b⟩:∃ O,O=W.heap.size:=⟨_,rfl⟩;rw [<-b] at A F G K u ⊢;have HO:=H b;have P:=H R;clear b R N;obtain⟨R,b⟩:∃ R,R=O+1:=⟨_,rfl⟩;rw [<-b] at u ⊢;have Q:=H (show W.heap.size<=R by rw [b,HO.out];omega);clear b;refine (M _ n).mono ?_;rintro e S ⟨rfl,b⟩;have S1:=H (n.below b);have y:=H (n.bkB z v b);have m:=H (ae u b);clear b n z u M A F G K;unfold FN;cases w with
 | no code u =>
  have g:(t3 != 0)=true:=by rcases u with rfl|rfl <;> rfl
  have b:=H (show a=(.no t3,h) from l);clear u l;go_wp2_with (refine fG m ?_);refine gH (aw m _) underlying81 ?_;rw [b.out];exact cQ rfl rfl rfl f (S1.off81 m _) (y.loc (ar _ R _) Q P v)
 | slot c s j K A g z G =>
  have i:=nH A;rw [g] at i;dsimp only at i;obtain⟨u,M,hj⟩:=i;have a3:(0:Int)<=(K:Int):=Z;have b:=H (show a=(⟨0,0,fy c,[]⟩,h) from l);have c7:S.cell? ⟨x.P,7,none⟩=some (.slice (some ⟨x.G,0,none⟩) 1062 x.gc):=S1.cell 7 _ rfl;obtain⟨n,_,_,_,_,_⟩:=S1.slot A;rw [g] at n;have n:S.cell? ⟨x.G,K*6,none⟩=some (.int .i64 (c:Nat)):=n;have F:=H (λV=>zh c V u);clear l g z G;go_wp2_with fail;refine (F _).mono ?_;rintro e V2 ⟨rfl,g⟩;have S2:=H (S1.below g);have G:=H (S1.bkB y v g);have z:=H (ae m g);clear g S1 y m c7 n F;go_wp2_with (refine fG z ?_);refine gH (aw z _) underlying81 ?_;rw [b.out];exact cQ rfl rfl rfl f (S2.off81 z _) (G.loc (ar _ R _) Q P v)
 | range r i z A F =>
  have K:=(Jr.1 z).1;have n:=HI.rgs r (JA z);have M:r.pages<=96:=by unfold Rg9.ext at n;omega
  obtain⟨ra,rc,g⟩:=aG S1.rg;obtain⟨G,rfl⟩:=cw (g▸S1.rg) Z;obtain⟨_,_,_,d3,_,_⟩:=S1.range g z;have c9:S.cell? ⟨x.P,9,none⟩=some (.slice (some ⟨G,0,none⟩) h.rg.length rc):=by rw [<-g];exact S1.cell 9 _ rfl
  have b:=H (show a=(⟨0,0,r.pages*1024,[]⟩,h) from l);have a3:(i:Int)<(h.rg.length:Int):=Z;have HM:=H (show ((r.pages*1024:Nat):Int)=((r.pages:Nat):Int)*1024 by simp);generalize r.pages=rp at *;clear l n g z A F;go_wp2_with (refine fG m ?_);refine gH (aw m _) underlying81 ?_;rw [b.out];refine⟨x,.slice none 0 0,?_,fq _ _,λg n=>by simp [Value.ownBlock] at n,rfl,rfl,f,S1.off81 m _,y.loc (ar _ R _) Q P v⟩;unfold kC;dsimp only;rw [HM.out];rfl
theorem Ep (B x cf h k o p d dc W) (r:xX B x cf h k o p d W) (c:o.kd=5) (f:4096<o.a) :
  Calls prog 41 #[J x.P 0,fH o d dc,U p] W λe z=>xZ B x cf W (dP cf h o p) e z:=by
 have s:=H (show dP cf h o p=(.no 6,h) by
  unfold dP;dsimp only;rw [tg Z,tg Z,tg Z,tg Z,tg Z,tm c,tm f])
 obtain⟨g,a⟩:∃ g,dP cf h o p=g:=⟨_,rfl⟩;rw [a];rw [a] at s;unfold fH;rw [c];obtain⟨t,i⟩:∃ t,(W.alloc (.cells #[I 5,I o.ref,U o.p,U o.a,U o.b,.slice d o.ys.length dc] 61)).alloc (.cells #[I 0,U 0,I 0,C] 81)=t:=⟨_,rfl⟩;obtain⟨N,O,P,Q,R,S,T,V,A⟩:=jh r 5 dc i;subst i;obtain⟨l,b,F,u,m,X,w,G,Y,ha,hb,n⟩:=r;have K:=H F;have HD:=H w;have HI:=H u;have j:=H b;have L:=H m;have hQ:=l.ltQ;have M:=m.rg;have hrel:=m.rel;have y:=H l;have q:(4096:Int)<(o.a:Int):=Z;clear l u w b A n a;go_enter func41,ntmps41;go_wp2;have a:D W ((W.alloc (.cells #[I 5,I o.ref,U o.p,U o.a,U o.b,.slice d o.ys.length dc] 61)).alloc (.cells #[I 6,U 0,I 0,C] 81)):=((Jn _ _).alloc (Jo _) _).alloc (by rw [aA];omega) _;refine wA (v:=.agg #[I 6,U 0,I 0,C]) (by simp [results,Tryz.results41,go_sem]) rfl ?_;rw [s.out];exact cQ rfl rfl rfl j (y.below a) (y.bkB (Bk.refl _ _ _) K a)
theorem Fo (B x cf h k o p d dc W) (hA:xX B x cf h k o p d W) (K:o.kd=5) (a3:o.a<=4096) :
  Calls prog 41 #[J x.P 0,fH o d dc,U p] W λe T=>xZ B x cf W (dP cf h o p) e T:=by
 have X:=H (show dP cf h o p=(⟨cr h.m p (o.a:Int),0,0,if cr h.m p (o.a:Int)=0 then aI h.m p o.a else []⟩,h) by
  unfold dP;dsimp only;rw [tg Z,tg Z,tg Z,tg Z,tg Z,tm K,tg Z])
 obtain⟨L,f⟩:∃ L,dP cf h o p=L:=⟨_,rfl⟩;rw [f];rw [f] at X;unfold fH;rw [K];obtain⟨V9,M⟩:∃ V9,(W.alloc (.cells #[I 5,I o.ref,U o.p,U o.a,U o.b,.slice d o.ys.length dc] 61)).alloc (.cells #[I 0,U 0,I 0,C] 81)=V9:=⟨_,rfl⟩;obtain⟨r,BA,Y,DT,o0,q,o4,o5,N⟩:=jh hA 5 dc M;subst M;obtain⟨n,g,hB,s,hf,hk,t,a4,hp,ha,hb,m⟩:=hA;have HB:=H hB;have HD:=H t;have HI:=H s;have P:=H g;have a5:=H hf;have u:=n.ltQ;have a6:=hf.rg;have hrel:=hf.rel;obtain⟨j,i⟩:∃ j,cr h.m p (o.a:Int)=j:=⟨_,rfl⟩;rw [i] at X;obtain⟨b,a⟩:∃ b,(if j=0 then aI h.m p o.a else [])=b:=⟨_,rfl⟩;rw [a] at X;obtain⟨c,l⟩:∃ c,b.length=c:=⟨_,rfl⟩;have LD:=H (show ∀ V,Sx x.T x.Q 283 (cf.bud:Nat) h.m V->Calls prog 97 #[J x.T 0,U p,I o.a] V λe A=>∃ v,e=.returned (.agg #[I j,v])/\A.ownsRow V.heap.size 5 1 v c (Ns .u8 b)/\D V A from λV hV=>by
  have:=AV x.T x.Q 283 (cf.bud:Nat) h.m p (o.a:Int) V hV Z hp j i;rw [JL,a] at this;have e:(if j=0 then o.a else 0)=c:=by
   rw [<-l,<-a];split <;> simp [aI]
  rw [e] at this;exact this)
 have a0:=H l;have N:=H N;have a2:¬((4096:Int)<(o.a:Int)):=Z;have a7:IntKind.i64.wrap (o.a:Int)=(o.a:Int):=by rw [C6];omega
 clear i a l;clear n s t g N m f;go_enter func41,ntmps41;go_wp2_with fail;generalize hV:(W.alloc _).alloc _=V at r BA Y DT N o0 q o4 o5 ⊢;obtain⟨O,a⟩:∃ O,O=W.heap.size:=⟨_,rfl⟩;rw [<-a] at o0 q o4 o5 Y N ⊢;have HO:=H a;have HQ:=H u;clear a u hV;obtain⟨R,a⟩:∃ R,R=O+1:=⟨_,rfl⟩;rw [<-a] at Y ⊢;have HR:=H (show W.heap.size<=R by rw [a,HO.out];omega);clear a;have u:V.cell? ⟨x.P,6,none⟩=some (J x.T 0):=r.cell 6 _ rfl;go_upto_region 28 with fail
 go_cut [15] (λg A=>∃ (a:Nat) (f:Option Addr) (i:Nat),g=J a 0/\Hid (D V A)/\Hid (A.heap[a]?=some (.cells #[I j,.slice f c i] 157))/\Hid (A.ownsRow V.heap.size 5 1 (.slice f c i) c (Ns .u8 b)));case first =>
  refine rh (S:=λT=>T.cell? ⟨x.P,6,none⟩=some (J x.T 0)/\T.cell? ⟨O,3,none⟩=some (U o.a)) ?_;have g:=(show _/\_ from ⟨u,q⟩);iterate 8 (refine py g ?_;simp only [f0,f1,Nat.reduceAdd,lz,l0,ls])
  refine ns [8,9] λi9 l=>?_;rcases (by simpa using l:i9=8\/i9=9) with l|l
  ·subst l;refine cS λK' m=>?_;go_simp;refine (LD.out _ (r.below (Jn _ _).drew).sp).mono ?_;rintro e n ⟨v,rfl,Q,s⟩;have w:D V n:=⟨s.os,s.tape,s.output,s.size,s.block⟩;have t:_/\_:=⟨ol w u,ol w q⟩;obtain⟨f,i,y⟩:=aG Q;subst y;refine m.out _ _ ⟨t,?_⟩;clear g;have g:=t;clear m K';refine po 9 λK' m=>?_
   go_simp;have kA:D n (n.alloc (.cells #[I 0,C] 157)):=(Jn _ _).alloc (Jo _) _;have F:_/\_:=⟨ol kA t.1,ol kA t.2⟩;refine m.out _ _ ⟨F,?_⟩;clear g;have g:=F;clear m K';refine gu 10 ?_;have G:=av n (.cells #[I 0,C] 157);have k2:D n ((n.alloc (.cells #[I 0,C] 157)).setRow n.heap.size #[I j,.slice f c i]):=Below.setRow kA (Jo _) _;have z:=aB w k2;have zF:=aw G #[I j,.slice f c i];have oF:=ai Q (Ky.below k2:Ky (λ_=>False) _ _) (λe=>e);refine gh rfl rfl 157 _ _ rfl n.heap.size #[I j,.slice f c i] rfl rfl 157 _ G E rfl nm ⟨⟨ol z u,ol z q⟩,?_⟩;clear g;refine bY ?_;go_wp2_with fail;go_meet;case rel=>exact ⟨_,f,i,rfl,H z,H zF,H oF⟩
  subst l;refine cS λK' m=>?_;go_simp;have kA:D V (V.alloc (.cells #[I 0,C] 157)).drew:=((Jn _ _).alloc (Jo _) _).drew;have t:_/\_:=⟨ol kA u,ol kA q⟩;refine m.out _ _ ⟨t,?_⟩;clear g;have g:=t;clear m K';refine po 8 λK' m=>?_
  go_simp;refine (LD.out _ (r.below kA).sp).mono ?_;rintro e n ⟨v,rfl,Q,s⟩;have w:=aB kA s;have F:_/\_:=⟨ol w u,ol w q⟩;obtain⟨f,i,y⟩:=aG Q;subst y;refine m.out _ _ ⟨F,?_⟩;clear g;have g:=F;clear m K';refine gu 10 ?_;have a1:(V.alloc (.cells #[I 0,C] 157)).drew.heap[V.heap.size]?=some (.cells #[I 0,C] 157):=av V (.cells #[I 0,C] 157);have G:=ae a1 s;have z:D V (n.setRow V.heap.size #[I j,.slice f c i]):=Below.setRow w (Jo _) _;have zF:=aw G #[I j,.slice f c i];have oF:=cv (ai Q (Ky.grown G rfl (ar n V.heap.size #[I j,.slice f c i]):Ky (· = 157) _ _) al) kA.size;refine gh rfl rfl 157 _ _ rfl V.heap.size #[I j,.slice f c i] rfl rfl 157 _ G E rfl nm ⟨⟨ol z u,ol z q⟩,?_⟩;clear g;refine bY ?_;go_wp2_with fail;go_meet;case rel=>exact ⟨_,f,i,rfl,H z,H zF,H oF⟩
 case rest =>
 obtain⟨a,f,i,rfl,z,G,OF⟩:=hcut;have l:=z.out;have S3:=H (r.below l);have B3:=H (r.bkB BA.out HB.out l);have m:=H (ae Y.out l);have n:=G.out;have Q:=OF;have s:=H (show ∀ g,fm x.Q wc g->g<V.heap.size from λg w=>by
  obtain⟨c9,y⟩:=r.sp.pgT (di (l.block x.Q r.ltQ) w);exact ah y)
 have z0:wc.cell? ⟨a,0,none⟩=some (I j):=by simp [World.cell?,n]
 have z1:wc.cell? ⟨a,1,none⟩=some (.slice f c i):=by simp [World.cell?,n]
 have y:=H (show W.heap.size<=V.heap.size from BA.bel.size);clear l n z G LD u o0 q o4 o5;go_wp2_with (refine fG m.out ?_);refine gH (aw m.out _) underlying81 ?_;rw [X.out];have n:=ar wc R #[I j,U 0,I 0,.slice f c i];refine⟨x,.slice f c i,rfl,?_,λg w hp=>?_,rfl,rfl,P.out,S3.off81 m.out _,B3.loc n HR.out HQ.out HB.out⟩;·show World.ownsRow _ _ 5 1 _ b.length (Ns .u8 b);rw [a0.out];exact cv (ai Q.out (Ky.grown m.out rfl n:Ky (· = 81) _ _) al) y.out
 have t:V.heap.size<=g:=(aD Q.out w).1;obtain⟨q,l⟩:=S3.qrow;have F:=s.out g (di (((Ky.grown m.out rfl n:Ky (· = 81) _ _).cells _ _ _ _ l al).trans l.symm) hp);omega
theorem F0 (B x cf h k o p d dc W) (M:xX B x cf h k o p d W) (i:o.kd=6) :
  Calls prog 41 #[J x.P 0,fH o d dc,U p] W λe q=>xZ B x cf W (dP cf h o p) e q:=by
 have v:=H (show dP cf h o p=(.no (cr h.m p (o.ys.length:Int)),{ h with m:=if cr h.m p (o.ys.length:Int)=0 then ax h.m p o.ys o.ys.length else h.m }) by
  unfold dP;dsimp only;rw [tg Z,tg Z,tg Z,tg Z,tg Z,tg Z,tm i])
 obtain⟨j,a⟩:∃ j,dP cf h o p=j:=⟨_,rfl⟩;rw [a];rw [a] at v;unfold fH;rw [i];obtain⟨N,l⟩:∃ N,(W.alloc (.cells #[I 6,I o.ref,U o.p,U o.a,U o.b,.slice d o.ys.length dc] 61)).alloc (.cells #[I 0,U 0,I 0,C] 81)=N:=⟨_,rfl⟩;obtain⟨b,w,r,P,y,z,A,s,g⟩:=jh M 6 dc l;subst l;obtain⟨L,c,hB,O,F,hk,Q,a0,hp,ha,hb,G⟩:=M;have t:=H hB;have HD:=H Q;have HI:=H O;have n:=H c;have a1:=H F;have R:=L.ltQ;have a2:=F.rg;have hrel:=F.rel;obtain⟨u,f⟩:∃ u,cr h.m p (o.ys.length:Int)=u:=⟨_,rfl⟩;rw [f] at v;have ST:=H (λV (K:Sx x.T x.Q 283 (cf.bud:Nat) h.m V) (hD:Dt x.Q V d o.ys.length o.ys)=>sy x.T x.Q 283 (cf.bud:Nat) h.m p o.ys.length dc d o.ys V K hD Z hp u f);have g:=H g;clear f;clear L O Q c g G a;go_enter func41,ntmps41;go_wp2_with fail;generalize K:(W.alloc _).alloc _=V at b w r P g y z A s ⊢;obtain⟨O,a⟩:∃ O,O=W.heap.size:=⟨_,rfl⟩;rw [<-a] at y z A s r g ⊢;have Q:=H a;have HQ:=H R;clear a R K;obtain⟨R,a⟩:∃ R,R=O+1:=⟨_,rfl⟩;rw [<-a] at r ⊢;have T:=H (show W.heap.size<=R by rw [a,Q.out];omega);have f:=H (show R=O+1 from a);clear a;have G:=H (show O≠R by have:=T.out;have:=Q.out;have:=f.out;omega);have X:V.cell? ⟨x.P,6,none⟩=some (J x.T 0):=b.cell 6 _ rfl;refine rh (S:=λq=>q.cell? ⟨x.P,6,none⟩=some (J x.T 0)/\q.cell? ⟨O,5,none⟩=some (.slice d o.ys.length dc)) ?_;have a:=(show _/\_ from ⟨X,s⟩);iterate 7 (refine py a ?_;simp only [f0,f1,Nat.reduceAdd,lz,l0,ls])
 refine po 7 λK' Y=>?_;go_simp;refine (ST.out _ (b.below (Jn _ _).drew).sp (P.keep (Sf.ofBelow (Jn _ _).drew b.ltQ))).mono ?_;rintro e V1 ⟨rfl,x1,f1⟩;have S1:=H ((b.below (Jn _ _).drew).space (Jp t.out w.bel.size) _ x1 f1);have B1:=H ((b.below (Jn _ _).drew).bkS (b.bkB w.out t.out (Jn _ _).drew) t.out f1);have c:=H ((f1.ky (b.below (Jn _ _).drew).sp).cells _ _ _ _ r.out al);have O1:=(f1.ky (b.below (Jn _ _).drew).sp).cells _ _ _ _ g al;have L:_/\_:=⟨S1.cell 6 _ rfl,(show V1.cell? ⟨O,5,none⟩=some (.slice d o.ys.length dc) by simp only [World.cell?,O1];rfl)⟩;refine Y.out _ _ ⟨L,?_⟩;clear a;have a:=L;clear Y K'
 iterate 2 (refine py a ?_;simp only [f0,f1,Nat.reduceAdd,lz,l0,ls])
 refine gu 10 ?_;refine gh rfl rfl 81 _ _ rfl R #[I u,U 0,I 0,C] rfl rfl 81 _ c.out E rfl nm ⟨⟨(S1.off81 c.out _).cell 6 _ rfl,(show (V1.setRow R _).cell? ⟨O,5,none⟩=some (.slice d o.ys.length dc) by simp only [World.cell?,xr O1 _ G.out];rfl)⟩,?_⟩;clear a;refine bY ?_;clear x1 f1 X y z A s L;go_wp2;refine gH (aw c.out _) underlying81 ?_;rw [v.out];exact cQ rfl rfl rfl n.out (S1.off81 c.out _) (B1.loc (ar _ R _) T.out HQ.out t.out)
theorem F4 (B x cf h k o p d dc W) (n:xX B x cf h k o p d W) (i:o.kd<0\/6<o.kd) :
  Calls prog 41 #[J x.P 0,fH o d dc,U p] W λe w=>xZ B x cf W (dP cf h o p) e w:=by
 have q:=H (show dP cf h o p=(.no 6,h) by
  unfold dP;dsimp only;rw [tg Z,tg Z,tg Z,tg Z,tg Z,tg Z,tg Z])
 obtain⟨c,a⟩:∃ c,dP cf h o p=c:=⟨_,rfl⟩;rw [a];rw [a] at q;unfold fH;obtain⟨r,f⟩:∃ r,(W.alloc (.cells #[I o.kd,I o.ref,U o.p,U o.a,U o.b,.slice d o.ys.length dc] 61)).alloc (.cells #[I 0,U 0,I 0,C] 81)=r:=⟨_,rfl⟩;obtain⟨L,M,N,O,P,Q,R,S,y⟩:=jh n _ dc f;subst f;obtain⟨j,b,z,s,l,T,t,A,V,ha,X,m⟩:=n;have F:=H z;have Y:=H t;have HI:=H s;have g:=H b;have G:=H l;have hQ:=j.ltQ;have K:=l.rg;have hrel:=l.rel;have e0:(o.kd==0)=false:=cd;have e1:(o.kd==1)=false:=cd;have e2:(o.kd==2)=false:=cd;have e3:(o.kd==3)=false:=cd;have e4:(o.kd==4)=false:=cd;have e5:(o.kd==5)=false:=cd;have e6:(o.kd==6)=false:=cd;have u:=H j;clear j s t b y m a;go_enter func41,ntmps41;clear i;go_wp2;have a:D W ((W.alloc (.cells #[I o.kd,I o.ref,U o.p,U o.a,U o.b,.slice d o.ys.length dc] 61)).alloc (.cells #[I 6,U 0,I 0,C] 81)):=((Jn _ _).alloc (Jo _) _).alloc (by rw [aA];omega) _;refine wA (v:=.agg #[I 6,U 0,I 0,C]) (by simp [results,Tryz.results41,go_sem]) rfl ?_;rw [q.out];exact cQ rfl rfl rfl g (u.below a) (u.bkB (Bk.refl _ _ _) F a)
theorem Gq (B x cf h k o p d dc W) (a:xX B x cf h k o p d W) :
  Calls prog 41 #[J x.P 0,fH o d dc,U p] W λe g=>xZ B x cf W (dP cf h o p) e g:=by
 by_cases i:o.kd=0;·exact Gl B x cf h k o p d dc W a i
 by_cases c:o.kd=1
 ·by_cases b:18446744073709551616<=o.a*o.b;·exact EB B x cf h k o p d dc W a c b
  exact D7 B x cf h k o p d dc W a c Z
 by_cases j:o.kd=2;·exact He B x cf h k o p d dc W a j
 by_cases l:o.kd=3;·exact Gj B x cf h k o p d dc W a l
 by_cases m:o.kd=4;·exact F5 B x cf h k o p d dc W a m
 by_cases f:o.kd=5
 ·by_cases b:4096<o.a;·exact Ep B x cf h k o p d dc W a f b
  exact Fo B x cf h k o p d dc W a f Z
 by_cases n:o.kd=6;·exact F0 B x cf h k o p d dc W a n
 exact F4 B x cf h k o p d dc W a Z
def jX (cf:Cf) (da:Option Addr) (dc:Nat):Value:=.agg #[I cf.mix,I cf.fifo,I cf.large,I cf.bud,U cf.key,.slice da cf.ds.length dc]
def GW:Prop:=∀ (cf:Cf) (da:Option Addr) (dc:Nat) (W:World),kz cf->Sl W da cf.ds ->
 Calls prog 40 #[jX cf da dc] W λe W'=>∃ x:Sm,e=.returned (J x.P 0)/\nl x/\Sh W.heap.size x cf (bC cf) W'/\Below W.heap.size W W'
theorem ad {P:Program} {b:Func} {p q:Tmp} (h:b.results=#[.tmp p,.tmp q]) (a:Array Value) (w:World):(results b a).run P w=.ok (.tuple #[a.getD p undef,a.getD q undef]) w:=by
 simp [results,h]
theorem Few.new (cf):Few 0 (bC cf):=⟨Jo _,Jo _,Jo _,Jo _⟩
theorem EJ (b:GW) (cf da dc A) (b8:Nat) (ops w) (f:kz cf) (b9:1<=cf.large) (d:Sl w da cf.ds) (g:Ois w A ops) (hN:ops.length<=300) :
  Calls prog 20 #[jX cf da dc,.slice A ops.length b8] w λe W'=>∃ (x:Sm) (l:List Aw) (v:Value) (B:Nat),e=.returned (.tuple #[J x.P 0,v])/\w.heap.size<=B/\nl x/\Sh B x cf (ch cf (ops.map cH.o) (bC cf) []).1 W'/\l.map (·.1)=(ch cf (ops.map cH.o) (bC cf) []).2/\Rs B x.Q W' l v/\Below w.heap.size w W':=by
 obtain⟨N,a⟩:∃ N,ops.length=N:=⟨_,rfl⟩;rw [a];rw [a] at hN;have HN:=H a;have HO:=H g;have HD:=H f;have j:Below w.heap.size w (w.alloc (.cells #[I cf.mix,I cf.fifo,I cf.large,I cf.bud,U cf.key,.slice da cf.ds.length dc] 39)):=(Jn _ _).alloc (Jo _) _;have c:=av w (.cells #[I cf.mix,I cf.fifo,I cf.large,I cf.bud,U cf.key,.slice da cf.ds.length dc] 39);have i:=H (λW (k:Below w.heap.size w W)=>b cf da dc W f (d.ky (Ky.below k:Ky (λ_=>False) _ _) (λe=>e)));unfold jX at i ⊢;have k:(w.alloc (.cells #[I cf.mix,I cf.fifo,I cf.large,I cf.bud,U cf.key,.slice da cf.ds.length dc] 39)).cell? ⟨w.heap.size,0,none⟩=some (I cf.mix):=by simp only [World.cell?,c];rfl
 have m:(w.alloc (.cells #[I cf.mix,I cf.fifo,I cf.large,I cf.bud,U cf.key,.slice da cf.ds.length dc] 39)).cell? ⟨w.heap.size,1,none⟩=some (I cf.fifo):=by simp only [World.cell?,c];rfl
 have n:(w.alloc (.cells #[I cf.mix,I cf.fifo,I cf.large,I cf.bud,U cf.key,.slice da cf.ds.length dc] 39)).cell? ⟨w.heap.size,2,none⟩=some (I cf.large):=by simp only [World.cell?,c];rfl
 have o:(w.alloc (.cells #[I cf.mix,I cf.fifo,I cf.large,I cf.bud,U cf.key,.slice da cf.ds.length dc] 39)).cell? ⟨w.heap.size,3,none⟩=some (I cf.bud):=by simp only [World.cell?,c];rfl
 have p:(w.alloc (.cells #[I cf.mix,I cf.fifo,I cf.large,I cf.bud,U cf.key,.slice da cf.ds.length dc] 39)).cell? ⟨w.heap.size,4,none⟩=some (U cf.key):=by simp only [World.cell?,c];rfl
 have q:(w.alloc (.cells #[I cf.mix,I cf.fifo,I cf.large,I cf.bud,U cf.key,.slice da cf.ds.length dc] 39)).cell? ⟨w.heap.size,5,none⟩=some (.slice da cf.ds.length dc):=by simp only [World.cell?,c];rfl
 have BW:=H j;clear c d g f a b j;go_enter func20,ntmps20;go_wp2_with fail;refine (i _ BW).mono ?_;rintro e W2 ⟨x0,rfl,a,f,g⟩;clear k m n o p q i;generalize w.alloc _=X at BW f g;obtain⟨B,b⟩:∃ B,X.heap.size=B:=⟨_,rfl⟩;rw [b] at f g;have j:=H (show B<=X.heap.size by omega);have T:=H (show w.heap.size<=B by rw [<-b];exact BW.size);have a6:=H a;have S0:=H f;have B0:=H g;obtain⟨P0,c⟩:∃ P0,x0.P=P0:=⟨_,rfl⟩;obtain⟨S,d⟩:∃ S,x0.Q=S:=⟨_,rfl⟩;rw [c];have a7:=H c;have a8:=H d;have a2:=H (show ∀ V,Below B X V->Below w.heap.size w V from λV hV=>BW.trans (hV.mono T));clear a f g b c d;go_wp2;go_loopw [7,15] (λv i a=>∃ k:Nat,k<=N/\i=I k/\∃ (x:Sm) (l:List Aw),Hid (x.P=P0)/\Hid (x.Q=S)/\Hid (nl x)/\Hid (Sh B x cf (ch cf ((ops.take k).map cH.o) (bC cf) []).1 a)/\Hid (l.map (·.1)=(ch cf ((ops.take k).map cH.o) (bC cf) []).2)/\Hid (Rs B S a l v)/\Hid (Below B X a)) (λ_ i _=>N-(intOf i).toNat);case atStart=>exact ⟨0,Jt _,rfl,x0,[],a7,a8,a6,S0,H rfl,H ⟨⟨rfl,.inl ⟨rfl,rfl⟩⟩,λy hy=>(by cases hy),List.Pairwise.nil⟩,B0⟩
 case round =>
  clear S0 B0 a6 a7 a8;obtain⟨k,hk,rfl,x,l,O,b,W,HS,f,HR,HB⟩:=hrel;obtain⟨va,vc,c0⟩:=aG HR.row;subst c0;by_cases c1:k<N
  ·obtain⟨q,F⟩:∃ q,ops[k]?=some q:=⟨_,Jq (by rw [HN.out];exact c1)⟩;have a0:=JA F;obtain⟨G,rfl,hG,c⟩:=HO.at_ k q F;have a3:=HO.wf q a0;have c2:=H (λV (hV:Below B X V) (hp:∀ g,fm S V g->B<=g) (a:B<=S)=>HO.dt (a2 V hV) (Jp T a) (λg s=>Jp T (hp g s)) a0);have p:=a2.out _ HB.out;have u0:wr.cell? ⟨G,k*6,none⟩=some (I q.o.kd):=de p (c 0 _ rfl);have u1:=de p (c 1 _ rfl);have u2:=de p (c 2 _ rfl);have u3:=de p (c 3 _ rfl);have u4:=de p (c 4 _ rfl);have u5:=de p (c 5 _ rfl);obtain⟨⟨a,t⟩,n⟩:∃ r,ch cf ((ops.take k).map cH.o) (bC cf) []=r:=⟨_,rfl⟩;have o:t.length=k:=by
    have:=j_ cf ((ops.take k).map cH.o) (bC cf) [];rw [n] at this;simp at this;rw [this,HN.out];omega
   obtain⟨K,r⟩:=kf cf HD.fifo1 ((ops.take k).map cH.o) (bC cf) [] 0 (Inv.new cf) (Few.new cf);rw [n] at K r HS f;dsimp only at K r HS f;have r:Few k a:=r.mono cd;have z:l.length=k:=(by have:=congrArg List.length f.out;simp at this;omega);have a9:=H z;have c6:l.length<=300:=Z;have d:ch cf ((ops.take (k+1)).map cH.o) (bC cf) []=((cW cf a t q.o).2,t++[(cW cf a t q.o).1]):=by
    rw [JK,F];simp only [Lx,H2,KV,List.map_nil];rw [kP,n]
   have NX:=H (show (ch cf ((ops.take (k+1)).map cH.o) (bC cf) []).1=(cW cf a t q.o).2 by rw [d]);have m:=H (show (ch cf ((ops.take (k+1)).map cH.o) (bC cf) []).2=t++[(cW cf a t q.o).1] by rw [d]);have IV:=H K;have FW:=H r;have a1:=H o;have L:Below wr.heap.size wr (wr.alloc (.cells #[I q.o.kd,I q.o.ref,U q.o.p,U q.o.a,U q.o.b,.slice q.d q.o.ys.length q.dc] 61)):=(Jn _ _).alloc (Jo _) _;have Y1:=H (av wr (.cells #[I q.o.kd,I q.o.ref,U q.o.p,U q.o.a,U q.o.b,.slice q.d q.o.ys.length q.dc] 61));have S1:=H (HS.below L);have R1:=H (HR.bk (Bk.ofBelow L (b.out▸HS.ltQ) (Jo _)));have B1:=H (show Below B X (wr.alloc (.cells #[I q.o.kd,I q.o.ref,U q.o.p,U q.o.a,U q.o.b,.slice q.d q.o.ys.length q.dc] 61)) from HB.trans (L.mono (Jp j HB.size)));have z1:(wr.alloc (.cells #[I q.o.kd,I q.o.ref,U q.o.p,U q.o.a,U q.o.b,.slice q.d q.o.ys.length q.dc] 61)).cell? ⟨wr.heap.size,1,none⟩=some (I q.o.ref):=(by simp only [World.cell?,Y1.out];rfl);clear c F n d K r L p o HS HR HB z;have n:=H (show cW cf a t q.o=if q.o.ref=0 then dP cf a q.o q.o.p else if q.o.ref<0\/(t.length:Int)<q.o.ref then (.no 6,a) else dP cf a q.o ((q.o.p+((t[q.o.ref.toNat-1]?.map An4.addr).getD 0))%18446744073709551616) from rfl);by_cases c:q.o.ref<0\/(k:Int)<q.o.ref
   ·have d:cW cf a t q.o=(.no 6,a):=(by rw [n.out,tg Z,tm (by rw [a1.out];exact c)]);rw [d] at NX m;clear n d;have d:=S1;have p:=R1;have K:Below (wr.alloc (.cells #[I q.o.kd,I q.o.ref,U q.o.p,U q.o.a,U q.o.b,.slice q.d q.o.ys.length q.dc] 61)).heap.size (wr.alloc (.cells #[I q.o.kd,I q.o.ref,U q.o.p,U q.o.a,U q.o.b,.slice q.d q.o.ys.length q.dc] 61)) ((wr.alloc (.cells #[I q.o.kd,I q.o.ref,U q.o.p,U q.o.a,U q.o.b,.slice q.d q.o.ys.length q.dc] 61)).alloc (.cells #[I 6,U 0,I 0,C] 81)):=(Jn _ _).alloc (Jo _) _;have SA:=H (S1.below K);have P:=H (R1.bk (Bk.ofBelow (B:=0) K (b.out▸S1.ltQ) (Jt _)));have LB:=H (show B<=((wr.alloc (.cells #[I q.o.kd,I q.o.ref,U q.o.p,U q.o.a,U q.o.b,.slice q.d q.o.ys.length q.dc] 61)).alloc (.cells #[I 6,U 0,I 0,C] 81)).heap.size from Jp (Jp j B1.size) K.size);have BA:=H (show Below B X ((wr.alloc (.cells #[I q.o.kd,I q.o.ref,U q.o.p,U q.o.a,U q.o.b,.slice q.d q.o.ys.length q.dc] 61)).alloc (.cells #[I 6,U 0,I 0,C] 81)) from B1.trans (K.mono (Jp j B1.size)));obtain⟨v4,w4,e4,o4,g4⟩:=qE _ B (.slice va l.length vc) l ((An4.no 6,C):Aw) _ 1 P.row (av (wr.alloc (.cells #[I q.o.kd,I q.o.ref,U q.o.p,U q.o.a,U q.o.b,.slice q.d q.o.ys.length q.dc] 61)) (.cells #[I 6,U 0,I 0,C] 81)) rfl Z LB.out;obtain⟨cq,o⟩:=SA.qrow;rw [b.out] at o;obtain⟨k4,L,Q⟩:=Bk.ofAns P.row o g4;have S4:=H (SA.kyO k4 (.inl rfl));have B4:=H (BA.trans (Q B (Jo _) LB));have R4:=H (show Rs B S w4 (l++[((An4.no 6,C):Aw)]) v4 from ⟨o4,λz hz=>by
     rcases JV.1 hz with M|M;·exact⟨ai (P.dat z M).1 k4 al,λg s hp=>(P.dat z M).2 g s (L g hp)⟩
     simp at M;subst M;exact⟨fq _ _,λg s=>by simp [Value.ownBlock] at s⟩,by
     rw [KT];exact⟨P.dis,bh,λz hz u hu g s a4=>by
      simp at hu;subst hu;simp [Value.ownBlock] at a4⟩⟩)
    rw [aA] at e4;clear o4 k4 L Q o g4 K;by_cases R:q.o.ref<0
    ·clear c;go_wp2_with (at_builtin;refine dh rfl (.tmp 29) (.tmp 31) (by with_reducible rfl) rfl rfl rfl e4 ?_);go_roundw;(case rel=>exact ⟨k+1,Z,aR,x,l++[((An4.no 6,C):Aw)],O,b,W,by rw [NX.out];exact S4,H (by rw [m.out,H2,f.out];rfl),R4,B4⟩);case measure=>(simp [intOf];try omega)
    have a5:(l.length:Int)<q.o.ref:=(by have:=a9.out;omega);clear c;go_wp2_with (at_builtin;refine dh rfl (.tmp 29) (.tmp 31) (by with_reducible rfl) rfl rfl rfl e4 ?_);go_roundw;(case rel=>exact ⟨k+1,Z,aR,x,l++[((An4.no 6,C):Aw)],O,b,W,by rw [NX.out];exact S4,H (by rw [m.out,H2,f.out];rfl),R4,B4⟩);case measure=>(simp [intOf];try omega)
   skip
   have R:¬(q.o.ref<0):=Z;have a5:¬((l.length:Int)<q.o.ref):=(by have:=a9.out;omega);have z0:(wr.alloc (.cells #[I q.o.kd,I q.o.ref,U q.o.p,U q.o.a,U q.o.b,.slice q.d q.o.ys.length q.dc] 61)).cell? ⟨wr.heap.size,0,none⟩=some (I q.o.kd):=(by simp only [World.cell?,Y1.out];rfl);have z2:(wr.alloc (.cells #[I q.o.kd,I q.o.ref,U q.o.p,U q.o.a,U q.o.b,.slice q.d q.o.ys.length q.dc] 61)).cell? ⟨wr.heap.size,2,none⟩=some (U q.o.p):=(by simp only [World.cell?,Y1.out];rfl);have z3:(wr.alloc (.cells #[I q.o.kd,I q.o.ref,U q.o.p,U q.o.a,U q.o.b,.slice q.d q.o.ys.length q.dc] 61)).cell? ⟨wr.heap.size,3,none⟩=some (U q.o.a):=(by simp only [World.cell?,Y1.out];rfl);have z4:(wr.alloc (.cells #[I q.o.kd,I q.o.ref,U q.o.p,U q.o.a,U q.o.b,.slice q.d q.o.ys.length q.dc] 61)).cell? ⟨wr.heap.size,4,none⟩=some (U q.o.b):=(by simp only [World.cell?,Y1.out];rfl);have z5:(wr.alloc (.cells #[I q.o.kd,I q.o.ref,U q.o.p,U q.o.a,U q.o.b,.slice q.d q.o.ys.length q.dc] 61)).cell? ⟨wr.heap.size,5,none⟩=some (.slice q.d q.o.ys.length q.dc):=(by simp only [World.cell?,Y1.out];rfl);(go_upto_if 37 with fail);generalize wr.alloc _=V at Y1 S1 R1 B1 z0 z1 z2 z3 z4 z5 ⊢;generalize wr.heap.size=Y at Y1 z0 z1 z2 z3 z4 z5 ⊢;clear u0 u1 u2 u3 u4 u5;go_cut [10] (λd i=>∃ pp:Nat,d=U pp/\pp<18446744073709551616/\Hid (cW cf a t q.o=dP cf a q.o pp)/\i=V);case first =>
    by_cases p:q.o.ref=0
    ·have r:¬((0:Int)<q.o.ref):=Z;have HE:=H (n.trans (tm p));clear p c n;go_wp2;go_meet;case rel=>exact ⟨q.o.p,rfl,a3.1,HE,rfl⟩
    have r:(0:Int)<q.o.ref:=Z;obtain⟨d,F⟩:∃ d:Nat,q.o.ref=(d:Int)+1:=⟨(q.o.ref-1).toNat,Z⟩;have b3:d<l.length:=Z;obtain⟨y,hy⟩:∃ y,l[d]?=some y:=⟨_,Jq b3⟩;obtain⟨gA,b4⟩:=cw R1.row Z;subst b4;have cA:V.cell? ⟨gA,d*4+1,none⟩=some (U y.1.addr):=be R1.row (d*4+1) _ (eY aC 4 (λ_=>rfl) l d y hy 1 Z);have HE:=H (show cW cf a t q.o=dP cf a q.o ((q.o.p+y.1.addr)%18446744073709551616) by
     rw [n.out,tg p,tg (by rw [a1.out];exact c)];have e1:q.o.ref.toNat-1=d:=Z;have e2:t[d]?=some y.1:=(by rw [<-f.out,J6,hy];rfl);rw [e1,e2];rfl)
    have b5:((d:Int)+1-1)=(d:Int):=Z;have c3:IntKind.i64.wrap ((d:Int)+1-1)=(d:Int):=(by rw [b5];rw [C6];omega);have b7:(d:Int)<(l.length:Int):=Z;have b6:=H (show IntKind.u64.wrap ((q.o.p:Int)+(y.1.addr:Int))=(((q.o.p+y.1.addr)%18446744073709551616:Nat):Int) by rw [eW];simp);rw [F] at z1 r R a5 ⊢;clear p c n hy F;generalize y.1.addr=p at *;go_wp2;go_meet;case rel=>exact ⟨(q.o.p+p)%18446744073709551616,by rw [<-b6.out],Nat.mod_lt _ Z,HE,rfl⟩
   case rest =>
    obtain⟨pp,rfl,c3,HE,c4⟩:=hcut;subst c4;rw [HE.out] at NX m;have DO:=H (Gq B x cf a k q.o pp q.d q.dc wc ⟨S1,W,Jp j B1.size,IV,FW,Z,HD,b9,c3,a3.2.1,a3.2.2,b.out▸c2.out wc B1 (λg s=>S1.bg g (b.out▸s)) (b.out▸S1.bq)⟩);unfold fH at DO;rw [O.out] at DO;obtain⟨r9,d⟩:∃ r9,dP cf a q.o pp=r9:=⟨_,rfl⟩;rw [d] at DO NX m;clear n HE c R a5 d;go_wp2_with fail;refine DO.mono ?_;rintro e V2 ⟨x2,vd,rfl,od,np,b3,b4,b5,s2,b2⟩;obtain⟨p,r,c5⟩:=aG od;subst c5;rw [b.out] at np b2;have S2:=H s2;have F:=H (show x2.Q=S by rw [b4];exact b);have b6:=H (show x2.P=P0 by rw [b3];exact O);have b7:=H b5;have R2:=H (R1.bk b2);have B2:=H (B1.trans b2.bel);have LV:=H (show B<=wc.heap.size from Jp j B1.size);obtain⟨d,r2⟩:=r9;clear s2 b2 b3 b4 b5 DO;unfold kC;dsimp only at od NX m ⊢;have K:Below V2.heap.size V2 (V2.alloc (.cells #[I d.code,U d.addr,I d.size,.slice p d.data.length r] 81)):=(Jn _ _).alloc (Jo _) _;have SA:=H (S2.below K);have P:=H (R2.bk (Bk.ofBelow (B:=0) K (F.out▸S2.ltQ) (Jt _)));have LB:=H (show B<=(V2.alloc (.cells #[I d.code,U d.addr,I d.size,.slice p d.data.length r] 81)).heap.size from Jp (Jp j B2.size) K.size);have BA:=H (show Below B X (V2.alloc (.cells #[I d.code,U d.addr,I d.size,.slice p d.data.length r] 81)) from B2.trans (K.mono (Jp j B2.size)));obtain⟨v4,w4,e4,o4,g4⟩:=qE _ B (.slice va l.length vc) l ((d,.slice p d.data.length r):Aw) _ 1 P.row (av V2 (.cells #[I d.code,U d.addr,I d.size,.slice p d.data.length r] 81)) rfl Z LB.out;obtain⟨cq,o⟩:=SA.qrow;rw [F.out] at o;obtain⟨k4,L,Q⟩:=Bk.ofAns P.row o g4;have S4:=H (SA.kyO k4 (.inl rfl));have B4:=H (BA.trans (Q B (Jo _) LB));have R4:=H (show Rs B S w4 (l++[((d,.slice p d.data.length r):Aw)]) v4 from ⟨o4,λz hz=>by
     rcases JV.1 hz with M|M;·exact⟨ai (P.dat z M).1 k4 al,λg s hp=>(P.dat z M).2 g s (L g hp)⟩
     simp at M;subst M;exact⟨cv (ai (ai od (Ky.below K:Ky (λ_=>False) _ _) (λe=>e)) k4 al) LV,λg s hp=>np g s (di (K.block S (F.out▸S2.ltQ)) (L g hp))⟩,by
     rw [KT];exact⟨P.dis,bh,λz hz u hu g s a4=>by
      simp at hu;subst hu;have M:=(aD od a4).1;obtain⟨_,c9,b3⟩:=aD (R1.dat z hz).1 s;have h2:=ah b3;omega⟩⟩)
    clear o4 k4 L Q o g4 K od np z0 z2 z3 z4 z5;go_wp2_with (at_builtin;refine dh rfl (.tmp 47) (.tmp 52) (by with_reducible rfl) rfl rfl rfl e4 ?_);go_roundw;(case rel=>exact ⟨k+1,Z,aR,x2,l++[((d,.slice p d.data.length r):Aw)],b6,F,b7,by rw [NX.out];exact S4,H (by rw [m.out,H2,f.out];rfl),R4,B4⟩);case measure=>(simp [intOf];try omega)
  obtain rfl:k=N:=Z;have a:=H (show ops.take k=ops from JN (by rw [HN.out];exact Jo _));rw [a.out] at HS f;go_wp2;refine wA (ad dC _ _) dC ?_;exact⟨x,l,_,B,by rw [O.out];rfl,T,W,HS,f,b.out▸HR.out,a2 _ HB⟩
end
end Go.Proofs.YtdfodlhkdmkfdaaGreatDoor
