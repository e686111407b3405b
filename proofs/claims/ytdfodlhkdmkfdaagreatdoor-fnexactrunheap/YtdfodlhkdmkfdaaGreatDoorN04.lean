import Derived.Test.YtdfodlhkdmkfdaaGreatDoorN03
set_option linter.unusedVariables false
set_option linter.unusedSimpArgs false
set_option maxRecDepth 20000
set_option maxHeartbeats 8000000
namespace Go.Proofs.YtdfodlhkdmkfdaaGreatDoor
open Go.Proofs.Tryz
variable {f:Nat->Option Nat} {m:Nat->Option (Bool×List Int)} {W W' w:World} {S:World->Prop} {T fuel i n:Nat} {Q:Exit->Act->World->Prop} {bud:Int} {v:Value} {P:Program} {ops:Array Oper} {a:Act} {md:Region.Mode} {l' listed:Array Bool} {oi:Oper} {t':Array Value}
section
open Go.RowKit Go.Shelf
attribute [local go_sem] Oper.semAt_some
def bQ (m:Nat->Option (Bool×List Int)) (first:Nat):Nat->(Nat->Option (Bool×List Int))
 | 0=>m
 | k+1=>dY (bQ m first k) (first+k) none
theorem Pg.drop (h:Pg f m W) (k):Pg (upd f k none) (dY m k none) W:=by
 constructor
 ·intro j;by_cases e:j=k;·subst e;exact .inl ⟨upd_same _ _ _,bZ _ _ _⟩
  rw [aW m k j _ e,aL f k j _ e];exact h.at' j
 intro i j b a c;by_cases e:i=k;·subst e;rw [upd_same] at a;cases a
 by_cases d:j=k;·subst d;rw [upd_same] at c;cases c
 rw [aL f k i _ e] at a;rw [aL f k j _ d] at c;exact h.inj i j b a c
theorem Pg.without {f m W} (h:Pg f m W) (first):∀ k,Pg (without f first k) (bQ m first k) W
 | 0=>h
 | k+1=>(Pg.without h first k).drop (first+k)
theorem Pg.turned {M:Nat} (h:Pg f m W) (c:∀ k b,f k=some b->b≠M) (d:W.mapTurned W' M):Pg f m W':=by
 refine⟨?_,h.inj⟩;intro j;rcases h.at' j with a|⟨b,l,e,a,g,i,k⟩;·exact .inl a
 exact .inr ⟨b,l,e,a,g,i,by rw [ed d (c j b a)];exact k⟩
theorem gX {f first} : ∀ {k j b:Nat},without f first k j=some b->f j=some b
 | 0,_,_,h=>h
 | k+1,j,b,h=>by
  simp only [without] at h
  by_cases e:j=first+k
  ·subst e;rw [upd_same] at h;cases h
  rw [aL _ _ _ _ e] at h
  exact gX h
theorem Fr.without {S M:Nat} (first k:Nat) (a:W.mapTurned W' M):Fr S M f (without f first k) W W':=by
 have h:=(Fr.refl S M f W).turned a;exact⟨h.os,h.tape,h.output,h.size,h.block,λj g e=>.inl ⟨j,gX e⟩⟩
theorem qn (S M st n bud f m) (first a:Nat) (w) (h:Im S M st n bud f w) (j:Pg f m w) (k:0<=n) (d:n<=4096) (g:bK n first a=true) (b:bz f first a=a) :
  Calls prog 200 #[J S 0,I first,I a] w λe c=>e=.returned (I 0)/\∃ i,Im S M st n bud i c/\Pg i (bQ m first a) c/\Fr S M f i w c:=by
 refine (p_ S M st n bud f first a w h k d g b).mono ?_;rintro e c ⟨rfl,l,i⟩;exact⟨rfl,_,l,(j.without first a).turned (λk b e=>(j.apart h (gX e)).2) i,Fr.without first a i⟩
theorem Sx.set3 {Q} (h:Sx T Q n bud m W) (k:Nat) (S:k<n) (v:Option (Bool×List Int)) (x y z:Value) (F:∀ g j,j<n->j≠k->W.cell? ⟨Q,j*3+2,none⟩=some (Vl g 1024 1024)->z≠Vl g 1024 1024) (G:∀ (c:Array Value) (W':World),c[k*3]?=some x->c[k*3+1]?=some y->c[k*3+2]?=some z->(∀ g,g≠Q->W'.heap[g]?=W.heap[g]?)->zE W' c k v) :
  Sx T Q n bud (dY m k v) (((W.setCell ⟨Q,k*3,none⟩ x).setCell ⟨Q,k*3+1,none⟩ y).setCell ⟨Q,k*3+2,none⟩ z):=by
 obtain⟨c,p,K,L,s⟩:=h.row;have t:T≠Q:=by
  intro e;subst e;rw [h.box] at p;simp at p
 have w:∀ g,g≠Q->(((W.setCell ⟨Q,k*3,none⟩ x).setCell ⟨Q,k*3+1,none⟩ y).setCell ⟨Q,k*3+2,none⟩ z).heap[g]?=W.heap[g]?:=by
  intro g a;rw [t4 _ _ _ _ a,t4 _ _ _ _ a,t4 _ _ _ _ a]
 have M:(((W.setCell ⟨Q,k*3,none⟩ x).setCell ⟨Q,k*3+1,none⟩ y).setCell ⟨Q,k*3+2,none⟩ z).heap[Q]?=some (.cells (((c.setIfInBounds (k*3) x).setIfInBounds (k*3+1) y).setIfInBounds (k*3+2) z) 164):=aO (aO (aO p x) y) z;generalize ((W.setCell ⟨Q,k*3,none⟩ x).setCell ⟨Q,k*3+1,none⟩ y).setCell ⟨Q,k*3+2,none⟩ z=W' at *;refine⟨(w T t).trans h.box,⟨_,M,by simpa using K,?_,?_⟩,?_⟩
 ·intro j u;by_cases e:j=k
  ·subst e;rw [bZ];refine G _ _ ?_ ?_ ?_ w;·simp [show j*3<c.size by omega]
   ·simp [show j*3+1<c.size by omega]
   simp [show j*3+2<c.size by omega]
  rw [aW m k j v e];have a:=L j u;have q:∀ i,i<3->(((c.setIfInBounds (k*3) x).setIfInBounds (k*3+1) y).setIfInBounds (k*3+2) z)[j*3+i]?=c[j*3+i]?:=by
   intro i b;rw [JC,tg Z,JC,tg Z,JC,tg Z]
  have f:=q 0 Z;have A:=q 1 Z;have b:=q 2 Z;rw [Kq] at f;cases B:m j with
  | none =>
   rw [B] at a;exact⟨f.trans a.1,A.trans a.2.1,b.trans a.2.2⟩
  | some r =>
   obtain⟨l,V⟩:=r;rw [B] at a;obtain⟨N,O,P,g,R,o⟩:=a;refine⟨f.trans N,A.trans O,P,g,b.trans R,(w g ?_).trans o⟩;intro d;subst d;rw [p] at o;simp at o
 ·have q:∀ g j,j<n->j≠k->c[j*3+2]?=some (Vl g 1024 1024)->z≠Vl g 1024 1024:=λg j f l a=>F g j f l (by simp [World.cell?,p,a])
  have b:∀ j,j<n->j≠k->(((c.setIfInBounds (k*3) x).setIfInBounds (k*3+1) y).setIfInBounds (k*3+2) z)[j*3+2]?=c[j*3+2]?:=by
   intro j u t;rw [JC,tg Z,JC,tg Z,JC,tg Z]
  have A:(((c.setIfInBounds (k*3) x).setIfInBounds (k*3+1) y).setIfInBounds (k*3+2) z)[k*3+2]?=some z:=by simp [show k*3+2<c.size by omega]
  intro i j g f l a o;by_cases r:i=k
  ·by_cases d:j=k;·omega
   subst r;rw [A] at a;rw [b j l d] at o;exact absurd (Option.some.inj a) (q g j l d o)
  by_cases d:j=k;·subst d;rw [A] at o;rw [b i f r] at a;exact absurd (Option.some.inj o) (q g i f r a)
  rw [b i f r] at a;rw [b j l d] at o;exact s i j g f l a o
 intro j u;rw [aW m k j v Z];exact h.out j u
def aV (m:Nat->Option (Bool×List Int)):Nat->List Int
 | 0=>[]
 | k+1=>if isOpen (m k) then aV m k++[(k:Int)] else aV m k
theorem ie (m):∀ k,(aV m k).length<=k
 | 0=>Jo _
 | k+1=>by have:=ie m k;simp only [aV];split <;> simp <;> omega
theorem Tryz.info3Op:(prog.info? 3).map (λi=>(i.zero,i.size,i.bytes))=some (some (I 0),1,8):=E
theorem fK (W:World) (x:Value) (t:TypeId) (b:Nat) (a:W.heap.size=b):∀ j u,[x][j]?=some u->(W.alloc (.cells #[x] t)).cell? ((⟨b,0,none⟩:Addr).add j)=some u:=by
 subst a;intro j u h;cases j with
 | zero =>
  simp at h;subst h;rw [show (⟨W.heap.size,0,none⟩:Addr).add 0=⟨W.heap.size,0,none⟩ from rfl,World.cell?_alloc_at _ _ _ _ rfl];rfl
 | succ j=>simp at h
theorem db {A:World} {a:Nat} {e:TypeId} {b:List Value} (h:A.ownsRow a e 1 v n b):∀ r,v.ownBlock=some r->a<=r:=by
 intro r e;rcases h.2 with ⟨rfl,_⟩|⟨g,c,d,rfl,f,i,_⟩;·cases e
 cases e;exact f
theorem uC (T Q n bud m w) (h:Sx T Q n bud m w) (V:n<=4096) :
  Calls prog 43 #[J T 0] w λe F=>∃ v,e=.returned v/\F.ownsRow w.heap.size 3 1 v (aV m n).length (Ns .i64 (aV m n))/\D w F:=by
 obtain⟨P,s,t,x,y⟩:=zr Tryz.info3Op;obtain⟨W,X⟩:=h.c;have R:=H h;clear h;go_enter func43,ntmps43;go_wp2;go_loopw [3,11] (λv i wr=>∃ k:Nat,k<=n/\i=I k/\Hid (wr.ownsRow w.heap.size 3 1 v (aV m k).length (Ns .i64 (aV m k)))/\Hid (D w wr)) (λ_ i _=>n-(intOf i).toNat);case atStart=>exact ⟨0,Jt _,rfl,H ⟨rfl,.inl ⟨rfl,rfl⟩⟩,H (Jn _ _)⟩
 case round =>
  obtain⟨k,Y,rfl,b,a⟩:=hrel;by_cases z:k<n
  ·obtain⟨G,p,l,c,K,L,M,d⟩:=R.three k z;have K:=ol a.out K;have L:=ol a.out L;have M:=ol a.out M;have S:=ie m k;have q:=H (a.alloc a.size (.cells #[.bool (m k).isSome,.bool G,.slice p l c] 164));have A:=H (b.alloc (.cells #[.bool (m k).isSome,.bool G,.slice p l c] 164));cases f:isOpen (m k)
   ·have r:=H (show aV m (k+1)=aV m k by simp only [aV];rw [f];rfl);rw [f] at d;clear f b a;generalize (m k).isSome=B at *;cases B
    ·go_wp2;go_roundw;(case rel=>exact ⟨k+1,Z,aR,by rw [r.out];exact A,q⟩);case measure=>simp [intOf];omega
    simp only [Bool.true_and] at d;subst d;go_wp2;go_roundw;(case rel=>exact ⟨k+1,Z,aR,by rw [r.out];exact A,q⟩);case measure=>simp [intOf];omega
   have r:=H (show aV m (k+1)=aV m k++[(k:Int)] by simp only [aV];rw [f];rfl);rw [f] at d;clear f b a;generalize (m k).isSome=B at *;cases B;·simp at d
   simp only [Bool.true_and] at d;subst d;have g:=H (A.alloc (.cells #[I k] 3));have f:=H (q.alloc q.size (.cells #[I k] 3));go_wp2_with (at_builtin;refine Kt _ rfl _ _ 23 rfl w.heap.size 3 P (I 0) 1 8 underlying23 s t x y rfl Z _ _ _ rfl g.out _ 1 1 [I k] rfl rfl ?hc ?h1c ?b1 ?b2 ?b3 ?_);(case hc=>exact fK _ _ _ _ bh);(case h1c=>intro u N;simp at N;subst N;rfl);(case b1=>unfold maxLen;omega);(case b2=>omega);(case b3=>exact f.size);intro v1 w1 j o _;have O:=H (LG j (f.grown o f.size (db g.out)));clear j o;go_wp2;go_roundw;(case rel=>exact ⟨k+1,Z,aR,H (by rw [r.out];simpa [Ns] using O.1),H O.2⟩);case measure=>simp [intOf];omega
  have c:k=n:=Z;subst c;go_wp2;go_ret;exact⟨_,rfl,b.out,a.out⟩
def fm (Q:Nat) (w:World) (g:Nat):Prop:=∃ k,w.cell? ⟨Q,k*3+2,none⟩=some (.slice (some ⟨g,0,none⟩) 1024 1024)
structure Sf (Q:Nat) (w w':World):Prop where
  os:w'.os=w.os
  tape:w'.tape=w.tape
  output:w'.output=w.output
  size:w.heap.size<=w'.heap.size
  block:∀ g,g<w.heap.size->g≠Q->¬fm Q w g->w'.heap[g]?=w.heap[g]?
  pg:∀ g,fm Q w' g->fm Q w g\/w.heap.size<=g
theorem Sf.refl (Q w):Sf Q w w:=⟨rfl,rfl,rfl,Jo _,λ_ _ _ _=>rfl,λ_ h=>.inl h⟩
theorem Sf.trans {Q a b c} (h:Sf Q a b) (k:Sf Q b c):Sf Q a c :=
  ⟨k.os.trans h.os,k.tape.trans h.tape,k.output.trans h.output,Jp h.size k.size,
   λg e d f=>(k.block g (Ju e h.size) d (λi=>by
     rcases h.pg g i with i|i
     · exact f i
     · omega)).trans (h.block g e d f),
   λg e=>by
     rcases k.pg g e with d|d
     · exact h.pg g d
     · exact .inr (Jp h.size d)⟩
theorem Sf.ofBelow {Q:Nat} {w'} (h:D w w') (b:Q<w.heap.size):Sf Q w w' :=
 ⟨h.os,h.tape,h.output,h.size,λg c _ _=>h.block g c,λg ⟨k,a⟩=>.inl ⟨k,by
  unfold World.cell? at a ⊢
  rw [h.block Q b] at a
  exact a⟩⟩
theorem Sf.below {Q} {B:Nat} {w'} (h:Sf Q w w') (b:B<=w.heap.size) (c:B<=Q) (a:∀ g,fm Q w g->B<=g):Below B w w' :=
 ⟨h.os,h.tape,h.output,h.size,λg d=>h.block g Z Z (λb=>by have:=a g b;omega)⟩
theorem ah {R:Nat} {o:Obj} (h:W.heap[R]?=some o):R<W.heap.size:=by
 by_cases a:R<W.heap.size;·exact a
 ·have:W.heap[R]?=none:=BC Z;rw [this] at h;cases h
theorem Sx.below {Q} (h:Sx T Q n bud m W) (d:D W W'):Sx T Q n bud m W':=by
 obtain⟨c,e,j,o,a⟩:=h.row;refine⟨by rw [d.block _ (ah h.box)];exact h.box,⟨c,by rw [d.block _ (ah e)];exact e,j,λk p=>?_,a⟩,h.out⟩;have b:=o k p;cases f:m k with
 | none=>rw [f] at b;exact b
 | some q =>
  obtain⟨l,v⟩:=q;rw [f] at b;obtain⟨r,s,t,g,u,i⟩:=b;exact⟨r,s,t,g,u,by rw [d.block _ (ah i)];exact i⟩
theorem Sx.drew {T Q n bud m W} (h:Sx T Q n bud m W):Sx T Q n bud m W.drew:=h.below (Jn _ _).drew
theorem Sx.ltQ {Q} (h:Sx T Q n bud m W):Q<W.heap.size:=by
 obtain⟨c,a,_⟩:=h.row;exact ah a
theorem ma {o:Oper} {K:Act->World->Prop} (b:ops[i]?=some o) (c:Region.wanted o (yielded ops a.tmps)=true)
  (h:∀ K':Act->World->Prop,Hid (∀ a w,K a w->K' a w)->o.wp P a w K' Q):wpOp P ops Q i K a w:=by
 unfold wpOp;simp only [b,c,Lu];exact .inl (h K λ_ _ h=>h)
theorem nO {r:Nat} (c:Region.ready md ops listed=[r])
  (h:wpOp P ops Q r (λd b=>S b/\wpAnyH P md ops Q S fuel (listed.setIfInBounds r true) d b) a w):wpAnyH P md ops Q S (fuel+1) listed a w :=
 wpAnyH_all c bh (λi b=>by
  obtain rfl:i=r:=by simpa using b
  exact h)
theorem aH {d:Nat} (b:ops[i]?=some oi) (f:oi.dst=some d)
  (g:Region.noSelect ops=true) (j:Region.free md ops listed i=true) (k:(Region.ready md ops listed).contains i=true)
  (l:∀ c a w,Q (.panic c) (a.put oi.dst v) w->Q (.panic c) a w) (c:YieldsIf P ops S oi v a) (m:S w)
  (h:wpAnyH P md ops Q S fuel (listed.setIfInBounds i true) { a with tmps:=a.tmps.setIfInBounds d v } w):wpAnyH P md ops Q S (fuel+1) listed a w :=
 wpAnyH_take b g j k l c m (by
  have e:a.put oi.dst v={ a with tmps:=a.tmps.setIfInBounds d v }:=by rw [f];rfl
  rw [e];exact h)
theorem av (w:World) (o:Obj):(w.alloc o).heap[w.heap.size]?=some o:=(G9 w o).1
theorem dG (w:World) (o:Obj) (k:Nat) (h:k<w.heap.size):(w.alloc o).heap[k]?=w.heap[k]?:=(G9 w o).2 k h
theorem aA (w:World) (o:Obj):(w.alloc o).heap.size=w.heap.size+1:=by
 have e:(w.alloc o).heap=w.heap.push o:=rfl;rw [e,Array.size_push]
theorem Sx.pglt {Q} (h:Sx T Q n bud m W) {j g:Nat} (e:j<n) (f:W.cell? ⟨Q,j*3+2,none⟩=some (.slice (some ⟨g,0,none⟩) 1024 1024)):g<W.heap.size:=by
 obtain⟨c,i,r,k,_⟩:=h.row;have b:=k j e;have a:c[j*3+2]?=some (.slice (some ⟨g,0,none⟩) 1024 1024):=by simpa [World.cell?,i] using f
 cases d:m j with
 | none=>rw [d] at b;rw [b.2.2] at a;simp at a
 | some q =>
  obtain⟨l,s⟩:=q;rw [d] at b;obtain⟨_,_,_,t,o,p⟩:=b;rw [o] at a;simp at a;subst a;exact ah p
theorem nW (N:Nat):madeCells #[Value.int .u8 0] N=(Ns .u8 (List.replicate N 0)).toArray:=by
 apply Array.ext';simp [KA,Ns]
theorem Sx.fresh {Q} (h:Sx T Q n bud m W) (k:Nat) (z:k<n) {d:Array Value} (r:d=(Ns .u8 (List.replicate 1024 0)).toArray) :
  Sx T Q n bud (dY m k (some (false,List.replicate 1024 0))) ((((W.alloc (.cells d 5)).setCell ⟨Q,k*3,none⟩ (.bool true)).setCell ⟨Q,k*3+1,none⟩ (.bool true)).setCell ⟨Q,k*3+2,none⟩ (.slice (some ⟨W.heap.size,0,none⟩) 1024 1024)).drew /\
  Sf Q W ((((W.alloc (.cells d 5)).setCell ⟨Q,k*3,none⟩ (.bool true)).setCell ⟨Q,k*3+1,none⟩ (.bool true)).setCell ⟨Q,k*3+2,none⟩ (.slice (some ⟨W.heap.size,0,none⟩) 1024 1024)).drew:=by
 have p:D W (W.alloc (.cells d 5)):=(Jn _ _).alloc (Jo _) _;have v:=h.below p;have A:=av W (.cells d 5);have B:=h.ltQ;generalize W.alloc (.cells d 5)=f at *;have w:∀ i,f.cell? ⟨Q,i,none⟩=W.cell? ⟨Q,i,none⟩:=λi=>by unfold World.cell?;rw [p.block Q B]
 refine⟨(v.set3 k z (some (false,List.replicate 1024 0)) (.bool true) (.bool true) (.slice (some ⟨W.heap.size,0,none⟩) 1024 1024) (λg j s l x e=>?_) (λc W' a b o F=>⟨a,b,JS,W.heap.size,o,?_⟩)).drew,?_⟩
 ·rw [w] at x;have a:=h.pglt s x;simp only [Value.slice.injEq,FK,Addr.mk.injEq,and_true] at e;omega
 ·rw [F W.heap.size Z,A,r]
 ·have t:∀ g,g≠Q->(((f.setCell ⟨Q,k*3,none⟩ (.bool true)).setCell ⟨Q,k*3+1,none⟩ (.bool true)).setCell ⟨Q,k*3+2,none⟩ (.slice (some ⟨W.heap.size,0,none⟩) 1024 1024)).heap[g]?=f.heap[g]?:=by
   intro g o;rw [t4 _ _ _ _ o,t4 _ _ _ _ o,t4 _ _ _ _ o]
  have a:Below 0 W (((f.setCell ⟨Q,k*3,none⟩ (.bool true)).setCell ⟨Q,k*3+1,none⟩ (.bool true)).setCell ⟨Q,k*3+2,none⟩ (.slice (some ⟨W.heap.size,0,none⟩) 1024 1024)) :=
   (((p.mono (Jt _)).setCell (Jt _) _).setCell (Jt _) _).setCell (Jt _) _
  obtain⟨c,y,_⟩:=v.row;have G:=aO (aO (aO y (i:=k*3) (.bool true)) (i:=k*3+1) (.bool true)) (i:=k*3+2) (.slice (some ⟨W.heap.size,0,none⟩) 1024 1024);generalize ((f.setCell ⟨Q,k*3,none⟩ (.bool true)).setCell ⟨Q,k*3+1,none⟩ (.bool true)).setCell ⟨Q,k*3+2,none⟩ (.slice (some ⟨W.heap.size,0,none⟩) 1024 1024)=K at *;refine⟨a.drew.os,a.drew.tape,a.drew.output,a.drew.size,λg o l _=>(t g l).trans (p.block g o),?_⟩;rintro g ⟨j,s⟩;have b:K.cell? ⟨Q,j*3+2,none⟩=some (.slice (some ⟨g,0,none⟩) 1024 1024):=s;simp only [World.cell?,G] at b;by_cases u:j=k
  ·subst u;right;rw [JC] at b;simp at b;omega
  ·left;refine⟨j,?_⟩;rw [<-w];have q:(((c.setIfInBounds (k*3) (.bool true)).setIfInBounds (k*3+1) (.bool true)).setIfInBounds (k*3+2) (.slice (some ⟨W.heap.size,0,none⟩) 1024 1024))[j*3+2]?=c[j*3+2]?:=by
    rw [JC,tg Z,JC,tg Z,JC,tg Z]
   rw [q] at b;simp only [World.cell?,y];exact b
theorem ji (T Q n bud m) (first a:Nat) (w) (h:Sx T Q n bud m w) (z:n<=4096) (P:first+a<=n) (R:(bG m n:Int)+a<=bud) :
  Calls prog 143 #[.pointer (some ⟨T,0,none⟩),.int .i64 first,.int .i64 a] w λe t=>e=.returned (.bool true)/\Sx T Q n bud (aT m first a) t/\Sf Q w t:=by
 have g:=H (λW (b:Sx T Q n bud m W)=>gK T Q n bud m W b z);have A:=lT m n;have j:=H (show Sx T Q n bud m w.drew/\D w w.drew from ⟨h.drew,(Jn _ _).drew⟩);have c:Hid (∀ W',(Sx T Q n bud m W'/\D w W')->W'.cell? ⟨T,1,none⟩=some (.int .i64 bud)/\Hid (Sx T Q n bud m W'/\D w W')):=λW' h=>⟨h.1.c.2,h⟩
 have B:=h.ltQ;clear h;generalize bG m n=o at *;have k:IntKind.i64.wrap ((o:Int)+(a:Int))=(o:Int)+(a:Int):=by rw [C6];omega
 have l:decide (bud<(o:Int)+(a:Int))=false:=t5 Z;go_enter func143,ntmps143;go_wp2;refine wp_region_held (S:=λW'=>W'.cell? ⟨T,1,none⟩=some (.int .i64 bud)/\Hid (Sx T Q n bud m W'/\D w W')) E ?_;simp only [JJ,JD,JO,Nat.reduceAdd,JI,JH,JM,JF,JP];have b:=c.out _ j.out;refine aH (i:=0) (d:=8) (v:=.pointer (some ⟨T,0,none⟩)) rfl E E E E (λ_ _ _ h=>h) (Or.inl ⟨E,λ_ _=>E⟩) b ?_;simp only [Js,Jy,Jz];refine aH (i:=2) (d:=10) (v:=.int .i64 (a:Int)) rfl E E E E (λ_ _ _ h=>h) (Or.inl ⟨E,λ_ _=>E⟩) b ?_;simp only [Js,Jy,Jz];refine aH (i:=4) (d:=12) (v:=.pointer (some ⟨T,0,none⟩)) rfl E E E E (λ_ _ _ h=>h) (Or.inl ⟨E,λ_ _=>E⟩) b ?_;simp only [Js,Jy,Jz];refine aH (i:=5) (d:=13) (v:=.pointer (some ⟨T,0,none⟩)) rfl E E E E (λ_ _ _ h=>h) (Or.inl ⟨E,λ_ _=>E⟩) b ?_;simp only [Js,Jy,Jz];refine aH (i:=6) (d:=14) (v:=.pointer (some ⟨T,1,none⟩)) rfl E E E E (λ_ _ _ h=>h) (Or.inl ⟨E,λ_ _=>E⟩) b ?_;simp only [Js,Jy,Jz];refine aH (i:=7) (d:=15) (v:=.int .i64 bud) rfl E E E E (λ_ _ _ h=>h) (Or.inl ⟨E,λW b=>by obtain ⟨p,_⟩:=b;go_simp⟩) b ?_;simp only [Js,Jy,Jz];refine nO (r:=1) E ?_;refine ma rfl E (λK' f=>?_);go_simp;refine (g.out _ b.2.out.1).mono ?_;rintro e V ⟨rfl,u⟩;have p:=c.out _ ⟨b.2.out.1.below u,aB b.2.out.2 u⟩;refine f.out _ _ ⟨p,?_⟩;clear b;have b:=p;clear f K';refine aH (i:=3) (d:=11) (v:=.int .i64 ((o:Int)+(a:Int))) rfl E E E E (λ_ _ _ h=>h) (Or.inl ⟨E,λW _=>by first|(go_simp;done)|(go_simp;omega)⟩) b ?_;simp only [Js,Jy,Jz];refine aH (i:=8) (d:=16) (v:=.bool false) rfl E E E E (λ_ _ _ h=>h) (Or.inl ⟨E,λW _=>by first|(go_simp;done)|(go_simp;omega)⟩) b ?_;simp only [Js,Jy,Jz];refine wpAnyH_done E ?_ _;clear k l g c j;have F:=H b.2.out.1;have G:=H (Sf.ofBelow b.2.out.2 B);clear b;have g:∀ w,(Instr.makeSlice 52 (.int .i64 1024) (.int .i64 1024)).run prog w=.ok (.slice (some ⟨w.heap.size,0,none⟩) 1024 1024) (w.alloc (.cells (madeCells #[Value.int .u8 0] 1024) 5)):=λw=>run_make_row' 52 5 (.int .u8 0) 1 underlying52 Tryz.info5By rfl .i64 .i64 1024 Z Z w
 have K:=H g;clear g;go_wp2;go_loopw [7] (λi wr=>∃ k:Nat,k<=a/\i=.int .i64 ((first:Int)+(k:Int))/\Hid (Sx T Q n bud (aT m first k) wr/\Sf Q w wr)) (λi _=>first+a-(intOf i).toNat);case atStart=>exact ⟨0,Jt _,aR,F.out,G.out⟩
 case round =>
  obtain⟨k,X,rfl,j⟩:=hrel;by_cases L:k<a
  ·have q:=H (j.1.fresh (first+k) Z (nW 1024));have M:wr.cell? ⟨T,0,none⟩=some (.slice (some ⟨Q,0,none⟩) n n):=j.1.c.1;have c:D wr (wr.alloc (.cells (madeCells #[Value.int .u8 0] 1024) 5)):=(Jn _ _).alloc (Jo _) _;have x:=(j.1.below c).c.1;have N:=q.1.c.1;obtain⟨Y,pp,l,cc,d1,d2,d3,_⟩:=(j.1.below c).three (first+k) Z;obtain⟨c9,y,O,_⟩:=(j.1.below c).row;have f1:∀ i,(wr.alloc (.cells (madeCells #[Value.int .u8 0] 1024) 5)).frozen? ⟨Q,i,none⟩=false:=λi=>by simp [World.frozen?,y]
   have f2:=f1 ((first+k)*3);have f3:=f1 ((first+k)*3+1);have f4:=f1 ((first+k)*3+2);have g:∀ w,(Instr.makeSlice 52 (.int .i64 1024) (.int .i64 1024)).run prog w=.ok (.slice (some ⟨w.heap.size,0,none⟩) 1024 1024) (w.alloc (.cells (madeCells #[Value.int .u8 0] 1024) 5)):=K.out;have s:=H j.2;have tn:((first:Int)+(k:Int)).toNat=first+k:=Z
   have tl:(first:Int)+(k:Int)<(n:Int):=Z;clear f1 y O c;generalize madeCells #[Value.int .u8 0] 1024=c at *;go_wp2;refine wp_region_held (S:=λW'=>W'.cell? ⟨T,0,none⟩=some (.slice (some ⟨Q,0,none⟩) n n)) E ?_;simp only [JJ,JD,JO,Nat.reduceAdd,JI,JH,JM,JF,JP];have b:=M;refine aH (i:=0) (d:=25) (v:=.pointer (some ⟨T,0,none⟩)) rfl E E E E (λ_ _ _ h=>h) (Or.inl ⟨E,λ_ _=>E⟩) b ?_;simp only [Js,Jy,Jz];refine aH (i:=1) (d:=26) (v:=.pointer (some ⟨T,0,none⟩)) rfl E E E E (λ_ _ _ h=>h) (Or.inl ⟨E,λ_ _=>E⟩) b ?_;simp only [Js,Jy,Jz];refine aH (i:=2) (d:=27) (v:=.pointer (some ⟨T,0,none⟩)) rfl E E E E (λ_ _ _ h=>h) (Or.inl ⟨E,λ_ _=>E⟩) b ?_;simp only [Js,Jy,Jz];refine aH (i:=3) (d:=28) (v:=.slice (some ⟨Q,0,none⟩) n n) rfl E E E E (λ_ _ _ h=>h) (Or.inl ⟨E,λW b=>by obtain p:=b;go_simp⟩) b ?_;simp only [Js,Jy,Jz];refine aH (i:=4) (d:=29) (v:=.int .i64 ((first:Int)+(k:Int))) rfl E E E E (λ_ _ _ h=>h) (Or.inl ⟨E,λ_ _=>E⟩) b ?_;simp only [Js,Jy,Jz];refine nO (r:=5) E ?_;refine ma rfl E (λK' f=>?_);go_simp;refine f.out _ _ ⟨x,?_⟩;clear b;have b:=x;clear f K';refine aH (i:=6) (d:=31) (v:=.agg #[.bool true,.bool true,.slice (some ⟨wr.heap.size,0,none⟩) 1024 1024]) rfl E E E E (λ_ _ _ h=>h) (Or.inl ⟨E,λ_ _=>E⟩) b ?_;simp only [Js,Jy,Jz];refine aH (i:=7) (d:=32) (v:=.pointer (some ⟨Q,(first+k)*3,none⟩)) rfl E E E E (λ_ _ _ h=>h) (Or.inl ⟨E,λW _=>by first|(go_simp;done)|(go_simp;omega)⟩) b ?_;simp only [Js,Jy,Jz];refine nO (r:=8) E ?_;refine ma rfl E (λK' f=>?_);go_simp;refine f.out _ _ ⟨N,?_⟩;clear b;clear f K';refine wpAnyH_done E ?_ _;go_wp2;go_roundw;(case rel=>exact ⟨k+1,Z,aR,q.1,s.trans q.2⟩);case measure=>simp [intOf];omega
  ·have c:k=a:=Z;subst c;go_wp2;go_ret;exact⟨rfl,j.out⟩
theorem jO (T Q n bud m) (first a:Nat) (w) (h:Sx T Q n bud m w) (p:n<=4096) (x:first+a<=n) (y:bud<(bG m n:Int)+a) :
  Calls prog 143 #[.pointer (some ⟨T,0,none⟩),.int .i64 first,.int .i64 a] w λe q=>e=.returned (.bool false)/\D w q:=by
 have j:=H (λW (b:Sx T Q n bud m W)=>gK T Q n bud m W b p);have s:=lT m n;have k:=H (show Sx T Q n bud m w.drew/\D w w.drew from ⟨h.drew,(Jn _ _).drew⟩);have f:Hid (∀ W',(Sx T Q n bud m W'/\D w W')->W'.cell? ⟨T,1,none⟩=some (.int .i64 bud)/\Hid (Sx T Q n bud m W'/\D w W')):=λW' h=>⟨h.1.c.2,h⟩
 clear h;generalize bG m n=c at *;have t:IntKind.i64.wrap ((c:Int)+(a:Int))=(c:Int)+(a:Int):=by rw [C6];omega
 have u:decide (bud<(c:Int)+(a:Int))=true:=zB Z;go_enter func143,ntmps143;go_wp2;refine wp_region_held (S:=λW'=>W'.cell? ⟨T,1,none⟩=some (.int .i64 bud)/\Hid (Sx T Q n bud m W'/\D w W')) E ?_;simp only [JJ,JD,JO,Nat.reduceAdd,JI,JH,JM,JF,JP];have b:=f.out _ k.out;refine aH (i:=0) (d:=8) (v:=.pointer (some ⟨T,0,none⟩)) rfl E E E E (λ_ _ _ h=>h) (Or.inl ⟨E,λ_ _=>E⟩) b ?_;simp only [Js,Jy,Jz];refine aH (i:=2) (d:=10) (v:=.int .i64 (a:Int)) rfl E E E E (λ_ _ _ h=>h) (Or.inl ⟨E,λ_ _=>E⟩) b ?_;simp only [Js,Jy,Jz];refine aH (i:=4) (d:=12) (v:=.pointer (some ⟨T,0,none⟩)) rfl E E E E (λ_ _ _ h=>h) (Or.inl ⟨E,λ_ _=>E⟩) b ?_;simp only [Js,Jy,Jz];refine aH (i:=5) (d:=13) (v:=.pointer (some ⟨T,0,none⟩)) rfl E E E E (λ_ _ _ h=>h) (Or.inl ⟨E,λ_ _=>E⟩) b ?_;simp only [Js,Jy,Jz];refine aH (i:=6) (d:=14) (v:=.pointer (some ⟨T,1,none⟩)) rfl E E E E (λ_ _ _ h=>h) (Or.inl ⟨E,λ_ _=>E⟩) b ?_;simp only [Js,Jy,Jz];refine aH (i:=7) (d:=15) (v:=.int .i64 bud) rfl E E E E (λ_ _ _ h=>h) (Or.inl ⟨E,λW b=>by obtain ⟨g,_⟩:=b;go_simp⟩) b ?_;simp only [Js,Jy,Jz];refine nO (r:=1) E ?_;refine ma rfl E (λK' l=>?_);go_simp;refine (j.out _ b.2.out.1).mono ?_;rintro e z ⟨rfl,o⟩;have g:=f.out _ ⟨b.2.out.1.below o,aB b.2.out.2 o⟩;refine l.out _ _ ⟨g,?_⟩;clear b;have b:=g;clear l K';refine aH (i:=3) (d:=11) (v:=.int .i64 ((c:Int)+(a:Int))) rfl E E E E (λ_ _ _ h=>h) (Or.inl ⟨E,λW _=>by first|(go_simp;done)|(go_simp;omega)⟩) b ?_;simp only [Js,Jy,Jz];refine aH (i:=8) (d:=16) (v:=.bool true) rfl E E E E (λ_ _ _ h=>h) (Or.inl ⟨E,λW _=>by first|(go_simp;done)|(go_simp;omega)⟩) b ?_;simp only [Js,Jy,Jz];refine wpAnyH_done E ?_ _;clear t u j f k;have f:=H b.2.out.2;clear b;go_wp2;go_ret;exact⟨rfl,f.out⟩
end
section
open Go.RowKit Go.Maps
theorem lz {α : Type} {l : List α} {a : α} : l.toArray.setIfInBounds i a=(l.set i a).toArray := Js ..
theorem l0 {α : Type} {a b : α} {l : List α} : (a :: l).set 0 b=b :: l := rfl
theorem ls {α : Type} {a b : α} {l : List α} : (a :: l).set (n+1) b=a :: l.set n b := rfl
theorem rh {id : Nat} {n' : Nat} (h : wpAnyH P .any ops Q S n' l' a { w with drawn := w.drawn+1 }) (hm : P.follows .mixedOrders=true := by kernel_rfl) (en : ops.size=n' := by simp only [JJ,JD,JO,Nat.reduceAdd]; rfl) (el : Array.replicate ops.size false=l' := by simp only [JJ,JD,JO,Nat.reduceAdd,JI,JH,JM,JF,JP]; rfl) : (Code.region id ops true).wp P Q a w := by subst en el; exact wp_region_held hm h
theorem bY {P:Program} {md:Region.Mode} {ops:Array Oper} {Q:Exit->Act->World->Prop} {S:World->Prop} {n:Nat} {l:Array Bool} {a:Act} {w:World} (h:Q .normal a w) (b:Region.ready md ops l=[]:=by kernel_rfl):wpAnyH P md ops Q S n l a w:=wpAnyH_done b h _
theorem cS {P:Program} {ops:Array Oper} {r:Nat} {o:Oper} {a:Act} {w:World} {G:Act->World->Prop} {Q:Exit->Act->World->Prop} (h:∀ K':Act->World->Prop,Hid (∀ b c,G b c->K' b c)->o.wp P a w K' Q) (b:ops[r]?=some o:=by rfl) (c:Region.wanted o (yielded ops a.tmps)=true:=by kernel_rfl):wpOp P ops Q r G a w:=ma b c h
theorem gu {P:Program} {md:Region.Mode} {ops:Array Oper} {Q:Exit->Act->World->Prop} {S:World->Prop} {n:Nat} {l:Array Bool} {a:Act} {w:World} (r:Nat) (h:wpOp P ops Q r (λc b=>S b/\wpAnyH P md ops Q S n (l.setIfInBounds r true) c b) a w) (b:Region.ready md ops l=[r]:=by kernel_rfl):wpAnyH P md ops Q S (n+1) l a w:=nO b h
theorem ns {P:Program} {md:Region.Mode} {ops:Array Oper} {Q:Exit->Act->World->Prop} {S:World->Prop} {n:Nat} {l:Array Bool} {a:Act} {w:World} (rs:List Nat) (h:∀ i,i∈rs->wpOp P ops Q i (λc b=>S b/\wpAnyH P md ops Q S n (l.setIfInBounds i true) c b) a w) (b:Region.ready md ops l=rs:=by kernel_rfl) (c:rs≠[]:=by simp):wpAnyH P md ops Q S (n+1) l a w:=wpAnyH_all b c h
theorem pk (i : Nat) {d : Nat} (v : Value) (hS : S w) (h : wpAnyH P md ops Q S fuel l' { a with tmps := t' } w) (hi : ops[i]? = some oi := by rfl) (hd : oi.dst=some d := by rfl) (hs : Region.noSelect ops=true := by kernel_rfl) (hf : Region.free md ops listed i=true := by kernel_rfl) (hr : (Region.ready md ops listed).contains i=true := by kernel_rfl) (hQ : ∀ c a w, Q (.panic c) (a.put oi.dst v) w->Q (.panic c) a w := by exact λ_ _ _ h => h) (h1 : Region.wanted oi (yielded ops a.tmps)=true := by kernel_rfl) (h2 : ∀ W, S W->(execOp a.eval oi).run P W=.ok (.value v) W := by exact λ_ _ => by kernel_rfl) (el : listed.setIfInBounds i true=l' := by first | (simp only [lz, l0, ls]; rfl) | rfl) (et : a.tmps.setIfInBounds d v=t' := by first | (simp only [lz, l0, ls]; rfl) | rfl) : wpAnyH P md ops Q S (fuel+1) listed a w := by subst el et; exact aH hi hd hs hf hr hQ (.inl ⟨h1, h2⟩) hS h
theorem ps (i : Nat) {d : Nat} (hS : S w) (h : wpAnyH P md ops Q S fuel l' { a with tmps := t' } w) (hi : ops[i]? = some oi := by rfl) (hd : oi.dst=some d := by rfl) (hs : Region.noSelect ops=true := by kernel_rfl) (hf : Region.free md ops listed i=true := by kernel_rfl) (hr : (Region.ready md ops listed).contains i=true := by kernel_rfl) (hQ : ∀ c a w, Q (.panic c) (a.put oi.dst undef) w->Q (.panic c) a w := by exact λ_ _ _ h => h) (h1 : Region.wanted oi (yielded ops a.tmps)=false := by kernel_rfl) (el : listed.setIfInBounds i true=l' := by first | (simp only [lz, l0, ls]; rfl) | rfl) (et : a.tmps.setIfInBounds d undef=t' := by first | (simp only [lz, l0, ls]; rfl) | rfl) : wpAnyH P md ops Q S (fuel+1) listed a w := by subst el et; exact aH hi hd hs hf hr hQ (.inr ⟨h1, rfl⟩) hS h
theorem pz (i : Nat) {d : Nat} (v : Value) (hS : S w) (h : wpAnyH P md ops Q S fuel l' { a with tmps := t' } w) (hi : ops[i]? = some oi := by rfl) (hd : oi.dst=some d := by rfl) (hs : Region.noSelect ops=true := by kernel_rfl) (hf : Region.free md ops listed i=true := by kernel_rfl) (hr : (Region.ready md ops listed).contains i=true := by kernel_rfl) (hQ : ∀ c a w, Q (.panic c) (a.put oi.dst v) w->Q (.panic c) a w := by exact λ_ _ _ h => h) (h1 : Region.wanted oi (yielded ops a.tmps)=true := by kernel_rfl) (h2 : ∀ W, S W->(execOp a.eval oi).run P W=.ok (.value v) W := by intro _ h; (repeat obtain ⟨_, h⟩ := h); first | (go_simp; done) | (go_simp; omega)) (el : listed.setIfInBounds i true=l' := by first | (simp only [lz, l0, ls]; rfl) | rfl) (et : a.tmps.setIfInBounds d v=t' := by first | (simp only [lz, l0, ls]; rfl) | rfl) : wpAnyH P md ops Q S (fuel+1) listed a w := by subst el et; exact aH hi hd hs hf hr hQ (.inl ⟨h1, h2⟩) hS h
theorem pf (i : Nat) {d : Nat} (v : Value) (hi : ops[i]? = some oi) (hS : S w) (h2 : ∀ W, S W->(execOp a.eval oi).run P W=.ok (.value v) W) (h : wpAnyH P md ops Q S fuel l' { a with tmps := t' } w) (hd : oi.dst=some d := by rfl) (hs : Region.noSelect ops=true := by kernel_rfl) (hf : Region.free md ops listed i=true := by kernel_rfl) (hr : (Region.ready md ops listed).contains i=true := by kernel_rfl) (hQ : ∀ c a w, Q (.panic c) (a.put oi.dst v) w->Q (.panic c) a w := by exact λ_ _ _ h => h) (h1 : Region.wanted oi (yielded ops a.tmps)=true := by kernel_rfl) (el : listed.setIfInBounds i true=l' := by first | (simp only [lz, l0, ls]; rfl) | rfl) (et : a.tmps.setIfInBounds d v=t' := by first | (simp only [lz, l0, ls]; rfl) | rfl) : wpAnyH P md ops Q S (fuel+1) listed a w := by subst el et; exact aH hi hd hs hf hr hQ (.inl ⟨h1, h2⟩) hS h
def fF (l : Array Bool) : Nat := l.toList.findIdx (λb => !b)
theorem f0 {l : List Bool} : fF (false :: l).toArray=0 := rfl
theorem f1 {l : List Bool} : fF (true :: l).toArray=fF l.toArray+1 := by simp [fF, List.findIdx_cons]
theorem py {d : Nat} (hS : S w) (h : wpAnyH P md ops Q S fuel (listed.setIfInBounds (fF listed) true) { a with tmps := a.tmps.setIfInBounds d v } w) (hi : ops[fF listed]? = some oi := by simp only [f0, f1, Nat.reduceAdd, List.getElem?_toArray, List.getElem?_cons_succ, List.getElem?_cons_zero]; rfl) (hd : oi.dst=some d := by rfl) (h2 : YieldsIf P ops S oi v a := by first | exact .inr ⟨rfl, rfl⟩ | exact .inl ⟨by kernel_rfl, λ_ _ => rfl⟩ | (refine .inl ⟨by kernel_rfl, ?_⟩; intro _ h; (repeat obtain ⟨_, h⟩ := h); go_simp; (try rfl); done)) (hs : Region.noSelect ops=true := by kernel_rfl) (hf : Region.free md ops listed (fF listed)=true := by kernel_rfl) (hr : (Region.ready md ops listed).contains (fF listed)=true := by kernel_rfl) (hQ : ∀ c a w, Q (.panic c) (a.put oi.dst v) w->Q (.panic c) a w := by exact λ_ _ _ h => h) : wpAnyH P md ops Q S (fuel+1) listed a w := aH hi hd hs hf hr hQ h2 hS h
theorem po (r : Nat) {o : Oper} (h : ∀ K' : Act->World->Prop, Hid (∀ a' w', (S w'/\wpAnyH P md ops Q S fuel (listed.setIfInBounds r true) a' w')->K' a' w')->o.wp P a w K' Q) (hi : ops[r]? = some o := by rfl) (hr : Region.ready md ops listed=[r] := by kernel_rfl) (hw : Region.wanted o (yielded ops a.tmps)=true := by kernel_rfl) : wpAnyH P md ops Q S (fuel+1) listed a w := nO hr (ma hi hw h)
end
section
open Go.ChangeShapes Go.WideShapes Go.ChangeAt Go.RowKit
def stA (k:Nat):Array Value:=((List.range 13).map λj=>Value.int .i64 (if j<=k then fW j else 0)).toArray
theorem rF (k):(stA k).size=13:=by simp [stA]
theorem me (k j:Nat) (h:j<13):(stA k)[j]?=some (I (if j<=k then fW j else 0)):=by
 simp [stA,h]
theorem CI (k):(stA k).setIfInBounds (k+1) (I (fW (k+1)))=stA (k+1):=by
 apply Array.ext;·simp [stA]
 intro i c b;have d:i<13:=by simpa [stA] using b
 rw [Array.getElem_setIfInBounds (by simpa [stA] using b)];simp only [stA,List.getElem_toArray,List.getElem_map,List.getElem_range];by_cases a:k+1=i;·subst a;simp
 have e:(i<=k)↔(i<=k+1):=Z;simp [e,a]
theorem GZ:stA 0=#[Value.int IntKind.i64 1,Value.int IntKind.i64 0,Value.int IntKind.i64 0,Value.int IntKind.i64 0,Value.int IntKind.i64 0,Value.int IntKind.i64 0,Value.int IntKind.i64 0,Value.int IntKind.i64 0,Value.int IntKind.i64 0,Value.int IntKind.i64 0,Value.int IntKind.i64 0,Value.int IntKind.i64 0,Value.int IntKind.i64 0]:=E
def pi:Array Value:=#[Value.int IntKind.i64 0,Value.int IntKind.i64 0,Value.int IntKind.i64 0,Value.int IntKind.i64 0,Value.int IntKind.i64 0,Value.int IntKind.i64 0,Value.int IntKind.i64 0,Value.int IntKind.i64 0,Value.int IntKind.i64 0,Value.int IntKind.i64 0,Value.int IntKind.i64 0,Value.int IntKind.i64 0,Value.int IntKind.i64 0]
theorem iO (w:World) (o:Obj):(w.alloc o).heap[w.heap.size]?=some o:=(G9 w o).1
theorem BB (w:World) (o:Obj) (k:Nat) (h:k<w.heap.size):(w.alloc o).heap[k]?=w.heap[k]?:=(G9 w o).2 k h
theorem mE (w:World) (o:Obj):(w.alloc o).heap.size=w.heap.size+1:=by
 have e:(w.alloc o).heap=w.heap.push o:=rfl;rw [e,Array.size_push]
theorem Below.setRow {B:Nat} {a w:World} (h:Below B a w) {g:Nat} (c:B<=g) (b:Array Value):Below B a (w.setRow g b):=by
 refine h.trans ⟨rfl,rfl,rfl,by simp [World.setRow],λk d=>?_⟩;have:g≠k:=Z;simp [World.setRow,Jw,this]
theorem fC (w) (b:Tb w) :
  Calls prog 150 #[] w λe f=>e=.returned (.agg (stA 12))/\D w f:=by
 have n:Hid (∀ (c:Int) w,Tb w->_):=λc w h=>nK c w h
 have o:=hidR b;clear b;go_enter func150,ntmps150;go_wp2;go_loopw [4] (λi wr=>∃ k:Nat,k<=12/\i=I k/\Hid (wr.heap[w.heap.size]?=some (.cells pi 228)/\wr.heap[w.heap.size+1]?=some (.cells (stA k) 228)/\D w wr)) (λi _=>12-(intOf i).toNat);case atStart =>
  refine⟨0,Z,rfl,?_,?_,?_⟩;·rw [BB _ _ _ (by rw [mE];omega)];exact iO _ _
  ·rw [GZ,<-mE w];exact iO _ _
  exact ((Jn _ _).alloc (Jo _) _).alloc (by rw [mE];omega) _
 case round =>
  obtain⟨k,x,rfl,d⟩:=hrel;by_cases q:k<12
  ·have r:=jx k;have s:=vP (k:Int);have u:wr.cell? ⟨w.heap.size+1,k,none⟩=some (I (fW k)):=by
    simp [World.cell?,d.2.1,me k k Z]
   have y:wr.cell? ⟨w.heap.size+1,k+1,none⟩=some (I 0):=by
    simp [World.cell?,d.2.1,me k (k+1) Z];intro h;omega
   have f2:wr.frozen? ⟨w.heap.size+1,k+1,none⟩=false:=by
    simp [World.frozen?,d.2.1]
   have m:Hid (∀ W:World,W.heap=wr.heap->Calls prog 190 #[I (k:Int)] W λe f=>e=.returned (I (rp (k:Int)))/\f=W):=λW v=>n.out _ W (by
    obtain⟨t,b,h⟩:=(o.below d.2.2).row;exact⟨t,b,by rw [v];exact h⟩)
   have j:=hidR (show fW (k+1)=fW k+rp (k:Int) from rfl);generalize fW k=a at r u j;generalize rp (k:Int)=b at s m j;go_wp2
   go_region_with (go_at_call 190;refine (m _ ?_).mono ?_;exact rfl;rintro e f ⟨rfl,rfl⟩)
   all_goals
    go_wp2
    go_roundw
    case rel =>
     refine⟨k+1,Z,aR,?_,?_,?_⟩;·have g:=d.1;simp [World.setCell,Jw,World.drew,g]
     ·have l:=d.2.1;rw [<-CI,j.out];simp [World.setCell,Jw,World.drew,l]
     exact d.2.2.drew.setCell (p:=⟨w.heap.size+1,k+1,none⟩) bh _
    case measure=>simp [intOf];omega
  obtain rfl:k=12:=Z;have g:=hidR d.1;have l:=hidR d.2.1;have j:=hidR (Below.setRow d.2.2 (Jo _) (stA 12));have m:Hid ((wr.setRow w.heap.size (stA 12)).heap[w.heap.size]?=some (.cells (stA 12) 228)):=by
   have:=g.out;exact hidR (by simp [World.setRow,Jw,this])
  have b:=hidR (show (stA 12).all (·.oneCell')=true by kernel_rfl);go_wp2_with (first|refine J0 rfl 228 _ rfl _ rfl _ _ _ _ l underlying228 rfl E ?_|refine JX rfl 228 _ _ rfl _ _ rfl rfl _ _ g E (by rw [rF];rfl) b ?_);refine wA (p7 dC _ _ w.heap.size 228 (stA 12) (0,0) _ dC m underlying228 rfl E) dC ?_;exact⟨rfl,j⟩
theorem lF (w:World) (k:Nat) (a:k<13):(Instr.index 228 (.agg (stA 12)) (I k)).run prog w=.ok (I (fW k)) w:=by
 have h:=me 12 k a;rw [tm Z] at h;simp [Instr.index,run_underlying underlying228,asIntOf,a,go_sem,h]
theorem nu (c w) (a:Tb w) :
  Calls prog 196 #[I c] w λe b=>e=.returned (I (rs c))/\D w b:=by
 have d:=hidR (fC w a);by_cases h:0<=c/\c<12
 ·have f:=hidR (dU _ w h);rw [lu h];obtain⟨m,rfl⟩:=AP h.1;have i:m<13:=Z;simp only [JL];have g:=hidR (λW=>lF W m i);clear a h;generalize stA 12=S at d g;go_enter func196,ntmps196;go_wp2_with fail;refine (f).mono ?_;rintro e b ⟨rfl,rfl⟩;go_wp2_with fail;refine (d).mono ?_;rintro e j ⟨rfl,k⟩;have l:=g.out j;go_wp2;go_ret;exact⟨rfl,k⟩
 rw [uG h];have f:=hidR (ev _ w h);clear a h d;go_enter func196,ntmps196;go_wp2_with fail;refine (f).mono ?_;rintro e b ⟨rfl,rfl⟩;go_wp2;go_ret;exact⟨rfl,Jn _ _⟩
theorem jm (w) (a:Tb w) :
  Calls prog 99 #[] w λe d=>e=.returned (I 187)/\D w d:=by
 have b:=hidR (fC w a);have c:Hid (∀ W:World,(Instr.index 228 (.agg (stA 12)) (I 12)).run prog W=.ok (I 187) W):=λW=>by
  have:=lF W 12 Z;rw [qP] at this;exact this
 clear a;generalize stA 12=S at b c;go_enter func99,ntmps99;go_wp2_with fail;refine (b).mono ?_;rintro e a ⟨rfl,f⟩;have g:=c.out a;go_wp2;go_ret;exact⟨rfl,f⟩
theorem eZ (w) (a:Tb w) :
  Calls prog 46 #[] w λe b=>e=.returned (I 283)/\D w b:=by
 have c:=hidR (jm w a);clear a;go_enter func46,ntmps46;go_wp2_with fail;refine (c).mono ?_;rintro e d ⟨rfl,a⟩;go_wp2;go_ret;exact⟨rfl,a⟩
end
end Go.Proofs.YtdfodlhkdmkfdaaGreatDoor
