import Derived.Test.YtdngbppdomoenaaGreatDoorN02
set_option linter.unusedVariables false
set_option linter.unusedSimpArgs false
set_option maxRecDepth 20000
set_option maxHeartbeats 8000000
namespace Go.Proofs.YtdngbppdomoenaaGreatDoor
open Go.Proofs.Tryz
variable {f:Nat->Option Nat} {m:Nat->Option (Bool×List Int)} {W W' w:World} {S:World->Prop} {T fuel i n:Nat} {Q:Exit->Act->World->Prop} {bud:Int} {P:Program} {ops:Array Oper} {a:Act} {l' listed:Array Bool} {oi:Oper} {t':Array Value}
section
open Go.RowKit Go.Shelf
attribute [local go_sem] Oper.semAt_some
def bI (m:Nat->Option (Bool×List Int)) (first:Nat):Nat->(Nat->Option (Bool×List Int))
 | 0=>m
 | k+1=>eb (bI m first k) (first+k) none
theorem Pg.drop (h:Pg f m W) (k):Pg (upd f k none) (eb m k none) W:=by
 constructor
 ·intro j;by_cases e:j=k;·subst e;exact .inl ⟨upd_same _ _ _,bL _ _ _⟩
  rw [aV m k j _ e,aJ f k j _ e];exact h.at' j
 intro i j b a c;by_cases e:i=k;·subst e;rw [upd_same] at a;cases a
 by_cases d:j=k;·subst d;rw [upd_same] at c;cases c
 rw [aJ f k i _ e] at a;rw [aJ f k j _ d] at c;exact h.inj i j b a c
theorem Pg.without {f m W} (h:Pg f m W) (first):∀ k,Pg (without f first k) (bI m first k) W
 | 0=>h
 | k+1=>(Pg.without h first k).drop (first+k)
theorem Pg.turned {M:Nat} (h:Pg f m W) (c:∀ k b,f k=some b->b≠M) (d:W.mapTurned W' M):Pg f m W':=by
 refine⟨?_,h.inj⟩;intro j;rcases h.at' j with a|⟨b,l,e,a,g,i,k⟩;·exact .inl a
 exact .inr ⟨b,l,e,a,g,i,by rw [dU d (c j b a)];exact k⟩
theorem gP {f first} : ∀ {k j b:Nat},without f first k j=some b->f j=some b
 | 0,_,_,h=>h
 | k+1,j,b,h=>by
  simp only [without] at h
  by_cases e:j=first+k
  ·subst e;rw [upd_same] at h;cases h
  rw [aJ _ _ _ _ e] at h
  exact gP h
theorem Fr.without {S M:Nat} (first k:Nat) (a:W.mapTurned W' M):Fr S M f (without f first k) W W':=by
 have h:=(Fr.refl S M f W).turned a;exact⟨h.os,h.tape,h.output,h.size,h.block,λj g e=>.inl ⟨j,gP e⟩⟩
theorem oH (S M st n bud f m) (first a:Nat) (w) (h:Im S M st n bud f w) (j:Pg f m w) (k:0<=n) (d:n<=4096) (g:bH n first a=true) (b:bm f first a=a) :
  Calls prog 179 #[J S 0,I first,I a] w λe c=>e=.returned (I 0)/\∃ i,Im S M st n bud i c/\Pg i (bI m first a) c/\Fr S M f i w c:=by
 refine (oM S M st n bud f first a w h k d g b).mono ?_;rintro e c ⟨rfl,l,i⟩;exact⟨rfl,_,l,(j.without first a).turned (λk b e=>(j.apart h (gP e)).2) i,Fr.without first a i⟩
theorem Sx.set3 {Q} (h:Sx T Q n bud m W) (k:Nat) (S:k<n) (v:Option (Bool×List Int)) (x y z:Value) (F:∀ g j,j<n->j≠k->W.cell? ⟨Q,j*3+2,none⟩=some (Vl g 1024 1024)->z≠Vl g 1024 1024) (G:∀ (c:Array Value) (W':World),c[k*3]?=some x->c[k*3+1]?=some y->c[k*3+2]?=some z->(∀ g,g≠Q->W'.heap[g]?=W.heap[g]?)->ww W' c k v) :
  Sx T Q n bud (eb m k v) (((W.setCell ⟨Q,k*3,none⟩ x).setCell ⟨Q,k*3+1,none⟩ y).setCell ⟨Q,k*3+2,none⟩ z):=by
 obtain⟨c,p,K,L,s⟩:=h.row;have t:T≠Q:=by
  intro e;subst e;rw [h.box] at p;simp at p
 have w:∀ g,g≠Q->(((W.setCell ⟨Q,k*3,none⟩ x).setCell ⟨Q,k*3+1,none⟩ y).setCell ⟨Q,k*3+2,none⟩ z).heap[g]?=W.heap[g]?:=by
  intro g a;rw [Gx _ _ _ _ a,Gx _ _ _ _ a,Gx _ _ _ _ a]
 have M:(((W.setCell ⟨Q,k*3,none⟩ x).setCell ⟨Q,k*3+1,none⟩ y).setCell ⟨Q,k*3+2,none⟩ z).heap[Q]?=some (.cells (((c.setIfInBounds (k*3) x).setIfInBounds (k*3+1) y).setIfInBounds (k*3+2) z) 217):=bj (bj (bj p x) y) z;generalize ((W.setCell ⟨Q,k*3,none⟩ x).setCell ⟨Q,k*3+1,none⟩ y).setCell ⟨Q,k*3+2,none⟩ z=W' at *;refine⟨(w T t).trans h.box,⟨_,M,by simpa using K,?_,?_⟩,?_⟩
 ·intro j u;by_cases e:j=k
  ·subst e;rw [bL];refine G _ _ ?_ ?_ ?_ w;·simp [show j*3<c.size by omega]
   ·simp [show j*3+1<c.size by omega]
   simp [show j*3+2<c.size by omega]
  rw [aV m k j v e];have a:=L j u;have q:∀ i,i<3->(((c.setIfInBounds (k*3) x).setIfInBounds (k*3+1) y).setIfInBounds (k*3+2) z)[j*3+i]?=c[j*3+i]?:=by
   intro i b;rw [Fu,Gu Z,Fu,Gu Z,Fu,Gu Z]
  have f:=q 0 Z;have A:=q 1 Z;have b:=q 2 Z;rw [Gt] at f;cases B:m j with
  | none =>
   rw [B] at a;exact⟨f.trans a.1,A.trans a.2.1,b.trans a.2.2⟩
  | some r =>
   obtain⟨l,V⟩:=r;rw [B] at a;obtain⟨N,O,P,g,R,o⟩:=a;refine⟨f.trans N,A.trans O,P,g,b.trans R,(w g ?_).trans o⟩;intro d;subst d;rw [p] at o;simp at o
 ·have q:∀ g j,j<n->j≠k->c[j*3+2]?=some (Vl g 1024 1024)->z≠Vl g 1024 1024:=λg j f l a=>F g j f l (by simp [World.cell?,p,a])
  have b:∀ j,j<n->j≠k->(((c.setIfInBounds (k*3) x).setIfInBounds (k*3+1) y).setIfInBounds (k*3+2) z)[j*3+2]?=c[j*3+2]?:=by
   intro j u t;rw [Fu,Gu Z,Fu,Gu Z,Fu,Gu Z]
  have A:(((c.setIfInBounds (k*3) x).setIfInBounds (k*3+1) y).setIfInBounds (k*3+2) z)[k*3+2]?=some z:=by simp [show k*3+2<c.size by omega]
  intro i j g f l a o;by_cases r:i=k
  ·by_cases d:j=k;·omega
   subst r;rw [A] at a;rw [b j l d] at o;exact absurd (Gk a) (q g j l d o)
  by_cases d:j=k;·subst d;rw [A] at o;rw [b i f r] at a;exact absurd (Gk o) (q g i f r a)
  rw [b i f r] at a;rw [b j l d] at o;exact s i j g f l a o
 intro j u;rw [aV m k j v Z];exact h.out j u
def ft (Q:Nat) (w:World) (g:Nat):Prop:=∃ k,w.cell? ⟨Q,k*3+2,none⟩=some (.slice (some ⟨g,0,none⟩) 1024 1024)
structure Sf (Q:Nat) (w w':World):Prop where
  os:w'.os=w.os
  tape:w'.tape=w.tape
  output:w'.output=w.output
  size:w.heap.size<=w'.heap.size
  block:∀ g,g<w.heap.size->g≠Q->¬ft Q w g->w'.heap[g]?=w.heap[g]?
  pg:∀ g,ft Q w' g->ft Q w g\/w.heap.size<=g
theorem Sf.refl (Q w):Sf Q w w:=⟨rfl,rfl,rfl,Fe _,λ_ _ _ _=>rfl,λ_ h=>.inl h⟩
theorem Sf.trans {Q a b c} (h:Sf Q a b) (k:Sf Q b c):Sf Q a c :=
  ⟨k.os.trans h.os,k.tape.trans h.tape,k.output.trans h.output,Fg h.size k.size,
   λg e d f=>(k.block g (Fq e h.size) d (λi=>by
     rcases h.pg g i with i|i
     · exact f i
     · omega)).trans (h.block g e d f),
   λg e=>by
     rcases k.pg g e with d|d
     · exact h.pg g d
     · exact .inr (Fg h.size d)⟩
theorem Sf.ofBelow {Q:Nat} {w'} (h:D w w') (b:Q<w.heap.size):Sf Q w w' :=
 ⟨h.os,h.tape,h.output,h.size,λg c _ _=>h.block g c,λg ⟨k,a⟩=>.inl ⟨k,by
  unfold World.cell? at a ⊢
  rw [h.block Q b] at a
  exact a⟩⟩
theorem Sf.below {Q} {B:Nat} {w'} (h:Sf Q w w') (b:B<=w.heap.size) (c:B<=Q) (a:∀ g,ft Q w g->B<=g):Below B w w' :=
 ⟨h.os,h.tape,h.output,h.size,λg d=>h.block g Z Z (λb=>by have:=a g b;omega)⟩
theorem ai {R:Nat} {o:Obj} (h:W.heap[R]?=some o):R<W.heap.size:=by
 by_cases a:R<W.heap.size;·exact a
 ·have:W.heap[R]?=none:=GP Z;rw [this] at h;cases h
theorem Sx.below {Q} (h:Sx T Q n bud m W) (d:D W W'):Sx T Q n bud m W':=by
 obtain⟨c,e,j,o,a⟩:=h.row;refine⟨by rw [d.block _ (ai h.box)];exact h.box,⟨c,by rw [d.block _ (ai e)];exact e,j,λk p=>?_,a⟩,h.out⟩;have b:=o k p;cases f:m k with
 | none=>rw [f] at b;exact b
 | some q =>
  obtain⟨l,v⟩:=q;rw [f] at b;obtain⟨r,s,t,g,u,i⟩:=b;exact⟨r,s,t,g,u,by rw [d.block _ (ai i)];exact i⟩
theorem Sx.drew {T Q n bud m W} (h:Sx T Q n bud m W):Sx T Q n bud m W.drew:=h.below (Fc _ _).drew
theorem Sx.ltQ {Q} (h:Sx T Q n bud m W):Q<W.heap.size:=by
 obtain⟨c,a,_⟩:=h.row;exact ai a
theorem f_ {o:Oper} {K:Act->World->Prop} (b:ops[i]?=some o) (c:Region.wanted o (yielded ops a.tmps)=true)
  (h:∀ K':Act->World->Prop,Hid (∀ a w,K a w->K' a w)->o.wp P a w K' Q):wpOp P ops Q i K a w:=by
 unfold wpOp;simp only [b,c,Iv];exact .inl (h K λ_ _ h=>h)
theorem eO {md:Region.Mode} {r:Nat} (c:Region.ready md ops listed=[r])
  (h:wpOp P ops Q r (λd b=>S b/\wpAnyH P md ops Q S fuel (listed.setIfInBounds r true) d b) a w):wpAnyH P md ops Q S (fuel+1) listed a w :=
 wpAnyH_all c bF (λi b=>by
  obtain rfl:i=r:=by simpa using b
  exact h)
theorem aG {md:Region.Mode} {d:Nat} {v:Value} (b:ops[i]?=some oi) (f:oi.dst=some d)
  (g:Region.noSelect ops=true) (j:Region.free md ops listed i=true) (k:(Region.ready md ops listed).contains i=true)
  (l:∀ c a w,Q (.panic c) (a.put oi.dst v) w->Q (.panic c) a w) (c:YieldsIf P ops S oi v a) (m:S w)
  (h:wpAnyH P md ops Q S fuel (listed.setIfInBounds i true) { a with tmps:=a.tmps.setIfInBounds d v } w):wpAnyH P md ops Q S (fuel+1) listed a w :=
 wpAnyH_take b g j k l c m (by
  have e:a.put oi.dst v={ a with tmps:=a.tmps.setIfInBounds d v }:=by rw [f];rfl
  rw [e];exact h)
theorem ao (w:World) (o:Obj):(w.alloc o).heap[w.heap.size]?=some o:=(G_ w o).1
theorem ej (w:World) (o:Obj) (k:Nat) (h:k<w.heap.size):(w.alloc o).heap[k]?=w.heap[k]?:=(G_ w o).2 k h
theorem aF (w:World) (o:Obj):(w.alloc o).heap.size=w.heap.size+1:=by
 have e:(w.alloc o).heap=w.heap.push o:=rfl;rw [e,Array.size_push]
theorem Sx.pglt {Q} (h:Sx T Q n bud m W) {j g:Nat} (e:j<n) (f:W.cell? ⟨Q,j*3+2,none⟩=some (.slice (some ⟨g,0,none⟩) 1024 1024)):g<W.heap.size:=by
 obtain⟨c,i,r,k,_⟩:=h.row;have b:=k j e;have a:c[j*3+2]?=some (.slice (some ⟨g,0,none⟩) 1024 1024):=by simpa [World.cell?,i] using f
 cases d:m j with
 | none=>rw [d] at b;rw [b.2.2] at a;simp at a
 | some q =>
  obtain⟨l,s⟩:=q;rw [d] at b;obtain⟨_,_,_,t,o,p⟩:=b;rw [o] at a;simp at a;subst a;exact ai p
theorem mP (N:Nat):madeCells #[Value.int .u8 0] N=(Ns .u8 (List.replicate N 0)).toArray:=by
 apply Array.ext';simp [Ht,Ns]
theorem Sx.fresh {Q} (h:Sx T Q n bud m W) (k:Nat) (z:k<n) {d:Array Value} (r:d=(Ns .u8 (List.replicate 1024 0)).toArray) :
  Sx T Q n bud (eb m k (some (false,List.replicate 1024 0))) ((((W.alloc (.cells d 5)).setCell ⟨Q,k*3,none⟩ (.bool true)).setCell ⟨Q,k*3+1,none⟩ (.bool true)).setCell ⟨Q,k*3+2,none⟩ (.slice (some ⟨W.heap.size,0,none⟩) 1024 1024)).drew /\
  Sf Q W ((((W.alloc (.cells d 5)).setCell ⟨Q,k*3,none⟩ (.bool true)).setCell ⟨Q,k*3+1,none⟩ (.bool true)).setCell ⟨Q,k*3+2,none⟩ (.slice (some ⟨W.heap.size,0,none⟩) 1024 1024)).drew:=by
 have p:D W (W.alloc (.cells d 5)):=(Fc _ _).alloc (Fe _) _;have v:=h.below p;have A:=ao W (.cells d 5);have B:=h.ltQ;generalize W.alloc (.cells d 5)=f at *;have w:∀ i,f.cell? ⟨Q,i,none⟩=W.cell? ⟨Q,i,none⟩:=λi=>by unfold World.cell?;rw [p.block Q B]
 refine⟨(v.set3 k z (some (false,List.replicate 1024 0)) (.bool true) (.bool true) (.slice (some ⟨W.heap.size,0,none⟩) 1024 1024) (λg j s l x e=>?_) (λc W' a b o F=>⟨a,b,FO,W.heap.size,o,?_⟩)).drew,?_⟩
 ·rw [w] at x;have a:=h.pglt s x;simp only [Value.slice.injEq,GY,Addr.mk.injEq,and_true] at e;omega
 ·rw [F W.heap.size Z,A,r]
 ·have t:∀ g,g≠Q->(((f.setCell ⟨Q,k*3,none⟩ (.bool true)).setCell ⟨Q,k*3+1,none⟩ (.bool true)).setCell ⟨Q,k*3+2,none⟩ (.slice (some ⟨W.heap.size,0,none⟩) 1024 1024)).heap[g]?=f.heap[g]?:=by
   intro g o;rw [Gx _ _ _ _ o,Gx _ _ _ _ o,Gx _ _ _ _ o]
  have a:Below 0 W (((f.setCell ⟨Q,k*3,none⟩ (.bool true)).setCell ⟨Q,k*3+1,none⟩ (.bool true)).setCell ⟨Q,k*3+2,none⟩ (.slice (some ⟨W.heap.size,0,none⟩) 1024 1024)) :=
   (((p.mono (Fs _)).setCell (Fs _) _).setCell (Fs _) _).setCell (Fs _) _
  obtain⟨c,y,_⟩:=v.row;have G:=bj (bj (bj y (i:=k*3) (.bool true)) (i:=k*3+1) (.bool true)) (i:=k*3+2) (.slice (some ⟨W.heap.size,0,none⟩) 1024 1024);generalize ((f.setCell ⟨Q,k*3,none⟩ (.bool true)).setCell ⟨Q,k*3+1,none⟩ (.bool true)).setCell ⟨Q,k*3+2,none⟩ (.slice (some ⟨W.heap.size,0,none⟩) 1024 1024)=K at *;refine⟨a.drew.os,a.drew.tape,a.drew.output,a.drew.size,λg o l _=>(t g l).trans (p.block g o),?_⟩;rintro g ⟨j,s⟩;have b:K.cell? ⟨Q,j*3+2,none⟩=some (.slice (some ⟨g,0,none⟩) 1024 1024):=s;simp only [World.cell?,G] at b;by_cases u:j=k
  ·subst u;right;rw [Fu] at b;simp at b;omega
  ·left;refine⟨j,?_⟩;rw [<-w];have q:(((c.setIfInBounds (k*3) (.bool true)).setIfInBounds (k*3+1) (.bool true)).setIfInBounds (k*3+2) (.slice (some ⟨W.heap.size,0,none⟩) 1024 1024))[j*3+2]?=c[j*3+2]?:=by
    rw [Fu,Gu Z,Fu,Gu Z,Fu,Gu Z]
   rw [q] at b;simp only [World.cell?,y];exact b
theorem iI (T Q n bud m) (first a:Nat) (w) (h:Sx T Q n bud m w) (z:n<=4096) (P:first+a<=n) (R:(bz m n:Int)+a<=bud) :
  Calls prog 165 #[.pointer (some ⟨T,0,none⟩),.int .i64 first,.int .i64 a] w λe t=>e=.returned (.bool true)/\Sx T Q n bud (aU m first a) t/\Sf Q w t:=by
 have g:=H (λW (b:Sx T Q n bud m W)=>gp T Q n bud m W b z);have A:=kW m n;have j:=H (show Sx T Q n bud m w.drew/\D w w.drew from ⟨h.drew,(Fc _ _).drew⟩);have c:Hid (∀ W',(Sx T Q n bud m W'/\D w W')->W'.cell? ⟨T,1,none⟩=some (.int .i64 bud)/\Hid (Sx T Q n bud m W'/\D w W')):=λW' h=>⟨h.1.c.2,h⟩
 have B:=h.ltQ;clear h;generalize bz m n=o at *;have k:IntKind.i64.wrap ((o:Int)+(a:Int))=(o:Int)+(a:Int):=by rw [GT];omega
 have l:decide (bud<(o:Int)+(a:Int))=false:=Gy Z;go_enter func165,ntmps165;go_wp2;refine wp_region_held (S:=λW'=>W'.cell? ⟨T,1,none⟩=some (.int .i64 bud)/\Hid (Sx T Q n bud m W'/\D w W')) E ?_;simp only [FA,Fx,FH,Nat.reduceAdd,Fw,Fv,FB,Fy,FJ];have b:=c.out _ j.out;refine aG (i:=0) (d:=8) (v:=.pointer (some ⟨T,0,none⟩)) rfl E E E E (λ_ _ _ h=>h) (Or.inl ⟨E,λ_ _=>E⟩) b ?_;simp only [Ff,Fh,Fi];refine aG (i:=2) (d:=10) (v:=.int .i64 (a:Int)) rfl E E E E (λ_ _ _ h=>h) (Or.inl ⟨E,λ_ _=>E⟩) b ?_;simp only [Ff,Fh,Fi];refine aG (i:=4) (d:=12) (v:=.pointer (some ⟨T,0,none⟩)) rfl E E E E (λ_ _ _ h=>h) (Or.inl ⟨E,λ_ _=>E⟩) b ?_;simp only [Ff,Fh,Fi];refine aG (i:=5) (d:=13) (v:=.pointer (some ⟨T,0,none⟩)) rfl E E E E (λ_ _ _ h=>h) (Or.inl ⟨E,λ_ _=>E⟩) b ?_;simp only [Ff,Fh,Fi];refine aG (i:=6) (d:=14) (v:=.pointer (some ⟨T,1,none⟩)) rfl E E E E (λ_ _ _ h=>h) (Or.inl ⟨E,λ_ _=>E⟩) b ?_;simp only [Ff,Fh,Fi];refine aG (i:=7) (d:=15) (v:=.int .i64 bud) rfl E E E E (λ_ _ _ h=>h) (Or.inl ⟨E,λW b=>by obtain ⟨p,_⟩:=b;go_simp⟩) b ?_;simp only [Ff,Fh,Fi];refine eO (r:=1) E ?_;refine f_ rfl E (λK' f=>?_);go_simp;refine (g.out _ b.2.out.1).mono ?_;rintro e V ⟨rfl,u⟩;have p:=c.out _ ⟨b.2.out.1.below u,az b.2.out.2 u⟩;refine f.out _ _ ⟨p,?_⟩;clear b;have b:=p;clear f K';refine aG (i:=3) (d:=11) (v:=.int .i64 ((o:Int)+(a:Int))) rfl E E E E (λ_ _ _ h=>h) (Or.inl ⟨E,λW _=>by first|(go_simp;done)|(go_simp;omega)⟩) b ?_;simp only [Ff,Fh,Fi];refine aG (i:=8) (d:=16) (v:=.bool false) rfl E E E E (λ_ _ _ h=>h) (Or.inl ⟨E,λW _=>by first|(go_simp;done)|(go_simp;omega)⟩) b ?_;simp only [Ff,Fh,Fi];refine wpAnyH_done E ?_ _;clear k l g c j;have F:=H b.2.out.1;have G:=H (Sf.ofBelow b.2.out.2 B);clear b;have g:∀ w,(Instr.makeSlice 22 (.int .i64 1024) (.int .i64 1024)).run prog w=.ok (.slice (some ⟨w.heap.size,0,none⟩) 1024 1024) (w.alloc (.cells (madeCells #[Value.int .u8 0] 1024) 5)):=λw=>run_make_row' 22 5 (.int .u8 0) 1 underlying22 Tryz.info5By rfl .i64 .i64 1024 Z Z w
 have K:=H g;clear g;go_wp2;go_loopw [7] (λi wr=>∃ k:Nat,k<=a/\i=.int .i64 ((first:Int)+(k:Int))/\Hid (Sx T Q n bud (aU m first k) wr/\Sf Q w wr)) (λi _=>first+a-(intOf i).toNat);case atStart=>exact ⟨0,Fs _,aY,F.out,G.out⟩
 case round =>
  obtain⟨k,X,rfl,j⟩:=hrel;by_cases L:k<a
  ·have q:=H (j.1.fresh (first+k) Z (mP 1024));have M:wr.cell? ⟨T,0,none⟩=some (.slice (some ⟨Q,0,none⟩) n n):=j.1.c.1;have c:D wr (wr.alloc (.cells (madeCells #[Value.int .u8 0] 1024) 5)):=(Fc _ _).alloc (Fe _) _;have x:=(j.1.below c).c.1;have N:=q.1.c.1;obtain⟨Y,pp,l,cc,d1,d2,d3,_⟩:=(j.1.below c).three (first+k) Z;obtain⟨c9,y,O,_⟩:=(j.1.below c).row;have f1:∀ i,(wr.alloc (.cells (madeCells #[Value.int .u8 0] 1024) 5)).frozen? ⟨Q,i,none⟩=false:=λi=>by simp [World.frozen?,y]
   have f2:=f1 ((first+k)*3);have f3:=f1 ((first+k)*3+1);have f4:=f1 ((first+k)*3+2);have g:∀ w,(Instr.makeSlice 22 (.int .i64 1024) (.int .i64 1024)).run prog w=.ok (.slice (some ⟨w.heap.size,0,none⟩) 1024 1024) (w.alloc (.cells (madeCells #[Value.int .u8 0] 1024) 5)):=K.out;have s:=H j.2;have tn:((first:Int)+(k:Int)).toNat=first+k:=Z
   have tl:(first:Int)+(k:Int)<(n:Int):=Z;clear f1 y O c;generalize madeCells #[Value.int .u8 0] 1024=c at *;go_wp2;refine wp_region_held (S:=λW'=>W'.cell? ⟨T,0,none⟩=some (.slice (some ⟨Q,0,none⟩) n n)) E ?_;simp only [FA,Fx,FH,Nat.reduceAdd,Fw,Fv,FB,Fy,FJ];have b:=M;refine aG (i:=0) (d:=25) (v:=.pointer (some ⟨T,0,none⟩)) rfl E E E E (λ_ _ _ h=>h) (Or.inl ⟨E,λ_ _=>E⟩) b ?_;simp only [Ff,Fh,Fi];refine aG (i:=1) (d:=26) (v:=.pointer (some ⟨T,0,none⟩)) rfl E E E E (λ_ _ _ h=>h) (Or.inl ⟨E,λ_ _=>E⟩) b ?_;simp only [Ff,Fh,Fi];refine aG (i:=2) (d:=27) (v:=.pointer (some ⟨T,0,none⟩)) rfl E E E E (λ_ _ _ h=>h) (Or.inl ⟨E,λ_ _=>E⟩) b ?_;simp only [Ff,Fh,Fi];refine aG (i:=3) (d:=28) (v:=.slice (some ⟨Q,0,none⟩) n n) rfl E E E E (λ_ _ _ h=>h) (Or.inl ⟨E,λW b=>by obtain p:=b;go_simp⟩) b ?_;simp only [Ff,Fh,Fi];refine aG (i:=4) (d:=29) (v:=.int .i64 ((first:Int)+(k:Int))) rfl E E E E (λ_ _ _ h=>h) (Or.inl ⟨E,λ_ _=>E⟩) b ?_;simp only [Ff,Fh,Fi];refine eO (r:=5) E ?_;refine f_ rfl E (λK' f=>?_);go_simp;refine f.out _ _ ⟨x,?_⟩;clear b;have b:=x;clear f K';refine aG (i:=6) (d:=31) (v:=.agg #[.bool true,.bool true,.slice (some ⟨wr.heap.size,0,none⟩) 1024 1024]) rfl E E E E (λ_ _ _ h=>h) (Or.inl ⟨E,λ_ _=>E⟩) b ?_;simp only [Ff,Fh,Fi];refine aG (i:=7) (d:=32) (v:=.pointer (some ⟨Q,(first+k)*3,none⟩)) rfl E E E E (λ_ _ _ h=>h) (Or.inl ⟨E,λW _=>by first|(go_simp;done)|(go_simp;omega)⟩) b ?_;simp only [Ff,Fh,Fi];refine eO (r:=8) E ?_;refine f_ rfl E (λK' f=>?_);go_simp;refine f.out _ _ ⟨N,?_⟩;clear b;clear f K';refine wpAnyH_done E ?_ _;go_wp2;go_roundw;(case rel=>exact ⟨k+1,Z,aY,q.1,s.trans q.2⟩);case measure=>simp [intOf];omega
  ·have c:k=a:=Z;subst c;go_wp2;go_ret;exact⟨rfl,j.out⟩
theorem jh (T Q n bud m) (first a:Nat) (w) (h:Sx T Q n bud m w) (p:n<=4096) (x:first+a<=n) (y:bud<(bz m n:Int)+a) :
  Calls prog 165 #[.pointer (some ⟨T,0,none⟩),.int .i64 first,.int .i64 a] w λe q=>e=.returned (.bool false)/\D w q:=by
 have j:=H (λW (b:Sx T Q n bud m W)=>gp T Q n bud m W b p);have s:=kW m n;have k:=H (show Sx T Q n bud m w.drew/\D w w.drew from ⟨h.drew,(Fc _ _).drew⟩);have f:Hid (∀ W',(Sx T Q n bud m W'/\D w W')->W'.cell? ⟨T,1,none⟩=some (.int .i64 bud)/\Hid (Sx T Q n bud m W'/\D w W')):=λW' h=>⟨h.1.c.2,h⟩
 clear h;generalize bz m n=c at *;have t:IntKind.i64.wrap ((c:Int)+(a:Int))=(c:Int)+(a:Int):=by rw [GT];omega
 have u:decide (bud<(c:Int)+(a:Int))=true:=GJ Z;go_enter func165,ntmps165;go_wp2;refine wp_region_held (S:=λW'=>W'.cell? ⟨T,1,none⟩=some (.int .i64 bud)/\Hid (Sx T Q n bud m W'/\D w W')) E ?_;simp only [FA,Fx,FH,Nat.reduceAdd,Fw,Fv,FB,Fy,FJ];have b:=f.out _ k.out;refine aG (i:=0) (d:=8) (v:=.pointer (some ⟨T,0,none⟩)) rfl E E E E (λ_ _ _ h=>h) (Or.inl ⟨E,λ_ _=>E⟩) b ?_;simp only [Ff,Fh,Fi];refine aG (i:=2) (d:=10) (v:=.int .i64 (a:Int)) rfl E E E E (λ_ _ _ h=>h) (Or.inl ⟨E,λ_ _=>E⟩) b ?_;simp only [Ff,Fh,Fi];refine aG (i:=4) (d:=12) (v:=.pointer (some ⟨T,0,none⟩)) rfl E E E E (λ_ _ _ h=>h) (Or.inl ⟨E,λ_ _=>E⟩) b ?_;simp only [Ff,Fh,Fi];refine aG (i:=5) (d:=13) (v:=.pointer (some ⟨T,0,none⟩)) rfl E E E E (λ_ _ _ h=>h) (Or.inl ⟨E,λ_ _=>E⟩) b ?_;simp only [Ff,Fh,Fi];refine aG (i:=6) (d:=14) (v:=.pointer (some ⟨T,1,none⟩)) rfl E E E E (λ_ _ _ h=>h) (Or.inl ⟨E,λ_ _=>E⟩) b ?_;simp only [Ff,Fh,Fi];refine aG (i:=7) (d:=15) (v:=.int .i64 bud) rfl E E E E (λ_ _ _ h=>h) (Or.inl ⟨E,λW b=>by obtain ⟨g,_⟩:=b;go_simp⟩) b ?_;simp only [Ff,Fh,Fi];refine eO (r:=1) E ?_;refine f_ rfl E (λK' l=>?_);go_simp;refine (j.out _ b.2.out.1).mono ?_;rintro e z ⟨rfl,o⟩;have g:=f.out _ ⟨b.2.out.1.below o,az b.2.out.2 o⟩;refine l.out _ _ ⟨g,?_⟩;clear b;have b:=g;clear l K';refine aG (i:=3) (d:=11) (v:=.int .i64 ((c:Int)+(a:Int))) rfl E E E E (λ_ _ _ h=>h) (Or.inl ⟨E,λW _=>by first|(go_simp;done)|(go_simp;omega)⟩) b ?_;simp only [Ff,Fh,Fi];refine aG (i:=8) (d:=16) (v:=.bool true) rfl E E E E (λ_ _ _ h=>h) (Or.inl ⟨E,λW _=>by first|(go_simp;done)|(go_simp;omega)⟩) b ?_;simp only [Ff,Fh,Fi];refine wpAnyH_done E ?_ _;clear t u j f k;have f:=H b.2.out.2;clear b;go_wp2;go_ret;exact⟨rfl,f.out⟩
end
section
open Go.RowKit Go.Maps
theorem lz {α : Type} {l : List α} {a : α} : l.toArray.setIfInBounds i a=(l.set i a).toArray := Ff ..
theorem l0 {α : Type} {a b : α} {l : List α} : (a :: l).set 0 b=b :: l := rfl
theorem ls {α : Type} {a b : α} {l : List α} : (a :: l).set (n+1) b=a :: l.set n b := rfl
theorem rh {id : Nat} {n' : Nat} (h : wpAnyH P .any ops Q S n' l' a { w with drawn := w.drawn+1 }) (hm : P.follows .mixedOrders=true := by kernel_rfl) (en : ops.size=n' := by simp only [FA,Fx,FH,Nat.reduceAdd]; rfl) (el : Array.replicate ops.size false=l' := by simp only [FA,Fx,FH,Nat.reduceAdd,Fw,Fv,FB,Fy,FJ]; rfl) : (Code.region id ops true).wp P Q a w := by subst en el; exact wp_region_held hm h
theorem bN {P:Program} {md:Region.Mode} {ops:Array Oper} {Q:Exit->Act->World->Prop} {S:World->Prop} {n:Nat} {l:Array Bool} {a:Act} {w:World} (h:Q .normal a w) (b:Region.ready md ops l=[]:=by kernel_rfl):wpAnyH P md ops Q S n l a w:=wpAnyH_done b h _
theorem cv {P:Program} {ops:Array Oper} {r:Nat} {o:Oper} {a:Act} {w:World} {G:Act->World->Prop} {Q:Exit->Act->World->Prop} (h:∀ K':Act->World->Prop,Hid (∀ b c,G b c->K' b c)->o.wp P a w K' Q) (b:ops[r]?=some o:=by rfl) (c:Region.wanted o (yielded ops a.tmps)=true:=by kernel_rfl):wpOp P ops Q r G a w:=f_ b c h
theorem gy {P:Program} {md:Region.Mode} {ops:Array Oper} {Q:Exit->Act->World->Prop} {S:World->Prop} {n:Nat} {l:Array Bool} {a:Act} {w:World} (r:Nat) (h:wpOp P ops Q r (λc b=>S b/\wpAnyH P md ops Q S n (l.setIfInBounds r true) c b) a w) (b:Region.ready md ops l=[r]:=by kernel_rfl):wpAnyH P md ops Q S (n+1) l a w:=eO b h
theorem lW {P:Program} {md:Region.Mode} {ops:Array Oper} {Q:Exit->Act->World->Prop} {S:World->Prop} {n:Nat} {l:Array Bool} {a:Act} {w:World} (rs:List Nat) (h:∀ i,i∈rs->wpOp P ops Q i (λc b=>S b/\wpAnyH P md ops Q S n (l.setIfInBounds i true) c b) a w) (b:Region.ready md ops l=rs:=by kernel_rfl) (c:rs≠[]:=by simp):wpAnyH P md ops Q S (n+1) l a w:=wpAnyH_all b c h
theorem pk {md : Region.Mode} (i : Nat) {d : Nat} (v : Value) (hS : S w) (h : wpAnyH P md ops Q S fuel l' { a with tmps := t' } w) (hi : ops[i]? = some oi := by rfl) (hd : oi.dst=some d := by rfl) (hs : Region.noSelect ops=true := by kernel_rfl) (hf : Region.free md ops listed i=true := by kernel_rfl) (hr : (Region.ready md ops listed).contains i=true := by kernel_rfl) (hQ : ∀ c a w, Q (.panic c) (a.put oi.dst v) w->Q (.panic c) a w := by exact λ_ _ _ h => h) (h1 : Region.wanted oi (yielded ops a.tmps)=true := by kernel_rfl) (h2 : ∀ W, S W->(execOp a.eval oi).run P W=.ok (.value v) W := by exact λ_ _ => by kernel_rfl) (el : listed.setIfInBounds i true=l' := by first | (simp only [lz, l0, ls]; rfl) | rfl) (et : a.tmps.setIfInBounds d v=t' := by first | (simp only [lz, l0, ls]; rfl) | rfl) : wpAnyH P md ops Q S (fuel+1) listed a w := by subst el et; exact aG hi hd hs hf hr hQ (.inl ⟨h1, h2⟩) hS h
theorem ps {md : Region.Mode} (i : Nat) {d : Nat} (hS : S w) (h : wpAnyH P md ops Q S fuel l' { a with tmps := t' } w) (hi : ops[i]? = some oi := by rfl) (hd : oi.dst=some d := by rfl) (hs : Region.noSelect ops=true := by kernel_rfl) (hf : Region.free md ops listed i=true := by kernel_rfl) (hr : (Region.ready md ops listed).contains i=true := by kernel_rfl) (hQ : ∀ c a w, Q (.panic c) (a.put oi.dst undef) w->Q (.panic c) a w := by exact λ_ _ _ h => h) (h1 : Region.wanted oi (yielded ops a.tmps)=false := by kernel_rfl) (el : listed.setIfInBounds i true=l' := by first | (simp only [lz, l0, ls]; rfl) | rfl) (et : a.tmps.setIfInBounds d undef=t' := by first | (simp only [lz, l0, ls]; rfl) | rfl) : wpAnyH P md ops Q S (fuel+1) listed a w := by subst el et; exact aG hi hd hs hf hr hQ (.inr ⟨h1, rfl⟩) hS h
theorem pz {md : Region.Mode} (i : Nat) {d : Nat} (v : Value) (hS : S w) (h : wpAnyH P md ops Q S fuel l' { a with tmps := t' } w) (hi : ops[i]? = some oi := by rfl) (hd : oi.dst=some d := by rfl) (hs : Region.noSelect ops=true := by kernel_rfl) (hf : Region.free md ops listed i=true := by kernel_rfl) (hr : (Region.ready md ops listed).contains i=true := by kernel_rfl) (hQ : ∀ c a w, Q (.panic c) (a.put oi.dst v) w->Q (.panic c) a w := by exact λ_ _ _ h => h) (h1 : Region.wanted oi (yielded ops a.tmps)=true := by kernel_rfl) (h2 : ∀ W, S W->(execOp a.eval oi).run P W=.ok (.value v) W := by intro _ h; (repeat obtain ⟨_, h⟩ := h); first | (go_simp; done) | (go_simp; omega)) (el : listed.setIfInBounds i true=l' := by first | (simp only [lz, l0, ls]; rfl) | rfl) (et : a.tmps.setIfInBounds d v=t' := by first | (simp only [lz, l0, ls]; rfl) | rfl) : wpAnyH P md ops Q S (fuel+1) listed a w := by subst el et; exact aG hi hd hs hf hr hQ (.inl ⟨h1, h2⟩) hS h
theorem pf {md : Region.Mode} (i : Nat) {d : Nat} (v : Value) (hi : ops[i]? = some oi) (hS : S w) (h2 : ∀ W, S W->(execOp a.eval oi).run P W=.ok (.value v) W) (h : wpAnyH P md ops Q S fuel l' { a with tmps := t' } w) (hd : oi.dst=some d := by rfl) (hs : Region.noSelect ops=true := by kernel_rfl) (hf : Region.free md ops listed i=true := by kernel_rfl) (hr : (Region.ready md ops listed).contains i=true := by kernel_rfl) (hQ : ∀ c a w, Q (.panic c) (a.put oi.dst v) w->Q (.panic c) a w := by exact λ_ _ _ h => h) (h1 : Region.wanted oi (yielded ops a.tmps)=true := by kernel_rfl) (el : listed.setIfInBounds i true=l' := by first | (simp only [lz, l0, ls]; rfl) | rfl) (et : a.tmps.setIfInBounds d v=t' := by first | (simp only [lz, l0, ls]; rfl) | rfl) : wpAnyH P md ops Q S (fuel+1) listed a w := by subst el et; exact aG hi hd hs hf hr hQ (.inl ⟨h1, h2⟩) hS h
def fF (l : Array Bool) : Nat := l.toList.findIdx (λb => !b)
theorem f0 {l : List Bool} : fF (false :: l).toArray=0 := rfl
theorem f1 {l : List Bool} : fF (true :: l).toArray=fF l.toArray+1 := by simp [fF, List.findIdx_cons]
theorem py {md : Region.Mode} {d : Nat} {v : Value} (hS : S w) (h : wpAnyH P md ops Q S fuel (listed.setIfInBounds (fF listed) true) { a with tmps := a.tmps.setIfInBounds d v } w) (hi : ops[fF listed]? = some oi := by simp only [f0, f1, Nat.reduceAdd, List.getElem?_toArray, List.getElem?_cons_succ, List.getElem?_cons_zero]; rfl) (hd : oi.dst=some d := by rfl) (h2 : YieldsIf P ops S oi v a := by first | exact .inr ⟨rfl, rfl⟩ | exact .inl ⟨by kernel_rfl, λ_ _ => rfl⟩ | (refine .inl ⟨by kernel_rfl, ?_⟩; intro _ h; (repeat obtain ⟨_, h⟩ := h); go_simp; (try rfl); done)) (hs : Region.noSelect ops=true := by kernel_rfl) (hf : Region.free md ops listed (fF listed)=true := by kernel_rfl) (hr : (Region.ready md ops listed).contains (fF listed)=true := by kernel_rfl) (hQ : ∀ c a w, Q (.panic c) (a.put oi.dst v) w->Q (.panic c) a w := by exact λ_ _ _ h => h) : wpAnyH P md ops Q S (fuel+1) listed a w := aG hi hd hs hf hr hQ h2 hS h
theorem po {md : Region.Mode} (r : Nat) {o : Oper} (h : ∀ K' : Act->World->Prop, Hid (∀ a' w', (S w'/\wpAnyH P md ops Q S fuel (listed.setIfInBounds r true) a' w')->K' a' w')->o.wp P a w K' Q) (hi : ops[r]? = some o := by rfl) (hr : Region.ready md ops listed=[r] := by kernel_rfl) (hw : Region.wanted o (yielded ops a.tmps)=true := by kernel_rfl) : wpAnyH P md ops Q S (fuel+1) listed a w := eO hr (f_ hi hw h)
end
end Go.Proofs.YtdngbppdomoenaaGreatDoor
