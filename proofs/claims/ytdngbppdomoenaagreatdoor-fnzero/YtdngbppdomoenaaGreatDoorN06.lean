import Derived.Test.YtdngbppdomoenaaGreatDoorN05
set_option linter.unusedVariables false
set_option linter.unusedSimpArgs false
set_option maxRecDepth 20000
set_option maxHeartbeats 8000000
namespace Go.Proofs.YtdngbppdomoenaaGreatDoor
open Go.Proofs.Tryz
variable {V W w:World} {op:Array Value} {M O Rb S:Nat} {bud n:Int} {f:Nat->Option Nat} {m:Nat->Option (Bool×List Int)}
section
open Go.RowKit Go.Shelf
def j_ (k p c:Int) (a:Nat) (n:Int) (d:Option Addr) (e dc:Nat):Value:=.agg #[I k,I p,I c,U a,I n,.slice d e dc]
structure Dw (w:World) (op:Array Value) (Q O Rb:Nat) (V:World):Prop where
 o:V.heap[O]?=some (.cells op 190)
 r:V.heap[Rb]?=some (.cells #[I 0,C] 210)
 fr:Sf Q w V
 big:w.heap.size+2<=V.heap.size
 hO:O=w.heap.size
 hR:Rb=w.heap.size+1
theorem Dw.first (w:World) (op) (Q:Nat) (a:Q<w.heap.size):Dw w op Q w.heap.size (w.heap.size+1) ((w.alloc (.cells op 190)).alloc (.cells #[I 0,C] 210)) :=
 ⟨by rw [ej _ _ _ (by rw [aF];omega)];exact ao _ _,by rw [<-aF w (.cells op 190)];exact ao _ _,
 Sf.ofBelow (((Fc _ _).alloc (Fe _) _).alloc (by rw [aF];omega) _) a,by rw [aF,aF];omega,rfl,rfl⟩
theorem Dw.below {V' Q} (h:Dw w op Q O Rb V) (b:Q<V.heap.size) (a:D V V'):Dw w op Q O Rb V' :=
 ⟨by rw [a.block _ (ai h.o)];exact h.o,by rw [a.block _ (ai h.r)];exact h.r,h.fr.trans (Sf.ofBelow a b),Fg h.big a.size,h.hO,h.hR⟩
theorem Dw.done {Q} (h:Dw w op Q O Rb V) (b:Q<w.heap.size) (a:Array Value):Sf Q w (V.setRow Rb a) :=
 h.fr.newBlock (by have:=h.hR;omega) (by have:=h.hR;omega) a
theorem zi {a:Nat} {v:Value} {k:Nat} {b:List Value} (h:W.ownsRow a 5 1 v k b) (c:Int):(#[Value.int IntKind.i64 c,v].all λx=>x.oneCell')=true:=by
 rcases h.2 with ⟨rfl,_⟩|⟨g,d,e,rfl,_⟩ <;> simp [Value.oneCell']
theorem Im.lt {S M st n bud f w} (h:Im S M st n bud f w):S<w.heap.size/\M<w.heap.size:=by
 obtain⟨a,b,c⟩:=h.map;exact⟨ai h.box,b.lt⟩
theorem Im.setRow {S M st n bud f w} (h:Im S M st n bud f w) {r:Nat} (d:r≠S) (e:r≠M) (b:Array Value):Im S M st n bud f (w.setRow r b):=by
 have c:=al w r b;obtain⟨a,g,i⟩:=h.map;exact⟨(c.block S (ai h.box) (by simpa using H2 d)).trans h.box,a,g.kept c (by simpa using H2 e),i⟩
theorem Im.apartT {st} (h:Im S M st n bud f W) (j:Pg f m W) {g:Nat} {c:Array Value} {t:TypeId} {o:Nat×Nat} (d:W.heap[g]?=some (.cells c t o)) (p:t≠162) (q:t≠194):g≠S/\g≠M/\∀ k,f k≠some g:=by
 refine⟨?_,?_,λk i=>?_⟩;·rintro rfl;have:=h.box;rw [d] at this;simp at this;exact p this.2.1
 ·rintro rfl;obtain⟨a,⟨l,b,e,_⟩,_⟩:=h.map;rw [d] at e;cases e
 rcases j.at' k with ⟨a,_⟩|⟨b,l,r,a,_,_,e⟩;·rw [i] at a;cases a
 rw [i] at a;cases a;rw [d] at e;simp at e;exact q e.2.1
theorem Pg.other {a:World} (h:Pg f m W) (d:∀ k b,f k=some b->a.heap[b]?=W.heap[b]?):Pg f m a :=
 ⟨λk=>(h.at' k).imp id λ⟨b,l,e,c,g,i,j⟩=>⟨b,l,e,c,g,i,(d k b c).trans j⟩,h.inj⟩
structure Dl (w:World) (op:Array Value) (S M:Nat) (nn bud:Int) (f f':Nat->Option Nat) (m:Nat->Option (Bool×List Int)) (O Rb:Nat) (V:World):Prop where
 im:Im S M 1 nn bud f' V
 pg:Pg f' m V
 fr:Fr S M f f' w V
 o:V.heap[O]?=some (.cells op 190)
 r:V.heap[Rb]?=some (.cells #[I 0,C] 210)
 hO:O=w.heap.size
 hR:Rb=w.heap.size+1
theorem Dl.first (h:Im S M 0 n bud f w) (i:Pg f m w) (op):Dl w op S M n bud f f m w.heap.size (w.heap.size+1) (((w.alloc (.cells op 190)).alloc (.cells #[I 0,C] 210)).setCell ⟨S,0,none⟩ (.int .i32 1)):=by
 have o:=h.lt;have c:=(h.alloc (.cells op 190)).alloc (.cells #[I 0,C] 210);have d:=(i.alloc (.cells op 190)).alloc (.cells #[I 0,C] 210);refine⟨c.st 1,d.other (λk b a=>Gx _ _ _ _ (d.apart c a).1),?_,?_,?_,rfl,rfl⟩;·have a:D w ((w.alloc (.cells op 190)).alloc (.cells #[I 0,C] 210)):=((Fc _ _).alloc (Fe _) _).alloc (by rw [aF];omega) _;have b:=au (ar ((w.alloc (.cells op 190)).alloc (.cells #[I 0,C] 210)) S) 0 (.int .i32 1);exact⟨b.os.trans a.os,b.tape.trans a.tape,b.output.trans a.output,Fg a.size b.size,λg e j p q=>(b.block g (Fq e a.size) (by simpa using j)).trans (a.block g e),λk g l=>.inl ⟨k,l⟩⟩
 ·rw [Gx _ _ _ _ (by show w.heap.size≠S;omega),ej _ _ _ (by rw [aF];omega)];exact ao _ _
 rw [Gx _ _ _ _ (by show w.heap.size+1≠S;omega),<-aF w (.cells op 190)];exact ao _ _
theorem Dl.move {f' f'' m' V'} (h:Dl w op S M n bud f f' m O Rb V) (b:Im S M 1 n bud f'' V') (c:Pg f'' m' V') (a:Fr S M f' f'' V V'):Dl w op S M n bud f f'' m' O Rb V':=by
 obtain⟨d,e,g⟩:=h.im.apartT h.pg h.o av av;obtain⟨i,j,k⟩:=h.im.apartT h.pg h.r av av;exact⟨b,c,h.fr.trans a,(a.block O (ai h.o) d e g).trans h.o,(a.block Rb (ai h.r) i j k).trans h.r,h.hO,h.hR⟩
def IF (S M:Nat) (n bud:Int) (f:Nat->Option Nat) (m:Nat->Option (Bool×List Int)) (w e:World):Prop:=∃ i,Im S M 0 n bud i e/\Pg i m e/\Fr S M f i w e
theorem Dl.done {f'} (h:Dl w op S M n bud f f' m O Rb V) (a:Array Value):(V.setRow Rb a).cell? ⟨S,0,none⟩=some (.int .i32 1)/\(V.setRow Rb a).frozen? ⟨S,0,none⟩=false/\((V.setRow Rb a).setCell ⟨S,0,none⟩ (.int .i32 0)).heap[Rb]?=some (.cells a 210)/\IF S M n bud f m w ((V.setRow Rb a).setCell ⟨S,0,none⟩ (.int .i32 0)):=by
 obtain⟨o,q,r⟩:=h.im.apartT h.pg h.r av av;have i:=h.im.setRow o q a;have c:=al V Rb a;have p:Pg f' m (V.setRow Rb a):=h.pg.other (λk b d=>c.block b (by
  rcases h.pg.at' k with ⟨e,_⟩|⟨j,l,s,e,_,_,g⟩;·rw [d] at e;cases e
  rw [d] at e;cases e;exact ai g) (λe=>by cases e;exact r k d))
 have e:=au (ar (V.setRow Rb a) S) 0 (.int .i32 0);refine⟨by simp [World.cell?,i.box],by simp [World.frozen?,i.box],?_,f',i.st 0,p.other (λk b d=>Gx _ _ _ _ (p.apart i d).1),?_⟩;·rw [Gx _ _ _ _ o];exact aw h.r a
 have u:=h.hR;exact⟨e.os.trans (c.os.trans h.fr.os),e.tape.trans (c.tape.trans h.fr.tape),e.output.trans (c.output.trans h.fr.output),Fg h.fr.size (Fg c.size e.size),λg j l s t=>(e.block g (Fq j (Fg h.fr.size c.size)) (by simpa using l)).trans ((c.block g (Fq j h.fr.size) bK).trans (h.fr.block g j l s t)),h.fr.made⟩
theorem wG (S M nn bud f m) (b:Int) (p c a n d dl dc w) (h:Im S M 0 nn bud f w) (g:Pg f m w) (k:b<0\/5<b) :
  Calls prog 149 #[J S 0,j_ b p c a n d dl dc] w λe l=>e=.returned (.agg #[I 6,C])/\IF S M nn bud f m w l:=by
 have o:¬b=0:=Z;have q:¬b=1:=Z;have r:¬b=2:=Z;have s:¬b=3:=Z;have t:¬b=4:=Z;have u:¬b=5:=Z;have i:=H h;have j:=H g;clear h k g;unfold j_;go_enter_defers func149,ntmps149;go_wp2_with fail;refine (gh ((i.alloc _).alloc _)).mono ?_;rintro e V ⟨rfl,k⟩;have g:=H (Dl.first i j #[I b,I p,I c,U a,I n,.slice d dl dc]);rw [<-k] at g;clear k i j;generalize j:w.heap.size+1=Rb at g ⊢;generalize w.heap.size=O at g ⊢;have v:V.cell? ⟨O,0,none⟩=some (I b):=by simp [World.cell?,g.o]
 go_wp2_with (refine eF g.r ?_);have i:=g.done #[I 6,C];refine Ig (f:=111) (args:=#[J S 0]) bF (by simp [go_sem]) ?_;refine (Go.MuLone.unlock_deferred jt ⟨S,0,none⟩ .returning _ i.1 i.2.1).mono ?_;rintro e x k ⟨rfl,rfl,rfl⟩;exact⟨_,AM i.2.2.1 underlying210,rfl,i.2.2.2⟩
theorem lI (S M nn bud f m m' code p c a n d dl dc w) (h:Im S M 0 nn bud f w) (b:Pg f m w) (k:∀ V,Im S M 1 nn bud f V->Pg f m V->Calls prog 178 #[J S 0,I p,I c] V λe g=>e=.returned (I code)/\∃ i,Im S M 1 nn bud i g/\Pg i m' g/\Fr S M f i V g) :
  Calls prog 149 #[J S 0,j_ 0 p c a n d dl dc] w λe g=>e=.returned (.agg #[I code,C])/\IF S M nn bud f m' w g:=by
 have j:=H h;have l:=H b;have o:=H k;clear h b k;unfold j_;go_enter_defers func149,ntmps149;go_wp2_with fail;refine (gh ((j.alloc _).alloc _)).mono ?_;rintro e V ⟨rfl,q⟩;have b:=H (Dl.first j l #[I 0,I p,I c,U a,I n,.slice d dl dc]);rw [<-q] at b;clear q j l;generalize s:w.heap.size+1=Rb at b ⊢;generalize w.heap.size=O at b ⊢;have t:V.cell? ⟨O,0,none⟩=some (I 0):=by simp [World.cell?,b.o]
 have u:V.cell? ⟨O,1,none⟩=some (I p):=by simp [World.cell?,b.o]
 have v:V.cell? ⟨O,2,none⟩=some (I c):=by simp [World.cell?,b.o]
 go_wp2_with fail;refine (o V b.im b.pg).mono ?_;rintro e x ⟨rfl,i,j,l,q⟩;have r:=H (b.move j l q);clear j l q b o t u v;go_wp2_with (refine eF r.r ?_);have b:=r.done #[I code,C];refine Ig (f:=111) (args:=#[J S 0]) bF (by simp [go_sem]) ?_;refine (Go.MuLone.unlock_deferred jt ⟨S,0,none⟩ .returning _ b.1 b.2.1).mono ?_;rintro e l j ⟨rfl,rfl,rfl⟩;exact⟨_,AM b.2.2.1 underlying210,rfl,b.2.2.2⟩
theorem jw (S M nn bud f m m' code p c a n d dl dc w) (h:Im S M 0 nn bud f w) (b:Pg f m w) (k:∀ V,Im S M 1 nn bud f V->Pg f m V->Calls prog 179 #[J S 0,I p,I c] V λe g=>e=.returned (I code)/\∃ i,Im S M 1 nn bud i g/\Pg i m' g/\Fr S M f i V g) :
  Calls prog 149 #[J S 0,j_ 1 p c a n d dl dc] w λe g=>e=.returned (.agg #[I code,C])/\IF S M nn bud f m' w g:=by
 have j:=H h;have l:=H b;have o:=H k;clear h b k;unfold j_;go_enter_defers func149,ntmps149;go_wp2_with fail;refine (gh ((j.alloc _).alloc _)).mono ?_;rintro e V ⟨rfl,q⟩;have b:=H (Dl.first j l #[I 1,I p,I c,U a,I n,.slice d dl dc]);rw [<-q] at b;clear q j l;generalize s:w.heap.size+1=Rb at b ⊢;generalize w.heap.size=O at b ⊢;have t:V.cell? ⟨O,0,none⟩=some (I 1):=by simp [World.cell?,b.o]
 have u:V.cell? ⟨O,1,none⟩=some (I p):=by simp [World.cell?,b.o]
 have v:V.cell? ⟨O,2,none⟩=some (I c):=by simp [World.cell?,b.o]
 go_wp2_with fail;refine (o V b.im b.pg).mono ?_;rintro e x ⟨rfl,i,j,l,q⟩;have r:=H (b.move j l q);clear j l q b o t u v;go_wp2_with (refine eF r.r ?_);have b:=r.done #[I code,C];refine Ig (f:=111) (args:=#[J S 0]) bF (by simp [go_sem]) ?_;refine (Go.MuLone.unlock_deferred jt ⟨S,0,none⟩ .returning _ b.1 b.2.1).mono ?_;rintro e l j ⟨rfl,rfl,rfl⟩;exact⟨_,AM b.2.2.1 underlying210,rfl,b.2.2.2⟩
theorem qZ (S M nn bud f m m' code p c a n d dl dc w) (h:Im S M 0 nn bud f w) (b:Pg f m w) (k:∀ V,Im S M 1 nn bud f V->Pg f m V->Calls prog 180 #[J S 0,I p,I c,.bool true] V λe g=>e=.returned (I code)/\∃ i,Im S M 1 nn bud i g/\Pg i m' g/\Fr S M f i V g) :
  Calls prog 149 #[J S 0,j_ 2 p c a n d dl dc] w λe g=>e=.returned (.agg #[I code,C])/\IF S M nn bud f m' w g:=by
 have j:=H h;have l:=H b;have o:=H k;clear h b k;unfold j_;go_enter_defers func149,ntmps149;go_wp2_with fail;refine (gh ((j.alloc _).alloc _)).mono ?_;rintro e V ⟨rfl,q⟩;have b:=H (Dl.first j l #[I 2,I p,I c,U a,I n,.slice d dl dc]);rw [<-q] at b;clear q j l;generalize s:w.heap.size+1=Rb at b ⊢;generalize w.heap.size=O at b ⊢;have t:V.cell? ⟨O,0,none⟩=some (I 2):=by simp [World.cell?,b.o]
 have u:V.cell? ⟨O,1,none⟩=some (I p):=by simp [World.cell?,b.o]
 have v:V.cell? ⟨O,2,none⟩=some (I c):=by simp [World.cell?,b.o]
 go_wp2_with fail;refine (o V b.im b.pg).mono ?_;rintro e x ⟨rfl,i,j,l,q⟩;have r:=H (b.move j l q);clear j l q b o t u v;go_wp2_with (refine eF r.r ?_);have b:=r.done #[I code,C];refine Ig (f:=111) (args:=#[J S 0]) bF (by simp [go_sem]) ?_;refine (Go.MuLone.unlock_deferred jt ⟨S,0,none⟩ .returning _ b.1 b.2.1).mono ?_;rintro e l j ⟨rfl,rfl,rfl⟩;exact⟨_,AM b.2.2.1 underlying210,rfl,b.2.2.2⟩
theorem mw (S M nn bud f m m' code p c a n d dl dc w) (h:Im S M 0 nn bud f w) (b:Pg f m w) (k:∀ V,Im S M 1 nn bud f V->Pg f m V->Calls prog 180 #[J S 0,I p,I c,.bool false] V λe g=>e=.returned (I code)/\∃ i,Im S M 1 nn bud i g/\Pg i m' g/\Fr S M f i V g) :
  Calls prog 149 #[J S 0,j_ 3 p c a n d dl dc] w λe g=>e=.returned (.agg #[I code,C])/\IF S M nn bud f m' w g:=by
 have j:=H h;have l:=H b;have o:=H k;clear h b k;unfold j_;go_enter_defers func149,ntmps149;go_wp2_with fail;refine (gh ((j.alloc _).alloc _)).mono ?_;rintro e V ⟨rfl,q⟩;have b:=H (Dl.first j l #[I 3,I p,I c,U a,I n,.slice d dl dc]);rw [<-q] at b;clear q j l;generalize s:w.heap.size+1=Rb at b ⊢;generalize w.heap.size=O at b ⊢;have t:V.cell? ⟨O,0,none⟩=some (I 3):=by simp [World.cell?,b.o]
 have u:V.cell? ⟨O,1,none⟩=some (I p):=by simp [World.cell?,b.o]
 have v:V.cell? ⟨O,2,none⟩=some (I c):=by simp [World.cell?,b.o]
 go_wp2_with fail;refine (o V b.im b.pg).mono ?_;rintro e x ⟨rfl,i,j,l,q⟩;have r:=H (b.move j l q);clear j l q b o t u v;go_wp2_with (refine eF r.r ?_);have b:=r.done #[I code,C];refine Ig (f:=111) (args:=#[J S 0]) bF (by simp [go_sem]) ?_;refine (Go.MuLone.unlock_deferred jt ⟨S,0,none⟩ .returning _ b.1 b.2.1).mono ?_;rintro e l j ⟨rfl,rfl,rfl⟩;exact⟨_,AM b.2.2.1 underlying210,rfl,b.2.2.2⟩
end
section
open Go.ChangeShapes Go.WideShapes Go.ChangeAt Go.RowKit
theorem qk (M G r n k:Nat) (a:List Int) (x d:Int) (w:World) (b:w.heap[M]?=some (.cells #[Vl r n n,I (0:Nat),I n,.iface 82 (J G 0)] 169)) (c:RowV w r 3 (Ns .i64 a)) (g:a.length=n) (j:0<n) (y:n<=1024) (f:md d n=k) (z:a[k]?.getD 0 = -1) :
  Calls prog 270 #[J M 0,I x,I d] w λe q=>e=.returned (I (-1))/\RowV q r 3 (Ns .i64 (a.set k x))/\w.grownBy q (some r):=by
 have l:M≠r:=c.ne b av;have A:w.cell? ⟨M,0,none⟩=some (Vl r n n):=bY b;have B:w.cell? ⟨M,1,none⟩=some (I (0:Nat)):=bY b;have F:w.cell? ⟨M,2,none⟩=some (I n):=bY b;have m:k<n:=f▸ru d n j;have s:=H (lh M r n n 0 k k a x w.drew (by rw [FP,Hi m]) g j Z Z Z A B c);have t:=H (λW=>iy d n W j Z);rw [f] at t;have u:=H b;clear b c g f;rw [z] at s;go_enter func270,ntmps270;go_wp2;refine rh (S:=λW=>W.cell? ⟨M,2,none⟩=some (I n)/\Hid (W.heap[M]?=some (.cells #[Vl r n n,I (0:Nat),I n,.iface 82 (J G 0)] 169))) ?_;have b:=(show _/\Hid _ from ⟨F,u⟩);iterate 9 (refine py b ?_;simp only [f0,f1,Nat.reduceAdd,lz,l0,ls])
 refine pk 10 (I x) b ?_;refine ci (r:=9) E ?_;refine dO rfl E (λK' c=>?_);go_simp;refine (t _).mono ?_;rintro e o ⟨rfl,rfl⟩;refine c _ _ ⟨b,?_⟩;clear c K';refine ci (r:=11) E ?_;refine dO rfl E (λK' c=>?_);go_simp;refine (s).mono ?_;rintro e o ⟨rfl,v,p⟩;have f:=H (fa (k:=M) p u l);have g:o.cell? ⟨M,2,none⟩=some (I n)/\Hid (o.heap[M]?=some (.cells #[Vl r n n,I (0:Nat),I n,.iface 82 (J G 0)] 169)):=⟨bY f.out,f⟩;refine c _ _ ⟨g,?_⟩;have K:=H v;have i:=H p;clear b v p;have b:=g;clear c K';refine pk 12 (I (-1)) b ?_;refine bN ?_;go_wp2;go_ret;exact⟨rfl,K,⟨i.os,i.tape,i.output,i.size,i.block⟩⟩
theorem xe (a : Addr) (w : World) : (method 660 82 (.pointer (some a)) "loop.example/s01868/impl.push").run prog w=.ok (272, .pointer (some a)) w := E
theorem Bf (a : Addr) (w : World) : (method 660 81 (.pointer (some a)) "loop.example/s01868/impl.push").run prog w=.ok (270, .pointer (some a)) w := E
theorem wj (M G r n k:Nat) (b:List Int) (x d:Int) (w:World) (f:w.heap[M]?=some (.cells #[Vl r n n,I (0:Nat),I n,.iface 82 (J G 0)] 169)) (g:RowV w r 3 (Ns .i64 b)) (j:b.length=n) (m:0<n) (B:n<=1024) (i:md d n=k) (y:Int) (F:b[k]?.getD 0=y) (K:y ≠ -1)
  (R:Value->World->Prop) (a:∀ c,RowV c r 3 (Ns .i64 (b.set k x))->w.grownBy c (some r)->Calls prog 272 #[J G 0,I y,I d] c λe o=>∃ z,e=.returned (I z)/\R (I z) o) :
  Calls prog 270 #[J M 0,I x,I d] w λe o=>∃ z,e=.returned (I z)/\R (I z) o:=by
 have p:M≠r:=g.ne f av;have L:w.cell? ⟨M,0,none⟩=some (Vl r n n):=bY f;have N:w.cell? ⟨M,1,none⟩=some (I (0:Nat)):=bY f;have O:w.cell? ⟨M,2,none⟩=some (I n):=bY f;have q:k<n:=i▸ru d n m;have t:=H (lh M r n n 0 k k b x w.drew (by rw [FP,Hi q]) j m Z Z Z L N g);have u:=H (λW=>iy d n W m Z);rw [i] at u;have v:=H f;clear f g j i;rw [F] at t;have P:=H a;clear a;have Q:(y == -1)=false:=by simpa using K
 go_enter func270,ntmps270;go_wp2;refine rh (S:=λW=>W.cell? ⟨M,2,none⟩=some (I n)/\Hid (W.heap[M]?=some (.cells #[Vl r n n,I (0:Nat),I n,.iface 82 (J G 0)] 169))) ?_;have g:=(show _/\Hid _ from ⟨O,v⟩);iterate 9 (refine py g ?_;simp only [f0,f1,Nat.reduceAdd,lz,l0,ls])
 refine pk 10 (I x) g ?_;refine ci (r:=9) E ?_;refine dO rfl E (λK' i=>?_);go_simp;refine (u _).mono ?_;rintro e c ⟨rfl,rfl⟩;refine i _ _ ⟨g,?_⟩;clear i K';refine ci (r:=11) E ?_;refine dO rfl E (λK' i=>?_);go_simp;refine (t).mono ?_;rintro e c ⟨rfl,A,s⟩;have f:=H (fa (k:=M) s v p);have j:c.cell? ⟨M,2,none⟩=some (I n)/\Hid (c.heap[M]?=some (.cells #[Vl r n n,I (0:Nat),I n,.iface 82 (J G 0)] 169)):=⟨bY f.out,f⟩;refine i _ _ ⟨j,?_⟩;have T:=H A;have l:=H s;clear g A s;have g:=j;clear i K';refine pk 12 (I (y)) g ?_;refine bN ?_;have V:c.cell? ⟨M,3,none⟩=some (.iface 82 (J G 0)):=bY f.out;have s:=λw=>xe ⟨G,0,none⟩ w
 go_wp2_with fail;refine (P c T ⟨l.os,l.tape,l.output,l.size,l.block⟩).mono ?_;rintro e X ⟨z,rfl,A⟩;go_wp2;go_ret;exact⟨z,rfl,A⟩
end
end Go.Proofs.YtdngbppdomoenaaGreatDoor
