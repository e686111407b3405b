import Derived.Deep.CutBlock
import Derived.Deep.DeepCutAuto
import Derived.Test.YtibblbenmpcplaaGreatDoorN06
set_option linter.unusedVariables false
set_option linter.unusedSimpArgs false
set_option maxRecDepth 20000
set_option maxHeartbeats 8000000
namespace Go.Proofs.YtibblbenmpcplaaGreatDoor
open Go.Proofs.Tryz
variable {W W' w:World} {M S g:Nat} {bud c n p s t:Int} {f:Nat->Option Nat} {m:Nat->Option (Bool×List Int)}
section
open Go.RowKit Go.Shelf
def kf (k p c:Int) (a:Nat) (n:Int) (d:Option Addr) (e dc:Nat):Value:=.agg #[I k,I p,I c,U a,I n,.slice d e dc]
theorem zp {a:Nat} {v:Value} {k:Nat} {b:List Value} (h:W.ownsRow a 5 1 v k b) (c:Int):(#[Value.int IntKind.i64 c,v].all λx=>x.oneCell')=true:=by
 rcases h.2 with ⟨rfl,_⟩|⟨g,d,e,rfl,_⟩ <;> simp [Value.oneCell']
theorem Im.lt {S M st n bud f w} (h:Im S M st n bud f w):S<w.heap.size/\M<w.heap.size:=by
 obtain⟨a,b,c⟩:=h.map;exact⟨ag h.box,b.lt⟩
theorem Im.setRow {S M st n bud f w} (h:Im S M st n bud f w) {r:Nat} (d:r≠S) (e:r≠M) (b:Array Value):Im S M st n bud f (w.setRow r b):=by
 have c:=aj w r b;obtain⟨a,g,i⟩:=h.map;exact⟨(c.block S (ag h.box) (by simpa using Iq d)).trans h.box,a,g.kept c (by simpa using Iq e),i⟩
theorem Im.apartT {st} (h:Im S M st n bud f W) (j:Pg f m W) {c:Array Value} {t:TypeId} {o:Nat×Nat} (d:W.heap[g]?=some (.cells c t o)) (p:t≠146) (q:t≠179):g≠S/\g≠M/\∀ k,f k≠some g:=by
 refine⟨?_,?_,λk i=>?_⟩;·rintro rfl;have:=h.box;rw [d] at this;simp at this;exact p this.2.1
 ·rintro rfl;obtain⟨a,⟨l,b,e,_⟩,_⟩:=h.map;rw [d] at e;cases e
 rcases j.at' k with ⟨a,_⟩|⟨b,l,r,a,_,_,e⟩;·rw [i] at a;cases a
 rw [i] at a;cases a;rw [d] at e;simp at e;exact q e.2.1
theorem Pg.other (h:Pg f m W) (c:∀ k b,f k=some b->W'.heap[b]?=W.heap[b]?):Pg f m W' :=
 ⟨λk=>(h.at' k).imp id λ⟨b,l,d,a,e,g,i⟩=>⟨b,l,d,a,e,g,(c k b a).trans i⟩,h.inj⟩
structure Dl (w:World) (op:Array Value) (S M:Nat) (nn bud:Int) (f f':Nat->Option Nat) (m:Nat->Option (Bool×List Int)) (O Rb:Nat) (V:World):Prop where
 im:Im S M 1 nn bud f' V
 pg:Pg f' m V
 fr:Fr S M f f' w V
 o:V.heap[O]?=some (.cells op 175)
 r:V.heap[Rb]?=some (.cells #[I 0,C] 197)
 hO:O=w.heap.size
 hR:Rb=w.heap.size+1
theorem Dl.first (h:Im S M 0 n bud f w) (i:Pg f m w) (op):Dl w op S M n bud f f m w.heap.size (w.heap.size+1) (((w.alloc (.cells op 175)).alloc (.cells #[I 0,C] 197)).setCell ⟨S,0,none⟩ (.int .i32 1)):=by
 have o:=h.lt;have c:=(h.alloc (.cells op 175)).alloc (.cells #[I 0,C] 197);have d:=(i.alloc (.cells op 175)).alloc (.cells #[I 0,C] 197);refine⟨c.st 1,d.other (λk b a=>GQ _ _ _ _ (d.apart c a).1),?_,?_,?_,rfl,rfl⟩;·have a:D w ((w.alloc (.cells op 175)).alloc (.cells #[I 0,C] 197)):=((Fu _ _).alloc (Fv _) _).alloc (by rw [aO];omega) _;have b:=au (al ((w.alloc (.cells op 175)).alloc (.cells #[I 0,C] 197)) S) 0 (.int .i32 1);exact⟨b.os.trans a.os,b.tape.trans a.tape,b.output.trans a.output,Fx a.size b.size,λg e j p q=>(b.block g (FG e a.size) (by simpa using j)).trans (a.block g e),λk g l=>.inl ⟨k,l⟩⟩
 ·rw [GQ _ _ _ _ (by show w.heap.size≠S;omega),eg _ _ _ (by rw [aO];omega)];exact ao _ _
 rw [GQ _ _ _ _ (by show w.heap.size+1≠S;omega),<-aO w (.cells op 175)];exact ao _ _
theorem Dl.move {O Rb f' f'' m' V V' op} (h:Dl w op S M n bud f f' m O Rb V) (b:Im S M 1 n bud f'' V') (c:Pg f'' m' V') (a:Fr S M f' f'' V V'):Dl w op S M n bud f f'' m' O Rb V':=by
 obtain⟨d,e,g⟩:=h.im.apartT h.pg h.o ar ar;obtain⟨i,j,k⟩:=h.im.apartT h.pg h.r ar ar;exact⟨b,c,h.fr.trans a,(a.block O (ag h.o) d e g).trans h.o,(a.block Rb (ag h.r) i j k).trans h.r,h.hO,h.hR⟩
def tg (S M:Nat) (n bud:Int) (f:Nat->Option Nat) (m:Nat->Option (Bool×List Int)) (w e:World):Prop:=∃ i,Im S M 0 n bud i e/\Pg i m e/\Fr S M f i w e
theorem Dl.done {O Rb f' V op} (h:Dl w op S M n bud f f' m O Rb V) (a:Array Value):(V.setRow Rb a).cell? ⟨S,0,none⟩=some (.int .i32 1)/\(V.setRow Rb a).frozen? ⟨S,0,none⟩=false/\((V.setRow Rb a).setCell ⟨S,0,none⟩ (.int .i32 0)).heap[Rb]?=some (.cells a 197)/\tg S M n bud f m w ((V.setRow Rb a).setCell ⟨S,0,none⟩ (.int .i32 0)):=by
 obtain⟨o,q,r⟩:=h.im.apartT h.pg h.r ar ar;have i:=h.im.setRow o q a;have c:=aj V Rb a;have p:Pg f' m (V.setRow Rb a):=h.pg.other (λk b d=>c.block b (by
  rcases h.pg.at' k with ⟨e,_⟩|⟨s,l,t,e,_,_,j⟩;·rw [d] at e;cases e
  rw [d] at e;cases e;exact ag j) (λe=>by cases e;exact r k d))
 have e:=au (al (V.setRow Rb a) S) 0 (.int .i32 0);refine⟨by simp [World.cell?,i.box],by simp [World.frozen?,i.box],?_,f',i.st 0,p.other (λk b d=>GQ _ _ _ _ (p.apart i d).1),?_⟩;·rw [GQ _ _ _ _ o];exact aw h.r a
 have u:=h.hR;exact⟨e.os.trans (c.os.trans h.fr.os),e.tape.trans (c.tape.trans h.fr.tape),e.output.trans (c.output.trans h.fr.output),Fx h.fr.size (Fx c.size e.size),λg j l s t=>(e.block g (FG j (Fx h.fr.size c.size)) (by simpa using l)).trans ((c.block g (FG j h.fr.size) bG).trans (h.fr.block g j l s t)),h.fr.made⟩
theorem wH (S M nn bud f m) (b:Int) (p c a n d dl dc w) (h:Im S M 0 nn bud f w) (g:Pg f m w) (k:b<0\/5<b) :
  Calls prog 132 #[J S 0,kf b p c a n d dl dc] w λe l=>e=.returned (.agg #[I 6,C])/\tg S M nn bud f m w l:=by
 have o:¬b=0:=Z;have q:¬b=1:=Z;have r:¬b=2:=Z;have s:¬b=3:=Z;have t:¬b=4:=Z;have u:¬b=5:=Z;have i:=H h;have j:=H g;clear h k g;unfold kf;go_enter_defers func132,ntmps132;go_wp2_with fail;refine (fX ((i.alloc _).alloc _)).mono ?_;rintro e V ⟨rfl,k⟩;have g:=H (Dl.first i j #[I b,I p,I c,U a,I n,.slice d dl dc]);rw [<-k] at g;clear k i j;generalize j:w.heap.size+1=v at g ⊢;generalize w.heap.size=O at g ⊢;have x:V.cell? ⟨O,0,none⟩=some (I b):=by simp [World.cell?,g.o]
 go_wp2_with (refine eG g.r ?_);have i:=g.done #[I 6,C];refine Iy (f:=86) (args:=#[J S 0]) bH (by simp [go_sem]) ?_;refine (Go.MuLone.unlock_deferred jw ⟨S,0,none⟩ .returning _ i.1 i.2.1).mono ?_;rintro e y k ⟨rfl,rfl,rfl⟩;exact⟨_,AV i.2.2.1 underlying197,rfl,i.2.2.2⟩
theorem lL (S M nn bud f m m' code p c a n d dl dc w) (h:Im S M 0 nn bud f w) (b:Pg f m w) (k:∀ V,Im S M 1 nn bud f V->Pg f m V->Calls prog 164 #[J S 0,I p,I c] V λe g=>e=.returned (I code)/\∃ i,Im S M 1 nn bud i g/\Pg i m' g/\Fr S M f i V g) :
  Calls prog 132 #[J S 0,kf 0 p c a n d dl dc] w λe g=>e=.returned (.agg #[I code,C])/\tg S M nn bud f m' w g:=by
 have j:=H h;have l:=H b;have o:=H k;clear h b k;unfold kf;go_enter_defers func132,ntmps132;go_wp2_with fail;refine (fX ((j.alloc _).alloc _)).mono ?_;rintro e V ⟨rfl,q⟩;have b:=H (Dl.first j l #[I 0,I p,I c,U a,I n,.slice d dl dc]);rw [<-q] at b;clear q j l;generalize s:w.heap.size+1=x at b ⊢;generalize w.heap.size=O at b ⊢;have t:V.cell? ⟨O,0,none⟩=some (I 0):=by simp [World.cell?,b.o]
 have u:V.cell? ⟨O,1,none⟩=some (I p):=by simp [World.cell?,b.o]
 have v:V.cell? ⟨O,2,none⟩=some (I c):=by simp [World.cell?,b.o]
 go_wp2_with fail;refine (o V b.im b.pg).mono ?_;rintro e y ⟨rfl,i,j,l,q⟩;have r:=H (b.move j l q);clear j l q b o t u v;go_wp2_with (refine eG r.r ?_);have b:=r.done #[I code,C];refine Iy (f:=86) (args:=#[J S 0]) bH (by simp [go_sem]) ?_;refine (Go.MuLone.unlock_deferred jw ⟨S,0,none⟩ .returning _ b.1 b.2.1).mono ?_;rintro e l j ⟨rfl,rfl,rfl⟩;exact⟨_,AV b.2.2.1 underlying197,rfl,b.2.2.2⟩
theorem jz (S M nn bud f m m' code p c a n d dl dc w) (h:Im S M 0 nn bud f w) (b:Pg f m w) (k:∀ V,Im S M 1 nn bud f V->Pg f m V->Calls prog 165 #[J S 0,I p,I c] V λe g=>e=.returned (I code)/\∃ i,Im S M 1 nn bud i g/\Pg i m' g/\Fr S M f i V g) :
  Calls prog 132 #[J S 0,kf 1 p c a n d dl dc] w λe g=>e=.returned (.agg #[I code,C])/\tg S M nn bud f m' w g:=by
 have j:=H h;have l:=H b;have o:=H k;clear h b k;unfold kf;go_enter_defers func132,ntmps132;go_wp2_with fail;refine (fX ((j.alloc _).alloc _)).mono ?_;rintro e V ⟨rfl,q⟩;have b:=H (Dl.first j l #[I 1,I p,I c,U a,I n,.slice d dl dc]);rw [<-q] at b;clear q j l;generalize s:w.heap.size+1=x at b ⊢;generalize w.heap.size=O at b ⊢;have t:V.cell? ⟨O,0,none⟩=some (I 1):=by simp [World.cell?,b.o]
 have u:V.cell? ⟨O,1,none⟩=some (I p):=by simp [World.cell?,b.o]
 have v:V.cell? ⟨O,2,none⟩=some (I c):=by simp [World.cell?,b.o]
 go_wp2_with fail;refine (o V b.im b.pg).mono ?_;rintro e y ⟨rfl,i,j,l,q⟩;have r:=H (b.move j l q);clear j l q b o t u v;go_wp2_with (refine eG r.r ?_);have b:=r.done #[I code,C];refine Iy (f:=86) (args:=#[J S 0]) bH (by simp [go_sem]) ?_;refine (Go.MuLone.unlock_deferred jw ⟨S,0,none⟩ .returning _ b.1 b.2.1).mono ?_;rintro e l j ⟨rfl,rfl,rfl⟩;exact⟨_,AV b.2.2.1 underlying197,rfl,b.2.2.2⟩
theorem ri (S M nn bud f m m' code p c a n d dl dc w) (h:Im S M 0 nn bud f w) (b:Pg f m w) (k:∀ V,Im S M 1 nn bud f V->Pg f m V->Calls prog 166 #[J S 0,I p,I c,.bool true] V λe g=>e=.returned (I code)/\∃ i,Im S M 1 nn bud i g/\Pg i m' g/\Fr S M f i V g) :
  Calls prog 132 #[J S 0,kf 2 p c a n d dl dc] w λe g=>e=.returned (.agg #[I code,C])/\tg S M nn bud f m' w g:=by
 have j:=H h;have l:=H b;have o:=H k;clear h b k;unfold kf;go_enter_defers func132,ntmps132;go_wp2_with fail;refine (fX ((j.alloc _).alloc _)).mono ?_;rintro e V ⟨rfl,q⟩;have b:=H (Dl.first j l #[I 2,I p,I c,U a,I n,.slice d dl dc]);rw [<-q] at b;clear q j l;generalize s:w.heap.size+1=x at b ⊢;generalize w.heap.size=O at b ⊢;have t:V.cell? ⟨O,0,none⟩=some (I 2):=by simp [World.cell?,b.o]
 have u:V.cell? ⟨O,1,none⟩=some (I p):=by simp [World.cell?,b.o]
 have v:V.cell? ⟨O,2,none⟩=some (I c):=by simp [World.cell?,b.o]
 go_wp2_with fail;refine (o V b.im b.pg).mono ?_;rintro e y ⟨rfl,i,j,l,q⟩;have r:=H (b.move j l q);clear j l q b o t u v;go_wp2_with (refine eG r.r ?_);have b:=r.done #[I code,C];refine Iy (f:=86) (args:=#[J S 0]) bH (by simp [go_sem]) ?_;refine (Go.MuLone.unlock_deferred jw ⟨S,0,none⟩ .returning _ b.1 b.2.1).mono ?_;rintro e l j ⟨rfl,rfl,rfl⟩;exact⟨_,AV b.2.2.1 underlying197,rfl,b.2.2.2⟩
theorem my (S M nn bud f m m' code p c a n d dl dc w) (h:Im S M 0 nn bud f w) (b:Pg f m w) (k:∀ V,Im S M 1 nn bud f V->Pg f m V->Calls prog 166 #[J S 0,I p,I c,.bool false] V λe g=>e=.returned (I code)/\∃ i,Im S M 1 nn bud i g/\Pg i m' g/\Fr S M f i V g) :
  Calls prog 132 #[J S 0,kf 3 p c a n d dl dc] w λe g=>e=.returned (.agg #[I code,C])/\tg S M nn bud f m' w g:=by
 have j:=H h;have l:=H b;have o:=H k;clear h b k;unfold kf;go_enter_defers func132,ntmps132;go_wp2_with fail;refine (fX ((j.alloc _).alloc _)).mono ?_;rintro e V ⟨rfl,q⟩;have b:=H (Dl.first j l #[I 3,I p,I c,U a,I n,.slice d dl dc]);rw [<-q] at b;clear q j l;generalize s:w.heap.size+1=x at b ⊢;generalize w.heap.size=O at b ⊢;have t:V.cell? ⟨O,0,none⟩=some (I 3):=by simp [World.cell?,b.o]
 have u:V.cell? ⟨O,1,none⟩=some (I p):=by simp [World.cell?,b.o]
 have v:V.cell? ⟨O,2,none⟩=some (I c):=by simp [World.cell?,b.o]
 go_wp2_with fail;refine (o V b.im b.pg).mono ?_;rintro e y ⟨rfl,i,j,l,q⟩;have r:=H (b.move j l q);clear j l q b o t u v;go_wp2_with (refine eG r.r ?_);have b:=r.done #[I code,C];refine Iy (f:=86) (args:=#[J S 0]) bH (by simp [go_sem]) ?_;refine (Go.MuLone.unlock_deferred jw ⟨S,0,none⟩ .returning _ b.1 b.2.1).mono ?_;rintro e l j ⟨rfl,rfl,rfl⟩;exact⟨_,AV b.2.2.1 underlying197,rfl,b.2.2.2⟩
theorem Tryz.info92:(prog.info? 204).map (λi=>(i.zero,i.size,i.bytes))=some (some (.agg #[.bool false,.bool false,C]),3,32):=E
theorem lj (z:Array Value) (n i:Nat) (a:i<n):(madeCells z n)[i]?=some (z[i%z.size]!):=by
 simp [madeCells,a]
theorem Sx.made (w:World) (n bud):Sx (w.heap.size+1) w.heap.size n bud (λ_=>none) ((w.alloc (.cells (madeCells #[.bool false,.bool false,C] (n*3)) 204)).alloc (.cells #[Vl w.heap.size n n,I bud] 202)):=by
 refine⟨by rw [<-aO w (.cells (madeCells #[.bool false,.bool false,C] (n*3)) 204)];exact ao _ _,⟨_,by rw [eg _ _ _ (by rw [aO];omega)];exact ao _ _,size_madeCells _ _,λk d=>?_,λj k g f d b _=>?_⟩,λ_ _=>rfl⟩
 ·have c:k*3%3=0:=Z;have e:(k*3+1)%3=1:=Z;have a:(k*3+2)%3=2:=Z;refine⟨?_,?_,?_⟩;·rw [lj _ _ _ Z];show some ((#[Value.bool false,.bool false,C]:Array Value)[k*3%3]!)=_;rw [c];rfl
  ·rw [lj _ _ _ Z];show some ((#[Value.bool false,.bool false,C]:Array Value)[(k*3+1)%3]!)=_;rw [e];rfl
  rw [lj _ _ _ Z];show some ((#[Value.bool false,.bool false,C]:Array Value)[(k*3+2)%3]!)=_;rw [a];rfl
 have a:(j*3+2)%3=2:=Z;rw [lj _ _ _ Z] at b;have c:some ((#[Value.bool false,.bool false,C]:Array Value)[(j*3+2)%3]!)=some (Value.slice (some ⟨g,0,none⟩) 1024 1024):=b;rw [a] at c;cases c
theorem Ce (n:Nat) (bud) (w:World) (l:n<=4096) :
  Calls prog 96 #[I n,I bud] w λe d=>∃ T Q,e=.returned (J T 0)/\Sx T Q n bud (λ_=>none) d/\D w d/\w.heap.size<=T/\w.heap.size<=Q:=by
 obtain⟨f,g,a,b,c⟩:=G0 Tryz.info92;have i:(Instr.makeSlice 200 (I n) (I n)).run prog w=.ok (Vl w.heap.size n n) (w.alloc (.cells (madeCells #[.bool false,.bool false,C] (n*3)) 204)):=by
  have:=run_make (P:=prog) w 200 204 f _ underlying200 g a .i64 .i64 n n Z (Int.le_refl _) (by rw [c];omega) Z;rw [b] at this;simpa [Value.cells] using this
 have j:=H (Sx.made w n bud);have k:Hid (D w ((w.alloc (.cells (madeCells #[.bool false,.bool false,C] (n*3)) 204)).alloc (.cells #[Vl w.heap.size n n,I bud] 202))):=H (((Fu _ _).alloc (Fv _) _).alloc (by rw [aO];omega) _);generalize madeCells #[.bool false,.bool false,C] (n*3)=m at *;go_enter func96,ntmps96;go_wp2;go_ret;exact⟨_,_,rfl,j.out,k.out,Z,Z⟩
attribute [local go_sem] Oper.semAt_some
def Da (S M:Nat) (f:Nat->Option Nat) (w:World) (p:Option Addr) (n:Nat) (ys:List Int):Prop :=
 ys.length=n/\∀ i,i<n->∃ x,p=some x/\w.cell? (x.add i)=some (.int .u8 (ys[i]?.getD 0))/\(x.add i).block<w.heap.size/\(x.add i).block≠S/\(x.add i).block≠M/\∀ k,f k≠some (x.add i).block
theorem Da.cell {S M f f' w W p n ys} (h:Da S M f w p n ys) (a:Fr S M f f' w W):∀ i,i<n->∃ x,p=some x/\W.cell? (x.add i)=some (.int .u8 (ys[i]?.getD 0)):=by
 intro i b;obtain⟨x,e,c,l,d,g,j⟩:=h.2 i b;refine⟨x,e,?_⟩;unfold World.cell? at c ⊢;rw [a.block _ l d g j];exact c
structure Sd (S M:Nat) (st nn bud:Int) (f:Nat->Option Nat) (mm:Nat->Option (Bool×List Int)) (w:World) (DB:Nat) (p:Option Addr) (n cap c:Nat) (W:World):Prop where
 im:Im S M st nn bud f W
 pg:Pg f mm W
 fr:Fr S M f f w W
 box:∃ pd,W.heap[DB]?=some (.cells #[.slice pd (n-c) (cap-c)] 22)/\(c<n->∃ x,p=some x/\pd=some (x.add c))
 mlt:M<w.heap.size
 dge:w.heap.size<=DB
theorem sM (w:World) (n o:Option Addr) (a c b d g f:Nat) (i:List Value) (t:TypeId) (p:w.heap[g]?=some (.cells i.toArray t)) (e:List Value) (q:e.length=Nat.min b a)
  (k:0<e.length->n=some ⟨g,f,none⟩/\∃ m,o=some m/\∀ j v,e[j]?=some v->w.cell? (m.add j)=some v)
  (j:f+e.length<=i.length) (r:∀ v∈e,v.oneCell'=true) :
  ∃ l,(Builtin.copy_ #[22,22] 3 #[.slice n a c,.slice o b d]).run prog w=.ok (I e.length) l/\l.heap[g]?=some (.cells (splice i f e).toArray t)/\w.grownBy l (some g):=by
 by_cases s:e.length=0;·obtain rfl:e=[]:=Ik s;refine⟨w,run_copy_none (P:=prog) w 22 22 3 5 n o a c b d underlying22 E (by simpa using q.symm),by simpa [splice] using p,al w g⟩
 obtain⟨rfl,m,rfl,l⟩:=k Z;refine⟨_,run_copy_row (P:=prog) w 22 22 3 5 g f a c m b d i.toArray t e underlying22 E p q l (by simpa using j) r,?_,aj w g _⟩;simpa [splice] using setRow_heap w g _ _ t _ p
theorem xD (c:Option Addr) (l a b:Nat) (f:l<=a) (g:a<=b):∃ d,(∀ w:World,(Instr.slice 22 (.slice c a b) (some (I l)) none none).run prog w=.ok (.slice d (a-l) (b-l)) w)/\(l<a->d=c.map λx=>x.add l):=by
 have d:prog.elem 22=5:=E;have h:=λw=>run_slice_l (P:=prog) w 22 c a b (by rw [d];exact underlying22) .i64 (l:Int) Z Z
 have e:∀ w:World,(sizeOf (prog.elem 22)).run prog w=.ok 1 w:=λw=>E
 refine⟨if b=l then c else c.map λx=>x.add l,λw=>?_,λh=>?_⟩;·rw [h w,e];simp [sliced,Result.andThen]
 rw [GO Z]
theorem Pg.lay {mm} (h:Pg f mm W) {k:Nat} (c:f k=some g) {l} {xs:List Int} (m:xs.length=1024) (n:W'.heap[g]?=some (.cells (eh l xs) 179)) (o:W.grownBy W' (some g)):Pg f (dT mm k (some (l,xs))) W':=by
 refine⟨?_,h.inj⟩;intro j;by_cases e:j=k;·subst e;exact .inr ⟨g,l,xs,c,bV _ _ _,m,n⟩
 rw [aW mm k j _ e];rcases h.at' j with a|⟨d,p,b,a,q,r,i⟩;·exact .inl a
 refine .inr ⟨d,p,b,a,q,r,?_⟩;rw [o.block d (G_ i) (λb=>by cases b;exact e (h.inj j k _ a c))];exact i
theorem Im.grownAt {st} (h:Im S M st n bud f W) (e:W.grownBy W' (some g)) (i:g≠S) (j:g≠M):Im S M st n bud f W':=by
 obtain⟨a,⟨k,b,c,l⟩,r⟩:=h.map;refine⟨by rw [e.block S (G_ h.box) (by simpa using i.symm)];exact h.box,a,⟨k,b,?_,l⟩,r⟩;have d:M<W.heap.size:=by
  by_cases m:M<W.heap.size;·exact m
  rw [Hd Z] at c;cases c
 rw [e.block M d (by simpa using j.symm)];exact c
theorem Fr.grownAt (h:Fr S M f f w W) (a:W.grownBy W' (some g)) (b:(∃ k,f k=some g)\/w.heap.size<=g):Fr S M f f w W' :=
 ⟨a.os.trans h.os,a.tape.trans h.tape,a.output.trans h.output,Fx h.size a.size,λj c i l d=>by
  rw [a.block j (FG c h.size) (λe=>by
   cases e
   rcases b with ⟨k,b⟩|b
   ·exact d k b
   omega)]
  exact h.block j c i l d,h.made⟩
end
section
open Go.ChangeShapes Go.WideShapes Go.ChangeAt Go.RowKit
theorem sx (G r n o k:Nat) (ps:List Int) (x d:Int) (w:World) (a:w.heap[G]?=some (.cells #[Vl r n n,I o,I n] 151)) (c:RowV w r 3 (Ns .i64 ps)) (j:ps.length=n) (m:o<n) (p:n<=1024) (l:(o+1)%n=k) :
  Calls prog 257 #[J G 0,I x,I d] w λe f=>e=.returned (I (ps[o]?.getD 0))/\f.heap[G]?=some (.cells #[Vl r n n,I k,I n] 151)/\RowV f r 3 (Ns .i64 (ps.set o x))/\But (λk=>k=G\/k=r) w f:=by
 have b:G≠r:=c.ne a ar;have g:w.cell? ⟨G,0,none⟩=some (Vl r n n):=bJ a;have i:w.cell? ⟨G,1,none⟩=some (I o):=bJ a;have q:w.cell? ⟨G,2,none⟩=some (I n):=bJ a;have s:=H (lu G r n n o 0 o ps x w.drew (by rw [GK,H4 m]) j Z Z Z Z g i c);have t:=H a;have z:((n:Int)==0)=false:=bG;have u:((o:Int)+1)%(n:Int)=(k:Int):=by rw [<-l];simp
 clear a c j l;go_enter func257,ntmps257;go_wp2;go_region;go_wp2_with fail;refine (s).mono ?_;rintro e c ⟨rfl,l,j⟩;have a:=H (eK (k:=G) j t b);have v:=H l;have y:=H j;clear l j g i q;have g:c.cell? ⟨G,0,none⟩=some (Vl r n n):=bJ a.out;have i:c.cell? ⟨G,1,none⟩=some (I o):=bJ a.out;have f1:c.frozen? ⟨G,1,none⟩=false:=GY _ _ _ _ _ a.out;go_wp2;go_region;rw [u];go_wp2;go_ret;refine⟨rfl,?_,?_,?_⟩;·show (c.setCell ⟨G,1,none⟩ _).heap[G]?=_;rw [Ic _ _ _ _ _ _ a.out];rfl
 ·exact (v.other (by simpa using b.symm) _).drew
 exact (((But.refl _ w).drew.trans (.ofGrown y (.inr rfl))).set _ _ _ (.inl rfl)).drew
theorem pW (ps:List Int) (o:Nat) (x:Int) (h:o<ps.length):(ps.set o x).drop (o+1)=ps.drop (o+1):=by
 rw [List.drop_set_of_lt Z]
theorem gh (ps:List Int) (o:Nat) (x:Int) (h:o<ps.length):(ps.set o x).take (o+1)=ps.take o++[x]:=by
 rw [F_,List.take_set_of_le (Fv _)];simp [h]
theorem AF (G r n xs x d w) (h:Qu w G r n xs) (a:n<=1024) :
  Calls prog 257 #[J G 0,I x,I d] w λe j=>e=.returned (I (cu n xs x).2)/\Qu j G r n (cu n xs x).1/\But (λk=>k=G\/k=r) w j:=by
 obtain⟨ps,o,h,s,t,k,u,A,v,rfl⟩:=h;by_cases g:h<n
 ·obtain rfl:=v g;refine (tm G r n h ps x d w s t k g a).mono ?_;rintro e j ⟨rfl,b,c,f⟩;have m:(ps.drop 0++ps.take 0).take h=ps.take h:=bH;have p:cu n (ps.take h) x=(ps.take h++[x],-1):=by
   unfold cu;rw [GP bG]
  rw [m,p];refine⟨rfl,⟨ps.set h x,0,h+1,b,c,by simpa using k,u,Z,λ_=>rfl,?_⟩,f⟩;simp only [IE,List.take_zero,Gl];rw [gh _ _ _ Z]
 have q:h=n:=Z;subst q;refine (sx G r h o _ ps x d w s t k u a rfl).mono ?_;rintro e j ⟨rfl,b,c,f⟩;have y:ps.drop o=(ps[o]?.getD 0)::ps.drop (o+1):=by
  rw [List.drop_eq_getElem_cons Z];congr 1;rw [Fy Z];rfl
 have m:(ps.drop o++ps.take o).take h=ps.drop o++ps.take o:=Ge bG;have p:cu h (ps.drop o++ps.take o) x=(ps.drop (o+1)++ps.take o++[x],ps[o]?.getD 0):=by
  unfold cu;rw [GO bG,y];rfl
 rw [m,p];refine⟨rfl,⟨ps.set o x,_,h,b,c,by simpa using k,Nat.mod_lt _ Z,Z,λh=>Z,?_⟩,f⟩;by_cases z:o+1<h;·rw [H4 z,pW _ _ _ Z,gh _ _ _ Z,Ge (l:=ps.drop (o+1)++(ps.take o++[x])) bG,GJ]
 have i:o+1=h:=Z;rw [i,Nat.mod_self];simp only [IE,List.take_zero,Gl];rw [List.drop_of_length_le Z,FV,<-i,gh _ _ _ Z]
def ed (n:Nat) (mix fifo:List Int) (slot e:Int):List Int×List Int×Int :=
 if mix=[] then ([],(cu n fifo slot).1,(cu n fifo slot).2)
 else if mix[md e mix.length]?.getD 0 = -1 then (mix.set (md e mix.length) slot,fifo,-1)
 else (mix.set (md e mix.length) slot,(cu n fifo (mix[md e mix.length]?.getD 0)).1,(cu n fifo (mix[md e mix.length]?.getD 0)).2)
structure Hit (p c s:Int):Prop where
 c0:0<=c
 c1:c<12
 s0:0<=s
 s1:s<6
 lo:rs c+s*(pg c+1)<=p
 hi:p<=rs c+s*(pg c+1)+pg c
theorem ru (k:Nat) (h:k<12):fp (k+1)=fp k+6*(pg k+1):=by
 simp only [fp];rw [ub ⟨Z,Z⟩]
theorem pR (a:Nat):∀ d,fp a<=fp (a+d)
 | 0=>Int.le_refl _
 | d+1=>by
  have b:=pR a d
  have c:=tM ((a+d:Nat):Int)
  have e:fp (a+(d+1))=fp (a+d)+rp ((a+d:Nat):Int):=rfl
  omega
theorem Hit.c_le {c' s'} (h:Hit p c s) (d:Hit p c' s'):c<=c':=by
 apply Int.not_lt.1;intro f;obtain⟨a,rfl⟩:=Ha h.c0;obtain⟨b,rfl⟩:=Ha d.c0;have g:rs (a:Int)=fp a:=by rw [kB ⟨h.c0,h.c1⟩];rfl
 have i:rs (b:Int)=fp b:=by rw [kB ⟨d.c0,d.c1⟩];rfl
 have j:=pR (b+1) (a-(b+1));have k:b+1+(a-(b+1))=a:=Z;rw [k,ru b (by have:=d.c1;omega)] at j;have l:=h.lo;have m:=d.hi;rw [g] at l;rw [i] at m;have q:=fy (c:=(b:Int)) ⟨d.c0,d.c1⟩;have n:=fy (c:=(a:Int)) ⟨h.c0,h.c1⟩;have o:=d.s1;have e:=h.s0;generalize pg (b:Int)=x at *;generalize pg (a:Int)=y at *;have r:0<=s*(y+1):=Int.mul_nonneg e Z;have t:s'*(x+1)<=5*(x+1):=Int.mul_le_mul_of_nonneg_right Z Z;omega
theorem Hit.one {c' s'} (h:Hit p c s) (a:Hit p c' s'):c=c'/\s=s':=by
 have e:c=c':=Int.le_antisymm (h.c_le a) (a.c_le h);subst e;refine⟨rfl,?_⟩;have i:=fy (c:=c) ⟨h.c0,h.c1⟩;have b:=h.lo;have d:=h.hi;have f:=a.lo;have g:=a.hi;have:pg c=1\/pg c=2\/pg c=3\/pg c=4:=Z;rcases this with e|e|e|e <;> rw [e] at b d f g <;> omega
inductive Dec:Int->Value->Prop
 | out (a:Int) (h:289792<=a):Dec a (pl 0 0 0 0 0 0)
 | large (a:Int) (h0:191488<=a) (h1:a<289792):Dec a (pl 4 0 0 0 (a/1024-187) (a%1024))
 | zero (a:Int) (h0:0<=a) (h1:a<1024):Dec a (pl 1 0 0 0 0 0)
 | slab (a c s:Int) (h0:1024<=a) (h1:a<191488) (h:Hit (a/1024) c s):Dec a (zT c s (a-(rs c+s*(pg c+1))*1024))
theorem Dec.one {a:Int} {v b:Value} (h:Dec a v) (d:Dec a b):v=b:=by
 cases h <;> cases d <;> first|rfl|omega|skip
 rename_i c s g i e j k l m f;obtain⟨rfl,rfl⟩:=e.one f;rfl
theorem zr {v:World} {a:Array Value} {t:TypeId} (h:v.heap[g]?=some (.cells a t)) (b:Array Value):(v.setRow g b).heap[g]?=some (.cells b t):=by
 simp [World.setRow,FD,h]
theorem zk (c s o):∃ a:Array Value,zT c s o=.agg a/\a.size=6/\a.all (·.oneCell')=true:=by
 unfold zT;split;·exact⟨_,rfl,rfl,mL⟩
 split;·exact⟨_,rfl,rfl,mL⟩
 exact⟨_,rfl,rfl,mL⟩
theorem iB (a:Int) (x:0<=a) (T:a<=18446744073709551615) (w) (b:Tb w) :
  Calls prog 131 #[U a] w λe V=>(∃ v,Dec a v/\e=.returned v)/\D w V:=by
 have d:=hidR (Rt.first w);have f:=hidR (b.below d.bel);have M:=hidR eH;have N:=hidR eW;have O:=hidR jH;clear b;unfold z6 at *;go_enter func131,ntmps131;go_wp2_with fail;generalize w.alloc (Obj.cells #[Value.int IntKind.i64 0,Value.int IntKind.i64 0,Value.int IntKind.i64 0,Value.int IntKind.i64 0,Value.int IntKind.i64 0,Value.int IntKind.i64 0] 220)=v at d f ⊢;generalize w.heap.size=g at d ⊢;refine (M _ f).mono ?_;rintro e w2 ⟨rfl,i⟩;have b:=hidR (d.below i);have j:=hidR (f.below i);clear i d f;by_cases W:289792<=a;·have y:=hidR b.done;have z:=hidR b.row;have B:=hidR b.blk;clear b;go_wp2_with (refine Gf rfl 220 _ _ rfl g _ rfl rfl 220 z6 B E rfl mL ?_);refine fM (z _) underlying220 ?_;exact⟨⟨_,.out a W,rfl⟩,y _⟩
 by_cases X:a<1024
 ·have y:=hidR b.done;have z:=hidR b.row;have B:=hidR b.blk;clear b;have Y:a/1024<1:=Z;go_wp2_with (refine Gf rfl 220 _ _ rfl g _ rfl rfl 220 z6 B E rfl mL ?_);refine fM (z _) underlying220 ?_;exact⟨⟨_,.zero a x X,rfl⟩,y _⟩
 have Y:1<=a/1024:=Z;go_wp2_with fail;refine (N _ j).mono ?_;rintro e m ⟨rfl,d⟩;have n:=hidR (b.below d);have o:=hidR (j.below d);clear d b j;have j:D m ((m.alloc (.cells nG 205)).setRow m.heap.size (stA 12)):=Below.setRow ((Fu _ _).alloc (Fv _) _) (Fv _) _;have d:=hidR (n.below j);have p:=hidR (o.below j);have l:=hidR (jh m (.cells nG 205));have f:Hid (∀ k:Nat,k<13->((m.alloc (.cells nG 205)).setRow m.heap.size (stA 12)).cell? ⟨m.heap.size,k,none⟩=some (I (fp k))):=hidR (λk F=>by
  have h:=lx 12 k F;rw [GP Z] at h;have e:=zr l (stA 12);simp only [World.cell?,e];exact h)
 have b:=hidR (show (stA 12).all (·.oneCell')=true by kernel_rfl);have i:=hidR (show nG.size=(stA 12).size by rw [pT];rfl);clear j n o;generalize stA 12=A at f d p b i ⊢;unfold nG at *;by_cases h3:191488<=a
 ·have t3:187<=a/1024:=Z;go_wp2_with (first|(refine Gf rfl 205 _ _ rfl _ _ rfl rfl 205 _ l E i b ?_;generalize World.setRow _ _ _=P at f d p ⊢;have j:=f.out 12 Z;rw [pN] at j)|(refine Gf rfl 220 _ _ rfl g _ rfl rfl 220 z6 d.blk E rfl mL ?_));refine fM (d.row _) underlying220 ?_;exact⟨⟨_,.large a h3 Z,rfl⟩,d.done _⟩
 have t3:a/1024<187:=Z;go_wp2_with (first|(refine Gf rfl 205 _ _ rfl _ _ rfl rfl 205 _ l E i b ?_;generalize World.setRow _ _ _=P at f d p ⊢;have j:=f.out 12 Z;rw [pN] at j)|(refine Gf rfl 220 _ _ rfl g _ rfl rfl 220 z6 d.blk E rfl mL ?_));have n:decide (289792<=a)=false:=GR Z;have o:decide (a/1024<1)=false:=GR Z;have q:decide (187<=a/1024)=false:=GR Z;simp only [n,o,q];clear n o q b i l;go_loop [6] (λc=>∃ k:Nat,k<12/\c=I k/\fp k<=a/1024) (λc=>12-(intOf c).toNat);case atStart=>exact ⟨0,Z,rfl,by simp only [fp];omega⟩
 case round =>
  obtain⟨k,F,rfl,a0⟩:=hrel;have t:=f.out (k+1) Z;have q:=f.out k Z;have a1:=iU k;have b:=ru k F;have a2:=fy (c:=(k:Int)) ⟨Z,Z⟩;by_cases i:fp (k+1)<=a/1024
  ·have l:k+1<12:=by
    apply Nat.lt_of_le_of_ne Z;intro e;rw [e,pN] at i;omega
   have n:=hidR i;generalize fp (k+1)=Q at t i b;clear b;go_wp2
   go_round
   (case rel=>exact ⟨k+1,l,aY,n⟩);case measure=>simp [intOf];omega
  have G:0<=(a/1024-fp k)*1024+a%1024:=Z;have r:(a/1024-fp k)*1024+a%1024<6*((pg (k:Int)+1)*1024):=Z;have n:=hidR (O (k:Int) _ P p ⟨Z,Z⟩ G r);have R:Hid (Dec a (zT (k:Int) (((a/1024-fp k)*1024+a%1024)/((pg (k:Int)+1)*1024)) (((a/1024-fp k)*1024+a%1024)%((pg (k:Int)+1)*1024)))):=hidR (by
   have l:rs (k:Int)=fp k:=(by rw [kB ⟨Z,Z⟩];rfl);have o:Hit (a/1024) (k:Int) (((a/1024-fp k)*1024+a%1024)/((pg (k:Int)+1)*1024))/\((a/1024-fp k)*1024+a%1024)%((pg (k:Int)+1)*1024)=a-(rs (k:Int)+(((a/1024-fp k)*1024+a%1024)/((pg (k:Int)+1)*1024))*(pg (k:Int)+1))*1024:=by
    rw [l];have:pg (k:Int)=1\/pg (k:Int)=2\/pg (k:Int)=3\/pg (k:Int)=4:=Z;generalize fp (k+1)=Q at *;clear n O M N f d p t q;rcases this with e|e|e|e <;> rw [e] at b r ⊢<;> refine ⟨⟨Z,Z,Z,Z,by rw [l,e];omega,by rw [l,e];omega⟩,Z⟩
   rw [o.2];exact .slab a _ _ Z Z o.1)
  obtain⟨u,K,o,l⟩:=zk (k:Int) (((a/1024-fp k)*1024+a%1024)/((pg (k:Int)+1)*1024)) (((a/1024-fp k)*1024+a%1024)%((pg (k:Int)+1)*1024));rw [K] at n R;have s:a/1024<fp (k+1):=Z;generalize fp (k+1)=Q at t s b;generalize fp k=r0 at *;clear b i;go_wp2_with fail;refine (n).mono ?_;rintro e w5 ⟨rfl,S⟩;have i:=hidR (d.below S);have L:=hidR (show z6.size=u.size by rw [o];rfl);have b:=hidR (show (prog.info? 220).map (·.size)=some u.size by rw [o];kernel_rfl);have HO:=hidR l;clear S d p f t q j o l;go_wp2_with (refine Gf rfl 220 _ _ rfl g u rfl rfl 220 z6 i.blk b L HO ?_);refine GX (Gq dU _ _ g 220 u (0,0) _ dU (i.row _) underlying220 rfl b) dU ?_;exact⟨⟨_,R,rfl⟩,i.done _⟩
structure Slot (c s t:Int):Prop where
 c0:0<=c
 c1:c<12
 s0:0<=s
 s1:s<6
 t0:0<=t
 t1:t<sl c
theorem Hit.off {a:Int} (h:Hit (a/1024) c s):0<=a-(rs c+s*(pg c+1))*1024/\a-(rs c+s*(pg c+1))*1024<(pg c+1)*1024:=by
 have b:=h.lo;have d:=h.hi;generalize s*(pg c+1)=m at *;omega
theorem Dec.slot {a o:Int} (h:Dec a (pl 3 c s t p o)):Slot c s t/\p=0/\0<=o/\o<sz c/\a=(rs c+s*(pg c+1))*1024+t*sz c+o:=by
 generalize b:pl 3 c s t p o=v at h;cases h with
 | out h=>simp [pl] at b
 | large k l=>simp [pl] at b
 | zero k l=>simp [pl] at b
 | slab r x k l h =>
  have d:=h.off;have y:=eJ (c:=r) ⟨h.c0,h.c1⟩;unfold zT at b;split at b;·simp [pl] at b
  split at b;·simp [pl] at b
  rename_i z u;simp only [pl,Value.agg.injEq,Array.mk.injEq,List.cons.injEq,Hy,true_and,and_true] at b;obtain⟨rfl,rfl,g,w,m⟩:=b;have n:=Int.emod_add_mul_ediv (a-(rs c+s*(pg c+1))*1024) (sz c);have e:=IP (a-(rs c+s*(pg c+1))*1024) (show sz c≠0 by omega);have f:=IB (a-(rs c+s*(pg c+1))*1024) (show 0<sz c by omega);rw [<-g,<-m] at n;rw [<-m] at e f;have i:0<=t:=by rw [g];exact Int.ediv_nonneg d.1 Z
  have j:t<sl c:=by
   apply Int.not_le.1;intro q;rw [g] at q;exact u ((Int.le_ediv_iff_mul_le Z).1 q)
  refine⟨⟨h.c0,h.c1,h.s0,h.s1,i,j⟩,w,e,f,?_⟩;rw [Int.mul_comm] at n;omega
theorem HH (h:0<=c/\c<12) (a:0<=t) (b:t<sl c):0<=t*sz c/\t*sz c+sz c<=sl c*sz c:=by
 have d:=eJ h;refine⟨Int.mul_nonneg a Z,?_⟩;have:=Int.mul_le_mul_of_nonneg_right (show t+1<=sl c by omega) (show 0<=sz c by omega);rw [Int.add_mul] at this;omega
theorem Slot.dec (h:Slot c s t) {o:Int} (b:0<=o) (d:o<sz c):Dec ((rs c+s*(pg c+1))*1024+t*sz c+o) (pl 3 c s t 0 o) /\
  1024<=(rs c+s*(pg c+1))*1024+t*sz c/\(rs c+s*(pg c+1))*1024+t*sz c+o<191488:=by
 have f:0<=c/\c<12:=⟨h.c0,h.c1⟩;have p:=eJ f;have q:=kh f;have r:=fy f;have u:=HH f h.t0 h.t1;have k:=h.s0;have l:=h.s1;have v:1<=rs c/\rs c+6*(pg c+1)<=187:=by
  rcases fh f with rfl|rfl|rfl|rfl|rfl|rfl|rfl|rfl|rfl|rfl|rfl|rfl <;> decide
 have w:0<=s*(pg c+1)/\s*(pg c+1)+(pg c+1)<=6*(pg c+1):=by
  have:pg c=1\/pg c=2\/pg c=3\/pg c=4:=Z;rcases this with e|e|e|e <;> rw [e] <;> omega
 have j:1024<=(rs c+s*(pg c+1))*1024+t*sz c:=Z;have g:(rs c+s*(pg c+1))*1024+t*sz c+o<191488:=Z;refine⟨?_,j,g⟩;have i:Hit (((rs c+s*(pg c+1))*1024+t*sz c+o)/1024) c s:=⟨h.c0,h.c1,h.s0,h.s1,Z,Z⟩;have a:=Dec.slab _ c s Z g i;have e:(rs c+s*(pg c+1))*1024+t*sz c+o-(rs c+s*(pg c+1))*1024=t*sz c+o:=Z;rw [e] at a;unfold zT at a;rw [GO Z,GO Z] at a;have m:(t*sz c+o)/sz c=t:=by
  rw [Int.add_comm,Int.add_mul_ediv_right _ _ Z,Int.ediv_eq_zero_of_lt b d];omega
 have n:(t*sz c+o)%sz c=o:=by
  rw [Int.add_comm,Int.add_mul_emod_self_right,Int.emod_eq_of_lt b d]
 rw [m,n] at a;exact a
theorem wrap64_in {x:Int} (a : -9223372036854775808<=x) (b:x<=9223372036854775807):wrap64 x=x:=by
 simp only [wrap64];omega
theorem kG (c s t) (h:Slot c s t) (w) (d:Tb w) :
  Calls prog 129 #[I c,I s,I t] w λe u=>e=.returned (.tuple #[U ((rs c+s*(pg c+1))*1024+t*sz c),.bool true])/\D w u:=by
 have a:0<=c/\c<12:=⟨h.c0,h.c1⟩;have j:=hidR (mO c);have k:=hidR (gp c);have l:=hidR (dJ c);have G:=eJ a;have K:=fy a;have f:=h.dec (o:=0) Z Z;have x:=h.s0;have y:=h.s1;have L:1<=rs c/\rs c<=361:=by have:=we c;rw [kB a] at this ⊢;have:=iU c.toNat;omega
 have M:0<=s*(pg c+1)/\s*(pg c+1)<=25:=by
  have:pg c=1\/pg c=2\/pg c=3\/pg c=4:=Z;rcases this with e|e|e|e <;> rw [e] <;> omega
 have m:=HH a h.t0 h.t1;have b:t*sz c<=4096:=by have:=(kh a).2.2.2;omega
 have g:=hidR f.1;have i:=f.2;have n:=hidR (λW a=>iB ((rs c+s*(pg c+1))*1024+t*sz c) Z Z W a);rw [Int.add_zero] at g i;have A:0<=t*sz c/\t*sz c<=4096:=⟨m.1,b⟩;clear m b f h;generalize rs c=r at *;generalize pg c=p at *;generalize sz c=z at *;go_enter func129,ntmps129;go_wp2_with fail;refine (j _ d).mono ?_;rintro e N ⟨rfl,f⟩;have b:=hidR (d.below f);go_wp2_with fail;refine (k _ b).mono ?_;rintro e O ⟨rfl,rfl⟩;go_wp2_with fail;refine (l _ b).mono ?_;rintro e P ⟨rfl,rfl⟩;go_wp2_with fail;refine (n _ b).mono ?_;rintro e Q ⟨⟨v,m,rfl⟩,q⟩;have B:=g.one m;subst B;have F:=hidR (cv f q);clear m f q b j k l n d g;unfold pl;go_wp2
 go_ret2
 exact⟨rfl,F⟩
def Os (w:World) (a:Option Addr) (c:Nat) (zs:List Int):Prop:=(a=none/\c=0/\zs=[])\/∃ g,a=some ⟨g,0,none⟩/\RowV w g 3 (Ns .i64 zs)
theorem Os.sl {a c zs} (h:Os w a c zs):Sl w a zs:=by
 rcases h with ⟨rfl,_,rfl⟩|h;·exact .inl ⟨rfl,rfl⟩
 exact .inr h
theorem Os.but {S w w' a c zs} (h:Os w a c zs) (b:But S w w') (d:∀ g,a=some ⟨g,0,none⟩->¬S g):Os w' a c zs:=by
 rcases h with h|⟨g,e,f⟩;·exact .inl h
 exact .inr ⟨g,e,f.but b (d g e)⟩
theorem Os.below {w' a c zs} (h:Os w a c zs) (b:D w w'):Os w' a c zs:=h.but (But.ofBelow (S:=λ_=>False) b) (λ_ _=>id)
theorem Os.lt {w a c zs} (h:Os w a c zs):∀ g,a=some ⟨g,0,none⟩->g<w.heap.size:=by
 rintro g rfl;rcases h with ⟨e,_⟩|⟨d,e,b⟩;·cases e
 simp at e;subst e;exact b.lt
theorem Os.ne {w a c} {b:Nat} {zs} {d:Array Value} {t:TypeId} (h:Os w a c zs) (f:w.heap[b]?=some (.cells d t)) (g:3≠t):a≠some ⟨b,0,none⟩:=by
 rintro rfl;rcases h with ⟨e,_⟩|⟨j,e,i⟩;·cases e
 simp at e;subst e;exact i.ne f g rfl
theorem Wt.but {S w w' am lm af lf mix fifo} (h:Wt w am lm af lf mix fifo) (b:But S w w') (c:∀ g,am=some ⟨g,0,none⟩->¬S g) (d:∀ g,af=some ⟨g,0,none⟩->¬S g):Wt w' am lm af lf mix fifo :=
  ⟨by rcases h.m with e|⟨g,e,a⟩
      · exact .inl e
      · exact .inr ⟨g,e,a.but b (c g e)⟩,h.ml,by
      rcases h.f with e|⟨g,e,a⟩
      · exact .inl e
      · exact .inr ⟨g,e,a.but b (d g e)⟩,h.fl⟩
end
end Go.Proofs.YtibblbenmpcplaaGreatDoor
