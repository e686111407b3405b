import Derived.Shelf.SlSortCmp.WholeK
import Derived.Shelf.Slices.In.SortNone
import Derived.Shelf.Sort.Plain
import Derived.Sort.OwnSortedInts
import Derived.Test.YtdfodlhkdmkfdaaGreatDoorN38
set_option linter.unusedVariables false
set_option linter.unusedSimpArgs false
set_option maxRecDepth 20000
set_option maxHeartbeats 8000000
namespace Go.Proofs.YtdfodlhkdmkfdaaGreatDoor
open Go.Proofs.Tryz
variable {S:Nat->Prop} {W W' w:World} {c e g i k k0 m n sz t ty:Nat} {v:Value} {ops:Array Oper} {rest:List Oper} {op:Oper} {a:Act} {Q:Exit->Act->World->Prop}
section
open Go.RowKit Go.Maps
structure Bt (S:Nat->Prop) (w w':World):Prop where
 os:w'.os=w.os
 tape:w'.tape=w.tape
 output:w'.output=w.output
 size:w.heap.size<=w'.heap.size
 block:∀ g,g<w.heap.size->¬S g->w'.heap[g]?=w.heap[g]?
theorem Bt.refl (S w):Bt S w w:=⟨rfl,rfl,rfl,Jo _,λ_ _ _=>rfl⟩
theorem Bt.grown (h:Bt S w W) {r:Option Nat} (a:W.grownBy W' r) (f:∀ g,r=some g->S g\/w.heap.size<=g):Bt S w W' :=
 ⟨a.os.trans h.os,a.tape.trans h.tape,a.output.trans h.output,Jp h.size a.size,λg b c=>by
  rw [a.block g (Ju b h.size) (λe=>by rcases f g e.symm with d|d;exact c d;omega)]
  exact h.block g b c⟩
theorem Bt.trans {S T w W V} (h:Bt S w W) (a:Bt T W V):Bt (λg=>S g\/T g) w V :=
 ⟨a.os.trans h.os,a.tape.trans h.tape,a.output.trans h.output,Jp h.size a.size,λg b c=>(a.block g (Ju b h.size) (λe=>c (.inr e))).trans (h.block g b (λe=>c (.inl e)))⟩
theorem Bt.mono {T:Nat->Prop} (h:Bt S w W) (a:∀ g,S g->T g):Bt T w W:=⟨h.os,h.tape,h.output,h.size,λg b c=>h.block g b (λe=>c (a g e))⟩
structure Pq (F G:Nat) (v:Value) (S:Nat->Prop) (n:Nat) (own:World->Prop) (md:Nat->World->Prop):Prop where
 ok:∀ W W',own W->(∀ b,S b->W'.heap[b]?=W.heap[b]?)->own W'
 ky:∀ k W W',md k W->(∀ b,S b->W'.heap[b]?=W.heap[b]?)->md k W'
 lt:∀ W,own W->∀ b,S b->b<W.heap.size
 ltm:∀ k W,md k W->∀ b,S b->b<W.heap.size
 mark:∀ k W,k+n<=100000000->own W->Calls prog F #[v,I k] W λe W'=>e=.returned (I (k+n:Nat))/\md k W'/\Bt S W W'
 held:∀ k W,k+n<=100000000->md k W->Calls prog G #[v,I k] W λe W'=>e=.returned (I (k+n:Nat))/\D W W'
theorem Bt.bel (h:Bt S w W) (b:D W W'):Bt S w W' :=
 ⟨b.os.trans h.os,b.tape.trans h.tape,b.output.trans h.output,Jp h.size b.size,λg a c=>(b.block g (Ju a h.size)).trans (h.block g a c)⟩
def Ow1 (k:IntKind) (e n:Nat) (v:Value) (W:World):Prop:=(v=C/\n=0)\/∃ g cap i,v=Vl g n cap/\i.length=n/\RowV W g e (Ns k i)
theorem RowV.eqb {e xs} (h:RowV W g e xs) (a:W'.heap[g]?=W.heap[g]?):RowV W' g e xs:=by
 obtain⟨c,b,d⟩:=h;exact⟨c,a.trans b,d⟩
theorem Ow1.own {k} {B:Nat} {zs} (h:W.ownsRow B e 1 v n (Ns k zs)):Ow1 k e n v W:=by
 have b:zs.length=n:=by have:=h.1;rw [aX] at this;omega
 rcases h.2 with ⟨c,d⟩|⟨g,a,f,rfl,_⟩;·exact .inl ⟨c,d⟩
 exact .inr ⟨g,a,zs,rfl,b,RowV.ofOwns h⟩
theorem Ar (v) (n:Nat) (l:n<=1048576):Pq 32 80 v (λb=>v.ownBlock=some b) n (Ow1 .i64 3 n v) (λk W=>(v=C/\n=0)\/∃ g a,v=Vl g n a/\RowV W g 3 (Ns .i64 (eo k n))):=by
 refine⟨?_,?_,?_,?_,?_,?_⟩
 ·rintro W W' (h|⟨g,a,f,rfl,i,c⟩) d;·exact .inl h
  exact .inr ⟨g,a,f,rfl,i,c.eqb (d g rfl)⟩
 ·rintro k W W' (h|⟨g,a,rfl,c⟩) d;·exact .inl h
  exact .inr ⟨g,a,rfl,c.eqb (d g rfl)⟩
 ·rintro W (⟨rfl,h⟩|⟨g,a,f,rfl,i,c⟩) b d;·cases d
  cases d;exact c.lt
 ·rintro k W (⟨rfl,h⟩|⟨g,a,rfl,c⟩) b d;·cases d
  cases d;exact c.lt
 ·rintro k W m (⟨rfl,rfl⟩|⟨g,a,f,rfl,i,c⟩);·refine (u_ k W Z).mono ?_;rintro e j ⟨rfl,rfl⟩;exact⟨rfl,.inl ⟨rfl,rfl⟩,Bt.refl _ _⟩
  refine (tN g n a f k W i l Z c).mono ?_;rintro e j ⟨rfl,o,p⟩;exact⟨rfl,.inr ⟨g,a,rfl,o⟩,(Bt.refl _ _).grown p (λb d=>.inl d)⟩
 rintro k W m (⟨rfl,rfl⟩|⟨g,a,rfl,c⟩);·refine (tK k W Z).mono ?_;rintro e j ⟨rfl,rfl⟩;exact⟨rfl,Jn _ _⟩
 refine (tY g n a k W l Z c).mono ?_;rintro e j ⟨rfl,rfl⟩;exact⟨rfl,Jn _ _⟩
theorem yJ (v) (n:Nat) (l:n<=1048576):Pq 78 84 v (λb=>v.ownBlock=some b) n (Ow1 .u64 22 n v) (λk W=>(v=C/\n=0)\/∃ g a,v=Vl g n a/\RowV W g 22 (Ns .u64 (gM k n))):=by
 refine⟨?_,?_,?_,?_,?_,?_⟩
 ·rintro W W' (h|⟨g,a,f,rfl,i,c⟩) d;·exact .inl h
  exact .inr ⟨g,a,f,rfl,i,c.eqb (d g rfl)⟩
 ·rintro k W W' (h|⟨g,a,rfl,c⟩) d;·exact .inl h
  exact .inr ⟨g,a,rfl,c.eqb (d g rfl)⟩
 ·rintro W (⟨rfl,h⟩|⟨g,a,f,rfl,i,c⟩) b d;·cases d
  cases d;exact c.lt
 ·rintro k W (⟨rfl,h⟩|⟨g,a,rfl,c⟩) b d;·cases d
  cases d;exact c.lt
 ·rintro k W m (⟨rfl,rfl⟩|⟨g,a,f,rfl,i,c⟩);·refine (uc k W Z).mono ?_;rintro e j ⟨rfl,rfl⟩;exact⟨rfl,.inl ⟨rfl,rfl⟩,Bt.refl _ _⟩
  refine (EH g n a f k W i l Z c).mono ?_;rintro e j ⟨rfl,o,p⟩;exact⟨rfl,.inr ⟨g,a,rfl,o⟩,(Bt.refl _ _).grown p (λb d=>.inl d)⟩
 rintro k W m (⟨rfl,rfl⟩|⟨g,a,rfl,c⟩);·refine (ug k W Z).mono ?_;rintro e j ⟨rfl,rfl⟩;exact⟨rfl,Jn _ _⟩
 refine (D8 g n a k W l Z c).mono ?_;rintro e j ⟨rfl,rfl⟩;exact⟨rfl,Jn _ _⟩
theorem CF (v) (n:Nat) (l:n<=1048576):Pq 33 79 v (λb=>v.ownBlock=some b) n (Ow1 .u8 5 n v) (λk W=>(v=C/\n=0)\/∃ g a,v=Vl g n a/\RowV W g 5 (Ns .u8 (ii k n))):=by
 refine⟨?_,?_,?_,?_,?_,?_⟩
 ·rintro W W' (h|⟨g,a,f,rfl,i,c⟩) d;·exact .inl h
  exact .inr ⟨g,a,f,rfl,i,c.eqb (d g rfl)⟩
 ·rintro k W W' (h|⟨g,a,rfl,c⟩) d;·exact .inl h
  exact .inr ⟨g,a,rfl,c.eqb (d g rfl)⟩
 ·rintro W (⟨rfl,h⟩|⟨g,a,f,rfl,i,c⟩) b d;·cases d
  cases d;exact c.lt
 ·rintro k W (⟨rfl,h⟩|⟨g,a,rfl,c⟩) b d;·cases d
  cases d;exact c.lt
 ·rintro k W m (⟨rfl,rfl⟩|⟨g,a,f,rfl,i,c⟩);·refine (tV k W Z).mono ?_;rintro e j ⟨rfl,rfl⟩;exact⟨rfl,.inl ⟨rfl,rfl⟩,Bt.refl _ _⟩
  refine (Fs g n a f k W i l Z c).mono ?_;rintro e j ⟨rfl,o,p⟩;exact⟨rfl,.inr ⟨g,a,rfl,o⟩,(Bt.refl _ _).grown p (λb d=>.inl d)⟩
 rintro k W m (⟨rfl,rfl⟩|⟨g,a,rfl,c⟩);·refine (uk k W Z).mono ?_;rintro e j ⟨rfl,rfl⟩;exact⟨rfl,Jn _ _⟩
 refine (EF g n a k W l Z c).mono ?_;rintro e j ⟨rfl,rfl⟩;exact⟨rfl,Jn _ _⟩
structure Mf (w:World) (g t N:Nat) (κ:Nat->IntKind) (k0 m:Nat) (W:World):Prop where
 typ:∃ c,W.heap[g]?=some (.cells c t)/\N<=c.size
 don:∀ j,j<m->W.cell? ⟨g,j,none⟩=some (.int (κ j) ((k0+j:Nat):Int))
 bt:w.grownBy W (some g)
theorem Mf.step {N κ} (h:Mf w g t N κ k0 m W) (i:m<N):Mf w g t N κ k0 (m+1) (W.setCell ⟨g,m,none⟩ (.int (κ m) ((k0+m:Nat):Int))):=by
 obtain⟨c,a,f⟩:=h.typ;refine⟨⟨_,aO a _,by simpa using f⟩,λj k=>?_,au h.bt _ _⟩;by_cases e:j=m
 ·subst e;obtain⟨d,b⟩:∃ d,W.cell? ⟨g,j,none⟩=some d:=by
   rw [t6 _ _ _ _ _ _ a];exact⟨_,IS Z⟩
  exact World.cell?_setCell_same _ _ _ b
 rw [KH _ _ _ _ (by intro e;simp at e;try omega)];exact h.don j Z
theorem oB (w:World) (b o:Nat) (ty:TypeId) (k:IntKind) (n:Int) {e:Value} (f:w.cell? ⟨b,o,none⟩=some e) (g:w.frozen? ⟨b,o,none⟩=false) (d:(prog.info? ty).map (·.size)=some 1) :
  (storeVar ty ⟨b,o,none⟩ (.int k n)).run prog w=.ok () (w.setCell ⟨b,o,none⟩ (.int k n)):=by
 have:=run_storeCells_cells (P:=prog) b o [.int k n] 0 w (λj a=>by simp at a;subst a;simp [f]) (λj a=>by simp at a;subst a;simpa using g) (λv a=>by simp at a;subst a;rfl);cases c:prog.info? ty with
 | none=>simp [c] at d
 | some i =>
  have l:i.size=1:=by simpa [c] using d
  simp only [Kq,World.setCells] at this;simp [storeVar,sizeOf,typeInfo,c,Value.cells,l,this]
theorem gW {P:World->Prop} {c:Array Value} {t:TypeId} (b:op.guard=none) (ty:TypeId) (x y:Operand) (k:op.op=.store ty x y)
  (f:w.heap[g]?=some (.cells c t)) (l:i<c.size) {d:IntKind} {n:Int} (m:a.eval x=J g i) (o:a.eval y=.int d n) (p:(prog.info? ty).map (·.size)=some 1) (q:P (w.setCell ⟨g,i,none⟩ (.int d n)))
  (h:∀ e,Hid (P e)->wpList prog ops Q rest (a.put op.dst undef) e):wpList prog ops Q (op::rest) a w:=by
 obtain⟨j,e⟩:∃ j,w.cell? ⟨g,i,none⟩=some j:=by
  rw [t6 _ _ _ _ _ _ f];exact⟨_,IS l⟩
 have r:w.frozen? ⟨g,i,none⟩=false:=by simp [World.frozen?,f]
 refine Lf b λ_ s=>?_;unfold Oper.wp execOp;simp only [k,m,o,Instr.storeAt,Instr.sureAddr,Sem.run_bind,Sem.run_pure,Result.andThen_ok,oB w g i ty d n e r p];exact s _ _ (h _ (H q))
theorem cu {w0 N κ} (b:op.guard=none) (ty:TypeId) (x y:Operand) (f:op.op=.store ty x y) (m) {d:IntKind} {n:Int} (e:Mf w0 g t N κ k0 m w) (i:m<N) (j:a.eval x=J g m) (k:a.eval y=.int d n) (l:d=κ m) (o:n=((k0+m:Nat):Int)) (p:(prog.info? ty).map (·.size)=some 1) (h:∀ d,Hid (Mf w0 g t N κ k0 (m+1) d)->wpList prog ops Q rest (a.put op.dst undef) d):wpList prog ops Q (op::rest) a w:=by
 obtain⟨c,q,r⟩:=e.typ;subst l o;exact gW (P:=Mf w0 g t N κ k0 (m+1)) b ty x y f q Z j k p (e.step i) h
def kS (j:Nat):IntKind:=.i64
def kR (j:Nat):IntKind:=if j%5=0 then .u64 else .i64
theorem IQ (k:Nat):IntKind.u64=kR (k*5):=by unfold kR;rw [tm Z]
theorem Dm (k t:Nat) (a:1<=t) (b:t<5):IntKind.i64=kR (k*5+t):=by unfold kR;rw [tg Z]
theorem Fx (g) (n:Nat) (cap k0 w) (h:Mf w g 102 (n*5) kS k0 0 w) (r:n<=100000) (s:k0<=100000000) :
  Calls prog 75 #[Vl g n cap,I k0] w λe d=>e=.returned (I (k0+n*5:Nat))/\Mf w g 102 (n*5) kS k0 (n*5) d:=by
 have c:=H h;clear h;go_enter func75,ntmps75;go_wp2;go_loopw [1,5] (λb i wr=>∃ k q:Nat,k<=n/\i=I k/\b=I q/\q=k0+k*5/\Hid (Mf w g 102 (n*5) kS k0 (k*5) wr)) (λ_ i _=>n-(intOf i).toNat);case atStart=>exact ⟨0,k0,Jt _,rfl,rfl,Z,by rw [Nat.zero_mul];exact c⟩
 case round =>
  obtain⟨k,q,t,rfl,rfl,f,a⟩:=hrel;clear c;by_cases j:k<n
  ·go_wp2_with (first|(refine cu rfl 3 _ _ rfl (k*5) a Z rfl rfl rfl Z E ?_;clear a;intro b a)|(refine cu rfl 3 _ _ rfl (k*5+1) a Z rfl rfl rfl Z E ?_;clear a;intro l a)|(refine cu rfl 3 _ _ rfl (k*5+2) a Z rfl rfl rfl Z E ?_;clear a;intro m a)|(refine cu rfl 3 _ _ rfl (k*5+3) a Z rfl rfl rfl Z E ?_;clear a;intro o a)|(refine cu rfl 3 _ _ rfl (k*5+4) a Z rfl rfl rfl Z E ?_;clear a;intro p a));go_roundw;(case rel=>exact ⟨k+1,q+5,Z,aR,aR,Z,by rw [J4];exact a⟩);case measure=>simp [intOf];omega
  have b:k=n:=Z;subst b;subst f;go_wp2;go_ret;exact⟨rfl,a⟩
theorem Ew (g n b k0:Nat) (w:World) (h:∀ j,j<n*5->w.cell? ⟨g,j,none⟩=some (.int (kS j) ((k0+j:Nat):Int))) (o:n<=100000) (p:k0<=100000000) :
  Calls prog 81 #[Vl g n b,I k0] w λe d=>e=.returned (I (k0+n*5:Nat))/\D w d:=by
 have f:=H h;clear h;go_enter func81,ntmps81;go_wp2;go_loopw [1,5] (λb i wr=>∃ k q:Nat,k<=n/\i=I k/\b=I q/\q=k0+k*5/\Hid (D w wr)) (λ_ i _=>n-(intOf i).toNat);case atStart=>exact ⟨0,k0,Jt _,rfl,rfl,Z,H (Jn _ _)⟩
 case round =>
  obtain⟨k,q,r,rfl,rfl,l,c⟩:=hrel;by_cases m:k<n
  ·have a:=H (λj (b:j<n*5)=>ol c (f j b));have s:wr.cell? ⟨g,k*5,none⟩=some (I ((q:Int))):=(by rw [a.out (k*5) Z];simp only [kS,FK,I5,true_and];omega);have t:wr.cell? ⟨g,k*5+1,none⟩=some (I ((q:Int)+1)):=(by rw [a.out (k*5+1) Z];simp only [kS,FK,I5,true_and];omega);have u:wr.cell? ⟨g,k*5+2,none⟩=some (I ((q:Int)+1+1)):=(by rw [a.out (k*5+2) Z];simp only [kS,FK,I5,true_and];omega);have v:wr.cell? ⟨g,k*5+3,none⟩=some (I ((q:Int)+1+1+1)):=(by rw [a.out (k*5+3) Z];simp only [kS,FK,I5,true_and];omega);have x:wr.cell? ⟨g,k*5+4,none⟩=some (I ((q:Int)+1+1+1+1)):=(by rw [a.out (k*5+4) Z];simp only [kS,FK,I5,true_and];omega);clear a;go_wp2;go_roundw;(case rel=>exact ⟨k+1,q+5,Z,aR,aR,Z,c⟩);case measure=>simp [intOf];omega
  have a:k=n:=Z;subst a;subst l;go_wp2;go_ret;exact⟨rfl,c⟩
theorem ER (g) (n:Nat) (cap k0 w) (h:Mf w g 109 (n*5) kR k0 0 w) (r:n<=100000) (s:k0<=100000000) :
  Calls prog 77 #[Vl g n cap,I k0] w λe d=>e=.returned (I (k0+n*5:Nat))/\Mf w g 109 (n*5) kR k0 (n*5) d:=by
 have c:=H h;clear h;go_enter func77,ntmps77;go_wp2;go_loopw [1,5] (λb i wr=>∃ k q:Nat,k<=n/\i=I k/\b=I q/\q=k0+k*5/\Hid (Mf w g 109 (n*5) kR k0 (k*5) wr)) (λ_ i _=>n-(intOf i).toNat);case atStart=>exact ⟨0,k0,Jt _,rfl,rfl,Z,by rw [Nat.zero_mul];exact c⟩
 case round =>
  obtain⟨k,q,t,rfl,rfl,f,a⟩:=hrel;clear c;by_cases j:k<n
  ·go_wp2_with (first|(refine cu rfl 22 _ _ rfl (k*5) a Z rfl rfl (IQ k) Z E ?_;clear a;intro b a)|(refine cu rfl 3 _ _ rfl (k*5+1) a Z rfl rfl (Dm k 1 Z Z) Z E ?_;clear a;intro l a)|(refine cu rfl 3 _ _ rfl (k*5+2) a Z rfl rfl (Dm k 2 Z Z) Z E ?_;clear a;intro m a)|(refine cu rfl 3 _ _ rfl (k*5+3) a Z rfl rfl (Dm k 3 Z Z) Z E ?_;clear a;intro o a)|(refine cu rfl 3 _ _ rfl (k*5+4) a Z rfl rfl (Dm k 4 Z Z) Z E ?_;clear a;intro p a));go_roundw;(case rel=>exact ⟨k+1,q+5,Z,aR,aR,Z,by rw [J4];exact a⟩);case measure=>simp [intOf];omega
  have b:k=n:=Z;subst b;subst f;go_wp2;go_ret;exact⟨rfl,a⟩
theorem FH (g n b k0:Nat) (w:World) (h:∀ j,j<n*5->w.cell? ⟨g,j,none⟩=some (.int (kR j) ((k0+j:Nat):Int))) (o:n<=100000) (p:k0<=100000000) :
  Calls prog 83 #[Vl g n b,I k0] w λe d=>e=.returned (I (k0+n*5:Nat))/\D w d:=by
 have f:=H h;clear h;go_enter func83,ntmps83;go_wp2;go_loopw [1,5] (λb i wr=>∃ k q:Nat,k<=n/\i=I k/\b=I q/\q=k0+k*5/\Hid (D w wr)) (λ_ i _=>n-(intOf i).toNat);case atStart=>exact ⟨0,k0,Jt _,rfl,rfl,Z,H (Jn _ _)⟩
 case round =>
  obtain⟨k,q,r,rfl,rfl,l,c⟩:=hrel;by_cases m:k<n
  ·have a:=H (λj (b:j<n*5)=>ol c (f j b));have s:wr.cell? ⟨g,k*5,none⟩=some (U ((q:Int))):=(by rw [a.out (k*5) Z,<-IQ k];simp only [FK,I5,true_and];omega);have t:wr.cell? ⟨g,k*5+1,none⟩=some (I ((q:Int)+1)):=(by rw [a.out (k*5+1) Z,<-Dm k 1 Z Z];simp only [FK,I5,true_and];omega);have u:wr.cell? ⟨g,k*5+2,none⟩=some (I ((q:Int)+1+1)):=(by rw [a.out (k*5+2) Z,<-Dm k 2 Z Z];simp only [FK,I5,true_and];omega);have v:wr.cell? ⟨g,k*5+3,none⟩=some (I ((q:Int)+1+1+1)):=(by rw [a.out (k*5+3) Z,<-Dm k 3 Z Z];simp only [FK,I5,true_and];omega);have x:wr.cell? ⟨g,k*5+4,none⟩=some (I ((q:Int)+1+1+1+1)):=(by rw [a.out (k*5+4) Z,<-Dm k 4 Z Z];simp only [FK,I5,true_and];omega);clear a;go_wp2;go_roundw;(case rel=>exact ⟨k+1,q+5,Z,aR,aR,Z,c⟩);case measure=>simp [intOf];omega
  have a:k=n:=Z;subst a;subst l;go_wp2;go_ret;exact⟨rfl,c⟩
abbrev Pw:=Nat×Value
def fx:List Pw->Nat
 | []=>0
 | x::r=>x.1+fx r
theorem mN:∀ (a b:List Pw),fx (a++b)=fx a+fx b
 | [],b=>by simp [fx]
 | o::r,b=>by simp [fx,mN r b];omega
theorem fP {l:List Pw} {x:Pw} (h:l[k]?=some x):fx (l.take (k+1))=fx (l.take k)+x.1:=by
 rw [JK,h,mN];simp [fx]
theorem qV (l:List Pw) (k:Nat):fx (l.take k)<=fx l:=by
 have a:=mN (l.take k) (l.drop k);rw [List.take_append_drop] at a;omega
theorem se {x:Pw} : ∀ {l:List Pw},x∈l->x.1<=fx l
 | [],h=>by cases h
 | y::r,h=>by
  rcases JG.1 h with rfl|a
  ·exact Nat.le_add_right _ _
  exact Jp (se a) (Nat.le_add_left _ _)
def mB (c k0:Nat) (l:List Pw) (i:Nat):Nat:=k0+c*i+fx (l.take i)
def Mc (W:World) (g sz:Nat) (κ:Nat->IntKind) (k q m:Nat):Prop:=∀ t,t<m->W.cell? ⟨g,k*sz+t,none⟩=some (.int (κ t) ((q+t:Nat):Int))
def Md5 (k:Nat) (x:Pw) (W:World):Prop:=(x.2=C/\x.1=0)\/∃ g cap,x.2=Vl g x.1 cap/\RowV W g 5 (Ns .u8 (ii k x.1))
theorem Ow1.typ {k} (h:Ow1 k e n v W) (a:v.ownBlock=some g):∃ c,W.heap[g]?=some (.cells c e):=by
 rcases h with ⟨rfl,_⟩|⟨f,b,i,rfl,_,c,d,_⟩;·cases a
 cases a;exact⟨c,d⟩
theorem Ow1.sl {k} (h:Ow1 k e n v W):∃ a c,v=.slice a n c:=by
 rcases h with ⟨rfl,rfl⟩|⟨d,b,f,rfl,_⟩;·exact⟨_,_,rfl⟩
 exact⟨_,_,rfl⟩
theorem Md5.sl {x} (h:Md5 k x W):∃ a c,x.2=.slice a x.1 c:=by
 rcases h with ⟨e,b⟩|⟨f,d,e,_⟩;·rw [b];exact⟨_,_,e⟩
 exact⟨_,_,e⟩
theorem Md5.ow {x} (h:Md5 k x W):Ow1 .u8 5 x.1 x.2 W:=by
 rcases h with h|⟨b,a,e,h⟩;·exact .inl h
 exact .inr ⟨b,a,_,e,eX _ _,h⟩
theorem Md5.typ {k x W} (h:Md5 k x W) {g:Nat} (a:x.2.ownBlock=some g):∃ c,W.heap[g]?=some (.cells c 5):=h.ow.typ a
theorem Ow1.kp (h:Ow1 .u8 5 n v W) (f:∀ b c,v.ownBlock=some b->W.heap[b]?=some (.cells c 5)->W'.heap[b]?=W.heap[b]?):Ow1 .u8 5 n v W':=by
 rcases h with h|⟨b,a,g,e,i,c,d,j⟩;·exact .inl h
 exact .inr ⟨b,a,g,e,i,c,(f b c (by rw [e];rfl) d).trans d,j⟩
theorem Md5.kp {x} (h:Md5 k x W) (f:∀ b c,x.2.ownBlock=some b->W.heap[b]?=some (.cells c 5)->W'.heap[b]?=W.heap[b]?):Md5 k x W':=by
 rcases h with h|⟨b,a,e,c,d,g⟩;·exact .inl h
 exact .inr ⟨b,a,e,c,(f b c (by rw [e];rfl) d).trans d,g⟩
structure Mk (w:World) (g ty sz c:Nat) (κ:Nat->IntKind) (l:List Pw) (k0 k:Nat) (W:World):Prop where
 typ:∃ cs,W.heap[g]?=some (.cells cs ty)/\l.length*sz<=cs.size
 cel:∀ (i:Nat) (x:Pw),l[i]?=some x->W.cell? ⟨g,i*sz+c,none⟩=some x.2
 don:∀ (i:Nat) (x:Pw),l[i]?=some x->i<k->Mc W g sz κ i (mB c k0 l i) c/\Md5 (mB c k0 l i+c) x W
 rst:∀ (i:Nat) (x:Pw),l[i]?=some x->Ow1 .u8 5 x.1 x.2 W
 bt:Bt (λb=>b=g\/∃ x∈l,x.2.ownBlock=some b) w W
theorem Mk.ne {κ l} (h:Mk w g ty sz c κ l k0 k W) (b:ty≠5) {x:Pw} (d:l[i]?=some x):x.2.ownBlock≠some g:=λe=>by
 obtain⟨j,f⟩:=(h.rst i x d).typ e
 obtain⟨m,a,_⟩:=h.typ
 rw [f] at a
 simp at a
 exact b a.2.symm
theorem Ah (b:t<sz) (c:m<sz) (h:i*sz+t=k*sz+m):i=k/\t=m:=by
 rcases Kv i k with a|a|a;·have:(i+1)*sz<=k*sz:=JR _ a;rw [J4] at this;omega
 ·subst a;omega
 have:(k+1)*sz<=i*sz:=JR _ a;rw [J4] at this;omega
theorem Mk.code {q κ l} (h:Mk w g ty sz c κ l k0 k W) (f:ty≠5) (z:sz=c+1) (v:k<l.length) (A:m<c) (j:Mc W g sz κ k q m):Mk w g ty sz c κ l k0 k (W.setCell ⟨g,k*sz+m,none⟩ (.int (κ m) ((q+m:Nat):Int)))/\Mc (W.setCell ⟨g,k*sz+m,none⟩ (.int (κ m) ((q+m:Nat):Int))) g sz κ k q (m+1):=by
 obtain⟨B,d,n⟩:=h.typ;have r:=au (ao W g) (k*sz+m) (.int (κ m) ((q+m:Nat):Int));have s:∀ {i:Nat} {x:Pw} (a:l[i]?=some x) (b:Nat) (c:Array Value),x.2.ownBlock=some b->W.heap[b]?=some (.cells c 5)->(W.setCell ⟨g,k*sz+m,none⟩ (.int (κ m) ((q+m:Nat):Int))).heap[b]?=W.heap[b]?:=λa b c y j=>r.block b (ah j) (λe=>h.ne f a (by rw [y];exact e))
 refine⟨⟨⟨_,aO d _,by simpa using n⟩,λi x a=>?_,λi x a o=>?_,λi x a=>(h.rst i x a).kp (s a),h.bt.grown r (λb e=>by cases e;exact .inl (.inl rfl))⟩,λt f=>?_⟩;·rw [KH _ _ _ _ (by intro e;simp at e;have:=Ah Z Z e;omega)];exact h.cel i x a
 ·obtain⟨p,u⟩:=h.don i x a o;refine⟨λt f=>?_,u.kp (s a)⟩;rw [KH _ _ _ _ (by intro e;simp at e;have:=Ah Z Z e;omega)];exact p t f
 by_cases e:t=m
 ·subst e;obtain⟨u,p⟩:∃ u,W.cell? ⟨g,k*sz+t,none⟩=some u:=by
   have:(k+1)*sz<=l.length*sz:=JR _ v;rw [J4] at this;rw [t6 _ _ _ _ _ _ d];exact⟨_,IS Z⟩
  exact World.cell?_setCell_same _ _ _ p
 rw [KH _ _ _ _ (by intro e;simp at e;try omega)];exact j t Z
theorem Mk.data {κ l} {x:Pw} (h:Mk w g ty sz c κ l k0 k W) (o:ty≠5) (r:l.Pairwise λx y=>∀ g,x.2.ownBlock=some g->y.2.ownBlock≠some g) (p:l[k]?=some x) (s:Mc W g sz κ k (mB c k0 l k) c) (F:Md5 (mB c k0 l k+c) x W') (u:Bt (λb=>x.2.ownBlock=some b) W W'):Mk w g ty sz c κ l k0 (k+1) W':=by
 obtain⟨N,q,O⟩:=h.typ;have G:W'.heap[g]?=W.heap[g]?:=u.block g (ah q) (λe=>h.ne o p e);have d:∀ i,W'.cell? ⟨g,i,none⟩=W.cell? ⟨g,i,none⟩:=λi=>by unfold World.cell?;simp only [G]
 have v:∀ {i:Nat} {y:Pw} {b:Nat},l[i]?=some y->i≠k->y.2.ownBlock=some b->x.2.ownBlock≠some b:=λ{i y b} a f j e=>by
  have K:=Jr.1 a;have L:=Jr.1 p;have M:=Lq.1 r;rcases Nat.lt_or_gt_of_ne f with z|z;·obtain⟨A,m⟩:=K;obtain⟨B,n⟩:=L;exact M i k A B z b (by rw [m];exact j) (by rw [n];exact e)
  obtain⟨A,m⟩:=K;obtain⟨B,n⟩:=L;exact M k i B A z b (by rw [n];exact e) (by rw [m];exact j)
 have n:∀ {i:Nat} {y:Pw} (a:l[i]?=some y) (f:i≠k) (b:Nat) (c:Array Value),y.2.ownBlock=some b->W.heap[b]?=some (.cells c 5)->W'.heap[b]?=W.heap[b]?:=λa f b c j s=>u.block b (ah s) (λe=>v a f j e)
 have m:=h.bt.trans u;refine⟨⟨N,G.trans q,O⟩,λi y a=>(d _).trans (h.cel i y a),λi y a f=>?_,λi y a=>?_,m.mono (λb j=>by rcases j with j|j;exact j;exact .inr ⟨x,JA p,j⟩)⟩
 ·by_cases e:i=k
  ·subst e;rw [p] at a;cases a;exact⟨λt o=>(d _).trans (s t o),F⟩
  obtain⟨z,A⟩:=h.don i y a Z;exact⟨λt o=>(d _).trans (z t o),A.kp (n a e)⟩
 by_cases e:i=k
 ·subst e;rw [p] at a;cases a;exact F.ow
 exact (h.rst i y a).kp (n a e)
theorem dm {w0 ty0 κ l} (d:op.guard=none) (ty:TypeId) (x y:Operand) (j:op.op=.store ty x y) (k q m) {f:IntKind} {n:Int} (e:Mk w0 g ty0 sz c κ l k0 k w/\Mc w g sz κ k q m) (o:ty0≠5) (p:sz=c+1) (i:k<l.length) (r:m<c) (s:a.eval x=J g (k*sz+m)) (t:a.eval y=.int f n) (u:f=κ m) (v:n=((q+m:Nat):Int)) (z:(prog.info? ty).map (·.size)=some 1) (h:∀ b,Hid (Mk w0 g ty0 sz c κ l k0 k b/\Mc b g sz κ k q (m+1))->wpList prog ops Q rest (a.put op.dst undef) b):wpList prog ops Q (op::rest) a w:=by
 obtain⟨F,A,B⟩:=e.1.typ;have:(k+1)*sz<=l.length*sz:=JR _ i;rw [J4] at this;subst u v;exact gW (P:=λb=>Mk w0 g ty0 sz c κ l k0 k b/\Mc b g sz κ k q (m+1)) d ty x y j A Z s t z (e.1.code o p i r e.2) h
def kA (t:Nat):IntKind:=if t=1 then .u64 else .i64
def kO (t:Nat):IntKind:=if t<2 then .i64 else .u64
theorem Ea (g) (n:Nat) (cap k0 l w) (h:Mk w g 81 4 3 kA l k0 0 w) (c:l.Pairwise λx y=>∀ g,x.2.ownBlock=some g->y.2.ownBlock≠some g) (a:l.length=n) (O:k0+3*n+fx l<=100000000) (b:∀ x∈l,x.1<=1048576) :
  Calls prog 34 #[Vl g n cap,I k0] w λe z=>e=.returned (I (mB 3 k0 l n:Nat))/\Mk w g 81 4 3 kA l k0 n z:=by
 have s:=H h;have A:=H c;have u:=H a;have B:=H b;clear h c a b;go_enter func34,ntmps34;go_wp2;go_loopw [1,5] (λb i wr=>∃ k q:Nat,k<=n/\i=I k/\b=I q/\q=mB 3 k0 l k/\Hid (Mk w g 81 4 3 kA l k0 k wr)) (λ_ i _=>n-(intOf i).toNat);case atStart=>exact ⟨0,k0,Jt _,rfl,rfl,by simp [mB,fx],s⟩
 case round =>
  obtain⟨k,q,P,rfl,rfl,m,b⟩:=hrel;clear s;by_cases F:k<n
  ·obtain⟨x,d⟩:∃ x,l[k]?=some x:=⟨_,Jq (by have:=u.out;omega)⟩;have G:q+3+x.1<=100000000:=(by have:=qV l (k+1);rw [fP d] at this;unfold mB at m;omega);have f:k<l.length:=(by have:=u.out;omega);have K:=H (fP d);have o:=H d;have p:=H m;have r:=H f;obtain⟨Q,R,j⟩:=(b.rst k x d).sl;have v:=H j;have a:Hid (Mk w g 81 4 3 kA l k0 k wr/\Mc wr g 4 kA k q 0):=H ⟨b,λt S=>Z⟩;clear d m f j b;go_wp2_with (first|(refine dm rfl 3 _ _ rfl k q 0 a al rfl r Z rfl rfl rfl Z E ?_;clear a;intro L a)|(refine dm rfl 22 _ _ rfl k q 1 a al rfl r Z rfl rfl rfl Z E ?_;clear a;intro M a)|(refine dm rfl 3 _ _ rfl k q 2 a al rfl r Z rfl rfl rfl Z E ?_;clear a;intro d a;have f:=a.1.cel k x o.out;rw [v.out] at f));rw [show (q:Int)+1+1+1=((q+3:Nat):Int) by omega,<-v.out];clear f;have f:=H ((CF x.2 x.1 (B x (JA o))).mark (q+3) d Z (a.1.rst k x o));refine (f).mono ?_;rintro e T ⟨rfl,j,y⟩;have N:=H (a.1.data al A o (by rw [<-p.out];exact a.2) (by rw [<-p.out];exact j) y);clear j y f a;go_wp2;go_roundw;(case rel=>exact ⟨k+1,q+3+x.1,Z,aR,rfl,by have:=p.out;have:=K.out;unfold mB at *;omega,N⟩);case measure=>simp [intOf];omega
  have a:k=n:=Z;subst a;subst m;go_wp2;go_ret;exact⟨rfl,b⟩
theorem Ek (g) (n:Nat) (cap k0 l w) (h:Mk w g 61 6 5 kO l k0 0 w) (c:l.Pairwise λx y=>∀ g,x.2.ownBlock=some g->y.2.ownBlock≠some g) (a:l.length=n) (Q:k0+5*n+fx l<=100000000) (b:∀ x∈l,x.1<=1048576) :
  Calls prog 14 #[Vl g n cap,I k0] w λe z=>e=.returned (I (mB 5 k0 l n:Nat))/\Mk w g 61 6 5 kO l k0 n z:=by
 have s:=H h;have A:=H c;have u:=H a;have B:=H b;clear h c a b;go_enter func14,ntmps14;go_wp2;go_loopw [1,5] (λb i wr=>∃ k q:Nat,k<=n/\i=I k/\b=I q/\q=mB 5 k0 l k/\Hid (Mk w g 61 6 5 kO l k0 k wr)) (λ_ i _=>n-(intOf i).toNat);case atStart=>exact ⟨0,k0,Jt _,rfl,rfl,by simp [mB,fx],s⟩
 case round =>
  obtain⟨k,q,R,rfl,rfl,o,b⟩:=hrel;clear s;by_cases F:k<n
  ·obtain⟨x,d⟩:∃ x,l[k]?=some x:=⟨_,Jq (by have:=u.out;omega)⟩;have G:q+5+x.1<=100000000:=(by have:=qV l (k+1);rw [fP d] at this;unfold mB at o;omega);have f:k<l.length:=(by have:=u.out;omega);have K:=H (fP d);have p:=H d;have r:=H o;have j:=H f;obtain⟨S,T,m⟩:=(b.rst k x d).sl;have v:=H m;have a:Hid (Mk w g 61 6 5 kO l k0 k wr/\Mc wr g 6 kO k q 0):=H ⟨b,λt V=>Z⟩;clear d o f m b;go_wp2_with (first|(refine dm rfl 3 _ _ rfl k q 0 a al rfl j Z rfl rfl rfl Z E ?_;clear a;intro L a)|(refine dm rfl 3 _ _ rfl k q 1 a al rfl j Z rfl rfl rfl Z E ?_;clear a;intro M a)|(refine dm rfl 22 _ _ rfl k q 2 a al rfl j Z rfl rfl rfl Z E ?_;clear a;intro N a)|(refine dm rfl 22 _ _ rfl k q 3 a al rfl j Z rfl rfl rfl Z E ?_;clear a;intro O a)|(refine dm rfl 22 _ _ rfl k q 4 a al rfl j Z rfl rfl rfl Z E ?_;clear a;intro d a;have f:=a.1.cel k x p.out;rw [v.out] at f));rw [show (q:Int)+1+1+1+1+1=((q+5:Nat):Int) by omega,<-v.out];clear f;have f:=H ((CF x.2 x.1 (B x (JA p))).mark (q+5) d Z (a.1.rst k x p));refine (f).mono ?_;rintro e W ⟨rfl,m,y⟩;have P:=H (a.1.data al A p (by rw [<-r.out];exact a.2) (by rw [<-r.out];exact m) y);clear m y f a;go_wp2;go_roundw;(case rel=>exact ⟨k+1,q+5+x.1,Z,aR,rfl,by have:=r.out;have:=K.out;unfold mB at *;omega,P⟩);case measure=>simp [intOf];omega
  have a:k=n:=Z;subst a;subst o;go_wp2;go_ret;exact⟨rfl,b⟩
structure Dn (g:Nat) (l:List Pw) (k0:Nat) (W:World):Prop where
 typ:∃ cs,W.heap[g]?=some (.cells cs 81)
 cel:∀ (i:Nat) (x:Pw),l[i]?=some x->W.cell? ⟨g,i*4+3,none⟩=some x.2
 don:∀ (i:Nat) (x:Pw),l[i]?=some x->Mc W g 4 kA i (mB 3 k0 l i) 3/\Md5 (mB 3 k0 l i+3) x W
theorem Mk.dn {l} (h:Mk w g 81 4 3 kA l k0 l.length W):Dn g l k0 W :=
 ⟨by obtain ⟨c,b,_⟩:=h.typ;exact⟨c,b⟩,h.cel,λi x a=>h.don i x a (Jr.1 a).1⟩
theorem Dn.keep {l} (h:Dn g l k0 W) (f:W'.heap[g]?=W.heap[g]?) (j:∀ x∈l,∀ b,x.2.ownBlock=some b->b<W.heap.size->W'.heap[b]?=W.heap[b]?):Dn g l k0 W':=by
 have a:∀ i,W'.cell? ⟨g,i,none⟩=W.cell? ⟨g,i,none⟩:=λi=>by unfold World.cell?;simp only [f]
 refine⟨by obtain ⟨c,e⟩:=h.typ;exact⟨c,f.trans e⟩,λi x d=>(a _).trans (h.cel i x d),λi x d=>?_⟩;obtain⟨e,k⟩:=h.don i x d;exact⟨λt m=>(a _).trans (e t m),k.kp (λb c a e=>j x (JA d) b a (ah e))⟩
theorem Dn.below {l} (h:Dn g l k0 W) (a:D W W'):Dn g l k0 W':=by
 obtain⟨c,d⟩:=h.typ;exact h.keep (a.block g (ah d)) (λx _ b _ d=>a.block b d)
theorem FG (g) (n:Nat) (cap k0 l w) (h:Dn g l k0 w) (a:l.length=n) (L:k0+3*n+fx l<=100000000) (b:∀ x∈l,x.1<=1048576) :
  Calls prog 36 #[Vl g n cap,I k0] w λe s=>e=.returned (I (mB 3 k0 l n:Nat))/\D w s:=by
 have t:=H h;have u:=H a;have v:=H b;clear h a b;go_enter func36,ntmps36;go_wp2;go_loopw [1,5] (λb i wr=>∃ k q:Nat,k<=n/\i=I k/\b=I q/\q=mB 3 k0 l k/\Hid (D w wr)) (λ_ i _=>n-(intOf i).toNat);case atStart=>exact ⟨0,k0,Jt _,rfl,rfl,by simp [mB,fx],H (Jn _ _)⟩
 case round =>
  obtain⟨k,q,M,rfl,rfl,b,f⟩:=hrel;by_cases y:k<n
  ·obtain⟨x,a⟩:∃ x,l[k]?=some x:=⟨_,Jq (by have:=u.out;omega)⟩;have m:q+3+x.1<=100000000:=(by have:=qV l (k+1);rw [fP a] at this;unfold mB at b;omega);have z:=H (fP a);have o:=t.below f.out;have r:=o.cel k x a;obtain⟨c,j⟩:=o.don k x a;rw [<-b] at c j;have A:wr.cell? ⟨g,k*4,none⟩=some (I (q:Int)):=c 0 Z;have B:wr.cell? ⟨g,k*4+1,none⟩=some (U ((q:Int)+1)):=(by rw [c 1 Z];simp [kA]);have F:wr.cell? ⟨g,k*4+2,none⟩=some (I ((q:Int)+1+1)):=(by rw [c 2 Z];simp [kA];omega);obtain⟨N,O,d⟩:=j.sl;have p:=H ((CF x.2 x.1 (v x (JA a))).held (q+3) wr m j);have G:=H b;have K:¬(((q+3+x.1:Nat):Int)<0):=Z;rw [d] at r p;clear a b j d o c;go_wp2_with fail;rw [show (q:Int)+1+1+1=((q+3:Nat):Int) by omega];refine (p).mono ?_;rintro e d ⟨rfl,a⟩;have c:=H (f.trans (a.mono f.size));clear p r A B F a;go_wp2;go_roundw;(case rel=>exact ⟨k+1,q+3+x.1,Z,aR,rfl,by have:=G.out;have:=z.out;unfold mB at *;omega,c⟩);case measure=>simp [intOf];omega
  have a:k=n:=Z;subst a;subst b;go_wp2;go_ret;exact⟨rfl,f⟩
theorem uz (k0:Nat) (w:World) (b:k0<=1000000000000) :
  Calls prog 34 #[C,I k0] w λe a=>e=.returned (I k0)/\a=w:=by
 go_enter func34,ntmps34;go_wp2;refine A9 1 ?_;rw [IA];go_wp2;go_ret;exact⟨rfl,rfl⟩
theorem t_ (k0:Nat) (w:World) (b:k0<=1000000000000) :
  Calls prog 36 #[C,I k0] w λe a=>e=.returned (I k0)/\a=w:=by
 go_enter func36,ntmps36;go_wp2;refine A9 1 ?_;rw [IA];go_wp2;go_ret;exact⟨rfl,rfl⟩
theorem uq (k0:Nat) (w:World) (b:k0<=1000000000000) :
  Calls prog 75 #[C,I k0] w λe a=>e=.returned (I k0)/\a=w:=by
 go_enter func75,ntmps75;go_wp2;refine A9 1 ?_;rw [IA];go_wp2;go_ret;exact⟨rfl,rfl⟩
theorem uI (k0:Nat) (w:World) (b:k0<=1000000000000) :
  Calls prog 81 #[C,I k0] w λe a=>e=.returned (I k0)/\a=w:=by
 go_enter func81,ntmps81;go_wp2;refine A9 1 ?_;rw [IA];go_wp2;go_ret;exact⟨rfl,rfl⟩
theorem uB (k0:Nat) (w:World) (b:k0<=1000000000000) :
  Calls prog 77 #[C,I k0] w λe a=>e=.returned (I k0)/\a=w:=by
 go_enter func77,ntmps77;go_wp2;refine A9 1 ?_;rw [IA];go_wp2;go_ret;exact⟨rfl,rfl⟩
theorem uP (k0:Nat) (w:World) (b:k0<=1000000000000) :
  Calls prog 83 #[C,I k0] w λe a=>e=.returned (I k0)/\a=w:=by
 go_enter func83,ntmps83;go_wp2;refine A9 1 ?_;rw [IA];go_wp2;go_ret;exact⟨rfl,rfl⟩
structure IR (g:Nat) (l:List Pw) (W:World):Prop where
 typ:∃ cs,W.heap[g]?=some (.cells cs 81)/\l.length*4<=cs.size
 cel:∀ (i:Nat) (x:Pw),l[i]?=some x->W.cell? ⟨g,i*4+3,none⟩=some x.2
 rst:∀ (i:Nat) (x:Pw),l[i]?=some x->Ow1 .u8 5 x.1 x.2 W
theorem ek {α:Type} {x:α} {l:List α} (h:x∈l):∃ i:Nat,l[i]?=some x:=by
 obtain⟨i,a,e⟩:=List.mem_iff_getElem.1 h;exact⟨i,by rw [Jq a,e]⟩
theorem Dz (v) (l:List Pw) (q:l.Pairwise λx y=>∀ g,x.2.ownBlock=some g->y.2.ownBlock≠some g) (u:∀ x∈l,x.1<=1048576) :
  Pq 34 36 v (λb=>v.ownBlock=some b\/∃ x∈l,x.2.ownBlock=some b) (3*l.length+fx l) (λW=>(v=C/\l=[])\/∃ g a,v=Vl g l.length a/\IR g l W) (λk W=>(v=C/\l=[])\/∃ g a,v=Vl g l.length a/\Dn g l k W):=by
 refine⟨?_,?_,?_,?_,?_,?_⟩
 ·rintro W W' (h|⟨g,a,rfl,j,o,n⟩) d;·exact .inl h
  have r:=d g (.inl rfl);refine .inr ⟨g,a,rfl,by obtain ⟨c,p,w⟩:=j;exact⟨c,r.trans p,w⟩,λi x f=>?_,λi x f=>(n i x f).kp (λb c e _=>d b (.inr ⟨x,JA f,e⟩))⟩;have:=o i x f;unfold World.cell? at this ⊢;simp only [r];exact this
 ·rintro k W W' (h|⟨g,a,rfl,j⟩) d;·exact .inl h
  exact .inr ⟨g,a,rfl,j.keep (d g (.inl rfl)) (λx f b e _=>d b (.inr ⟨x,f,e⟩))⟩
 ·rintro W (⟨rfl,rfl⟩|⟨g,a,rfl,j,o,n⟩) b d
  ·rcases d with d|⟨x,f,_⟩;·cases d
   cases f
  rcases d with d|⟨x,f,e⟩;·cases d;obtain ⟨c,p,w⟩:=j;exact ah p
  obtain⟨i,r⟩:=ek f;obtain⟨c,s⟩:=(n i x r).typ e;exact ah s
 ·rintro k W (⟨rfl,rfl⟩|⟨g,a,rfl,j,o,n⟩) b d
  ·rcases d with d|⟨x,f,_⟩;·cases d
   cases f
  rcases d with d|⟨x,f,e⟩;·cases d;obtain ⟨c,p⟩:=j;exact ah p
  obtain⟨i,r⟩:=ek f;obtain⟨c,s⟩:=(n i x r).2.typ e;exact ah s
 ·rintro k W y (⟨rfl,rfl⟩|⟨g,a,rfl,j,o,n⟩);·refine (uz k W Z).mono ?_;rintro e t ⟨rfl,rfl⟩;exact⟨rfl,.inl ⟨rfl,rfl⟩,Bt.refl _ _⟩
  refine (Ea g l.length a k l W ⟨j,o,λi x _ h=>Z,n,Bt.refl _ _⟩ q rfl Z u).mono ?_;rintro e t ⟨rfl,m⟩;refine⟨by unfold mB;rw [zM,J2],.inr ⟨g,a,rfl,m.dn⟩,m.bt.mono (λb d=>?_)⟩;rcases d with rfl|d;·exact .inl rfl
  exact .inr d
 rintro k W y (⟨rfl,rfl⟩|⟨g,a,rfl,j⟩);·refine (t_ k W Z).mono ?_;rintro e t ⟨rfl,rfl⟩;exact⟨rfl,Jn _ _⟩
 refine (FG g l.length a k l W j rfl Z u).mono ?_;rintro e t ⟨rfl,b⟩;exact⟨by unfold mB;rw [zM,J2],b⟩
theorem Dk (v) (n:Nat) (o:n<=100000):Pq 75 81 v (λb=>v.ownBlock=some b) (n*5) (λW=>(v=C/\n=0)\/∃ g a d,v=Vl g n a/\W.heap[g]?=some (.cells d 102)/\n*5<=d.size)
  (λk W=>(v=C/\n=0)\/∃ g a d,v=Vl g n a/\W.heap[g]?=some (.cells d 102)/\∀ j,j<n*5->W.cell? ⟨g,j,none⟩=some (.int (kS j) ((k+j:Nat):Int))):=by
 refine⟨?_,?_,?_,?_,?_,?_⟩
 ·rintro W W' (h|⟨g,a,d,rfl,i,l⟩) f;·exact .inl h
  exact .inr ⟨g,a,d,rfl,(f g rfl).trans i,l⟩
 ·rintro k W W' (h|⟨g,a,d,rfl,i,l⟩) f;·exact .inl h
  refine .inr ⟨g,a,d,rfl,(f g rfl).trans i,λj p=>?_⟩;have:=l j p;unfold World.cell? at this ⊢;simp only [f g rfl];exact this
 ·rintro W (⟨rfl,h⟩|⟨g,a,d,rfl,i,l⟩) b f;·cases f
  cases f;exact ah i
 ·rintro k W (⟨rfl,h⟩|⟨g,a,d,rfl,i,l⟩) b f;·cases f
  cases f;exact ah i
 ·rintro k W r (⟨rfl,rfl⟩|⟨g,a,d,rfl,i,l⟩);·refine (uq k W Z).mono ?_;rintro e q ⟨rfl,rfl⟩;exact⟨rfl,.inl ⟨rfl,rfl⟩,Bt.refl _ _⟩
  refine (Fx g n a k W ⟨⟨d,i,l⟩,λj p=>Z,ao _ _⟩ o Z).mono ?_;rintro e q ⟨rfl,m⟩;obtain⟨c,s,_⟩:=m.typ;exact⟨rfl,.inr ⟨g,a,c,rfl,s,m.don⟩,(Bt.refl _ _).grown m.bt (λb f=>.inl f)⟩
 rintro k W r (⟨rfl,rfl⟩|⟨g,a,d,rfl,i,l⟩);·refine (uI k W Z).mono ?_;rintro e q ⟨rfl,rfl⟩;exact⟨rfl,Jn _ _⟩
 exact Ew g n a k W l o Z
theorem DD (v) (n:Nat) (o:n<=100000):Pq 77 83 v (λb=>v.ownBlock=some b) (n*5) (λW=>(v=C/\n=0)\/∃ g a d,v=Vl g n a/\W.heap[g]?=some (.cells d 109)/\n*5<=d.size)
  (λk W=>(v=C/\n=0)\/∃ g a d,v=Vl g n a/\W.heap[g]?=some (.cells d 109)/\∀ j,j<n*5->W.cell? ⟨g,j,none⟩=some (.int (kR j) ((k+j:Nat):Int))):=by
 refine⟨?_,?_,?_,?_,?_,?_⟩
 ·rintro W W' (h|⟨g,a,d,rfl,i,l⟩) f;·exact .inl h
  exact .inr ⟨g,a,d,rfl,(f g rfl).trans i,l⟩
 ·rintro k W W' (h|⟨g,a,d,rfl,i,l⟩) f;·exact .inl h
  refine .inr ⟨g,a,d,rfl,(f g rfl).trans i,λj p=>?_⟩;have:=l j p;unfold World.cell? at this ⊢;simp only [f g rfl];exact this
 ·rintro W (⟨rfl,h⟩|⟨g,a,d,rfl,i,l⟩) b f;·cases f
  cases f;exact ah i
 ·rintro k W (⟨rfl,h⟩|⟨g,a,d,rfl,i,l⟩) b f;·cases f
  cases f;exact ah i
 ·rintro k W r (⟨rfl,rfl⟩|⟨g,a,d,rfl,i,l⟩);·refine (uB k W Z).mono ?_;rintro e q ⟨rfl,rfl⟩;exact⟨rfl,.inl ⟨rfl,rfl⟩,Bt.refl _ _⟩
  refine (ER g n a k W ⟨⟨d,i,l⟩,λj p=>Z,ao _ _⟩ o Z).mono ?_;rintro e q ⟨rfl,m⟩;obtain⟨c,s,_⟩:=m.typ;exact⟨rfl,.inr ⟨g,a,c,rfl,s,m.don⟩,(Bt.refl _ _).grown m.bt (λb f=>.inl f)⟩
 rintro k W r (⟨rfl,rfl⟩|⟨g,a,d,rfl,i,l⟩);·refine (uP k W Z).mono ?_;rintro e q ⟨rfl,rfl⟩;exact⟨rfl,Jn _ _⟩
 exact FH g n a k W l o Z
end
section
open Go.RowKit Go.Maps Go.Shelf
attribute [local go_sem] Oper.semAt_some
theorem CW (l X q m:Nat) (hm:1<=m) (r:Option Addr) (s f:Nat) (b:List Nat) (a t:List Nat->World->Prop) (W:World)
  (u:∀ c (x:Nat) d,a c d->c.length<b.length->YieldAt Fence.wide (m-1) prog l #[U x] d λe W' =>
   (e=.returned (.bool true)/\a (c++[x]) W'/\Below q d W')\/(e=.returned (.bool false)/\t (c++[x]) W'))
  (B:W.cell? ⟨X,0,none⟩=some (.slice r b.length s)) (j:W.ownsRow f 22 1 (.slice r b.length s) b.length (Us b)) (d:∀ g,(Value.slice r b.length s).ownBlock=some g->g<q) (R:b.length<=1000) (o:a [] W) :
  CallsIn Fence.wide m prog 127 #[.func (.yield l) #[] #[],J X 0] W λe W'=>(∃ v,e=.returned v) /\
   ((∃ f,f=b/\a f W')\/(∃ c,c <+: b/\t c W')):=by
 obtain⟨n,c⟩:∃ n,b.length=n:=⟨_,rfl⟩;rw [c] at B j d R u;have S:=H u;have F:=H j;have T:=H d;have K:=H c;have V:=H o;clear u j d c o;refine callsIn_of_wp func127 rfl trivial ?_ rfl;simp only [ntmps127,JJ,JD,JO,Nat.reduceAdd,Nat.reduceSub,JI,JH,JM,KZ,JF,JP];gi_wp2
 gi_loopw [7] (λi wr=>∃ k:Nat,k<=n/\i=I k/\Hid (a (b.take k) wr)/\Hid (Below q W wr)) (λi _=>n-(intOf i).toNat)
 case atStart=>exact ⟨0,Jt _,rfl,V,H (Jn _ _)⟩
 case round =>
  clear B;obtain⟨k,hk,rfl,w,L⟩:=hrel;by_cases y:k<n
  ·obtain⟨G,rfl⟩:=cw F Z;obtain⟨x,c⟩:∃ x,b[k]?=some x:=⟨_,Jq (by rw [K.out];exact y)⟩;have ck:wr.cell? ⟨G,k,none⟩=some (U x):=(L.cell (p:=⟨G,k,none⟩) (T G rfl)).trans (be F k _ (oP c));obtain⟨fn,M,o,N,O,d⟩:=S.out (b.take k) x wr w (by rw [F9];omega);have P:=H (show b.take (k+1)=b.take k++[x] by rw [JK,c];rfl);have z:=H d;clear d c w;gi_wp2;refine z.mono ?_;rintro e Q (⟨rfl,d,j⟩|⟨rfl,c⟩)
   ·have A:=H (show a (b.take (k+1)) Q by rw [P.out];exact d);have Y:=H (L.trans j);clear d j O;gi_wp2;go_roundw;(case rel=>exact ⟨k+1,Z,aR,A,Y⟩);case measure=>simp [intOf];omega
   have A:=H (show t (b.take (k+1)) Q by rw [P.out];exact c);clear c O;gi_wp2;refine wA (KQ rfl _ _ _) rfl ?_;exact⟨⟨_,rfl⟩,.inr ⟨_,List.take_prefix _ _,A⟩⟩
  obtain rfl:n=k:=Z;have c:=H (show b.take n=b by rw [<-K.out,zM]);gi_wp2;go_end0;exact⟨⟨_,rfl⟩,.inl ⟨b,rfl,by rw [<-c.out];exact w⟩⟩
theorem lI (X:Nat) (r:Option Addr) (s i:Nat) (f:List Nat) (w:World) (b:w.heap[X]?=some (.cells #[.slice r f.length s] 33)) (a:w.ownsRow i 22 1 (.slice r f.length s) f.length (Us f)) (O:f.length<=1000) :
  CallsIn Fence.wide 5 prog 181 #[C,.func (.func 127) #[] #[J X 0]] w λe W'=>∃ v,e=.returned v/\W'.ownsRow w.heap.size 22 1 v f.length (Us f)/\D w W':=by
 obtain⟨P,Q,u,y,z⟩:=zr jB;have L:=H b;have R:=H a;have T:=H (show ∀ g,(Value.slice r f.length s).ownBlock=some g->g<w.heap.size from λg d=>by obtain ⟨_,c,A⟩:=aD a d;exact ah A);clear b a;refine callsIn_of_wp_marks func181 rfl trivial ?_ rfl;simp only [ntmps181,JJ,JD,JO,Nat.reduceAdd,Nat.reduceSub,JI,JH,JM,KZ,JF,JP];gi_wp2;have V:=Boxed.new w 33 (C);have j:D w (w.alloc (.cells #[C] 33)):=(Jn _ w).alloc (Jo _) _;refine wpIn_rangeFunc_ownG rfl Z (gf:=127) (lb:=#[J X 0]) rfl trivial (enters_of func127 E rfl)
  (encs:=λx:Nat=>#[U x]) (Kp:=Below w.heap.size) (S:=λM=>M=f) (Sp:=λb=>b <+: f) (N:=f.length) (w0:=w.alloc (.cells #[C] 33))
  (λl a k W d m m m n=>CW l X w.heap.size 4 Z r s i f a k W m ((d.cell (p:=⟨X,0,none⟩) (by have:=ah L.out;simp;omega)).trans (by rw [t6 _ _ _ _ _ _ (ae L.out j)];rfl)) (ay (ay R j) (d)) T O n)
  belowK_t (belowK_b bh) (Jn _ _) (λ_=>rfl)
  (λb W=>(∃ v,Boxed W w.heap.size 33 v/\W.ownsRow w.heap.size 22 1 v b.length (Us b)/\True)/\D w W)
  (λ_ _ _=>False)
  (OwnFrom.and (Own.from (holdsRow_own w.heap.size w.heap.size 33 22 1 (λb:List Nat=>b.length) (λb=>Us b) (λb v=>True)) _) (ownFrom_below (Jo _) bh))
  (λ_ _ _ _ _ a _ _=>a)
  ⟨⟨_,V,World.ownsRow_nil _ _ _ _,trivial⟩,j⟩
  (λx=>{ tmps:=#[C,.func (.func 127) #[] #[J X 0],J w.heap.size 0,undef,C,U x,.func (.func 127) #[] #[J X 0],U x,undef,undef,undef,undef,undef],defers:=[] }) ?assign ?body ?done ?stop
 case assign =>
  intro l x W K m;gi_wp2;exact m
 case body =>
  rintro l b x W ⟨⟨v,t,d,_⟩,n⟩ Y;have A:=t.cell;have a0:=n.size
  gi_wp2_with (gi_at_builtin;refine wpListIn_append_own _ rfl _ _ 33 rfl w.heap.size 22 P (U 0) 1 8 underlying33 Q u y z rfl al _ _ _ rfl (d.alloc _) ⟨W.heap.size,0,none⟩ 1 1 [U x] rfl rfl (cell_one_new _ _ _) nm (by unfold maxLen;omega) Z cd ?_;intro v' w1 a k _;obtain ⟨g',K,rfl⟩:=ownsRow_succ a;obtain ⟨o,B,F,G,q⟩:=t.appended al d n.size (Jo _) a k;have a1:=o.cell;have a2:=o.frozen)
  exact⟨G.from _,q,⟨_,B,by simpa [Us] using F,trivial⟩,n.trans q⟩
 case done =>
  rintro a M W k rfl ⟨⟨v,t,d,_⟩,n⟩ m;have A:=t.cell;gi_wp2;refine⟨bh,.inl ⟨_,_,rfl,run_takeDeferred m,?_⟩⟩;exact⟨_,results_tmp rfl _ _ _,v,rfl,ownsRow_putObj d _ m rfl,n.trans (belowK_b (w:=w) (Jo _) W a _ _ (by simp at k;omega) m rfl rfl)⟩
 case stop =>
  rintro a c b W _ _ h _;exact h.elim
end
end Go.Proofs.YtdfodlhkdmkfdaaGreatDoor
