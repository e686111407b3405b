import Derived.Deep.OwnRows
import Derived.Deep.RegionWith
import Derived.LoopIn
import Derived.LoopNIn
import Derived.OpenShut
import Derived.OrdersHeld
import Derived.OwnWalkIn
import Derived.ProofKit
import Derived.RangeFuncBound
import Derived.RangeFuncNested
import Derived.Shelf.Bits.Mul64
import Derived.Shelf.RegionOpen
import Derived.Test.YtgandbaejlfppaaGreatDoorProg
import Derived.WalkLawsBesides
namespace Go.Proofs.YtgandbaejlfppaaGreatDoor
abbrev Vi (x:Int):Value:=.int .i64 x
abbrev Vu (x:Int):Value:=.int .u64 x
abbrev Vp (g i:Nat):Value:=.pointer (some ⟨g,i,none⟩)
abbrev Vl (g n c:Nat):Value:=.slice (some ⟨g,0,none⟩) n c
abbrev Vn:Value:=.slice none 0 0
end Go.Proofs.YtgandbaejlfppaaGreatDoor
namespace Go.Proofs.YtgandbaejlfppaaGreatDoor
set_option linter.unusedVariables false
set_option linter.unusedSimpArgs false
set_option maxRecDepth 20000
set_option maxHeartbeats 8000000
open Go.ChangeShapes Go.WideShapes Go.ChangeAt Go.RowKit
theorem hid {p:Prop} (h:p):Hid p:=h
theorem ret_int {k:IntKind} {a b:Int} (h:a=b):Ending.returned (.int k a)=.returned (.int k b):=by rw [h]
theorem ret_bool {a b:Bool} (h:a=b):Ending.returned (.bool a)=.returned (.bool b):=by rw [h]
theorem int_cast {k:IntKind} {a b:Int} (h:a=b):Value.int k a=.int k b:=by rw [h]
def RowV (w:World) (g:Nat) (e:TypeId) (xs:List Value):Prop :=
 ∃ c:Array Value,w.heap[g]?=some (.cells c e (0,0))∧xs.length≤c.size∧∀ i,i < xs.length→c[i]?=xs[i]?
theorem RowV.lt {w:World} {g:Nat} {e:TypeId} {xs:List Value} (h:RowV w g e xs):g < w.heap.size:=by
 obtain⟨c,h1,_⟩:=h;exact lt_of_block h1
theorem RowV.cell {w:World} {g:Nat} {e:TypeId} {xs:List Value} (h:RowV w g e xs) (i:Nat) (hi:i < xs.length):w.cell? ⟨g,i,none⟩=xs[i]?:=by
 obtain⟨c,h1,_,h3⟩:=h;simp [World.cell?,h1,h3 i hi]
theorem RowV.free {w:World} {g:Nat} {e:TypeId} {xs:List Value} (h:RowV w g e xs) (i:Nat):w.frozen? ⟨g,i,none⟩=false:=by
 obtain⟨c,h1,_⟩:=h;simp [World.frozen?,h1]
theorem RowV.below {w w':World} {B g:Nat} {e:TypeId} {xs:List Value} (h:RowV w g e xs) (hb:Below B w w') (hg:g < B):RowV w' g e xs:=by
 obtain⟨c,h1,h2⟩:=h;exact⟨c,by rw [hb.block g hg];exact h1,h2⟩
theorem RowV.drew {w:World} {g:Nat} {e:TypeId} {xs:List Value} (h:RowV w g e xs):RowV w.drew g e xs:=h
theorem RowV.set {w:World} {g:Nat} {e:TypeId} {xs:List Value} (h:RowV w g e xs) (i:Nat) (hi:i < xs.length) (v:Value):RowV (w.setCell ⟨g,i,none⟩ v) g e (xs.set i v):=by
 obtain⟨c,h1,h2,h3⟩:=h;refine⟨c.setIfInBounds i v,?_,by simpa using h2,?_⟩
 ·simp [World.setCell,Array.getElem?_modify,h1]
 intro j hj;simp at hj;rw [Array.getElem?_setIfInBounds,List.getElem?_set]
 by_cases e:i=j
 ·subst e;simp [hi,show i < c.size by omega]
 simp [e,h3 j hj]
theorem RowV.other {w:World} {g:Nat} {e:TypeId} {xs:List Value} (h:RowV w g e xs) {p:Addr} (hp:g≠p.block) (v:Value):RowV (w.setCell p v) g e xs:=by
 obtain⟨c,h1,h2⟩:=h;exact⟨c,by rw [Below.heap_setCell _ _ _ _ hp];exact h1,h2⟩
theorem RowV.ofOwns {w:World} {g n cap base:Nat} {e:TypeId} {xs:List Value} (h:w.ownsRow base e 1 (Vl g n cap) n xs):RowV w g e xs:=by
 obtain⟨h1,h2⟩:=h
 rcases h2 with h2|⟨g',cap',cur,hv,hg,hh,h3,h4,h5,h6⟩
 ·simp at h2
 simp at hv;obtain⟨rfl,rfl⟩:=hv;subst h6;refine⟨cur,hh,by simp;omega,?_⟩;intro i hi;simp at hi;simp [List.getElem?_take];omega
def Ns (k:IntKind) (zs:List Int):List Value:=zs.map (Value.int k)
theorem Ns_len (k:IntKind) (zs:List Int):(Ns k zs).length=zs.length:=by simp [Ns]
theorem Ns_set (k:IntKind) (zs:List Int) (i:Nat) (v:Int):(Ns k zs).set i (.int k v)=Ns k (zs.set i v):=by simp [Ns,List.map_set]
theorem cell_n {k:IntKind} {w:World} {g:Nat} {e:TypeId} {zs:List Int} (h:RowV w g e (Ns k zs)) (i:Nat) (hi:i < zs.length):w.cell? ⟨g,i,none⟩=some (.int k (zs[i]?.getD 0)):=by
 rw [h.cell i (by simpa [Ns] using hi)];simp [Ns,hi]
theorem getD_some (zs:List Int) (k:Nat) (h:k < zs.length):zs[k]?=some (zs[k]?.getD 0):=by simp [h]
def IsRow (k:IntKind) (w:World) (a:Option Addr) (len cap:Nat) (zs:List Int):Prop :=
 (a=none∧len=0∧cap=0∧zs=[]) ∨
 ∃ x,a=some x∧len≤cap∧cap≤maxLen∧zs.length=cap∧(∀ i,i < zs.length→w.cell? (x.add i)=some (.int k (zs.getD i 0)))∧∀ n∈zs,(Lit.int k n).wf=true
theorem below_cell {w w':World} (hb:Below w.heap.size w w') {x:Addr} {v:Value} (h:w.cell? x=some v):w'.cell? x=some v:=by
 have hx:x.block < w.heap.size:=by
  unfold World.cell? at h
  split at h
  ·rename_i h1;exact lt_of_block h1
  cases h
 rw [hb.cell hx];exact h
theorem IsRow.below {k:IntKind} {w w':World} {a:Option Addr} {len cap:Nat} {zs:List Int} (h:IsRow k w a len cap zs) (hb:Below w.heap.size w w'):IsRow k w' a len cap zs:=by
 rcases h with h|⟨x,h1,h2,h3,h4,h5,h6⟩
 ·exact .inl h
 exact .inr ⟨x,h1,h2,h3,h4,fun i hi=>below_cell hb (h5 i hi),h6⟩
theorem bl_trans {a b c:World} (h1:Below a.heap.size a b) (h2:Below b.heap.size b c):Below a.heap.size a c:=h1.trans (h2.mono h1.size)
def Agree {α:Type} (ys zs:List α) (k:Nat):Prop:=ys.length=zs.length∧∀ j,j < k→ys[j]?=zs[j]?
theorem Agree.succ {α:Type} {ys zs:List α} {k:Nat} (h:Agree ys zs k) (hk:k < zs.length) (v:α) (hv:zs[k]?=some v):Agree (ys.set k v) zs (k+1):=by
 refine⟨by simp [h.1],fun j hj=>?_⟩;rw [List.getElem?_set]
 by_cases e:k=j
 ·subst e;simp [h.1,hk] at *;exact hv.symm
 rw [if_neg e];exact h.2 j (by omega)
theorem Agree.all {α:Type} {ys zs:List α} {k:Nat} (h:Agree ys zs k) (hk:zs.length≤k):ys=zs:=by
 apply List.ext_getElem?;intro j
 by_cases hj:j < k
 ·exact h.2 j hj
 rw [List.getElem?_eq_none (by have:=h.1;omega),List.getElem?_eq_none (by omega)]
theorem grown_refl (w:World) (g:Nat):w.grownBy w (some g):=⟨rfl,rfl,rfl,Nat.le_refl _,fun _ _ _=>rfl⟩
theorem grown_set {w w1:World} {g:Nat} (h:w.grownBy w1 (some g)) (i:Nat) (v:Value):w.grownBy (w1.setCell ⟨g,i,none⟩ v) (some g) :=
 ⟨h.os,h.tape,h.output,by simp [World.setCell];exact h.size,fun k hk hne=>by
  rw [Below.heap_setCell _ _ _ _ (by intro e;exact hne (by rw [e]))];exact h.block k hk hne⟩
theorem grown_drew {W W':World} {g:Option Nat} (h:W.grownBy W' g):W.grownBy W'.drew g:=⟨h.os,h.tape,h.output,h.size,h.block⟩
theorem below_grown {a w w':World} {g:Nat} (h:Below a.heap.size a w) (hg:w.grownBy w' (some g)) (hb:a.heap.size≤g):Below a.heap.size a w' :=
 h.grown hg h.size (fun k e=>by cases e;exact hb)
end Go.Proofs.YtgandbaejlfppaaGreatDoor
namespace Go.Proofs.YtgandbaejlfppaaGreatDoor
set_option linter.unusedVariables false
set_option linter.unusedSimpArgs false
set_option maxRecDepth 20000
set_option maxHeartbeats 8000000
open Go.RowKit Go.Shelf
theorem lt_blk {W:World} {R:Nat} {o:Obj} (h:W.heap[R]?=some o):R < W.heap.size:=by
  by_cases hl:R < W.heap.size
  · exact hl
  · have:W.heap[R]?=none:=Array.getElem?_eq_none (by omega)
    rw [this] at h;cases h
theorem wpOp_do {P:Program} {ops:Array Oper} {Q:Exit→Act→World→Prop} {i:Nat} {o:Oper} {K:Act→World→Prop} {a:Act} {w:World} (hi:ops[i]?=some o) (hw:Region.wanted o (yielded ops a.tmps)=true)
    (h:∀ K':Act→World→Prop,Hid (∀ a w,K a w→K' a w)→o.wp P a w K' Q):wpOp P ops Q i K a w:=by
  unfold wpOp;simp only [hi,hw,if_true];exact .inl (h K fun _ _ h=>h)
theorem wpAnyH_one {P:Program} {md:Region.Mode} {ops:Array Oper} {Q:Exit→Act→World→Prop} {S:World→Prop} {r fuel:Nat} {listed:Array Bool} {a:Act} {w:World} (hr:Region.ready md ops listed=[r])
    (h:wpOp P ops Q r (fun a' w'=>S w'∧wpAnyH P md ops Q S fuel (listed.setIfInBounds r true) a' w') a w):wpAnyH P md ops Q S (fuel+1) listed a w :=
  wpAnyH_all hr (by simp) (fun i hi=>by
    obtain rfl:i=r:=by simpa using hi
    exact h)
theorem wpAnyH_put {P:Program} {md:Region.Mode} {ops:Array Oper} {Q:Exit→Act→World→Prop} {S:World→Prop} {i d:Nat} {oi:Oper} {v:Value} {fuel:Nat} {listed:Array Bool} {a:Act} {w:World} (hi:ops[i]?=some oi) (hd:oi.dst=some d)
    (hs:Region.noSelect ops=true) (hf:Region.free md ops listed i=true) (hr:(Region.ready md ops listed).contains i=true)
    (hQ:∀ c a w,Q (.panic c) (a.put oi.dst v) w→Q (.panic c) a w) (hy:YieldsIf P ops S oi v a) (hS:S w)
    (h:wpAnyH P md ops Q S fuel (listed.setIfInBounds i true) { a with tmps:=a.tmps.setIfInBounds d v } w):wpAnyH P md ops Q S (fuel+1) listed a w :=
  wpAnyH_take hi hs hf hr hQ hy hS (by
    have e:a.put oi.dst v={ a with tmps:=a.tmps.setIfInBounds d v }:=by rw [hd];rfl
    rw [e];exact h)
theorem al_last (w:World) (o:Obj):(w.alloc o).heap[w.heap.size]?=some o:=(MapKept.heap_alloc w o).1
theorem al_old (w:World) (o:Obj) (k:Nat) (h:k < w.heap.size):(w.alloc o).heap[k]?=w.heap[k]?:=(MapKept.heap_alloc w o).2 k h
theorem al_size (w:World) (o:Obj):(w.alloc o).heap.size=w.heap.size+1:=by
  have e:(w.alloc o).heap=w.heap.push o:=rfl
  rw [e,Array.size_push]
theorem made_bytes (N:Nat):madeCells #[Value.int .u8 0] N=(Ns .u8 (List.replicate N 0)).toArray:=by
  apply Array.ext'
  simp [toList_madeCells_one,Ns]
end Go.Proofs.YtgandbaejlfppaaGreatDoor
namespace Go.Proofs.YtgandbaejlfppaaGreatDoor
set_option linter.unusedVariables false
set_option linter.unusedSimpArgs false
set_option maxRecDepth 20000
set_option maxHeartbeats 8000000
open Go.RowKit Go.Maps
theorem lz {α : Type} {l : List α} {i : Nat} {a : α} : l.toArray.setIfInBounds i a = (l.set i a).toArray := List.setIfInBounds_toArray ..
theorem l0 {α : Type} {a b : α} {l : List α} : (a :: l).set 0 b = b :: l := rfl
theorem ls {α : Type} {a b : α} {l : List α} {n : Nat} : (a :: l).set (n + 1) b = a :: l.set n b := rfl
theorem pk {P : Program} {md : Region.Mode} {ops : Array Oper} {Q : Exit → Act → World → Prop} {S : World → Prop} (i d : Nat) (v : Value) {oi : Oper} {fuel : Nat} {listed : Array Bool} {a : Act} {w : World} (hS : S w) (h : wpAnyH P md ops Q S fuel (listed.setIfInBounds i true) { a with tmps := a.tmps.setIfInBounds d v } w) (hi : ops[i]? = some oi := by rfl) (hd : oi.dst = some d := by kernel_rfl) (hs : Region.noSelect ops = true := by kernel_rfl) (hf : Region.free md ops listed i = true := by kernel_rfl) (hr : (Region.ready md ops listed).contains i = true := by kernel_rfl) (hQ : ∀ c a w, Q (.panic c) (a.put oi.dst v) w → Q (.panic c) a w := by exact fun _ _ _ h => h) (h1 : Region.wanted oi (yielded ops a.tmps) = true := by kernel_rfl) (h2 : ∀ W, S W → (execOp a.eval oi).run P W = .ok (.value v) W := by exact fun _ _ => by kernel_rfl) : wpAnyH P md ops Q S (fuel + 1) listed a w := wpAnyH_put hi hd hs hf hr hQ (.inl ⟨h1, h2⟩) hS h
theorem ps {P : Program} {md : Region.Mode} {ops : Array Oper} {Q : Exit → Act → World → Prop} {S : World → Prop} (i d : Nat) {oi : Oper} {fuel : Nat} {listed : Array Bool} {a : Act} {w : World} (hS : S w) (h : wpAnyH P md ops Q S fuel (listed.setIfInBounds i true) { a with tmps := a.tmps.setIfInBounds d undef } w) (hi : ops[i]? = some oi := by rfl) (hd : oi.dst = some d := by kernel_rfl) (hs : Region.noSelect ops = true := by kernel_rfl) (hf : Region.free md ops listed i = true := by kernel_rfl) (hr : (Region.ready md ops listed).contains i = true := by kernel_rfl) (hQ : ∀ c a w, Q (.panic c) (a.put oi.dst undef) w → Q (.panic c) a w := by exact fun _ _ _ h => h) (h1 : Region.wanted oi (yielded ops a.tmps) = false := by kernel_rfl) : wpAnyH P md ops Q S (fuel + 1) listed a w := wpAnyH_put hi hd hs hf hr hQ (.inr ⟨h1, rfl⟩) hS h
theorem pz {P : Program} {md : Region.Mode} {ops : Array Oper} {Q : Exit → Act → World → Prop} {S : World → Prop} (i d : Nat) (v : Value) {oi : Oper} {fuel : Nat} {listed : Array Bool} {a : Act} {w : World} (hS : S w) (h : wpAnyH P md ops Q S fuel (listed.setIfInBounds i true) { a with tmps := a.tmps.setIfInBounds d v } w) (hi : ops[i]? = some oi := by rfl) (hd : oi.dst = some d := by kernel_rfl) (hs : Region.noSelect ops = true := by kernel_rfl) (hf : Region.free md ops listed i = true := by kernel_rfl) (hr : (Region.ready md ops listed).contains i = true := by kernel_rfl) (hQ : ∀ c a w, Q (.panic c) (a.put oi.dst v) w → Q (.panic c) a w := by exact fun _ _ _ h => h) (h1 : Region.wanted oi (yielded ops a.tmps) = true := by kernel_rfl) (h2 : ∀ W, S W → (execOp a.eval oi).run P W = .ok (.value v) W := by intro _ h; (repeat obtain ⟨_, h⟩ := h); first | (go_simp; done) | (go_simp; omega)) : wpAnyH P md ops Q S (fuel + 1) listed a w := wpAnyH_put hi hd hs hf hr hQ (.inl ⟨h1, h2⟩) hS h
theorem pf {P : Program} {md : Region.Mode} {ops : Array Oper} {Q : Exit → Act → World → Prop} {S : World → Prop} (i d : Nat) (v : Value) {oi : Oper} {fuel : Nat} {listed : Array Bool} {a : Act} {w : World} (hi : ops[i]? = some oi) (hS : S w) (h2 : ∀ W, S W → (execOp a.eval oi).run P W = .ok (.value v) W) (h : wpAnyH P md ops Q S fuel (listed.setIfInBounds i true) { a with tmps := a.tmps.setIfInBounds d v } w) (hd : oi.dst = some d := by kernel_rfl) (hs : Region.noSelect ops = true := by kernel_rfl) (hf : Region.free md ops listed i = true := by kernel_rfl) (hr : (Region.ready md ops listed).contains i = true := by kernel_rfl) (hQ : ∀ c a w, Q (.panic c) (a.put oi.dst v) w → Q (.panic c) a w := by exact fun _ _ _ h => h) (h1 : Region.wanted oi (yielded ops a.tmps) = true := by kernel_rfl) : wpAnyH P md ops Q S (fuel + 1) listed a w := wpAnyH_put hi hd hs hf hr hQ (.inl ⟨h1, h2⟩) hS h
def fF (l : Array Bool) : Nat := l.toList.findIdx (fun b => !b)
theorem f0 {l : List Bool} : fF (false :: l).toArray = 0 := rfl
theorem f1 {l : List Bool} : fF (true :: l).toArray = fF l.toArray + 1 := by simp [fF, List.findIdx_cons]
theorem py {P : Program} {md : Region.Mode} {ops : Array Oper} {Q : Exit → Act → World → Prop} {S : World → Prop} {d : Nat} {v : Value} {oi : Oper} {fuel : Nat} {listed : Array Bool} {a : Act} {w : World} (hS : S w) (h : wpAnyH P md ops Q S fuel (listed.setIfInBounds (fF listed) true) { a with tmps := a.tmps.setIfInBounds d v } w) (hi : ops[fF listed]? = some oi := by simp only [f0, f1, Nat.reduceAdd, List.getElem?_toArray, List.getElem?_cons_succ, List.getElem?_cons_zero]; rfl) (hd : oi.dst = some d := by rfl) (h2 : YieldsIf P ops S oi v a := by first | exact .inr ⟨rfl, rfl⟩ | exact .inl ⟨by kernel_rfl, fun _ _ => rfl⟩ | (refine .inl ⟨by kernel_rfl, ?_⟩; intro _ h; (repeat obtain ⟨_, h⟩ := h); go_simp; (try rfl); done)) (hs : Region.noSelect ops = true := by kernel_rfl) (hf : Region.free md ops listed (fF listed) = true := by kernel_rfl) (hr : (Region.ready md ops listed).contains (fF listed) = true := by kernel_rfl) (hQ : ∀ c a w, Q (.panic c) (a.put oi.dst v) w → Q (.panic c) a w := by exact fun _ _ _ h => h) : wpAnyH P md ops Q S (fuel + 1) listed a w := wpAnyH_put hi hd hs hf hr hQ h2 hS h
theorem po {P : Program} {md : Region.Mode} {ops : Array Oper} {Q : Exit → Act → World → Prop} {S : World → Prop} (r : Nat) {o : Oper} {fuel : Nat} {listed : Array Bool} {a : Act} {w : World} (h : ∀ K' : Act → World → Prop, Hid (∀ a' w', (S w' ∧ wpAnyH P md ops Q S fuel (listed.setIfInBounds r true) a' w') → K' a' w') → o.wp P a w K' Q) (hi : ops[r]? = some o := by rfl) (hr : Region.ready md ops listed = [r] := by kernel_rfl) (hw : Region.wanted o (yielded ops a.tmps) = true := by kernel_rfl) : wpAnyH P md ops Q S (fuel + 1) listed a w := wpAnyH_one hr (wpOp_do hi hw h)
end Go.Proofs.YtgandbaejlfppaaGreatDoor
namespace Go.Proofs.YtgandbaejlfppaaGreatDoor
set_option linter.unusedVariables false
set_option linter.unusedSimpArgs false
set_option maxRecDepth 20000
set_option maxHeartbeats 8000000
open Go.ChangeShapes Go.WideShapes Go.ChangeAt Go.RowKit
theorem hidR {p:Prop} (h:p):Hid p:=h
def szs:List Int:=[16,32,48,64,96,128,192,256,384,512,768,1024]
def sz (c:Int):Int:=if 0≤c∧c < 12 then szs.getD c.toNat 0 else 0
def pg (c:Int):Int:=(4*sz c+1024 - 1)/1024
def sl (c:Int):Int:=if 0≤c∧c < 12 then pg c*1024/sz c else 0
def us (c:Int):Int:=if 0≤c∧c < 12 then sz c - 8 else 0
theorem isc_split {c:Int} (h:0≤c∧c < 12):c=0∨c=1∨c=2∨c=3∨c=4∨c=5∨c=6∨c=7∨c=8∨c=9∨c=10∨c=11:=by omega
theorem sz_in {c:Int} (h:0≤c∧c < 12):16≤sz c∧sz c≤1024:=by
 rcases isc_split h with rfl|rfl|rfl|rfl|rfl|rfl|rfl|rfl|rfl|rfl|rfl|rfl <;> decide
theorem sz_out {c:Int} (h:¬(0≤c∧c < 12)):sz c=0:=by simp only [sz,if_neg h]
theorem sz_le (c:Int):0≤sz c∧sz c≤1024:=by
 by_cases h:0≤c∧c < 12
 ·have:=sz_in h;omega
 rw [sz_out h];omega
theorem sz_nat {k:Nat} (h:k < 12):sz (k:Int)=szs.getD k 0:=by
 have h':(0:Int)≤(k:Int)∧(k:Int) < 12:=by omega
 simp only [sz,if_pos h',Int.toNat_natCast]
structure Tb (w:World):Prop where
 row:∃ t fr,w.heap[0]?=some (.cells (szs.map fun z=>Value.int .i64 z).toArray t fr)
theorem Tb.cells {w:World} (h:Tb w) (k:Nat) (hk:k < 12):w.cell? ⟨0,k,none⟩=some (Vi (szs.getD k 0)):=by
 obtain⟨t,fr,h⟩:=h.row;have hk':k < szs.length:=hk;simp [World.cell?,h,List.getElem?_eq_getElem hk']
theorem Tb.below {w w':World} (h:Tb w) (hb:Below w.heap.size w w'):Tb w':=by
 obtain⟨t,fr,h⟩:=h.row;have hl:0 < w.heap.size:=by
  by_cases hl:0 < w.heap.size
  ·exact hl
  have:w.heap[0]?=none:=Array.getElem?_eq_none (by omega);rw [this] at h;cases h
 exact⟨t,fr,by rw [hb.block 0 hl];exact h⟩
theorem bl_transR {a b c:World} (h1:Below a.heap.size a b) (h2:Below b.heap.size b c):Below a.heap.size a c:=h1.trans (h2.mono h1.size)
theorem im_isClass_yes (c:Int) (w:World) (h:0≤c∧c < 12) :
  Calls Tryz.prog 87 #[Vi c] w fun e w'=>e=.returned (.bool true)∧w'=w:=by
 obtain⟨h0,h1⟩:=h;go_enter Tryz.func87,Tryz.ntmps87;go_wp2;go_ret;exact⟨rfl,rfl⟩
theorem im_isClass_no (c:Int) (w:World) (h:¬(0≤c∧c < 12)) :
  Calls Tryz.prog 87 #[Vi c] w fun e w'=>e=.returned (.bool false)∧w'=w:=by
 by_cases h0:0≤c
 ·have h1:(decide (c < 12))=false:=decide_eq_false (by omega);clear h;go_enter Tryz.func87,Tryz.ntmps87;go_wp2;go_ret;exact⟨by rw [←h1];rfl,rfl⟩
 clear h;go_enter Tryz.func87,Tryz.ntmps87;go_wp2;go_ret;exact⟨rfl,rfl⟩
theorem im_SlotSize (c:Int) (w:World) (ht:Tb w) :
  Calls Tryz.prog 52 #[Vi c] w fun e w'=>e=.returned (Vi (sz c))∧w'=w:=by
 by_cases h:0≤c∧c < 12
 ·obtain⟨k,rfl⟩:=Int.eq_ofNat_of_zero_le h.1;have hk:k < 12:=by omega
  have hc:=ht.cells k hk;rw [sz_nat hk];have HI:=hidR (im_isClass_yes _ w h);clear ht;go_enter Tryz.func52,Tryz.ntmps52;go_wp2_with fail;refine (HI.out).mono ?_;rintro e w' ⟨rfl,rfl⟩;go_wp2;go_ret;exact⟨rfl,rfl⟩
 rw [sz_out h];have HI:=hidR (im_isClass_no _ w h);clear ht;go_enter Tryz.func52,Tryz.ntmps52;go_wp2_with fail;refine (HI.out).mono ?_;rintro e w' ⟨rfl,rfl⟩;go_wp2;go_ret;exact⟨rfl,rfl⟩
end Go.Proofs.YtgandbaejlfppaaGreatDoor
namespace Go.Proofs.YtgandbaejlfppaaGreatDoor.product
set_option linter.unusedVariables false
set_option linter.unusedSimpArgs false
set_option maxRecDepth 20000
set_option maxHeartbeats 8000000
open Go.ChangeShapes Go.WideShapes Go.ChangeAt Go.RowKit
theorem hide {p:Prop} (h:p):Hid p:=h
theorem mul64 (x y:Nat) (hx:x < 18446744073709551616) (hy:y < 18446744073709551616) (w:World) :
  Calls Tryz.prog 105 #[Vu x,Vu y] w fun e w'=>e=.returned (.tuple #[Vu ((x*y/18446744073709551616:Nat):Int),Vu ((x*y % 18446744073709551616:Nat):Int)])∧w'=w:=by
 obtain⟨bd,bt,bw,hhi⟩:=Lib.mul64_hi x y hx hy;have ba:=Lib.half_mul_le (a:=x/4294967296) (b:=y/4294967296) (by omega) (by omega);have bb:=Lib.half_mul_le (a:=x/4294967296) (b:=y % 4294967296) (by omega) (by omega);have bc:=Lib.half_mul_le (a:=x % 4294967296) (b:=y/4294967296) (by omega) (by omega);have ba':x/4294967296*(y/4294967296) < 18446744073709551616:=by omega
 have bb':x/4294967296*(y % 4294967296) < 18446744073709551616:=by omega
 have bc':x % 4294967296*(y/4294967296) < 18446744073709551616:=by omega
 have bh1:x/4294967296*(y/4294967296)+(x/4294967296*(y % 4294967296)+x % 4294967296*(y % 4294967296)/4294967296)/4294967296 < 18446744073709551616:=by omega
 have bh:x/4294967296*(y/4294967296)+(x/4294967296*(y % 4294967296)+x % 4294967296*(y % 4294967296)/4294967296)/4294967296+((x/4294967296*(y % 4294967296)+x % 4294967296*(y % 4294967296)/4294967296) % 4294967296+x % 4294967296*(y/4294967296))/4294967296 < 18446744073709551616:=by omega
 go_enter Tryz.func105,Tryz.ntmps105;go_wp2;simp only [Mul64.maskN x hx,Mul64.maskN y hy,Mul64.divN,Mul64.mulN,Mul64.addN,Mul64.wrapN _ bd,Mul64.wrapN _ bb',Mul64.wrapN _ bt,Mul64.maskN _ bt,Mul64.wrapN _ bc',Mul64.wrapN _ bw,Mul64.wrapN _ ba',Mul64.wrapN _ bh1,Mul64.wrapN _ bh,Mul64.wrapM (x*y)];rw [hhi]
 go_ret2
 exact⟨rfl,rfl⟩
theorem im_Product_no (x y:Nat) (hx:x < 18446744073709551616) (hy:y < 18446744073709551616) (h:18446744073709551616≤x*y) (w:World) :
  Calls Tryz.prog 64 #[Vu x,Vu y] w fun e w'=>e=.returned (.tuple #[Vu 0,.bool false])∧w'=w:=by
 have H:=hide (mul64 x y hx hy w);have h1:(((x*y/18446744073709551616:Nat):Int) != 0)=true:=by
  have:1≤x*y/18446744073709551616:=(Nat.le_div_iff_mul_le (by omega)).2 (by omega);simp;omega
 generalize x*y/18446744073709551616=q at H h1;generalize x*y % 18446744073709551616=r at H;clear h;go_enter Tryz.func64,Tryz.ntmps64;go_wp2_with fail;refine (H.out).mono ?_;rintro e w' ⟨rfl,rfl⟩;go_wp2
 go_ret2
 exact⟨rfl,rfl⟩
theorem im_Product_yes (x y:Nat) (hx:x < 18446744073709551616) (hy:y < 18446744073709551616) (h:x*y < 18446744073709551616) (w:World) :
  Calls Tryz.prog 64 #[Vu x,Vu y] w fun e w'=>e=.returned (.tuple #[Vu ((x*y:Nat):Int),.bool true])∧w'=w:=by
 have H:=hide (mul64 x y hx hy w);rw [Nat.div_eq_of_lt h,Nat.mod_eq_of_lt h] at H;generalize x*y=r at H h ⊢;go_enter Tryz.func64,Tryz.ntmps64;go_wp2_with fail;refine (H.out).mono ?_;rintro e w' ⟨rfl,rfl⟩;go_wp2
 go_ret2
 exact⟨rfl,rfl⟩
end Go.Proofs.YtgandbaejlfppaaGreatDoor.product
