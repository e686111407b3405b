import Derived.WalkKit
import Derived.ProofKit
import Derived.OpenShut
import Derived.WalkLawsBesides
import Derived.BigQuiet
import Derived.Deep.QuietTactic
namespace Go.Proofs.Ythcimbocchoehaa
open Go.ChangeShapes Go.WideShapes Go.ChangeAt Go.RowKit

theorem ret_int {k : IntKind} {a b : Int} (h : a = b) : Ending.returned (.int k a) = .returned (.int k b) := by rw [h]
theorem ret_bool {a b : Bool} (h : a = b) : Ending.returned (.bool a) = .returned (.bool b) := by rw [h]

/-- Block g is a row of cells of type e whose first cells are xs; no cell of it is frozen. -/
def RowV (w : World) (g : Nat) (e : TypeId) (xs : List Value) : Prop :=
  ∃ c : Array Value, w.heap[g]? = some (.cells c e (0, 0)) ∧ xs.length ≤ c.size ∧ ∀ i, i < xs.length → c[i]? = xs[i]?

theorem RowV.lt {w : World} {g : Nat} {e : TypeId} {xs : List Value} (h : RowV w g e xs) : g < w.heap.size := by
  obtain ⟨c, h1, _⟩ := h
  exact lt_of_block h1

theorem RowV.cell {w : World} {g : Nat} {e : TypeId} {xs : List Value} (h : RowV w g e xs) (i : Nat) (hi : i < xs.length) : w.cell? ⟨g, i, none⟩ = xs[i]? := by
  obtain ⟨c, h1, _, h3⟩ := h
  simp [World.cell?, h1, h3 i hi]

theorem RowV.free {w : World} {g : Nat} {e : TypeId} {xs : List Value} (h : RowV w g e xs) (i : Nat) : w.frozen? ⟨g, i, none⟩ = false := by
  obtain ⟨c, h1, _⟩ := h
  simp [World.frozen?, h1]

theorem RowV.below {w w' : World} {B g : Nat} {e : TypeId} {xs : List Value} (h : RowV w g e xs) (hb : Below B w w') (hg : g < B) : RowV w' g e xs := by
  obtain ⟨c, h1, h2⟩ := h
  exact ⟨c, by rw [hb.block g hg]; exact h1, h2⟩

theorem RowV.drew {w : World} {g : Nat} {e : TypeId} {xs : List Value} (h : RowV w g e xs) : RowV w.drew g e xs := h

theorem RowV.set {w : World} {g : Nat} {e : TypeId} {xs : List Value} (h : RowV w g e xs) (i : Nat) (hi : i < xs.length) (v : Value) : RowV (w.setCell ⟨g, i, none⟩ v) g e (xs.set i v) := by
  obtain ⟨c, h1, h2, h3⟩ := h
  refine ⟨c.setIfInBounds i v, ?_, by simpa using h2, ?_⟩
  · simp [World.setCell, Array.getElem?_modify, h1]
  · intro j hj
    simp at hj
    rw [Array.getElem?_setIfInBounds, List.getElem?_set]
    by_cases e : i = j
    · subst e; simp [hi, show i < c.size by omega]
    · simp [e, h3 j hj]

theorem RowV.ofOwns {w : World} {g n cap base : Nat} {e : TypeId} {xs : List Value} (h : w.ownsRow base e 1 (.slice (some ⟨g, 0, none⟩) n cap) n xs) : RowV w g e xs := by
  obtain ⟨h1, h2⟩ := h
  rcases h2 with h2 | ⟨g', cap', cur, hv, hg, hh, h3, h4, h5, h6⟩
  · simp at h2
  · simp at hv
    obtain ⟨rfl, rfl⟩ := hv
    subst h6
    refine ⟨cur, hh, by simp; omega, ?_⟩
    intro i hi
    simp at hi
    simp [List.getElem?_take]; omega

theorem RowV.prefiz {w : World} {g : Nat} {e : TypeId} {xs ys : List Value} (h : RowV w g e (xs ++ ys)) : RowV w g e xs := by
  obtain ⟨c, h1, h2, h3⟩ := h
  refine ⟨c, h1, by simp at h2; omega, ?_⟩
  intro i hi
  rw [h3 i (by simp; omega), List.getElem?_append_left hi]

/-- the words of a bitmap as values -/
def U (zs : List Int) : List Value := zs.map (Value.int .u64)
def Bo (bs : List Bool) : List Value := bs.map Value.bool

theorem U_len (zs : List Int) : (U zs).length = zs.length := by simp [U]
theorem Bo_len (zs : List Bool) : (Bo zs).length = zs.length := by simp [Bo]

theorem cell_u {w : World} {g : Nat} {zs : List Int} (h : RowV w g 45 (U zs)) (i : Nat) (hi : i < zs.length) : w.cell? ⟨g, i, none⟩ = some (.int .u64 (zs[i]?.getD 0)) := by
  rw [h.cell i (by simpa [U] using hi)]
  simp [U, hi]

theorem cell_b {w : World} {g : Nat} {zs : List Bool} (h : RowV w g 4 (Bo zs)) (i : Nat) (hi : i < zs.length) : w.cell? ⟨g, i, none⟩ = some (.bool (zs[i]?.getD false)) := by
  rw [h.cell i (by simpa [Bo] using hi)]
  simp [Bo, hi]

theorem U_set (zs : List Int) (i : Nat) (v : Int) : (U zs).set i (.int .u64 v) = U (zs.set i v) := by simp [U, List.map_set]
theorem Bo_set (zs : List Bool) (i : Nat) (v : Bool) : (Bo zs).set i (.bool v) = Bo (zs.set i v) := by simp [Bo, List.map_set]

/-- every word is one -/
def Wf (zs : List Int) : Prop := ∀ i : Nat, 0 ≤ zs[i]?.getD 0 ∧ zs[i]?.getD 0 ≤ 18446744073709551615

/-- WHAT THE WALK IS TOLD OF A SLICE OF INTEGERS THAT CAME IN: it is nil; or it leads to a row of 'cap' cells, the numbers 'zs' (the first 'len' are its elements, the rest its spare room), each fitting its kind. -/
def IsRow (k : IntKind) (w : World) (a : Option Addr) (len cap : Nat) (zs : List Int) : Prop :=
  (a = none ∧ len = 0 ∧ cap = 0 ∧ zs = []) ∨
  ∃ x, a = some x ∧ len ≤ cap ∧ cap ≤ maxLen ∧ zs.length = cap ∧ (∀ i, i < zs.length → w.cell? (x.add i) = some (.int k (zs.getD i 0))) ∧ ∀ n ∈ zs, (Lit.int k n).wf = true

theorem below_cell {w w' : World} (hb : Below w.heap.size w w') {x : Addr} {v : Value} (h : w.cell? x = some v) : w'.cell? x = some v := by
  have hx : x.block < w.heap.size := by
    unfold World.cell? at h
    split at h
    · rename_i h1; exact lt_of_block h1
    · cases h
  rw [hb.cell hx]; exact h

theorem IsRow.below {k : IntKind} {w w' : World} {a : Option Addr} {len cap : Nat} {zs : List Int} (h : IsRow k w a len cap zs) (hb : Below w.heap.size w w') : IsRow k w' a len cap zs := by
  rcases h with h | ⟨x, h1, h2, h3, h4, h5, h6⟩
  · exact .inl h
  · exact .inr ⟨x, h1, h2, h3, h4, fun i hi => below_cell hb (h5 i hi), h6⟩

theorem IsRow.wf {w : World} {a : Option Addr} {len cap : Nat} {zs : List Int} (h : IsRow .u64 w a len cap zs) : Wf (zs.take len) := by
  intro i
  rcases h with ⟨_, _, _, rfl⟩ | ⟨x, h1, h2, h3, h4, h5, h6⟩
  · simp
  · have := range_u64 (zs := zs.take len) (fun n hn => h6 n (List.mem_of_mem_take hn)) i
    exact this

theorem IsRow.len {k : IntKind} {w : World} {a : Option Addr} {len cap : Nat} {zs : List Int} (h : IsRow k w a len cap zs) : (zs.take len).length = len := by
  rcases h with ⟨_, rfl, _, rfl⟩ | ⟨x, h1, h2, h3, h4, h5, h6⟩
  · simp
  · simp; omega

/-- a slice of the call's making: nothing old turned -/
theorem bl_trans {a b c : World} (h1 : Below a.heap.size a b) (h2 : Below b.heap.size b c) : Below a.heap.size a c := h1.trans (h2.mono h1.size)

end Go.Proofs.Ythcimbocchoehaa
