import Derived.Test.YtnhkifinfnobfaaRows
import Derived.WalkKit
import Derived.ProofKit
import Derived.OpenShut
import Derived.WalkLawsBesides
import Derived.BigQuiet
import Derived.Deep.QuietTactic
namespace Go.Proofs.Ytnhkifinfnobfaa
open Go.ChangeShapes Go.WideShapes Go.ChangeAt Go.RowKit
set_option linter.unusedVariables false

theorem hid {p : Prop} (h : p) : Hid p := h
theorem ret_int {k : IntKind} {a b : Int} (h : a = b) : Ending.returned (.int k a) = .returned (.int k b) := by rw [h]
theorem ret_bool {a b : Bool} (h : a = b) : Ending.returned (.bool a) = .returned (.bool b) := by rw [h]
theorem int_cast {k : IntKind} {a b : Int} (h : a = b) : Value.int k a = .int k b := by rw [h]

/-- Block g is a row of cells of type e whose first cells are xs; no cell of it is frozen. -/
def RowV (w : World) (g : Nat) (e : TypeId) (xs : List Value) : Prop :=
  ∃ c : Array Value, w.heap[g]? = some (.cells c e (0, 0)) ∧ xs.length ≤ c.size ∧ ∀ i, i < xs.length → c[i]? = xs[i]?

theorem RowV.lt {w : World} {g : Nat} {e : TypeId} {xs : List Value} (h : RowV w g e xs) : g < w.heap.size := by
  obtain ⟨c, h1, _⟩ := h
  exact lt_of_block h1
theorem RowV.cell {w : World} {g : Nat} {e : TypeId} {xs : List Value} (h : RowV w g e xs) (i : Nat) (hi : i < xs.length) : w.cell? ⟨g, i, none⟩ = xs[i]? := by
  obtain ⟨c, h1, _, h3⟩ := h
  simp [World.cell?, h1, h3 i hi]
theorem RowV.free {w : World} {g : Nat} {e : TypeId} {xs : List Value} (h : RowV w g e xs) (i : Nat) : w.frozen? ⟨g, i, none⟩ = false := by
  obtain ⟨c, h1, _⟩ := h
  simp [World.frozen?, h1]
theorem RowV.below {w w' : World} {B g : Nat} {e : TypeId} {xs : List Value} (h : RowV w g e xs) (hb : Below B w w') (hg : g < B) : RowV w' g e xs := by
  obtain ⟨c, h1, h2⟩ := h
  exact ⟨c, by rw [hb.block g hg]; exact h1, h2⟩
theorem RowV.drew {w : World} {g : Nat} {e : TypeId} {xs : List Value} (h : RowV w g e xs) : RowV w.drew g e xs := h
theorem RowV.set {w : World} {g : Nat} {e : TypeId} {xs : List Value} (h : RowV w g e xs) (i : Nat) (hi : i < xs.length) (v : Value) : RowV (w.setCell ⟨g, i, none⟩ v) g e (xs.set i v) := by
  obtain ⟨c, h1, h2, h3⟩ := h
  refine ⟨c.setIfInBounds i v, ?_, by simpa using h2, ?_⟩
  · simp [World.setCell, Array.getElem?_modify, h1]
  · intro j hj
    simp at hj
    rw [Array.getElem?_setIfInBounds, List.getElem?_set]
    by_cases e : i = j
    · subst e; simp [hi, show i < c.size by omega]
    · simp [e, h3 j hj]
theorem RowV.other {w : World} {g : Nat} {e : TypeId} {xs : List Value} (h : RowV w g e xs) {p : Addr} (hp : g ≠ p.block) (v : Value) : RowV (w.setCell p v) g e xs := by
  obtain ⟨c, h1, h2⟩ := h
  exact ⟨c, by rw [Below.heap_setCell _ _ _ _ hp]; exact h1, h2⟩
theorem RowV.grown {w w' : World} {g g' : Nat} {e : TypeId} {xs : List Value} (h : RowV w g e xs) (hg : w.grownBy w' (some g')) (hne : g ≠ g') : RowV w' g e xs := by
  obtain ⟨c, h1, h2⟩ := h
  exact ⟨c, by rw [hg.block g (lt_of_block h1) (by simpa using hne)]; exact h1, h2⟩
theorem RowV.ofOwns {w : World} {g n cap base : Nat} {e : TypeId} {xs : List Value} (h : w.ownsRow base e 1 (.slice (some ⟨g, 0, none⟩) n cap) n xs) : RowV w g e xs := by
  obtain ⟨h1, h2⟩ := h
  rcases h2 with h2 | ⟨g', cap', cur, hv, hg, hh, h3, h4, h5, h6⟩
  · simp at h2
  · simp at hv
    obtain ⟨rfl, rfl⟩ := hv
    subst h6
    refine ⟨cur, hh, by simp; omega, ?_⟩
    intro i hi
    simp at hi
    simp [List.getElem?_take]; omega

/-- numbers as values -/
def Ns (k : IntKind) (zs : List Int) : List Value := zs.map (Value.int k)
theorem Ns_len (k : IntKind) (zs : List Int) : (Ns k zs).length = zs.length := by simp [Ns]
theorem Ns_set (k : IntKind) (zs : List Int) (i : Nat) (v : Int) : (Ns k zs).set i (.int k v) = Ns k (zs.set i v) := by simp [Ns, List.map_set]
theorem cell_n {k : IntKind} {w : World} {g : Nat} {e : TypeId} {zs : List Int} (h : RowV w g e (Ns k zs)) (i : Nat) (hi : i < zs.length) : w.cell? ⟨g, i, none⟩ = some (.int k (zs[i]?.getD 0)) := by
  rw [h.cell i (by simpa [Ns] using hi)]
  simp [Ns, hi]
theorem getD_some (zs : List Int) (k : Nat) (h : k < zs.length) : zs[k]? = some (zs[k]?.getD 0) := by simp [h]

/-- what the skeleton's walk is told of a slice of integers that came in -/
def IsRow (k : IntKind) (w : World) (a : Option Addr) (len cap : Nat) (zs : List Int) : Prop :=
  (a = none ∧ len = 0 ∧ cap = 0 ∧ zs = []) ∨
  ∃ x, a = some x ∧ len ≤ cap ∧ cap ≤ maxLen ∧ zs.length = cap ∧ (∀ i, i < zs.length → w.cell? (x.add i) = some (.int k (zs.getD i 0))) ∧ ∀ n ∈ zs, (Lit.int k n).wf = true
theorem below_cell {w w' : World} (hb : Below w.heap.size w w') {x : Addr} {v : Value} (h : w.cell? x = some v) : w'.cell? x = some v := by
  have hx : x.block < w.heap.size := by
    unfold World.cell? at h
    split at h
    · rename_i h1; exact lt_of_block h1
    · cases h
  rw [hb.cell hx]; exact h
theorem IsRow.below {k : IntKind} {w w' : World} {a : Option Addr} {len cap : Nat} {zs : List Int} (h : IsRow k w a len cap zs) (hb : Below w.heap.size w w') : IsRow k w' a len cap zs := by
  rcases h with h | ⟨x, h1, h2, h3, h4, h5, h6⟩
  · exact .inl h
  · exact .inr ⟨x, h1, h2, h3, h4, fun i hi => below_cell hb (h5 i hi), h6⟩
theorem IsRow.len {k : IntKind} {w : World} {a : Option Addr} {len cap : Nat} {zs : List Int} (h : IsRow k w a len cap zs) : (zs.take len).length = len := by
  rcases h with ⟨_, rfl, _, rfl⟩ | ⟨x, h1, h2, h3, h4, h5, h6⟩
  · simp
  · simp; omega
theorem bl_trans {a b c : World} (h1 : Below a.heap.size a b) (h2 : Below b.heap.size b c) : Below a.heap.size a c := h1.trans (h2.mono h1.size)

/-- ys agrees with zs in the first k places -/
def Agree {α : Type} (ys zs : List α) (k : Nat) : Prop := ys.length = zs.length ∧ ∀ j, j < k → ys[j]? = zs[j]?
theorem Agree.zero {α : Type} {ys zs : List α} (h : ys.length = zs.length) : Agree ys zs 0 := ⟨h, fun j hj => by omega⟩
theorem Agree.succ {α : Type} {ys zs : List α} {k : Nat} (h : Agree ys zs k) (hk : k < zs.length) (v : α) (hv : zs[k]? = some v) : Agree (ys.set k v) zs (k + 1) := by
  refine ⟨by simp [h.1], fun j hj => ?_⟩
  rw [List.getElem?_set]
  by_cases e : k = j
  · subst e; simp [h.1, hk] at *; exact hv.symm
  · rw [if_neg e]; exact h.2 j (by omega)
theorem Agree.all {α : Type} {ys zs : List α} {k : Nat} (h : Agree ys zs k) (hk : zs.length ≤ k) : ys = zs := by
  apply List.ext_getElem?
  intro j
  by_cases hj : j < k
  · exact h.2 j hj
  · rw [List.getElem?_eq_none (by have := h.1; omega), List.getElem?_eq_none (by omega)]

theorem grown_refl (w : World) (g : Nat) : w.grownBy w (some g) := ⟨rfl, rfl, rfl, Nat.le_refl _, fun _ _ _ => rfl⟩
theorem grown_set {w w1 : World} {g : Nat} (h : w.grownBy w1 (some g)) (i : Nat) (v : Value) : w.grownBy (w1.setCell ⟨g, i, none⟩ v) (some g) :=
  ⟨h.os, h.tape, h.output, by simp [World.setCell]; exact h.size, fun k hk hne => by
    rw [Below.heap_setCell _ _ _ _ (by intro e; exact hne (by rw [e]))]; exact h.block k hk hne⟩
theorem grown_drew {W W' : World} {g : Option Nat} (h : W.grownBy W' g) : W.grownBy W'.drew g := ⟨h.os, h.tape, h.output, h.size, h.block⟩
theorem below_grown {a w w' : World} {g : Nat} (h : Below a.heap.size a w) (hg : w.grownBy w' (some g)) (hb : a.heap.size ≤ g) : Below a.heap.size a w' :=
  h.grown hg h.size (fun k e => by cases e; exact hb)
end Go.Proofs.Ytnhkifinfnobfaa
