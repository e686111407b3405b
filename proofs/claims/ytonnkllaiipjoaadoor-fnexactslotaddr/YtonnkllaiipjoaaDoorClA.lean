import Derived.Test.YtonnkllaiipjoaaDoorRows
import Derived.WalkKit
import Derived.ProofKit
import Derived.OpenShut
import Derived.WalkLawsBesides
import Derived.Below
namespace Go.Proofs.YtonnkllaiipjoaaDoor
open Go.ChangeShapes Go.WideShapes Go.ChangeAt Go.RowKit
set_option linter.unusedVariables false

theorem hid {p : Prop} (h : p) : Hid p := h

def szs : List Int := [16, 32, 48, 64, 96, 128, 192, 256, 384, 512, 768, 1024]
/-- a class's slots' size; 0 where there is none -/
def sz (c : Int) : Int := if 0 ≤ c ∧ c < 12 then szs.getD c.toNat 0 else 0
def pg (c : Int) : Int := (4 * sz c + 1024 - 1) / 1024
def sl (c : Int) : Int := if 0 ≤ c ∧ c < 12 then pg c * 1024 / sz c else 0
def us (c : Int) : Int := if 0 ≤ c ∧ c < 12 then sz c - 8 else 0

theorem isc_split {c : Int} (h : 0 ≤ c ∧ c < 12) : c = 0 ∨ c = 1 ∨ c = 2 ∨ c = 3 ∨ c = 4 ∨ c = 5 ∨ c = 6 ∨ c = 7 ∨ c = 8 ∨ c = 9 ∨ c = 10 ∨ c = 11 := by omega

theorem sz_in {c : Int} (h : 0 ≤ c ∧ c < 12) : 16 ≤ sz c ∧ sz c ≤ 1024 := by
  rcases isc_split h with rfl | rfl | rfl | rfl | rfl | rfl | rfl | rfl | rfl | rfl | rfl | rfl <;> decide
theorem sz_out {c : Int} (h : ¬ (0 ≤ c ∧ c < 12)) : sz c = 0 := by simp only [sz, if_neg h]
theorem sz_le (c : Int) : 0 ≤ sz c ∧ sz c ≤ 1024 := by
  by_cases h : 0 ≤ c ∧ c < 12
  · have := sz_in h; omega
  · rw [sz_out h]; omega
theorem sz_nat {k : Nat} (h : k < 12) : sz (k : Int) = szs.getD k 0 := by
  have h' : (0 : Int) ≤ (k : Int) ∧ (k : Int) < 12 := by omega
  simp only [sz, if_pos h', Int.toNat_natCast]

/-- the table of sizes lies in the package's variable -/
structure Tb (w : World) : Prop where
  row : ∃ t fr, w.heap[0]? = some (.cells (szs.map fun z => Value.int .i64 z).toArray t fr)

theorem Tb.cells {w : World} (h : Tb w) (k : Nat) (hk : k < 12) : w.cell? ⟨0, k, none⟩ = some (.int .i64 (szs.getD k 0)) := by
  obtain ⟨t, fr, h⟩ := h.row
  have hk' : k < szs.length := hk
  simp [World.cell?, h, List.getElem?_eq_getElem hk']

theorem below_cell {w w' : World} (hb : Below w.heap.size w w') {x : Addr} {v : Value} (h : w.cell? x = some v) : w'.cell? x = some v := by
  have hl : x.block < w.heap.size := by
    by_cases hl : x.block < w.heap.size
    · exact hl
    · have : w.heap[x.block]? = none := by simp; omega
      simp [World.cell?, this] at h
  unfold World.cell? at h ⊢
  rw [hb.block _ hl]
  exact h

theorem Tb.below {w w' : World} (h : Tb w) (hb : Below w.heap.size w w') : Tb w' := by
  obtain ⟨t, fr, h⟩ := h.row
  have hl : 0 < w.heap.size := by
    by_cases hl : 0 < w.heap.size
    · exact hl
    · have : w.heap[0]? = none := Array.getElem?_eq_none (by omega)
      rw [this] at h; cases h
  exact ⟨t, fr, by rw [hb.block 0 hl]; exact h⟩
theorem bl_trans {a b c : World} (h1 : Below a.heap.size a b) (h2 : Below b.heap.size b c) : Below a.heap.size a c := h1.trans (h2.mono h1.size)

theorem im_isClass_yes (c : Int) (w : World) (h : 0 ≤ c ∧ c < 12) :
    Calls Tryd.prog 33 #[.int .i64 c] w fun e w' => e = .returned (.bool true) ∧ w' = w := by
  obtain ⟨h0, h1⟩ := h
  go_enter Tryd.func33, Tryd.ntmps33
  go_wp2
  go_ret
  exact ⟨rfl, rfl⟩

theorem im_isClass_no (c : Int) (w : World) (h : ¬ (0 ≤ c ∧ c < 12)) :
    Calls Tryd.prog 33 #[.int .i64 c] w fun e w' => e = .returned (.bool false) ∧ w' = w := by
  by_cases h0 : 0 ≤ c
  · have h1 : (decide (c < 12)) = false := decide_eq_false (by omega)
    clear h
    go_enter Tryd.func33, Tryd.ntmps33
    go_wp2
    go_ret
    exact ⟨by rw [← h1]; rfl, rfl⟩
  · clear h
    go_enter Tryd.func33, Tryd.ntmps33
    go_wp2
    go_ret
    exact ⟨rfl, rfl⟩

set_option maxHeartbeats 400000 in
theorem im_SlotSize (c : Int) (w : World) (ht : Tb w) :
    Calls Tryd.prog 13 #[.int .i64 c] w fun e w' => e = .returned (.int .i64 (sz c)) ∧ w' = w := by
  by_cases h : 0 ≤ c ∧ c < 12
  · obtain ⟨k, rfl⟩ := Int.eq_ofNat_of_zero_le h.1
    have hk : k < 12 := by omega
    have hc := ht.cells k hk
    rw [sz_nat hk]
    have HI := hid (im_isClass_yes _ w h)
    clear ht
    go_enter Tryd.func13, Tryd.ntmps13
    go_wp2_with fail
    refine (HI.out).mono ?_
    rintro e w' ⟨rfl, rfl⟩
    go_wp2
    go_ret
    exact ⟨rfl, rfl⟩
  · rw [sz_out h]
    have HI := hid (im_isClass_no _ w h)
    clear ht
    go_enter Tryd.func13, Tryd.ntmps13
    go_wp2_with fail
    refine (HI.out).mono ?_
    rintro e w' ⟨rfl, rfl⟩
    go_wp2
    go_ret
    exact ⟨rfl, rfl⟩
end Go.Proofs.YtonnkllaiipjoaaDoor
