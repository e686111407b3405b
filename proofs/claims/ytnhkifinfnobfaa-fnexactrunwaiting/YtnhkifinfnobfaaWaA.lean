import Derived.Test.YtnhkifinfnobfaaInts
namespace Go.Proofs.Ytnhkifinfnobfaa
open Go.ChangeShapes Go.WideShapes Go.ChangeAt Go.RowKit
set_option linter.unusedVariables false

theorem mem_take_succ {zs : List Int} {j : Nat} (h : j < zs.length) {x : Int} (hx : x ∈ zs.take (j + 1)) : x ∈ zs.take j ∨ x = zs[j]?.getD 0 := by
  rw [List.take_add_one] at hx
  rw [List.mem_append] at hx
  rcases hx with hx | hx
  · exact .inl hx
  · right
    simp [h] at hx ⊢
    exact hx

set_option maxHeartbeats 400000 in
theorem min_in (g len cap : Nat) (zs : List Int) (w : World) (hl : zs.length = len) (h0 : 0 < len) (hlen : len ≤ 1048576) (hr : RowV w g 3 (Ns .i64 zs)) :
    Calls Try.prog 30 #[.slice (some ⟨g, 0, none⟩) len cap] w fun e w' => (∃ m, e = .returned (.int .i64 m) ∧ m ∈ zs ∧ ∀ x, x ∈ zs → m ≤ x) ∧ Below w.heap.size w w' := by
  have HR := hid hr
  have HL := hid hl
  have c0 := cell_n hr 0 (by omega)
  have HM := hid (show zs[0]?.getD 0 ∈ zs ∧ ∀ x, x ∈ zs.take 1 → zs[0]?.getD 0 ≤ x by
    cases zs with
    | nil => simp at hl; omega
    | cons a r => simp)
  clear hr hl
  go_enter Try.func30, Try.ntmps30
  go_wp2
  go_loopw [3, 4] (fun v i wr => ∃ (j : Nat) (m : Int), 1 ≤ j ∧ j ≤ len ∧ i = .int .i64 j ∧ v = .int .i64 m ∧ Hid (m ∈ zs ∧ ∀ x, x ∈ zs.take j → m ≤ x) ∧ Hid (Below w.heap.size w wr)) (fun _ i _ => len - (intOf i).toNat)
  case atStart => exact ⟨1, _, Nat.le_refl _, by omega, rfl, rfl, HM, Below.refl _ _⟩
  case round =>
    obtain ⟨j, m, hj0, hj, rfl, rfl, hm, hb⟩ := hrel
    by_cases hlt : j < len
    · have c1 := below_cell hb.out (cell_n HR.out j (by rw [HL.out]; exact hlt))
      have HX := hid (show zs[j]?.getD 0 ∈ zs ∧ (∀ y, y ∈ zs.take (j + 1) → y ∈ zs.take j ∨ y = zs[j]?.getD 0) by
        have : j < zs.length := by rw [HL.out]; exact hlt
        refine ⟨by simp [this], fun y hy => mem_take_succ this hy⟩)
      generalize zs[j]?.getD 0 = x at c1 HX
      go_wp2
      go_roundw
      case rel =>
        refine ⟨j + 1, _, by omega, by omega, by go_num, rfl, ?_, hb⟩
        by_cases hxm : x < m
        · rw [if_pos hxm]
          refine ⟨HX.out.1, fun y hy => ?_⟩
          rcases HX.out.2 y hy with h | h
          · have := hm.out.2 y h; omega
          · omega
        · rw [if_neg hxm]
          refine ⟨hm.out.1, fun y hy => ?_⟩
          rcases HX.out.2 y hy with h | h
          · exact hm.out.2 y h
          · omega
      case measure => simp [intOf]; omega
    · have hje : j = len := by omega
      go_wp2
      go_ret
      refine ⟨⟨_, rfl, hm.out.1, fun x hx => hm.out.2 x ?_⟩, hb.out⟩
      rw [hje, ← HL.out, List.take_length]
      exact hx

/-- a slice of whole numbers as the program hands it about: none at all, or a row from its first cell on -/
def Sl (w : World) (a : Option Addr) (zs : List Int) : Prop := (a = none ∧ zs = []) ∨ ∃ g, a = some ⟨g, 0, none⟩ ∧ RowV w g 3 (Ns .i64 zs)
theorem Sl.cells {w : World} {a : Option Addr} {zs : List Int} (h : Sl w a zs) : ∀ i, i < zs.length → ∃ g, a = some ⟨g, 0, none⟩ ∧ w.cell? ⟨g, i, none⟩ = some (.int .i64 (zs[i]?.getD 0)) := by
  intro i hi
  rcases h with ⟨_, rfl⟩ | ⟨g, rfl, hr⟩
  · simp at hi
  · exact ⟨g, rfl, cell_n hr i hi⟩
theorem Sl.below {w w' : World} {a : Option Addr} {zs : List Int} (h : Sl w a zs) (hb : Below w.heap.size w w') : Sl w' a zs := by
  rcases h with h | ⟨g, e, hr⟩
  · exact .inl h
  · exact .inr ⟨g, e, hr.below hb hr.lt⟩
/-- none of them is below l -/
def nb (l : Int) (zs : List Int) : Bool := zs.all fun x => decide (l ≤ x)

set_option maxHeartbeats 400000 in
theorem noneBelow (a : Option Addr) (len cap : Nat) (zs : List Int) (l : Int) (w : World) (hl : zs.length = len) (hlen : len ≤ 1048576) (hr : Sl w a zs) :
    Calls Try.prog 21 #[.slice a len cap, .int .i64 l] w fun e w' => e = .returned (.bool (nb l zs)) ∧ Below w.heap.size w w' := by
  by_cases h0 : len = 0
  · have : zs = [] := List.length_eq_zero_iff.1 (by omega)
    subst h0; subst this
    clear hl
    go_enter Try.func21, Try.ntmps21
    go_wp2
    go_ret
    exact ⟨rfl, Below.refl _ _⟩
  · obtain ⟨g, rfl, hg⟩ : ∃ g, a = some ⟨g, 0, none⟩ ∧ RowV w g 3 (Ns .i64 zs) := by
      rcases hr with ⟨_, rfl⟩ | h
      · simp at hl; omega
      · exact h
    have M := hid (min_in g len cap zs w hl (by omega) hlen hg)
    have h0' : ((len : Int) == 0) = false := by simp; omega
    clear hr hg hl
    go_enter Try.func21, Try.ntmps21
    go_wp2_with fail
    refine (M.out).mono ?_
    rintro e w1 ⟨⟨m, rfl, hm⟩, b1⟩
    have HM := hid hm
    have HB := hid b1
    clear hm b1
    go_wp2
    go_ret
    refine ⟨ret_bool ?_, HB.out⟩
    unfold nb
    obtain ⟨m1, m2⟩ := HM.out
    by_cases hml : l ≤ m
    · have : (zs.all fun x => decide (l ≤ x)) = true := by
        rw [List.all_eq_true]
        intro x hx
        have := m2 x hx
        simp; omega
      rw [this]; simp [hml]
    · have : (zs.all fun x => decide (l ≤ x)) = false := by
        rw [List.all_eq_false]
        exact ⟨m, m1, by simpa using hml⟩
      rw [this]; simp; omega

/-- a draw, modulo -/
def md (d : Int) (m : Nat) : Nat := (d % (m : Int)).toNat
theorem md_lt (d : Int) (m : Nat) (h : 0 < m) : md d m < m := by
  unfold md
  have h1 := Int.emod_nonneg d (b := (m : Int)) (by omega)
  have h2 := Int.emod_lt_of_pos d (b := (m : Int)) (by omega)
  omega
theorem md_spec (d : Int) (m : Nat) (h : 0 < m) : (md d m : Int) = if d.tmod m < 0 then d.tmod m + m else d.tmod m := by
  unfold md
  have h1 := Int.emod_nonneg d (b := (m : Int)) (by omega)
  rw [Int.toNat_of_nonneg h1]
  have h3 := Int.tmod_eq_emod (a := d) (b := (m : Int))
  have h4 := Int.emod_lt_of_pos d (b := (m : Int)) (by omega)
  have e : ((Int.natAbs (m : Int) : Nat) : Int) = m := by omega
  by_cases hc : 0 ≤ d ∨ (m : Int) ∣ d
  · rw [if_pos hc] at h3
    rw [if_neg (by omega)]
    omega
  · rw [if_neg hc] at h3
    rw [h3, e]
    rw [if_pos (by omega)]
    omega
theorem tmod_bounds (d : Int) (m : Nat) (h : 0 < m) : -(m : Int) ≤ d.tmod m ∧ d.tmod m < m := by
  have h1 := md_spec d m h
  have h2 := md_lt d m h
  split at h1 <;> rename_i hc
  · omega
  · omega
end Go.Proofs.Ytnhkifinfnobfaa
