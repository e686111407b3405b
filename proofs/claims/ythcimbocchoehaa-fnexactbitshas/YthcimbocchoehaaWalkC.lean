import Derived.Test.YthcimbocchoehaaWalkB

namespace Go.Proofs.Ythcimbocchoehaa
open Go.ChangeShapes Go.WideShapes Go.ChangeAt Go.RowKit
set_option linter.unusedVariables false

theorem hid {p : Prop} (h : p) : Hid p := h

/-- the bitmap as a list of truth values -/
def bitsOf (zs : List Int) (n : Nat) : List Bool := (List.range n).map (bitAt zs)
theorem bitsOf_len (zs : List Int) (n : Nat) : (bitsOf zs n).length = n := by simp [bitsOf]
theorem bitsOf_get (zs : List Int) (n k : Nat) (h : k < n) : (bitsOf zs n)[k]? = some (bitAt zs k) := by simp [bitsOf, h]

set_option maxHeartbeats 400000 in
theorem list_out (a : Option Addr) (len cap : Nat) (n : Int) (w : World) (h : n < 0 ∨ 4096 < n) :
    Calls Try.prog 29 #[.slice a len cap, .int .i64 n] w fun e w' => e = .returned (.tuple #[.slice none 0 0, .bool false]) ∧ Below w.heap.size w w' := by
  rcases h with h | h
  · go_enter Try.func29, Try.ntmps29
    go_wp2
    go_ret2
    exact ⟨rfl, Below.refl _ _⟩
  · have h' : ¬ n < 0 := by omega
    go_enter Try.func29, Try.ntmps29
    go_wp2
    go_ret2
    exact ⟨rfl, Below.refl _ _⟩

set_option maxHeartbeats 400000 in
theorem list_len (a : Option Addr) (len cap : Nat) (n : Nat) (w : World) (h : n ≤ 4096) (hl : len ≠ (n + 63) / 64) :
    Calls Try.prog 29 #[.slice a len cap, .int .i64 n] w fun e w' => e = .returned (.tuple #[.slice none 0 0, .bool false]) ∧ Below w.heap.size w w' := by
  have h1 : ((len : Int) != ((n : Int) + 63) / 64) = true := by simp; omega
  clear hl
  go_enter Try.func29, Try.ntmps29
  go_wp2
  go_ret2
  exact ⟨rfl, Below.refl _ _⟩

theorem bad_of (zs : List Int) (n k : Nat) (hn : n ≤ 4096) (hl : zs.length = (n + 63) / 64) (h1 : n ≤ k) (h2 : k < 64 * zs.length) (hb : bitAt zs k = true) : goodB zs n = false := by
  cases h : goodB zs n
  · rfl
  · rw [goodB_iff zs n hn hl] at h
    rw [h k h1 h2] at hb; cases hb

set_option maxHeartbeats 1000000 in
theorem list_in (g len cap : Nat) (zs : List Int) (n : Nat) (w : World) (h : n ≤ 4096) (hl : zs.length = len) (hln : len = (n + 63) / 64) (hw : Wf zs) (hr : RowV w g 45 (U zs)) :
    Calls Try.prog 29 #[.slice (some ⟨g, 0, none⟩) len cap, .int .i64 n] w fun e w' =>
      (goodB zs n = true ∧ e = .returned (.tuple #[.slice (some ⟨w.heap.size, 0, none⟩) n n, .bool true]) ∧ RowV w' w.heap.size 4 (Bo (bitsOf zs n)) ∧ Below w.heap.size w w') ∨
      (goodB zs n = false ∧ e = .returned (.tuple #[.slice none 0 0, .bool false]) ∧ Below w.heap.size w w') := by
  obtain ⟨i0, hi, hz0, hz1, hz2⟩ := info_parts Try.info4
  have h1 : ((len : Int) != ((n : Int) + 63) / 64) = false := by simp; omega
  have h3 : len ≤ 64 := by omega
  have HL : Hid (len = (n + 63) / 64) := hln
  have HZ : Hid (zs.length = len) := hl
  have HX : Hid (RowV w g 45 (U zs)) := hr
  clear hln hl hr
  go_enter Try.func29, Try.ntmps29
  go_wp2_with (at_make; refine wpList_make_full _ rfl _ _ 48 rfl w.heap.size 4 i0 (.bool false) 1 Try.underlying48 hi hz0 hz1 .i64 .i64 _ _ n rfl rfl rfl rfl ?c1 ?c2 ?c3 ?_)
  case c1 => rw [hz2]; omega
  case c2 => unfold maxLen; omega
  case c3 => exact Nat.le_refl _
  intro w1 hown hgrow
  have hR : RowV w1 w.heap.size 4 (Bo (List.replicate n false)) := by
    have := RowV.ofOwns hown
    simpa [Bo, toList_madeCells_one, Value.cells] using this
  have hB : Below w.heap.size w w1 := (Below.refl _ w).grown hgrow (Nat.le_refl _) (by simp)
  clear hown hgrow
  go_wp2
  go_loopw [7, 8] (fun i _ wr => ∃ (k : Nat) (ys : List Bool), k ≤ 64 * len ∧ i = .int .i64 k ∧ Agree ys (bitsOf zs n) k ∧ (∀ j, n ≤ j → j < k → bitAt zs j = false) ∧ RowV wr w.heap.size 4 (Bo ys) ∧ Below w.heap.size w wr) (fun i _ _ => 64 * len - (intOf i).toNat)
  case atStart => exact ⟨0, _, Nat.zero_le _, rfl, Agree.zero (by simp [bitsOf_len]), fun j h1 h2 => by omega, hR, hB⟩
  case round =>
    obtain ⟨k, ys, hk, rfl, hag, hoff, hrow, hbel⟩ := hrel
    have hzl := HZ.out
    have hln := HL.out
    by_cases hlt : k < 64 * len
    · have hcx := cell_u (HX.out.below hbel HX.out.lt) (k / 64) (by omega)
      have hbit := wbit_eq (zs[k / 64]?.getD 0) (k % 64) (hw _).1 (hw _).2
      have HW : Hid (wbit (zs[k / 64]?.getD 0) (k % 64) = bitAt zs k) := (rfl : _ = _)
      generalize zs[k / 64]?.getD 0 = z at hcx hbit HW
      clear hR hB
      by_cases hkn : k < n
      · have hfy := hrow.free k
        have hcy := cell_b hrow k (by rw [hag.1, bitsOf_len]; omega)
        generalize ys[k]?.getD false = y0 at hcy
        have R1 := hrow.set k (by rw [Bo_len, hag.1, bitsOf_len]; omega) (.bool (wbit z (k % 64)))
        rw [Bo_set] at R1
        have A1 := hag.succ (by rw [bitsOf_len]; omega) (wbit z (k % 64)) (by rw [HW.out]; exact bitsOf_get zs n k hkn)
        have B1 := hbel.setCell (p := ⟨w.heap.size, k, none⟩) (Nat.le_refl _) (.bool (wbit z (k % 64)))
        have HR := hid (And.intro R1 (And.intro A1 B1))
        clear R1 A1 B1 hrow hbel hag hoff hzl hln
        go_wp2
        go_roundw
        case rel => exact ⟨k + 1, _, by omega, by go_num, HR.out.2.1, fun j h1 h2 => by omega, HR.out.1, HR.out.2.2⟩
        case measure => simp [intOf]; omega
      · have HR := hid (And.intro hrow (And.intro hag (And.intro hbel hoff)))
        clear hrow hag hbel hoff hzl hln
        cases hb : wbit z (k % 64)
        · go_wp2
          go_roundw
          case rel => exact ⟨k + 1, ys, by omega, by go_num, ⟨HR.out.2.1.1, fun j hj => by
            by_cases e : j = k
            · subst e; rw [List.getElem?_eq_none (by rw [HR.out.2.1.1, bitsOf_len]; omega), List.getElem?_eq_none (by rw [bitsOf_len]; omega)]
            · exact HR.out.2.1.2 j (by omega)⟩, fun j h1 h2 => by
            by_cases e : j = k
            · subst e; rw [← HW.out]; exact hb
            · exact HR.out.2.2.2 j h1 (by omega), HR.out.1, HR.out.2.2.1⟩
          case measure => simp [intOf]; omega
        · go_wp2
          go_ret2
          exact .inr ⟨bad_of zs n k h (by rw [HZ.out, HL.out]) (by omega) (by rw [HZ.out]; exact hlt) (by rw [← HW.out]; exact hb), rfl, HR.out.2.2.1⟩
    · have HR : Hid (_ ∧ _ ∧ _) := ⟨hag.all (by rw [bitsOf_len]; omega) ▸ hrow, hbel, (goodB_iff zs n h (by omega)).2 fun j h1 h2 => hoff j h1 (by omega)⟩
      clear hrow hbel hag hoff hR hB hzl hln
      go_wp2
      go_ret2
      exact .inl ⟨HR.out.2.2, rfl, HR.out.1, HR.out.2.1⟩
end Go.Proofs.Ythcimbocchoehaa
