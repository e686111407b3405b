import Derived.Test.YtnhkifinfnobfaaBase
namespace Go.Proofs.Ytnhkifinfnobfaa
open Go.ChangeShapes Go.WideShapes Go.ChangeAt Go.RowKit
set_option linter.unusedVariables false

theorem Try.info3In : (Try.prog.info? 3).map (fun i => (i.zero, i.size, i.bytes)) = some (some (.int .i64 0), 1, 8) := by kernel_rfl
/-- k0, k0 + 1, .. as the kind holds them -/
def rampIn (k0 len : Nat) : List Int := (List.range len).map fun j => ((k0 + j : Nat) : Int)
theorem rampIn_len (k0 len : Nat) : (rampIn k0 len).length = len := by simp [rampIn]
theorem rampIn_get (k0 len j : Nat) (h : j < len) : (rampIn k0 len)[j]? = some (((k0 + j : Nat) : Int)) := by simp [rampIn, h]
theorem slIn {w : World} {g : Nat} {zs : List Int} (h : RowV w g 3 (Ns .i64 zs)) {len : Nat} (hl : zs.length = len) : ∀ i, i < len → ∃ g', some (⟨g, 0, none⟩ : Addr) = some ⟨g', 0, none⟩ ∧ w.cell? ⟨g', i, none⟩ = some (.int .i64 (zs[i]?.getD 0)) :=
  fun i hi => ⟨g, rfl, cell_n h i (by omega)⟩

set_option maxHeartbeats 400000 in
theorem toIn_some (x : Addr) (len cap : Nat) (zs : List Int) (w : World) (hl : zs.length = len) (hlen : len ≤ 1048576)
    (hc : ∀ i, i < len → w.cell? (x.add i) = some (.int .i64 (zs[i]?.getD 0))) :
    Calls Try.prog 16 #[.slice (some x) len cap] w fun e w' => e = .returned (.slice (some ⟨w.heap.size, 0, none⟩) len len) ∧ RowV w' w.heap.size 3 (Ns .i64 zs) ∧ Below w.heap.size w w' := by
  obtain ⟨i0, hi, hz0, hz1, hz2⟩ := info_parts Try.info3In
  go_enter Try.func16, Try.ntmps16
  go_wp2_with (at_make; refine wpList_make_full _ rfl _ _ 23 rfl w.heap.size 3 i0 (.int .i64 0) 1 Try.underlying23 hi hz0 hz1 .i64 .i64 _ _ len rfl rfl rfl rfl ?c1 ?c2 ?c3 ?_)
  case c1 => rw [hz2]; omega
  case c2 => unfold maxLen; omega
  case c3 => exact Nat.le_refl _
  intro w1 hown hgrow
  have hR : RowV w1 w.heap.size 3 (Ns .i64 (List.replicate len 0)) := by
    have := RowV.ofOwns hown
    simpa [Ns, toList_madeCells_one, Value.cells] using this
  have hB : Below w.heap.size w w1 := (Below.refl _ w).grown hgrow (Nat.le_refl _) (by simp)
  clear hown hgrow
  go_wp2
  go_loopw [4] (fun i wr => ∃ (k : Nat) (ys : List Int), k ≤ len ∧ i = .int .i64 k ∧ Agree ys zs k ∧ RowV wr w.heap.size 3 (Ns .i64 ys) ∧ Below w.heap.size w wr) (fun i _ => len - (intOf i).toNat)
  case atStart => exact ⟨0, _, Nat.zero_le _, rfl, Agree.zero (by simp [hl]), hR, hB⟩
  case round =>
    obtain ⟨k, ys, hk, rfl, hag, hrow, hbel⟩ := hrel
    by_cases hlt : k < len
    · have hcx : wr.cell? (x.add k) = some (.int .i64 (zs[k]?.getD 0)) := below_cell hbel (hc k hlt)
      have hcy := cell_n hrow k (by rw [hag.1]; omega)
      have hfy := hrow.free k
      have R1 := hrow.set k (by rw [Ns_len, hag.1]; omega) (.int .i64 (zs[k]?.getD 0))
      rw [Ns_set] at R1
      have A1 := hag.succ (by omega) _ (getD_some zs k (by omega))
      have B1 := hbel.setCell (p := ⟨w.heap.size, k, none⟩) (Nat.le_refl _) (.int .i64 (zs[k]?.getD 0))
      have HR := hid (And.intro R1 (And.intro A1 B1))
      clear R1 A1 B1 hrow hbel hag hR hB hc
      generalize zs[k]?.getD 0 = z at *
      generalize ys[k]?.getD 0 = y at hcy
      go_wp2
      go_roundw
      case rel => exact ⟨k + 1, _, by omega, by go_num, HR.out.2.1, HR.out.1, HR.out.2.2⟩
      case measure => simp [intOf]; omega
    · have HR := hid (And.intro (hag.all (by omega) ▸ hrow) hbel)
      clear hrow hbel hag hR hB hc
      go_wp2
      go_ret
      exact ⟨rfl, HR.out⟩

set_option maxHeartbeats 400000 in
theorem toIn_none (w : World) :
    Calls Try.prog 16 #[.slice none 0 0] w fun e w' => e = .returned (.slice (some ⟨w.heap.size, 0, none⟩) 0 0) ∧ RowV w' w.heap.size 3 (Ns .i64 []) ∧ Below w.heap.size w w' := by
  obtain ⟨i0, hi, hz0, hz1, hz2⟩ := info_parts Try.info3In
  go_enter Try.func16, Try.ntmps16
  go_wp2_with (at_make; refine wpList_make_full _ rfl _ _ 23 rfl w.heap.size 3 i0 (.int .i64 0) 1 Try.underlying23 hi hz0 hz1 .i64 .i64 _ _ 0 rfl rfl rfl rfl ?c1 ?c2 ?c3 ?_)
  case c1 => omega
  case c2 => unfold maxLen; omega
  case c3 => exact Nat.le_refl _
  intro w1 hown hgrow
  have hR : RowV w1 w.heap.size 3 (Ns .i64 []) := by
    have := RowV.ofOwns hown
    simpa [Ns, toList_madeCells_one, Value.cells] using this
  have hB : Below w.heap.size w w1 := (Below.refl _ w).grown hgrow (Nat.le_refl _) (by simp)
  clear hown hgrow
  go_wp2
  refine wp_loop_rounds 1 ?_
  rw [rounds_succ]
  go_wp2
  go_ret
  exact ⟨rfl, hR, hB⟩

theorem toIn (a : Option Addr) (len cap : Nat) (zs : List Int) (w : World) (h : IsRow .i64 w a len cap zs) (hlen : len ≤ 1048576) :
    Calls Try.prog 16 #[.slice a len cap] w fun e w' => e = .returned (.slice (some ⟨w.heap.size, 0, none⟩) len len) ∧ RowV w' w.heap.size 3 (Ns .i64 (zs.take len)) ∧ Below w.heap.size w w' := by
  have hl := h.len
  rcases h with ⟨rfl, rfl, rfl, rfl⟩ | ⟨x, rfl, h2, h3, h4, h5, h6⟩
  · exact toIn_none w
  · refine toIn_some x len cap (zs.take len) w hl hlen fun i hi => ?_
    rw [h5 i (by omega)]
    simp [hi, List.getD_eq_getElem?_getD]

set_option maxHeartbeats 400000 in
theorem eqIn (a b : Option Addr) (len ca cb : Nat) (zs : List Int) (w : World) (hlen : len ≤ 1048576)
    (ha : ∀ i, i < len → ∃ g, a = some ⟨g, 0, none⟩ ∧ w.cell? ⟨g, i, none⟩ = some (.int .i64 (zs[i]?.getD 0)))
    (hb : ∀ i, i < len → ∃ g, b = some ⟨g, 0, none⟩ ∧ w.cell? ⟨g, i, none⟩ = some (.int .i64 (zs[i]?.getD 0))) :
    Calls Try.prog 17 #[.slice a len ca, .slice b len cb] w fun e w' => e = .returned (.bool true) ∧ Below w.heap.size w w' := by
  go_enter Try.func17, Try.ntmps17
  go_wp2
  go_loopw [5] (fun i wr => ∃ (k : Nat), k ≤ len ∧ i = .int .i64 k ∧ Below w.heap.size w wr) (fun i _ => len - (intOf i).toNat)
  case atStart => exact ⟨0, Nat.zero_le _, rfl, Below.refl _ _⟩
  case round =>
    obtain ⟨k, hk, rfl, hbel⟩ := hrel
    by_cases hlt : k < len
    · obtain ⟨ga, rfl, hca⟩ := ha k hlt
      obtain ⟨gb, rfl, hcb⟩ := hb k hlt
      have hca' := below_cell hbel hca
      have hcb' := below_cell hbel hcb
      have HB := hid hbel
      clear ha hb hca hcb hbel
      go_wp2
      go_region
      all_goals go_wp2
      go_roundw
      case rel => exact ⟨k + 1, by omega, by go_num, HB.out.drew⟩
      case measure => simp [intOf]; omega
    · go_wp2
      go_ret
      exact ⟨rfl, hbel⟩

set_option maxHeartbeats 400000 in
theorem markIn_nil (k0 : Nat) (w : World) (hk : k0 ≤ 1000000000000) :
    Calls Try.prog 18 #[.slice none 0 0, .int .i64 k0] w fun e w' => e = .returned (.int .i64 k0) ∧ w' = w := by
  go_enter Try.func18, Try.ntmps18
  go_wp2
  refine wp_loop_rounds 1 ?_
  rw [rounds_succ]
  go_wp2
  go_ret
  exact ⟨rfl, rfl⟩

set_option maxHeartbeats 400000 in
theorem heldIn_nil (k0 : Nat) (w : World) (hk : k0 ≤ 1000000000000) :
    Calls Try.prog 19 #[.slice none 0 0, .int .i64 k0] w fun e w' => e = .returned (.int .i64 k0) ∧ w' = w := by
  go_enter Try.func19, Try.ntmps19
  go_wp2
  refine wp_loop_rounds 1 ?_
  rw [rounds_succ]
  go_wp2
  go_ret
  exact ⟨rfl, rfl⟩

set_option maxHeartbeats 400000 in
theorem markIn (g len cap : Nat) (zs : List Int) (k0 : Nat) (w : World) (hl : zs.length = len) (hlen : len ≤ 1048576) (hk : k0 ≤ 1000000000000) (hr : RowV w g 3 (Ns .i64 zs)) :
    Calls Try.prog 18 #[.slice (some ⟨g, 0, none⟩) len cap, .int .i64 k0] w fun e w' => e = .returned (.int .i64 (k0 + len : Nat)) ∧ RowV w' g 3 (Ns .i64 (rampIn k0 len)) ∧ w.grownBy w' (some g) := by
  have HR := hid hr
  have HL := hid hl
  clear hr hl
  go_enter Try.func18, Try.ntmps18
  go_wp2
  go_loopw [1, 5] (fun v i wr => ∃ (j : Nat) (ys : List Int), j ≤ len ∧ i = .int .i64 j ∧ v = .int .i64 (k0 + j : Nat) ∧ Hid (Agree ys (rampIn k0 len) j) ∧ Hid (RowV wr g 3 (Ns .i64 ys)) ∧ Hid (w.grownBy wr (some g))) (fun _ i _ => len - (intOf i).toNat)
  case atStart => exact ⟨0, zs, Nat.zero_le _, rfl, rfl, Agree.zero (by rw [HL.out, rampIn_len]), HR.out, grown_refl w g⟩
  case round =>
    obtain ⟨j, ys, hj, rfl, rfl, hag, hrow, hgr⟩ := hrel
    by_cases hlt : j < len
    · have hyl : ys.length = len := by rw [hag.out.1, rampIn_len]
      have hcy := cell_n hrow.out j (by omega)
      have hfy := hrow.out.free j
      have R1 := hrow.out.set j (by rw [Ns_len]; omega) (.int .i64 (((k0 + j : Nat) : Int)))
      rw [Ns_set] at R1
      have A1 := hag.out.succ (by rw [rampIn_len]; exact hlt) _ (rampIn_get k0 len j hlt)
      have HP := hid (And.intro R1 (And.intro A1 (grown_set hgr.out j (.int .i64 (((k0 + j : Nat) : Int))))))
      clear hyl R1 A1
      generalize ys[j]?.getD 0 = y at hcy
      go_wp2
      go_roundw
      case rel => exact ⟨j + 1, _, by omega, by go_num, by go_num, HP.out.2.1, by first | exact HP.out.1 | (have := HP.out.1; simpa using this), by first | exact HP.out.2.2 | (have := HP.out.2.2; simpa using this)⟩
      case measure => simp [intOf]; omega
    · have hjl : j = len := by omega
      subst hjl
      have HP := hid (And.intro (hag.out.all (by rw [rampIn_len]; exact Nat.le_refl _) ▸ hrow.out) hgr.out)
      go_wp2
      go_ret
      exact ⟨rfl, HP.out⟩

set_option maxHeartbeats 400000 in
theorem heldIn (g len cap : Nat) (k0 : Nat) (w : World) (hlen : len ≤ 1048576) (hk : k0 ≤ 1000000000000) (hr : RowV w g 3 (Ns .i64 (rampIn k0 len))) :
    Calls Try.prog 19 #[.slice (some ⟨g, 0, none⟩) len cap, .int .i64 k0] w fun e w' => e = .returned (.int .i64 (k0 + len : Nat)) ∧ w' = w := by
  have HR := hid hr
  clear hr
  go_enter Try.func19, Try.ntmps19
  go_wp2
  go_loop [1, 5] (fun v i => ∃ (j : Nat), j ≤ len ∧ i = .int .i64 j ∧ v = .int .i64 (k0 + j : Nat)) (fun _ i => len - (intOf i).toNat)
  case atStart => exact ⟨0, Nat.zero_le _, rfl, rfl⟩
  case round =>
    obtain ⟨j, hj, rfl, rfl⟩ := hrel
    by_cases hlt : j < len
    · have hcy := cell_n HR.out j (by rw [rampIn_len]; exact hlt)
      rw [rampIn_get k0 len j hlt] at hcy
      simp only [Option.getD_some] at hcy
      go_wp2
      go_round
      case rel => exact ⟨j + 1, by omega, by go_num, by go_num⟩
      case measure => simp [intOf]; omega
    · have hjl : j = len := by omega
      subst hjl
      go_wp2
      go_ret
      exact ⟨rfl, rfl⟩

end Go.Proofs.Ytnhkifinfnobfaa
