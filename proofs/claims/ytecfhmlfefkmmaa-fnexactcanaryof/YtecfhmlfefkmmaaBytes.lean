import Derived.Test.YtecfhmlfefkmmaaBase
namespace Go.Proofs.Ytecfhmlfefkmmaa
open Go.ChangeShapes Go.WideShapes Go.ChangeAt Go.RowKit
set_option linter.unusedVariables false

theorem Try.info5By : (Try.prog.info? 5).map (fun i => (i.zero, i.size, i.bytes)) = some (some (.int .u8 0), 1, 1) := by kernel_rfl
/-- k0, k0 + 1, .. as the kind holds them -/
def rampBy (k0 len : Nat) : List Int := (List.range len).map fun j => ((k0 + j : Nat) : Int) % 256
theorem rampBy_len (k0 len : Nat) : (rampBy k0 len).length = len := by simp [rampBy]
theorem rampBy_get (k0 len j : Nat) (h : j < len) : (rampBy k0 len)[j]? = some (((k0 + j : Nat) : Int) % 256) := by simp [rampBy, h]
theorem slBy {w : World} {g : Nat} {zs : List Int} (h : RowV w g 5 (Ns .u8 zs)) {len : Nat} (hl : zs.length = len) : ∀ i, i < len → ∃ g', some (⟨g, 0, none⟩ : Addr) = some ⟨g', 0, none⟩ ∧ w.cell? ⟨g', i, none⟩ = some (.int .u8 (zs[i]?.getD 0)) :=
  fun i hi => ⟨g, rfl, cell_n h i (by omega)⟩

set_option maxHeartbeats 400000 in
theorem eqBy (a b : Option Addr) (len ca cb : Nat) (zs : List Int) (w : World) (hlen : len ≤ 1048576)
    (ha : ∀ i, i < len → ∃ g, a = some ⟨g, 0, none⟩ ∧ w.cell? ⟨g, i, none⟩ = some (.int .u8 (zs[i]?.getD 0)))
    (hb : ∀ i, i < len → ∃ g, b = some ⟨g, 0, none⟩ ∧ w.cell? ⟨g, i, none⟩ = some (.int .u8 (zs[i]?.getD 0))) :
    Calls Try.prog 6 #[.slice a len ca, .slice b len cb] w fun e w' => e = .returned (.bool true) ∧ Below w.heap.size w w' := by
  go_enter Try.func6, Try.ntmps6
  go_wp2
  go_loopw [5] (fun i wr => ∃ (k : Nat), k ≤ len ∧ i = .int .i64 k ∧ Below w.heap.size w wr) (fun i _ => len - (intOf i).toNat)
  case atStart => exact ⟨0, Nat.zero_le _, rfl, Below.refl _ _⟩
  case round =>
    obtain ⟨k, hk, rfl, hbel⟩ := hrel
    by_cases hlt : k < len
    · obtain ⟨ga, rfl, hca⟩ := ha k hlt
      obtain ⟨gb, rfl, hcb⟩ := hb k hlt
      have hca' := below_cell hbel hca
      have hcb' := below_cell hbel hcb
      have HB := hid hbel
      clear ha hb hca hcb hbel
      go_wp2
      go_region
      all_goals go_wp2
      go_roundw
      case rel => exact ⟨k + 1, by omega, by go_num, HB.out.drew⟩
      case measure => simp [intOf]; omega
    · go_wp2
      go_ret
      exact ⟨rfl, hbel⟩

set_option maxHeartbeats 400000 in
theorem markBy_nil (k0 : Nat) (w : World) (hk : k0 ≤ 1000000000000) :
    Calls Try.prog 7 #[.slice none 0 0, .int .i64 k0] w fun e w' => e = .returned (.int .i64 k0) ∧ w' = w := by
  go_enter Try.func7, Try.ntmps7
  go_wp2
  refine wp_loop_rounds 1 ?_
  rw [rounds_succ]
  go_wp2
  go_ret
  exact ⟨rfl, rfl⟩

set_option maxHeartbeats 400000 in
theorem heldBy_nil (k0 : Nat) (w : World) (hk : k0 ≤ 1000000000000) :
    Calls Try.prog 8 #[.slice none 0 0, .int .i64 k0] w fun e w' => e = .returned (.int .i64 k0) ∧ w' = w := by
  go_enter Try.func8, Try.ntmps8
  go_wp2
  refine wp_loop_rounds 1 ?_
  rw [rounds_succ]
  go_wp2
  go_ret
  exact ⟨rfl, rfl⟩

set_option maxHeartbeats 400000 in
theorem markBy (g len cap : Nat) (zs : List Int) (k0 : Nat) (w : World) (hl : zs.length = len) (hlen : len ≤ 1048576) (hk : k0 ≤ 1000000000000) (hr : RowV w g 5 (Ns .u8 zs)) :
    Calls Try.prog 7 #[.slice (some ⟨g, 0, none⟩) len cap, .int .i64 k0] w fun e w' => e = .returned (.int .i64 (k0 + len : Nat)) ∧ RowV w' g 5 (Ns .u8 (rampBy k0 len)) ∧ w.grownBy w' (some g) := by
  have HR := hid hr
  have HL := hid hl
  clear hr hl
  go_enter Try.func7, Try.ntmps7
  go_wp2
  go_loopw [1, 5] (fun v i wr => ∃ (j : Nat) (ys : List Int), j ≤ len ∧ i = .int .i64 j ∧ v = .int .i64 (k0 + j : Nat) ∧ Hid (Agree ys (rampBy k0 len) j) ∧ Hid (RowV wr g 5 (Ns .u8 ys)) ∧ Hid (w.grownBy wr (some g))) (fun _ i _ => len - (intOf i).toNat)
  case atStart => exact ⟨0, zs, Nat.zero_le _, rfl, rfl, Agree.zero (by rw [HL.out, rampBy_len]), HR.out, grown_refl w g⟩
  case round =>
    obtain ⟨j, ys, hj, rfl, rfl, hag, hrow, hgr⟩ := hrel
    by_cases hlt : j < len
    · have hyl : ys.length = len := by rw [hag.out.1, rampBy_len]
      have hcy := cell_n hrow.out j (by omega)
      have hfy := hrow.out.free j
      have R1 := hrow.out.set j (by rw [Ns_len]; omega) (.int .u8 (((k0 + j : Nat) : Int) % 256))
      rw [Ns_set] at R1
      have A1 := hag.out.succ (by rw [rampBy_len]; exact hlt) _ (rampBy_get k0 len j hlt)
      have HP := hid (And.intro R1 (And.intro A1 (grown_set hgr.out j (.int .u8 (((k0 + j : Nat) : Int) % 256)))))
      have hcv : IntKind.u8.wrap ((k0 : Int) + (j : Int)) = ((k0 + j : Nat) : Int) % 256 := by rw [IntKind.wrap_u8']; simp
      clear hyl R1 A1
      generalize ys[j]?.getD 0 = y at hcy
      go_wp2
      go_roundw
      case rel => exact ⟨j + 1, _, by omega, by go_num, by go_num, HP.out.2.1, by first | exact HP.out.1 | (have := HP.out.1; simpa using this), by first | exact HP.out.2.2 | (have := HP.out.2.2; simpa using this)⟩
      case measure => simp [intOf]; omega
    · have hjl : j = len := by omega
      subst hjl
      have HP := hid (And.intro (hag.out.all (by rw [rampBy_len]; exact Nat.le_refl _) ▸ hrow.out) hgr.out)
      go_wp2
      go_ret
      exact ⟨rfl, HP.out⟩

set_option maxHeartbeats 400000 in
theorem heldBy (g len cap : Nat) (k0 : Nat) (w : World) (hlen : len ≤ 1048576) (hk : k0 ≤ 1000000000000) (hr : RowV w g 5 (Ns .u8 (rampBy k0 len))) :
    Calls Try.prog 8 #[.slice (some ⟨g, 0, none⟩) len cap, .int .i64 k0] w fun e w' => e = .returned (.int .i64 (k0 + len : Nat)) ∧ w' = w := by
  have HR := hid hr
  clear hr
  go_enter Try.func8, Try.ntmps8
  go_wp2
  go_loop [1, 5] (fun v i => ∃ (j : Nat), j ≤ len ∧ i = .int .i64 j ∧ v = .int .i64 (k0 + j : Nat)) (fun _ i => len - (intOf i).toNat)
  case atStart => exact ⟨0, Nat.zero_le _, rfl, rfl⟩
  case round =>
    obtain ⟨j, hj, rfl, rfl⟩ := hrel
    by_cases hlt : j < len
    · have hcy := cell_n HR.out j (by rw [rampBy_len]; exact hlt)
      rw [rampBy_get k0 len j hlt] at hcy
      simp only [Option.getD_some] at hcy
      have hcv : IntKind.u8.wrap ((k0 : Int) + (j : Int)) = ((k0 + j : Nat) : Int) % 256 := by rw [IntKind.wrap_u8']; simp
      go_wp2
      go_round
      case rel => exact ⟨j + 1, by omega, by go_num, by go_num⟩
      case measure => simp [intOf]; omega
    · have hjl : j = len := by omega
      subst hjl
      go_wp2
      go_ret
      exact ⟨rfl, rfl⟩

end Go.Proofs.Ytecfhmlfefkmmaa
