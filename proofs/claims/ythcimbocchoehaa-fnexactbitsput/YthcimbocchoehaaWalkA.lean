import Derived.Test.YthcimbocchoehaaRows
import Derived.Test.YthcimbocchoehaaRow
namespace Go.Proofs.Ythcimbocchoehaa
open Go.ChangeShapes Go.WideShapes Go.ChangeAt Go.RowKit

theorem Try.info45 : (Try.prog.info? 45).map (fun i => (i.zero, i.size, i.bytes)) = some (some (.int .u64 0), 1, 8) := by kernel_rfl
theorem Try.info4 : (Try.prog.info? 4).map (fun i => (i.zero, i.size, i.bytes)) = some (some (.bool false), 1, 1) := by kernel_rfl

/-- ys agrees with zs in the first k places -/
def Agree {α : Type} (ys zs : List α) (k : Nat) : Prop := ys.length = zs.length ∧ ∀ j, j < k → ys[j]? = zs[j]?
theorem Agree.zero {α : Type} {ys zs : List α} (h : ys.length = zs.length) : Agree ys zs 0 := ⟨h, fun j hj => by omega⟩
theorem Agree.succ {α : Type} {ys zs : List α} {k : Nat} (h : Agree ys zs k) (hk : k < zs.length) (v : α) (hv : zs[k]? = some v) : Agree (ys.set k v) zs (k + 1) := by
  refine ⟨by simp [h.1], fun j hj => ?_⟩
  rw [List.getElem?_set]
  by_cases e : k = j
  · subst e; simp [h.1, hk] at *; exact hv.symm
  · rw [if_neg e]; exact h.2 j (by omega)
theorem Agree.all {α : Type} {ys zs : List α} {k : Nat} (h : Agree ys zs k) (hk : zs.length ≤ k) : ys = zs := by
  apply List.ext_getElem?
  intro j
  by_cases hj : j < k
  · exact h.2 j hj
  · rw [List.getElem?_eq_none (by have := h.1; omega), List.getElem?_eq_none (by omega)]

theorem getD_some (zs : List Int) (k : Nat) (h : k < zs.length) : zs[k]? = some (zs[k]?.getD 0) := by simp [h]

set_option maxHeartbeats 400000 in
theorem to_some (x : Addr) (len cap : Nat) (zs : List Int) (w : World) (hl : zs.length = len) (hlen : len ≤ 1048576)
    (hc : ∀ i, i < len → w.cell? (x.add i) = some (.int .u64 (zs[i]?.getD 0))) :
    Calls Try.prog 18 #[.slice (some x) len cap] w fun e w' => e = .returned (.slice (some ⟨w.heap.size, 0, none⟩) len len) ∧ RowV w' w.heap.size 45 (U zs) ∧ Below w.heap.size w w' := by
  obtain ⟨i0, hi, hz0, hz1, hz2⟩ := info_parts Try.info45
  go_enter Try.func18, Try.ntmps18
  go_wp2_with (at_make; refine wpList_make_full _ rfl _ _ 23 rfl w.heap.size 45 i0 (.int .u64 0) 1 Try.underlying23 hi hz0 hz1 .i64 .i64 _ _ len rfl rfl rfl rfl ?c1 ?c2 ?c3 ?_)
  case c1 => rw [hz2]; omega
  case c2 => unfold maxLen; omega
  case c3 => exact Nat.le_refl _
  intro w1 hown hgrow
  have hR : RowV w1 w.heap.size 45 (U (List.replicate len 0)) := by
    have := RowV.ofOwns hown
    simpa [U, toList_madeCells_one, Value.cells] using this
  have hB : Below w.heap.size w w1 := (Below.refl _ w).grown hgrow (Nat.le_refl _) (by simp)
  clear hown hgrow
  go_wp2
  go_loopw [4] (fun i wr => ∃ (k : Nat) (ys : List Int), k ≤ len ∧ i = .int .i64 k ∧ Agree ys zs k ∧ RowV wr w.heap.size 45 (U ys) ∧ Below w.heap.size w wr) (fun i _ => len - (intOf i).toNat)
  case atStart => exact ⟨0, _, Nat.zero_le _, rfl, Agree.zero (by simp [hl]), hR, hB⟩
  case round =>
    obtain ⟨k, ys, hk, rfl, hag, hrow, hbel⟩ := hrel
    by_cases hlt : k < len
    · have hcx : wr.cell? (x.add k) = some (.int .u64 (zs[k]?.getD 0)) := below_cell hbel (hc k hlt)
      have hcy := cell_u hrow k (by rw [hag.1]; omega)
      have hfy := hrow.free k
      have R1 := hrow.set k (by rw [U_len, hag.1]; omega) (.int .u64 (zs[k]?.getD 0))
      rw [U_set] at R1
      have A1 := hag.succ (by omega) _ (getD_some zs k (by omega))
      have B1 := hbel.setCell (p := ⟨w.heap.size, k, none⟩) (Nat.le_refl _) (.int .u64 (zs[k]?.getD 0))
      have HR : Hid (_ ∧ _ ∧ _) := ⟨R1, A1, B1⟩
      clear R1 A1 B1 hrow hbel hag hR hB hc
      generalize zs[k]?.getD 0 = z at *
      go_wp2
      go_roundw
      case rel => exact ⟨k + 1, _, by omega, by go_num, HR.out.2.1, HR.out.1, HR.out.2.2⟩
      case measure => simp [intOf]; omega
    · have HR : Hid (_ ∧ _) := ⟨hag.all (by omega) ▸ hrow, hbel⟩
      clear hrow hbel hag hR hB hc
      go_wp2
      go_ret
      exact ⟨rfl, HR.out⟩

set_option maxHeartbeats 400000 in
theorem to_none (w : World) :
    Calls Try.prog 18 #[.slice none 0 0] w fun e w' => e = .returned (.slice (some ⟨w.heap.size, 0, none⟩) 0 0) ∧ RowV w' w.heap.size 45 (U []) ∧ Below w.heap.size w w' := by
  obtain ⟨i0, hi, hz0, hz1, hz2⟩ := info_parts Try.info45
  go_enter Try.func18, Try.ntmps18
  go_wp2_with (at_make; refine wpList_make_full _ rfl _ _ 23 rfl w.heap.size 45 i0 (.int .u64 0) 1 Try.underlying23 hi hz0 hz1 .i64 .i64 _ _ 0 rfl rfl rfl rfl ?c1 ?c2 ?c3 ?_)
  case c1 => omega
  case c2 => unfold maxLen; omega
  case c3 => exact Nat.le_refl _
  intro w1 hown hgrow
  have hR : RowV w1 w.heap.size 45 (U []) := by
    have := RowV.ofOwns hown
    simpa [U, toList_madeCells_one, Value.cells] using this
  have hB : Below w.heap.size w w1 := (Below.refl _ w).grown hgrow (Nat.le_refl _) (by simp)
  clear hown hgrow
  go_wp2
  refine wp_loop_rounds 1 ?_
  rw [rounds_succ]
  go_wp2
  go_ret
  exact ⟨rfl, hR, hB⟩

theorem to_any (a : Option Addr) (len cap : Nat) (zs : List Int) (w : World) (h : IsRow .u64 w a len cap zs) (hlen : len ≤ 1048576) :
    Calls Try.prog 18 #[.slice a len cap] w fun e w' => e = .returned (.slice (some ⟨w.heap.size, 0, none⟩) len len) ∧ RowV w' w.heap.size 45 (U (zs.take len)) ∧ Below w.heap.size w w' := by
  have hl := h.len
  rcases h with ⟨rfl, rfl, rfl, rfl⟩ | ⟨x, rfl, h2, h3, h4, h5, h6⟩
  · exact to_none w
  · refine to_some x len cap (zs.take len) w hl hlen fun i hi => ?_
    rw [h5 i (by omega)]
    simp [hi, List.getD_eq_getElem?_getD]

set_option maxHeartbeats 400000 in
theorem eq_same (a b : Option Addr) (len ca cb : Nat) (zs : List Int) (w : World) (hlen : len ≤ 1048576)
    (ha : ∀ i, i < len → ∃ g, a = some ⟨g, 0, none⟩ ∧ w.cell? ⟨g, i, none⟩ = some (.int .u64 (zs[i]?.getD 0)))
    (hb : ∀ i, i < len → ∃ g, b = some ⟨g, 0, none⟩ ∧ w.cell? ⟨g, i, none⟩ = some (.int .u64 (zs[i]?.getD 0))) :
    Calls Try.prog 19 #[.slice a len ca, .slice b len cb] w fun e w' => e = .returned (.bool true) ∧ Below w.heap.size w w' := by
  go_enter Try.func19, Try.ntmps19
  go_wp2
  go_loopw [5] (fun i wr => ∃ (k : Nat), k ≤ len ∧ i = .int .i64 k ∧ Below w.heap.size w wr) (fun i _ => len - (intOf i).toNat)
  case atStart => exact ⟨0, Nat.zero_le _, rfl, Below.refl _ _⟩
  case round =>
    obtain ⟨k, hk, rfl, hbel⟩ := hrel
    by_cases hlt : k < len
    · obtain ⟨ga, rfl, hca⟩ := ha k hlt
      obtain ⟨gb, rfl, hcb⟩ := hb k hlt
      have hca' := below_cell hbel hca
      have hcb' := below_cell hbel hcb
      have HB : Hid _ := hbel
      clear ha hb hca hcb hbel
      go_wp2
      go_region
      all_goals go_wp2
      go_roundw
      case rel => exact ⟨k + 1, by omega, by go_num, HB.out.drew⟩
      case measure => simp [intOf]; omega
    · go_wp2
      go_ret
      exact ⟨rfl, hbel⟩

theorem sl_of {w : World} {g : Nat} {zs : List Int} (h : RowV w g 45 (U zs)) {len : Nat} (hl : zs.length = len) : ∀ i, i < len → ∃ g', some (⟨g, 0, none⟩ : Addr) = some ⟨g', 0, none⟩ ∧ w.cell? ⟨g', i, none⟩ = some (.int .u64 (zs[i]?.getD 0)) :=
  fun i hi => ⟨g, rfl, cell_u h i (by omega)⟩

/-- the bits of a word, of a bitmap -/
def wbit (z : Int) (j : Nat) : Bool := decide (z / 2 ^ j % 2 = 1)
def bitAt (zs : List Int) (k : Nat) : Bool := wbit (zs[k / 64]?.getD 0) (k % 64)

theorem wbit_eq (z : Int) (j : Nat) (h0 : 0 ≤ z) (h1 : z ≤ 18446744073709551615) : (bits BinOp.and IntKind.u64 (z / 2 ^ j) 1 == 1) = wbit z j := by
  have h2 : 0 ≤ z / 2 ^ j := Int.ediv_nonneg h0 (Int.le_of_lt (Int.pow_pos (by decide)))
  have h3 : z / 2 ^ j ≤ z := Int.ediv_le_self _ h0
  rw [and_one_u64 _ h2 (by omega)]
  unfold wbit
  rw [Bool.eq_iff_iff]; simp

set_option maxRecDepth 100000 in
set_option maxHeartbeats 400000 in
theorem len64_all (w : World) :
    Calls Try.prog 39 #[.int .u64 18446744073709551615] w fun e w' => e = .returned (.int .i64 64) ∧ w' = w := by
  go_enter Try.func39, Try.ntmps39
  go_wp2
  go_ret
  exact ⟨ret_int (by decide +kernel), rfl⟩

set_option maxHeartbeats 400000 in
theorem width_any (a : Option Addr) (len cap : Nat) (n : Int) (w : World) :
    Calls Try.prog 35 #[.agg #[.slice a len cap, .int .i64 n]] w fun e w' => e = .returned (.int .i64 64) ∧ w' = w.alloc (.cells #[.slice a len cap, .int .i64 n] 43) := by
  go_enter Try.func35, Try.ntmps35
  go_wp2_with fail
  refine (len64_all _).mono ?_
  rintro e w' ⟨rfl, rfl⟩
  go_wp2
  go_ret
  exact ⟨rfl, rfl⟩

set_option maxHeartbeats 400000 in
theorem inside_any (a : Option Addr) (len cap : Nat) (n i : Int) (w : World) :
    Calls Try.prog 27 #[.agg #[.slice a len cap, .int .i64 n], .int .i64 i] w fun e w' => e = .returned (.bool (decide (0 ≤ i) && decide (i < n))) ∧ w' = w.alloc (.cells #[.slice a len cap, .int .i64 n] 43) := by
  by_cases h : 0 ≤ i
  all_goals
    go_enter Try.func27, Try.ntmps27
    go_wp2
    go_ret
    exact ⟨ret_bool (by simp [h]; try omega), rfl⟩

set_option maxHeartbeats 400000 in
theorem has_z (g len cap k : Nat) (z : Int) (n : Int) (w : World) (hg : g < w.heap.size) (h1 : k < 4096) (h2 : k / 64 < len)
   (hc : w.cell? ⟨g, k / 64, none⟩ = some (.int .u64 z)) :
    Calls Try.prog 31 #[.agg #[.slice (some ⟨g, 0, none⟩) len cap, .int .i64 n], .int .i64 k] w fun e w' => e = .returned (.bool (bits BinOp.and IntKind.u64 (z / 2 ^ (k % 64)) 1 == 1)) ∧ Below w.heap.size w w' := by
  go_enter Try.func31, Try.ntmps31
  go_wp2_with fail
  refine (width_any _ _ _ _ _).mono ?_
  rintro e w' ⟨rfl, rfl⟩
  go_wp2
  go_region
  go_wp2
  go_ret
  exact ⟨rfl, (((Below.refl _ _).alloc (Nat.le_refl _) _).alloc (by simp) _).drew⟩

theorem has_any (g len cap k : Nat) (zs : List Int) (n : Int) (w : World) (hl : zs.length = len) (hw : Wf zs) (hr : RowV w g 45 (U zs)) (h1 : k < 4096) (h2 : k / 64 < len) :
    Calls Try.prog 31 #[.agg #[.slice (some ⟨g, 0, none⟩) len cap, .int .i64 n], .int .i64 k] w fun e w' => e = .returned (.bool (bitAt zs k)) ∧ Below w.heap.size w w' := by
  refine (has_z g len cap k _ n w hr.lt h1 h2 (cell_u hr _ (by omega))).mono ?_
  rintro e w' ⟨rfl, hb⟩
  exact ⟨ret_bool (wbit_eq _ _ (hw _).1 (hw _).2), hb⟩

set_option maxHeartbeats 400000 in
theorem good_out (a : Option Addr) (len cap : Nat) (n : Int) (w : World) (h : n < 0 ∨ 4096 < n) :
    Calls Try.prog 26 #[.agg #[.slice a len cap, .int .i64 n]] w fun e w' => e = .returned (.bool false) ∧ Below w.heap.size w w' := by
  rcases h with h | h
  · go_enter Try.func26, Try.ntmps26
    go_wp2
    go_ret
    exact ⟨rfl, (Below.refl _ _).alloc (Nat.le_refl _) _⟩
  · have h' : ¬ n < 0 := by omega
    go_enter Try.func26, Try.ntmps26
    go_wp2
    go_ret
    exact ⟨rfl, (Below.refl _ _).alloc (Nat.le_refl _) _⟩

end Go.Proofs.Ythcimbocchoehaa
