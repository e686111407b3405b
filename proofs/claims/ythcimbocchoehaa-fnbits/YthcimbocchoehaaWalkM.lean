import Derived.Test.YthcimbocchoehaaWalkJ

namespace Go.Proofs.Ythcimbocchoehaa
open Go.ChangeShapes Go.WideShapes Go.ChangeAt Go.RowKit
set_option linter.unusedVariables false

/-- the reader of a code lies in block R; nothing that lay when the law began has turned -/
structure Rd (w0 : World) (a : Option Addr) (len cap : Nat) (R : Nat) (W : World) : Prop where
  box : ∃ i : Nat, i ≤ len ∧ W.heap[R]? = some (.cells #[.slice a len cap, .int .i64 i] 38 (0, 0))
  bel : Below w0.heap.size w0 W
  new : w0.heap.size ≤ R

theorem Rd.lt {w0 : World} {a : Option Addr} {len cap R : Nat} {W : World} (h : Rd w0 a len cap R W) : R < W.heap.size := by
  obtain ⟨i, _, h1⟩ := h.box
  exact lt_of_block h1

theorem Rd.below {w0 : World} {a : Option Addr} {len cap R : Nat} {W W' : World} (h : Rd w0 a len cap R W) (hb : Below W.heap.size W W') : Rd w0 a len cap R W' := by
  obtain ⟨i, hi, h1⟩ := h.box
  exact ⟨⟨i, hi, by rw [hb.block R h.lt]; exact h1⟩, bl_trans h.bel hb, h.new⟩

theorem Rd.set {w0 : World} {a : Option Addr} {len cap R : Nat} {W : World} (h : Rd w0 a len cap R W) {p : Addr} (hp : R ≠ p.block) (hn : w0.heap.size ≤ p.block) (v : Value) : Rd w0 a len cap R (W.setCell p v) := by
  obtain ⟨i, hi, h1⟩ := h.box
  exact ⟨⟨i, hi, by rw [Below.heap_setCell _ _ _ _ hp]; exact h1⟩, h.bel.setCell hn v, h.new⟩

theorem Rd.grown {w0 : World} {a : Option Addr} {len cap R g : Nat} {W W' : World} (h : Rd w0 a len cap R W) (hg : W.grownBy W' (some g)) (hne : R ≠ g) (hn : w0.heap.size ≤ g) : Rd w0 a len cap R W' := by
  obtain ⟨i, hi, h1⟩ := h.box
  exact ⟨⟨i, hi, by rw [hg.block R h.lt (by simpa using hne)]; exact h1⟩, below_grown h.bel hg hn, h.new⟩

theorem Rd.drew {w0 : World} {a : Option Addr} {len cap R : Nat} {W : World} (h : Rd w0 a len cap R W) : Rd w0 a len cap R W.drew := h.below (Below.refl _ _).drew
theorem grown_drew {W W' : World} {g : Option Nat} (h : W.grownBy W' g) : W.grownBy W'.drew g := ⟨h.os, h.tape, h.output, h.size, h.block⟩

theorem IsRow.byte {w : World} {a : Option Addr} {len cap : Nat} {zs : List Int} (h : IsRow .u8 w a len cap zs) (i : Nat) (hi : i < len) : ∃ x c, a = some x ∧ 0 ≤ c ∧ c ≤ 255 ∧ w.cell? (x.add i) = some (.int .u8 c) := by
  rcases h with ⟨_, rfl, _, rfl⟩ | ⟨x, h1, h2, h3, h4, h5, h6⟩
  · omega
  · have hb := range_u8 h6 i
    refine ⟨x, _, h1, hb.1, hb.2, ?_⟩
    rw [h5 i (by omega), List.getD_eq_getElem?_getD]

set_option maxHeartbeats 400000 in
theorem next_any (w0 : World) (a : Option Addr) (len cap : Nat) (zs : List Int) (h0 : IsRow .u8 w0 a len cap zs) (hlen : len ≤ 1048576) (R : Nat) (W : World) (hR : Rd w0 a len cap R W) :
    Calls Try.prog 24 #[.pointer (some ⟨R, 0, none⟩)] W fun e W' => (∃ c : Nat, c ≤ 255 ∧ e = .returned (.int .i64 c)) ∧ Rd w0 a len cap R W' ∧ W.grownBy W' (some R) := by
  obtain ⟨i, hi, hbox⟩ := hR.box
  have c0 : W.cell? ⟨R, 0, none⟩ = some (.slice a len cap) := by simp [World.cell?, hbox]
  have c1 : W.cell? ⟨R, 1, none⟩ = some (.int .i64 i) := by simp [World.cell?, hbox]
  have f1 : W.frozen? ⟨R, 1, none⟩ = false := by simp [World.frozen?, hbox]
  have HR := hid hR
  have HB := hid hbox
  clear hbox hR
  by_cases hlt : i < len
  · obtain ⟨x, c, rfl, hc0, hc1, hcx⟩ := h0.byte i hlt
    obtain ⟨c, rfl⟩ := Int.eq_ofNat_of_zero_le hc0
    have hcx' := below_cell HR.out.bel hcx
    have G1 := hid (show W.grownBy (W.setCell ⟨R, 1, none⟩ (.int .i64 (i + 1 : Nat))) (some R) from grown_set (grown_refl W R) 1 _)
    have R1 := hid (show Rd w0 (some x) len cap R (W.setCell ⟨R, 1, none⟩ (.int .i64 (i + 1 : Nat))) from ⟨⟨i + 1, by omega, by simp [World.setCell, Array.getElem?_modify, HB.out]⟩, HR.out.bel.setCell HR.out.new _, HR.out.new⟩)
    have ec : ((i + 1 : Nat) : Int) = (i : Int) + 1 := by omega
    rw [ec] at R1 G1
    clear hcx h0 hc0 ec
    go_enter Try.func24, Try.ntmps24
    go_wp2
    go_region
    go_wp2
    go_region
    go_wp2
    go_ret
    exact ⟨⟨c, by omega, rfl⟩, R1.out.drew.drew, grown_drew (grown_drew G1.out)⟩
  · go_enter Try.func24, Try.ntmps24
    go_wp2
    go_region
    go_wp2
    go_ret
    exact ⟨⟨0, by omega, rfl⟩, HR.out.drew, grown_drew (grown_refl W R)⟩

set_option maxHeartbeats 400000 in
theorem words_own (g len : Nat) (q : List Bool) (w : World) (hq : q.length = len) (hlen : len ≤ 8192) (hr : RowV w g 4 (Bo q)) :
    Calls Try.prog 30 #[.slice (some ⟨g, 0, none⟩) len len] w fun e w' => ∃ ys, WordsTo q ys len ∧ e = .returned (.slice (some ⟨w.heap.size, 0, none⟩) ((len + 63) / 64) ((len + 63) / 64)) ∧ w'.ownsRow w.heap.size 45 1 (.slice (some ⟨w.heap.size, 0, none⟩) ((len + 63) / 64) ((len + 63) / 64)) ((len + 63) / 64) (U ys) ∧ Below w.heap.size w w' := by
  obtain ⟨i0, hi, hz0, hz1, hz2⟩ := info_parts Try.info45
  have HR := hid hr
  have HQ := hid hq
  clear hr hq
  go_enter Try.func30, Try.ntmps30
  go_wp2_with (at_make; refine wpList_make_full _ rfl _ _ 23 rfl w.heap.size 45 i0 (.int .u64 0) 1 Try.underlying23 hi hz0 hz1 .i64 .i64 _ _ ((len + 63) / 64) rfl rfl (by omega) (by omega) ?c1 ?c2 ?c3 ?_)
  case c1 => rw [hz2]; omega
  case c2 => unfold maxLen; omega
  case c3 => exact Nat.le_refl _
  intro w1 hown hgrow
  have hR : w1.ownsRow w.heap.size 45 1 (.slice (some ⟨w.heap.size, 0, none⟩) ((len + 63) / 64) ((len + 63) / 64)) ((len + 63) / 64) (U (List.replicate ((len + 63) / 64) 0)) := by
    simpa [U, toList_madeCells_one, Value.cells] using hown
  have hB : Below w.heap.size w w1 := (Below.refl _ w).grown hgrow (Nat.le_refl _) (by simp)
  have H0 := hid (And.intro hR hB)
  clear hown hgrow hR hB
  go_wp2
  go_loopw [4, 5, 13] (fun _ _ i wr => ∃ (k : Nat) (ys : List Int), k ≤ len ∧ i = .int .i64 k ∧ Hid (WordsTo q ys k) ∧ Hid (wr.ownsRow w.heap.size 45 1 (.slice (some ⟨w.heap.size, 0, none⟩) ((len + 63) / 64) ((len + 63) / 64)) ((len + 63) / 64) (U ys)) ∧ Hid (Below w.heap.size w wr)) (fun _ _ i _ => len - (intOf i).toNat)
  case atStart => exact ⟨0, _, Nat.zero_le _, rfl, HQ.out ▸ wordsTo_zero q, H0.out.1, H0.out.2⟩
  case round =>
    obtain ⟨k, ys, hk, rfl, hwt, hrow, hb⟩ := hrel
    by_cases hlt : k < len
    · have hc := cell_b (HR.out.below hb.out HR.out.lt) k (by rw [HQ.out]; exact hlt)
      cases hq : q[k]?.getD false
      · rw [hq] at hc
        have HN := hid (wordsTo_off q ys k hwt.out (by rw [HQ.out]; exact hlt) hq)
        clear hq
        go_wp2
        go_roundw
        case rel => exact ⟨k + 1, ys, by omega, by go_num, HN.out, hrow, hb⟩
        case measure => simp [intOf]; omega
      · rw [hq] at hc
        have HN := hid (wordsTo_on q ys k hwt.out (by rw [HQ.out]; exact hlt) hq)
        have hyl : ys.length = (len + 63) / 64 := by have := hwt.out.1; rw [HQ.out] at this; exact this
        have hrv := RowV.ofOwns hrow.out
        have hcy := cell_u hrv (k / 64) (by omega)
        have hfy := hrv.free (k / 64)
        have R1 := hrow.out.stored (k / 64) (.int .u64 (wput (ys[k / 64]?.getD 0) (k % 64) true))
        rw [U_set] at R1
        have B1 := hb.out.setCell (p := ⟨w.heap.size, k / 64, none⟩) (Nat.le_refl _) (.int .u64 (wput (ys[k / 64]?.getD 0) (k % 64) true))
        have HP := hid (And.intro R1 B1)
        have hbit : bits BinOp.or IntKind.u64 (ys[k / 64]?.getD 0) (IntKind.u64.wrap (2 ^ (k % 64))) = wput (ys[k / 64]?.getD 0) (k % 64) true := rfl
        have HN2 : Hid (WordsTo q (ys.set (k / 64) (wput (ys[k / 64]?.getD 0) (k % 64) true)) (k + 1)) := HN.out
        clear HN hq hyl R1 B1 hrv
        generalize wput (ys[k / 64]?.getD 0) (k % 64) true = z2 at *
        generalize ys[k / 64]?.getD 0 = z at *
        go_wp2
        go_roundw
        case rel => exact ⟨k + 1, _, by omega, by go_num, HN2, HP.out.1.1, HP.out.2⟩
        case measure => simp [intOf]; omega
    · have hkl : k = len := by omega
      subst hkl
      go_wp2
      go_ret
      exact ⟨ys, hwt.out, rfl, hrow.out, hb.out⟩
end Go.Proofs.Ythcimbocchoehaa
