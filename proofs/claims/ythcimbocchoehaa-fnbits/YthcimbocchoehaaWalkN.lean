import Derived.Test.YthcimbocchoehaaWalkM
namespace Go.Proofs.Ythcimbocchoehaa
open Go.ChangeShapes Go.WideShapes Go.ChangeAt Go.RowKit
set_option linter.unusedVariables false

/-- the reader stands at place i -/
structure RdAt (w0 : World) (a : Option Addr) (len cap : Nat) (R i : Nat) (W : World) : Prop where
  box : W.heap[R]? = some (.cells #[.slice a len cap, .int .i64 i] 38 (0, 0))
  bel : Below w0.heap.size w0 W
  new : w0.heap.size ≤ R
theorem RdAt.rd {w0 : World} {a : Option Addr} {len cap R i : Nat} {W : World} (h : RdAt w0 a len cap R i W) (hi : i ≤ len) : Rd w0 a len cap R W := ⟨⟨i, hi, h.box⟩, h.bel, h.new⟩
theorem Rd.at {w0 : World} {a : Option Addr} {len cap R : Nat} {W : World} (h : Rd w0 a len cap R W) : ∃ i, i ≤ len ∧ RdAt w0 a len cap R i W := by
  obtain ⟨i, hi, h1⟩ := h.box
  exact ⟨i, hi, h1, h.bel, h.new⟩
theorem RdAt.drew {w0 : World} {a : Option Addr} {len cap R i : Nat} {W : World} (h : RdAt w0 a len cap R i W) : RdAt w0 a len cap R i W.drew := ⟨h.box, h.bel.drew, h.new⟩

set_option maxHeartbeats 400000 in
/-- what the reader's next byte is, and where it stands behind it, are settled by where it stands -/
theorem next_det (w0 : World) (a : Option Addr) (len cap : Nat) (zs : List Int) (h0 : IsRow .u8 w0 a len cap zs) (hlen : len ≤ 1048576) (R i : Nat) (hi : i ≤ len) :
    ∃ c j : Nat, c ≤ 255 ∧ j ≤ len ∧ ∀ W, RdAt w0 a len cap R i W → Calls Try.prog 24 #[.pointer (some ⟨R, 0, none⟩)] W fun e W' => e = .returned (.int .i64 c) ∧ RdAt w0 a len cap R j W' ∧ W.grownBy W' (some R) := by
  by_cases hlt : i < len
  · obtain ⟨x, c, rfl, hc0, hc1, hcx⟩ := h0.byte i hlt
    obtain ⟨c, rfl⟩ := Int.eq_ofNat_of_zero_le hc0
    refine ⟨c, i + 1, by omega, by omega, ?_⟩
    intro W hR
    have hbox := hR.box
    have c0 : W.cell? ⟨R, 0, none⟩ = some (.slice (some x) len cap) := by simp [World.cell?, hbox]
    have c1 : W.cell? ⟨R, 1, none⟩ = some (.int .i64 i) := by simp [World.cell?, hbox]
    have f1 : W.frozen? ⟨R, 1, none⟩ = false := by simp [World.frozen?, hbox]
    have hcx' := below_cell hR.bel hcx
    have G1 := hid (show W.grownBy (W.setCell ⟨R, 1, none⟩ (.int .i64 (i + 1 : Nat))) (some R) from grown_set (grown_refl W R) 1 _)
    have R1 := hid (show RdAt w0 (some x) len cap R (i + 1) (W.setCell ⟨R, 1, none⟩ (.int .i64 (i + 1 : Nat))) from ⟨by simp [World.setCell, Array.getElem?_modify, hbox], hR.bel.setCell hR.new _, hR.new⟩)
    have ec : ((i + 1 : Nat) : Int) = (i : Int) + 1 := by omega
    rw [ec] at R1 G1
    clear hcx h0 hc0 ec hR hbox
    go_enter Try.func24, Try.ntmps24
    go_wp2
    go_region
    go_wp2
    go_region
    go_wp2
    go_ret
    exact ⟨rfl, R1.out.drew.drew, grown_drew (grown_drew G1.out)⟩
  · refine ⟨0, i, by omega, hi, ?_⟩
    intro W hR
    have hbox := hR.box
    have c0 : W.cell? ⟨R, 0, none⟩ = some (.slice a len cap) := by simp [World.cell?, hbox]
    have c1 : W.cell? ⟨R, 1, none⟩ = some (.int .i64 i) := by simp [World.cell?, hbox]
    have HR := hid hR
    clear hbox hR h0
    go_enter Try.func24, Try.ntmps24
    go_wp2
    go_region
    go_wp2
    go_ret
    exact ⟨rfl, HR.out.drew, grown_drew (grown_refl W R)⟩
end Go.Proofs.Ythcimbocchoehaa
