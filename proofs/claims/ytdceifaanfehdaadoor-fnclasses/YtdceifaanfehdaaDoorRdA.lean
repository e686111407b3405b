import Derived.Test.YtdceifaanfehdaaDoorClA
import Derived.Laws.Bits64b
namespace Go.Proofs.YtdceifaanfehdaaDoor
open Go.ChangeShapes Go.WideShapes Go.ChangeAt Go.RowKit
set_option linter.unusedVariables false

/-- a slice of integers that came in -/
def IsRow (k : IntKind) (w : World) (a : Option Addr) (len cap : Nat) (zs : List Int) : Prop :=
  (a = none ∧ len = 0 ∧ cap = 0 ∧ zs = []) ∨
  ∃ x, a = some x ∧ len ≤ cap ∧ cap ≤ maxLen ∧ zs.length = cap ∧ (∀ i, i < zs.length → w.cell? (x.add i) = some (.int k (zs.getD i 0))) ∧ ∀ n ∈ zs, (Lit.int k n).wf = true

theorem IsRow.below {k : IntKind} {w w' : World} {a : Option Addr} {len cap : Nat} {zs : List Int} (h : IsRow k w a len cap zs) (hb : Below w.heap.size w w') : IsRow k w' a len cap zs := by
  rcases h with h | ⟨x, h1, h2, h3, h4, h5, h6⟩
  · exact .inl h
  · exact .inr ⟨x, h1, h2, h3, h4, fun i hi => below_cell hb (h5 i hi), h6⟩

theorem IsRow.byte {w : World} {a : Option Addr} {len cap : Nat} {zs : List Int} (h : IsRow .u8 w a len cap zs) (i : Nat) (hi : i < len) : ∃ x c, a = some x ∧ 0 ≤ c ∧ c ≤ 255 ∧ w.cell? (x.add i) = some (.int .u8 c) := by
  rcases h with ⟨_, rfl, _, rfl⟩ | ⟨x, h1, h2, h3, h4, h5, h6⟩
  · omega
  · have hi' : i < zs.length := by omega
    have hb := bounds_u8 (h6 _ (List.getElem_mem hi'))
    refine ⟨x, _, h1, hb.1, hb.2, ?_⟩
    rw [h5 i hi']; simp [hi']

/-- the reader of a code lies in block R; nothing that lay when the law began has turned -/
structure Rd (w0 : World) (a : Option Addr) (len cap : Nat) (R : Nat) (W : World) : Prop where
  box : ∃ i : Nat, i ≤ len ∧ W.heap[R]? = some (.cells #[.slice a len cap, .int .i64 i] 36 (0, 0))
  bel : Below w0.heap.size w0 W
  new : w0.heap.size ≤ R

theorem lt_blk {W : World} {R : Nat} {o : Obj} (h : W.heap[R]? = some o) : R < W.heap.size := by
  by_cases hl : R < W.heap.size
  · exact hl
  · have : W.heap[R]? = none := Array.getElem?_eq_none (by omega)
    rw [this] at h; cases h

theorem Rd.below {w0 : World} {a : Option Addr} {len cap R : Nat} {W W' : World} (h : Rd w0 a len cap R W) (hb : Below W.heap.size W W') : Rd w0 a len cap R W' := by
  obtain ⟨i, hi, h1⟩ := h.box
  exact ⟨⟨i, hi, by rw [hb.block R (lt_blk h1)]; exact h1⟩, bl_trans h.bel hb, h.new⟩
theorem Rd.drew {w0 : World} {a : Option Addr} {len cap R : Nat} {W : World} (h : Rd w0 a len cap R W) : Rd w0 a len cap R W.drew := h.below (Below.refl _ _).drew

set_option maxHeartbeats 400000 in
theorem next_any (w0 : World) (a : Option Addr) (len cap : Nat) (zs : List Int) (h0 : IsRow .u8 w0 a len cap zs) (hlen : len ≤ 1048576) (R : Nat) (W : World) (hR : Rd w0 a len cap R W) :
    Calls Tryd.prog 24 #[.pointer (some ⟨R, 0, none⟩)] W fun e W' => (∃ c : Nat, c ≤ 255 ∧ e = .returned (.int .i64 c)) ∧ Rd w0 a len cap R W' := by
  obtain ⟨i, hi, hbox⟩ := hR.box
  have c0 : W.cell? ⟨R, 0, none⟩ = some (.slice a len cap) := by simp [World.cell?, hbox]
  have c1 : W.cell? ⟨R, 1, none⟩ = some (.int .i64 i) := by simp [World.cell?, hbox]
  have f1 : W.frozen? ⟨R, 1, none⟩ = false := by simp [World.frozen?, hbox]
  have HR := hid hR
  have HB := hid hbox
  clear hbox hR
  by_cases hlt : i < len
  · obtain ⟨x, c, rfl, hc0, hc1, hcx⟩ := h0.byte i hlt
    obtain ⟨c, rfl⟩ := Int.eq_ofNat_of_zero_le hc0
    have hcx' := below_cell HR.out.bel hcx
    have R1 := hid (show Rd w0 (some x) len cap R (W.setCell ⟨R, 1, none⟩ (.int .i64 (i + 1 : Nat))) from ⟨⟨i + 1, by omega, by simp [World.setCell, Array.getElem?_modify, HB.out]⟩, HR.out.bel.setCell HR.out.new _, HR.out.new⟩)
    have ec : ((i + 1 : Nat) : Int) = (i : Int) + 1 := by omega
    rw [ec] at R1
    clear hcx h0 hc0 ec
    go_enter Tryd.func24, Tryd.ntmps24
    go_wp2
    go_region
    go_wp2
    go_region
    go_wp2
    go_ret
    exact ⟨⟨c, by omega, rfl⟩, R1.out.drew.drew⟩
  · go_enter Tryd.func24, Tryd.ntmps24
    go_wp2
    go_region
    go_wp2
    go_ret
    exact ⟨⟨0, by omega, rfl⟩, HR.out.drew⟩
end Go.Proofs.YtdceifaanfehdaaDoor
