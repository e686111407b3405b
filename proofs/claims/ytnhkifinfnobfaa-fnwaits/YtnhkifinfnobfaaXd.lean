import Derived.Test.YtnhkifinfnobfaaXc
import Derived.Deep.DeepCutAuto
import Derived.Deep.LoopGhost
import Derived.Deep.CutBlock
import Derived.Maps.AppendAt
namespace Go.Proofs.Ytnhkifinfnobfaa
open Go.ChangeShapes Go.WideShapes Go.ChangeAt Go.RowKit
set_option linter.unusedVariables false

theorem IsRow.byte {w : World} {a : Option Addr} {len cap : Nat} {zs : List Int} (h : IsRow .u8 w a len cap zs) (i : Nat) (hi : i < len) : ∃ x c, a = some x ∧ 0 ≤ c ∧ c ≤ 255 ∧ w.cell? (x.add i) = some (.int .u8 c) := by
  rcases h with ⟨_, rfl, _, rfl⟩ | ⟨x, h1, h2, h3, h4, h5, h6⟩
  · omega
  · have hi' : i < zs.length := by omega
    have hb := bounds_u8 (h6 _ (List.getElem_mem hi'))
    refine ⟨x, _, h1, hb.1, hb.2, ?_⟩
    rw [h5 i hi']; simp [hi']

/-- the reader of a code lies in block R; nothing that lay when the law began has turned -/
structure Rd (w0 : World) (a : Option Addr) (len cap : Nat) (R : Nat) (W : World) : Prop where
  box : ∃ i : Nat, i ≤ len ∧ W.heap[R]? = some (.cells #[.slice a len cap, .int .i64 i] 45 (0, 0))
  bel : Below w0.heap.size w0 W
  new : w0.heap.size ≤ R

theorem Rd.below {w0 : World} {a : Option Addr} {len cap R : Nat} {W W' : World} (h : Rd w0 a len cap R W) (hb : Below W.heap.size W W') : Rd w0 a len cap R W' := by
  obtain ⟨i, hi, h1⟩ := h.box
  exact ⟨⟨i, hi, by rw [hb.block R (lt_blk h1)]; exact h1⟩, bl_trans h.bel hb, h.new⟩
theorem Rd.drew {w0 : World} {a : Option Addr} {len cap R : Nat} {W : World} (h : Rd w0 a len cap R W) : Rd w0 a len cap R W.drew := h.below (Below.refl _ _).drew

set_option maxHeartbeats 400000 in
theorem next_in (w0 : World) (a : Option Addr) (len cap : Nat) (zs : List Int) (h0 : IsRow .u8 w0 a len cap zs) (hlen : len ≤ 1048576) (R : Nat) (W : World) (hR : Rd w0 a len cap R W) :
    Calls Try.prog 20 #[.pointer (some ⟨R, 0, none⟩)] W fun e W' => (∃ c : Nat, c ≤ 255 ∧ e = .returned (.int .i64 c)) ∧ Rd w0 a len cap R W' ∧ But (fun k => k = R) W W' := by
  obtain ⟨i, hi, hbox⟩ := hR.box
  have c0 : W.cell? ⟨R, 0, none⟩ = some (.slice a len cap) := by simp [World.cell?, hbox]
  have c1 : W.cell? ⟨R, 1, none⟩ = some (.int .i64 i) := by simp [World.cell?, hbox]
  have f1 : W.frozen? ⟨R, 1, none⟩ = false := by simp [World.frozen?, hbox]
  have HR := hid hR
  have HB := hid hbox
  clear hbox hR
  by_cases hlt : i < len
  · obtain ⟨x, c, rfl, hc0, hc1, hcx⟩ := h0.byte i hlt
    obtain ⟨c, rfl⟩ := Int.eq_ofNat_of_zero_le hc0
    have hcx' := below_cell HR.out.bel hcx
    have R1 := hid (show Rd w0 (some x) len cap R (W.setCell ⟨R, 1, none⟩ (.int .i64 (i + 1 : Nat))) from ⟨⟨i + 1, by omega, by simp [World.setCell, Array.getElem?_modify, HB.out]⟩, HR.out.bel.setCell HR.out.new _, HR.out.new⟩)
    have ec : ((i + 1 : Nat) : Int) = (i : Int) + 1 := by omega
    rw [ec] at R1
    clear hcx h0 hc0 ec
    go_enter Try.func20, Try.ntmps20
    go_wp2
    go_region
    go_wp2
    go_region
    go_wp2
    go_ret
    exact ⟨⟨c, by omega, rfl⟩, R1.out.drew.drew, (((But.refl (fun k => k = R) W).set _ _ _ rfl).drew).drew⟩
  · go_enter Try.func20, Try.ntmps20
    go_wp2
    go_region
    go_wp2
    go_ret
    exact ⟨⟨0, by omega, rfl⟩, HR.out.drew, (But.refl _ W).drew⟩

/-- an append of one number: where the new row lies -/
theorem app_one3 (W : World) (base : Nat) (a : Option Addr) (c : Nat) (zs : List Int) (y : Int) (h : Ow W base a c zs) (hl : zs.length ≤ 1000000) (hb : base ≤ W.heap.size) :
    ∃ a' c' W', (Builtin.append_ #[23, 23] 23 #[.slice a zs.length c, .slice (some ⟨W.heap.size, 0, none⟩) 1 1]).run Try.prog (W.alloc (.cells #[.int .i64 y] 3)) = .ok (.slice a' (zs.length + 1) c') W' ∧ Ow W' base a' c' (zs ++ [y]) ∧ But (fun k => a = some ⟨k, 0, none⟩) W W' ∧ (∀ g, a' = some ⟨g, 0, none⟩ → a = some ⟨g, 0, none⟩ ∨ W.heap.size ≤ g) := by
  obtain ⟨i0, hi, hz0, hz1, hz2⟩ := info_parts Try.info3In
  have hA : Below W.heap.size W (W.alloc (.cells #[.int .i64 y] 3)) := (Below.refl _ W).alloc (Nat.le_refl _) _
  obtain ⟨v', w', hr, ho, hg, _, hat⟩ := run_append_own_at (P := Try.prog) (W.alloc (.cells #[.int .i64 y] 3)) base 23 23 3 i0 (.int .i64 0) 1 8 Try.underlying23 hi hz0 hz1 hz2 rfl (by omega) (.slice a zs.length c) zs.length (Ns .i64 zs) (h.below hA) ⟨W.heap.size, 0, none⟩ 1 1 (Ns .i64 [y]) rfl (fun j u hu => by
    cases j with
    | zero =>
      simp [Ns] at hu
      subst hu
      rw [show (⟨W.heap.size, 0, none⟩ : Addr).add 0 = ⟨W.heap.size, 0, none⟩ from rfl, cell_of_row _ _ _ _ _ _ (al_last W _)]
      rfl
    | succ j => simp [Ns] at hu) (Ns_one _ _) (by unfold maxLen; omega) (by omega) (by have := hA.size; omega)
  have hv : ∃ a' c'', v' = .slice a' (zs.length + 1) c'' := by
    rcases ho.2 with ⟨e, e0⟩ | ⟨g, cap, cur, e, _⟩
    · exact ⟨none, 0, by rw [e0]; exact e⟩
    · exact ⟨_, _, e⟩
  obtain ⟨a', c'', rfl⟩ := hv
  have own : ∀ k, (Value.slice a zs.length c).ownBlock = some k → a = some ⟨k, 0, none⟩ := by
    intro k h3
    cases a with
    | none => simp [Value.ownBlock] at h3
    | some x =>
      rcases h.2 with ⟨e, _⟩ | ⟨g, cap, cur, e, hg2, _⟩
      · simp at e
      · simp at e
        obtain ⟨rfl, _⟩ := e
        simp [Value.ownBlock] at h3
        rw [h3]
  refine ⟨a', c'', w', hr, ?_, (But.ofBelow hA).trans ⟨hg.os, hg.tape, hg.output, hg.size, fun k h1 h2 => hg.block k h1 fun h3 => h2 (own k h3.symm)⟩, ?_⟩
  · have e1 : (zs ++ [y]).length = zs.length + 1 := by simp
    unfold Ow
    rw [e1]
    have e2 : Ns .i64 (zs ++ [y]) = Ns .i64 zs ++ Ns .i64 [y] := by simp [Ns]
    rw [e2]
    exact ho
  · rintro g rfl
    rcases hat with h1 | h1
    · left; exact own g (by rw [← h1]; rfl)
    · right
      rw [al_size] at h1
      simp [Value.ownBlock] at h1
      omega

/-- the drawn pushes under way -/
structure Dw (w0 : World) (a : Option Addr) (len cap R j : Nat) (a2 : Option Addr) (c2 : Nat) (a3 : Option Addr) (c3 : Nat) (ds : List Int) (W : World) : Prop where
  rd : Rd w0 a len cap R W
  s : Ow W (R + 1) a2 c2 (rampIn 0 j)
  d : Ow W (R + 1) a3 c3 ds
  ap : ∀ g, a2 = some ⟨g, 0, none⟩ → a3 ≠ some ⟨g, 0, none⟩
theorem Rd.but {S : Nat → Prop} {w0 : World} {a : Option Addr} {len cap R : Nat} {W W' : World} (h : Rd w0 a len cap R W) (hb : But S W W') (hS : ∀ k, S k → R < k) : Rd w0 a len cap R W' := by
  obtain ⟨i, hi, h1⟩ := h.box
  exact ⟨⟨i, hi, hb.at h1 (fun e => by have := hS _ e; omega)⟩, h.bel.trans (hb.below h.bel.size (fun k e => by have := hS _ e; have := h.new; omega)), h.new⟩
theorem Rd.lt {w0 : World} {a : Option Addr} {len cap R : Nat} {W : World} (h : Rd w0 a len cap R W) : R < W.heap.size := by
  obtain ⟨i, hi, h1⟩ := h.box
  exact lt_blk h1
theorem ramp_snoc (j : Nat) : rampIn 0 j ++ [(j : Int)] = rampIn 0 (j + 1) := by
  simp [rampIn, List.range_succ]
theorem Dw.slot {w0 : World} {a : Option Addr} {len cap R j : Nat} {a2 : Option Addr} {c2 : Nat} {a3 : Option Addr} {c3 : Nat} {ds : List Int} {W : World} (h : Dw w0 a len cap R j a2 c2 a3 c3 ds W) (hj : j ≤ 5000) :
    ∃ a' c' W', (Builtin.append_ #[23, 23] 23 #[.slice a2 j c2, .slice (some ⟨W.heap.size, 0, none⟩) 1 1]).run Try.prog (W.alloc (.cells #[.int .i64 (j : Int)] 3)) = .ok (.slice a' (j + 1) c') W' ∧ Dw w0 a len cap R (j + 1) a' c' a3 c3 ds W' := by
  obtain ⟨a', c', W', hr, ho, hb, hat⟩ := app_one3 W (R + 1) a2 c2 (rampIn 0 j) (j : Int) h.s (by rw [rampIn_len]; omega) h.rd.lt
  rw [rampIn_len] at hr
  rw [ramp_snoc] at ho
  refine ⟨a', c', W', hr, ⟨h.rd.but hb (fun k e => (h.s.base k e).1), ho, h.d.but hb (fun g e e' => h.ap g e' e), fun g e e' => ?_⟩⟩
  rcases hat g e with h1 | h1
  · exact h.ap g h1 e'
  · have := (h.d.base g e').2; omega
theorem Dw.draw {w0 : World} {a : Option Addr} {len cap R j : Nat} {a2 : Option Addr} {c2 : Nat} {a3 : Option Addr} {c3 : Nat} {ds : List Int} {W : World} (h : Dw w0 a len cap R j a2 c2 a3 c3 ds W) (hj : ds.length ≤ 5000) (y : Int) :
    ∃ a' c' W', (Builtin.append_ #[23, 23] 23 #[.slice a3 ds.length c3, .slice (some ⟨W.heap.size, 0, none⟩) 1 1]).run Try.prog (W.alloc (.cells #[.int .i64 y] 3)) = .ok (.slice a' (ds.length + 1) c') W' ∧ Dw w0 a len cap R j a2 c2 a' c' (ds ++ [y]) W' := by
  obtain ⟨a', c', W', hr, ho, hb, hat⟩ := app_one3 W (R + 1) a3 c3 ds y h.d (by omega) h.rd.lt
  refine ⟨a', c', W', hr, ⟨h.rd.but hb (fun k e => (h.d.base k e).1), h.s.but hb (fun g e e' => h.ap g e e'), ho, fun g e e' => ?_⟩⟩
  rcases hat g e' with h1 | h1
  · exact h.ap g e h1
  · have := (h.s.base g e).2; omega
theorem Dw.but {w0 : World} {a : Option Addr} {len cap R j : Nat} {a2 : Option Addr} {c2 : Nat} {a3 : Option Addr} {c3 : Nat} {ds : List Int} {W W' : World} (h : Dw w0 a len cap R j a2 c2 a3 c3 ds W) (hr : Rd w0 a len cap R W') (hb : But (fun k => k = R) W W') : Dw w0 a len cap R j a2 c2 a3 c3 ds W' :=
  ⟨hr, h.s.but hb (fun g e e' => by have := (h.s.base g e).1; omega), h.d.but hb (fun g e e' => by have := (h.d.base g e).1; omega), h.ap⟩
end Go.Proofs.Ytnhkifinfnobfaa
