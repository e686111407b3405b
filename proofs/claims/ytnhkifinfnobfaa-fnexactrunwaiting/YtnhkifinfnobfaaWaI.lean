import Derived.Test.YtnhkifinfnobfaaWaH
namespace Go.Proofs.Ytnhkifinfnobfaa
open Go.ChangeShapes Go.WideShapes Go.ChangeAt Go.RowKit
set_option linter.unusedVariables false

/-- a good quarantine -/
def goodM (mix fifo : List Int) (lim : Int) : Bool := decide (mix.length ≤ 16) && (decide (1 ≤ lim) && (decide (lim ≤ 32) && (decide ((fifo.length : Int) ≤ lim) && (nb (-1) mix && nb 0 fifo))))
/-- a quarantine as a value -/
def wv (am : Option Addr) (lm cm : Nat) (af : Option Addr) (lf cf : Nat) (lim : Int) : Value := .agg #[.slice am lm cm, .slice af lf cf, .int .i64 lim]
/-- that value's memory -/
structure Wt (w : World) (am : Option Addr) (lm : Nat) (af : Option Addr) (lf : Nat) (mix fifo : List Int) : Prop where
  m : Sl w am mix
  ml : mix.length = lm
  f : Sl w af fifo
  fl : fifo.length = lf
theorem Wt.below {w w' : World} {am : Option Addr} {lm : Nat} {af : Option Addr} {lf : Nat} {mix fifo : List Int} (h : Wt w am lm af lf mix fifo) (hb : Below w.heap.size w w') : Wt w' am lm af lf mix fifo :=
  ⟨h.m.below hb, h.ml, h.f.below hb, h.fl⟩

set_option maxHeartbeats 400000 in
theorem good_in (am : Option Addr) (lm cm : Nat) (af : Option Addr) (lf cf : Nat) (lim : Int) (mix fifo : List Int) (w : World) (h : Wt w am lm af lf mix fifo) :
    Calls Try.prog 23 #[wv am lm cm af lf cf lim] w fun e w' => e = .returned (.bool (goodM mix fifo lim)) ∧ Below w.heap.size w w' := by
  unfold wv
  have HB := hid ((Below.refl _ w).alloc (Nat.le_refl _) (.cells #[.slice am lm cm, .slice af lf cf, .int .i64 lim] 29))
  by_cases h1 : lm ≤ 16
  case neg =>
    have HG := hid (show goodM mix fifo lim = false by unfold goodM; rw [h.ml, decide_eq_false h1]; rfl)
    have t1 : ¬ ((lm : Int) ≤ 16) := by omega
    clear h
    go_enter Try.func23, Try.ntmps23
    go_wp2
    go_ret
    exact ⟨ret_bool HG.out.symm, HB.out⟩
  have t1 : ((lm : Int) ≤ 16) := by omega
  by_cases h2 : 1 ≤ lim
  case neg =>
    have HG := hid (show goodM mix fifo lim = false by unfold goodM; rw [decide_eq_false h2]; simp)
    clear h
    go_enter Try.func23, Try.ntmps23
    go_wp2
    go_ret
    exact ⟨ret_bool HG.out.symm, HB.out⟩
  by_cases h3 : lim ≤ 32
  case neg =>
    have HG := hid (show goodM mix fifo lim = false by unfold goodM; rw [decide_eq_false h3]; simp)
    clear h
    go_enter Try.func23, Try.ntmps23
    go_wp2
    go_ret
    exact ⟨ret_bool HG.out.symm, HB.out⟩
  by_cases h4 : (lf : Int) ≤ lim
  case neg =>
    have HG := hid (show goodM mix fifo lim = false by unfold goodM; rw [h.fl, decide_eq_false h4]; simp)
    clear h
    go_enter Try.func23, Try.ntmps23
    go_wp2
    go_ret
    exact ⟨ret_bool HG.out.symm, HB.out⟩
  have HG := hid (show goodM mix fifo lim = (nb (-1) mix && nb 0 fifo) by
    unfold goodM; rw [h.ml, h.fl, decide_eq_true h1, decide_eq_true h2, decide_eq_true h3, decide_eq_true h4]; simp)
  have HM := hid (noneBelow am lm cm mix (-1) _ h.ml (by omega) (h.m.below HB.out))
  have HF := hid (fun W (hW : Below w.heap.size w W) => noneBelow af lf cf fifo 0 W h.fl (by omega) (h.f.below hW))
  clear h
  generalize nb (-1) mix = x at *
  generalize nb 0 fifo = y at *
  have HC := hid (show ∀ (W : World) i, Below (w.alloc (.cells #[.slice am lm cm, .slice af lf cf, .int .i64 lim] 29)).heap.size (w.alloc (.cells #[.slice am lm cm, .slice af lf cf, .int .i64 lim] 29)) W → W.cell? ⟨w.heap.size, i, none⟩ = (#[.slice am lm cm, .slice af lf cf, .int .i64 lim] : Array Value)[i]? from fun W i hW => by
    rw [cell_of_row W w.heap.size i #[.slice am lm cm, .slice af lf cf, .int .i64 lim] 29 (0, 0) (by rw [hW.block _ (by rw [al_size]; omega)]; exact al_last _ _)])
  cases x with
  | false =>
    go_enter Try.func23, Try.ntmps23
    go_wp2_with fail
    refine (HM.out).mono ?_
    rintro e w1 ⟨rfl, b1⟩
    have B1 := hid (bl_trans HB.out b1)
    clear b1
    go_wp2
    go_ret
    exact ⟨ret_bool HG.out.symm, B1.out⟩
  | true =>
    go_enter Try.func23, Try.ntmps23
    go_wp2_with fail
    refine (HM.out).mono ?_
    rintro e w1 ⟨rfl, b1⟩
    have B1 := hid (bl_trans HB.out b1)
    have c1 := HC.out w1 1 b1
    simp only [List.getElem?_toArray, List.getElem?_cons_succ, List.getElem?_cons_zero] at c1
    clear b1
    go_wp2_with fail
    refine (HF.out _ B1.out).mono ?_
    rintro e w2 ⟨rfl, b2⟩
    have B2 := hid (bl_trans B1.out b2)
    clear b2
    go_wp2
    go_ret
    exact ⟨ret_bool HG.out.symm, B2.out⟩
end Go.Proofs.Ytnhkifinfnobfaa
