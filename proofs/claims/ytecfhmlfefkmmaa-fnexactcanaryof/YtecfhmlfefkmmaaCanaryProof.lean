import Derived.Test.YtecfhmlfefkmmaaCaA
import Derived.WalkKit
import Derived.ProofKit
import Derived.OpenShut
import Derived.ShutString
namespace Go.Proofs.Ytecfhmlfefkmmaa.fnExactCanaryOf
open Go.ChangeShapes Go.WideShapes Go.ChangeAt Go.RowKit
open Go.ChangeMaps (open_string shut_string)
set_option linter.unusedVariables false

theorem own : ownKnob Try.prog.godebug = none := by kernel_rfl

/-! ### STEP 1: THE WALK: the Go text returns true. 'Grown w w'': the world has at most new blocks (Derived/RowKit3.lean). Part the cases AHEAD of 'go_enter' where a test parts the walk; take each callee by a contract of your own. -/
set_option maxHeartbeats 1000000 in
theorem walk (a0 : Int) (a1 : Int) (w0 : (Lit.int .u64 a0).wf = true) (w1 : (Lit.int .u64 a1).wf = true) (w : World) :
    Calls Try.prog 3 #[.int .u64 a0, .int .u64 a1] w fun e w' => e = .returned (.bool true) ∧ Below w.heap.size w w' := by
  have b0 := bounds_u64 w0
  have b1 := bounds_u64 w1
  have S := hid (fun W => spec_any a0 a1 W b0.1 (by omega) b1.1 (by omega))
  have I := hid (fun W => impl_any a0 a1 W b0.1 (by omega) b1.1 (by omega))
  clear b0 b1 w0 w1
  have HC := hid (cRow_len (cx a0 a1))
  generalize cRow (cx a0 a1) = zs at *
  go_enter Try.func3, Try.ntmps3
  go_wp2_with fail
  refine (S.out _).mono ?_
  rintro e x1 ⟨v, rfl, ho, b1⟩
  obtain ⟨gs, cap, rfl, hgs, R1⟩ : ∃ gs cap, v = .slice (some ⟨gs, 0, none⟩) 8 cap ∧ w.heap.size ≤ gs ∧ Hid (RowV x1 gs 5 (Ns .u8 zs)) := by
    obtain ⟨h1, h2⟩ := ho
    rcases h2 with h2 | ⟨g, cap, cur, hv, hg, hh, h3, h4, h5, h6⟩
    · simp at h2
    · refine ⟨g, cap, hv, hg, hid (RowV.ofOwns (n := 8) (cap := cap) (base := w.heap.size) ⟨h1, .inr ⟨g, cap, cur, rfl, hg, hh, h3, h4, h5, h6⟩⟩)⟩
  have B1 := hid b1
  clear b1 ho
  have HG := hid hgs
  clear hgs
  go_wp2_with fail
  refine (I.out _).mono ?_
  rintro e x2 ⟨rfl, r2, b2⟩
  have R2 := hid (R1.out.below b2 R1.out.lt)
  have X2 := hid r2
  have B2 := hid (bl_trans B1.out b2)
  have L1 := hid (show gs ≠ x1.heap.size by have := R1.out.lt; omega)
  have L2 := hid (show w.heap.size ≤ x1.heap.size from B1.out.size)
  clear r2 b2 R1
  generalize x1.heap.size = g at *
  go_wp2_with fail
  refine (eqBy _ _ 8 _ _ zs _ (by decide) (slBy X2.out HC.out) (slBy R2.out HC.out)).mono ?_
  rintro e x3 ⟨rfl, b3⟩
  have R3 := hid (R2.out.below b3 R2.out.lt)
  have X3 := hid (X2.out.below b3 X2.out.lt)
  have B3 := hid (bl_trans B2.out b3)
  clear b3 R2 X2 B2
  go_wp2_with fail
  refine (markBy g 8 _ zs 1 _ HC.out (by decide) (by decide) X3.out).mono ?_
  rintro e x4 ⟨rfl, r4, g4⟩
  have X4 := hid r4
  have R4 := hid (R3.out.grown g4 L1.out)
  have B4 := hid (below_grown B3.out g4 L2.out)
  clear r4 g4 R3 X3 B3
  go_wp2_with fail
  refine (heldBy g 8 _ 1 _ (by decide) (by decide) X4.out).mono ?_
  rintro e x5 ⟨rfl, rfl⟩
  go_wp2_with fail
  refine (I.out _).mono ?_
  rintro e x6 ⟨rfl, r6, b6⟩
  have R6 := hid (R4.out.below b6 R4.out.lt)
  have X6 := hid (X4.out.below b6 X4.out.lt)
  have Y6 := hid r6
  have B6 := hid (bl_trans B4.out b6)
  clear r6 b6 R4 X4 B4
  go_wp2_with fail
  refine (eqBy _ _ 8 _ _ zs _ (by decide) (slBy Y6.out HC.out) (slBy R6.out HC.out)).mono ?_
  rintro e x7 ⟨rfl, b7⟩
  have X7 := hid (X6.out.below b7 X6.out.lt)
  have B7 := hid (bl_trans B6.out b7)
  clear b7 R6 X6 B6 Y6
  go_wp2_with fail
  refine (heldBy g 8 _ 1 _ (by decide) (by decide) X7.out).mono ?_
  rintro e x8 ⟨rfl, rfl⟩
  go_wp2
  go_ret
  exact ⟨rfl, B7.out⟩

/-! ### THE ROW's STEP: WRITTEN OUT: LEAVE IT -/
set_option maxRecDepth 100000 in
theorem lifted (os : Os) (started : os.Started) (H : Type) (enc : TypeId × Value → H) :
    ReturnsInHanded {} Try.checked os 3 .any (Rows.fnExactCanaryOfSpec.pre6 enc Try.prog Try.f3 Rows.fnExactCanaryOfRow.domain false) (Rows.fnExactCanaryOfSpec.post enc Try.prog Try.f3 false true false false) := by
  refine returnsInHanded_of_change (C := Try.checked) own started (by kernel_rfl) Try.func3
    (ChangeSpec.witness6 (enc := enc) (C := Try.checked) false ⟨#[], #[.int .u64 0, .int .u64 0], []⟩ 8 (by kernel_rfl) (by kernel_rfl) (by kernel_rfl) (by kernel_rfl)) ?_
  intro W base args ds gs before hval0 hW hcnd _
  have hval : ∀ (j : Nat) t v, Try.f3.params[j]? = some t → args[j]? = some v → Value.okWide Try.prog W .any base t v := hval0
  have hW' := hW
  obtain ⟨p, q, hA0, hV, rfl, hfz, hnd⟩ := hW
  have hA : DataW.TrodAll enc Try.prog W 0 (fun _ => true) true Try.f3.params.toList args.toList ds p := hA0
  rw [Try.params3] at hA hval
  obtain ⟨v0, vs0, d0, ds0, p0, q0, hargs, rfl, rfl, h0, r0⟩ := trodAll_cons hA
  obtain ⟨v1, vs1, d1, ds1, p1, q1, rfl, rfl, rfl, h1, r1⟩ := trodAll_cons r0
  obtain ⟨rfl, rfl, rfl⟩ := trodAll_nil r1
  obtain rfl : args = #[v0, v1] := by cases args; simp_all
  obtain ⟨rfl, rfl⟩ := trodVars_none hV
  obtain ⟨a0, rfl, rfl, rfl, w0⟩ := open_int Try.underlying22 (hval 0 22 v0 rfl rfl) h0
  obtain ⟨a1, rfl, rfl, rfl, w1⟩ := open_int Try.underlying22 (hval 1 22 v1 rfl rfl) h1
  clear hA0 hval0
  refine (walk a0 a1 w0 w1 W).mono fun e W' ⟨he, bel⟩ => ?_
  subst he
  exact ⟨_, rfl, _, _, _, [], _, [], hW', trodAll_mk1 (shut_bool Try.underlying4 _), (trodAll_cons_mk (shut_int Try.underlying22 w0) (trodAll_cons_mk (shut_int Try.underlying22 w1) trodAll_mk0)), rfl, bel.frame _, fun h => by cases h⟩

theorem over : Rows.fnExactCanaryOfRow.holds Try.pinned (OpenSpec.ofChange Rows.fnExactCanaryOfSpec) :=
  OpenClaim.holds_of_wide 3 Try.f3 rfl rfl rfl rfl rfl rfl rfl ⟨rfl, rfl, rfl, rfl, rfl⟩ rfl rfl rfl rfl rfl (by kernel_rfl) Try.func3 (by kernel_rfl)
    (of_decide_eq_true (by kernel_rfl)) (by unfold Func.isWrapper; first | (rw [if_pos (by decide +kernel)]; kernel_rfl) | (rw [if_neg (by decide +kernel)]; exact ⟨rfl, rfl⟩))
    (fun os started H enc _ => lifted os started H enc)

/-- ████ THE STATEMENT ████ -/
theorem proved : Rows.FnExactCanaryOfSaid :=
  over
end Go.Proofs.Ytecfhmlfefkmmaa.fnExactCanaryOf
