import Derived.Test.YthcimbocchoehaaWalkL
import Derived.WalkKit
import Derived.ProofKit
import Derived.OpenShut
import Derived.ShutString
import Derived.ChangeOld
import Derived.Below
namespace Go.Proofs.Ythcimbocchoehaa.fnExactBitsFree
open Go.ChangeShapes Go.WideShapes Go.ChangeAt Go.RowKit
open Go.ChangeMaps (open_string shut_string)
set_option linter.unusedVariables false

theorem own : ownKnob Try.prog.godebug = none := by kernel_rfl
theorem laidOut : laidOutB Try.prog = true := by kernel_rfl

/-! ### STEP 1: THE WALK: the Go text returns true, AND WRITES NOTHING THAT WAS THERE: 'Below w.heap.size w w'' (Derived/Below.lean: '.refl', '.alloc', '.drew', '.setCell' at a new block, '.trans'). Open each 'IsRow' by 'rcases' AHEAD of 'go_enter'; part every test ahead of the walk. -/
theorem walk (a0 : Option Addr) (len0 cap0 : Nat) (z0 : List Int) (a1 : Int) (a2 : Int) (w : World) (w0 : IsRow .u64 w a0 len0 cap0 z0) (w1 : (Lit.int .i64 a1).wf = true) (w2 : (Lit.int .i64 a2).wf = true) :
    Calls Try.prog 7 #[.slice a0 len0 cap0, .int .i64 a1, .int .i64 a2] w fun e w' => e = .returned (.bool true) ∧ Below w.heap.size w w' := by
  by_cases hlen : 1048576 < len0
  · have hl' : ((1048576 : Int) < (len0 : Int)) := by omega
    go_enter Try.func7, Try.ntmps7
    go_wp2
    go_ret
    exact ⟨rfl, Below.refl _ _⟩
  · have hlen' : len0 ≤ 1048576 := by omega
    have hl := w0.len
    have hk2 : a2 < 9223372036854775808 := by have := bounds_i64 w2; omega
    have hw := w0.wf
    have T := hid (fun W (h : IsRow .u64 W a0 len0 cap0 z0) => to_any a0 len0 cap0 z0 W h hlen')
    have S := hid (fun g W h => spec_free g len0 len0 (z0.take len0) a1 a2 W hl hw h hk2)
    have I := hid (fun g W h => impl_free g len0 len0 (z0.take len0) a1 a2 W hl hlen' hw h hk2)
    have Z := hid w0
    have HL := hid hl
    clear hlen w0 hl hw w1 w2 hk2
    generalize freeB (List.take len0 z0) a1 a2 = y at *
    go_enter Try.func7, Try.ntmps7
    go_wp2_with fail
    refine (T.out _ Z.out).mono ?_
    rintro e x1 ⟨rfl, r1, b1⟩
    have R1 := hid r1
    have B1 := hid b1
    clear r1 b1
    go_wp2_with fail
    refine (S.out _ _ R1.out).mono ?_
    rintro e x2 ⟨rfl, b2⟩
    have B2 := hid (bl_trans B1.out b2)
    clear b2
    go_wp2_with fail
    refine (T.out _ (Z.out.below B2.out)).mono ?_
    rintro e x3 ⟨rfl, r3, b3⟩
    have R3 := hid r3
    have B3 := hid (bl_trans B2.out b3)
    clear r3 b3
    go_wp2_with fail
    refine (I.out _ _ R3.out).mono ?_
    rintro e x4 ⟨rfl, b4⟩
    have R4 := hid (R3.out.below b4 R3.out.lt)
    have B4 := hid (bl_trans B3.out b4)
    clear b4
    go_wp2_with fail
    refine (T.out _ (Z.out.below B4.out)).mono ?_
    rintro e x5 ⟨rfl, r5, b5⟩
    have R5 := hid r5
    have X5 := hid (R4.out.below b5 R4.out.lt)
    have B5 := hid (bl_trans B4.out b5)
    clear r5 b5
    go_wp2_with fail
    refine (eq_same _ _ _ _ _ (z0.take len0) _ hlen' (sl_of X5.out HL.out) (sl_of R5.out HL.out)).mono ?_
    rintro e x6 ⟨rfl, b6⟩
    have B6 := hid (bl_trans B5.out b6)
    clear b6
    go_wp2
    go_ret
    exact ⟨rfl, B6.out⟩

/-! ### THE ROW's STEP: WRITTEN OUT: LEAVE IT -/
set_option maxRecDepth 100000 in
theorem lifted (os : Os) (started : os.Started) (H : Type) (enc : TypeId × Value → H) :
    ReturnsInHanded {} Try.checked os 7 .any (Rows.fnExactBitsFreeSpec.pre6 enc Try.prog Try.f7 Rows.fnExactBitsFreeRow.domain false) (Rows.fnExactBitsFreeSpec.post enc Try.prog Try.f7 false true false false) := by
  refine returnsInHanded_of_change (C := Try.checked) own started (by kernel_rfl) Try.func7
    (ChangeSpec.witness6 (enc := enc) (C := Try.checked) false ⟨#[], #[.slice none 0 0, .int .i64 0, .int .i64 0], []⟩ 8 (by kernel_rfl) (by kernel_rfl) (by kernel_rfl) (by kernel_rfl)) ?_
  intro W base args ds gs before hval0 hW hcnd _
  have hval : ∀ (j : Nat) t v, Try.f7.params[j]? = some t → args[j]? = some v → Value.okWide Try.prog W .any base t v := hval0
  have hW' := hW
  obtain ⟨p, q, hA0, hV, rfl, hfz, hnd⟩ := hW
  have hA : DataW.TrodAll enc Try.prog W 0 (fun _ => true) true Try.f7.params.toList args.toList ds p := hA0
  rw [Try.params7] at hA hval
  obtain ⟨v0, vs0, d0, ds0, p0, q0, hargs, rfl, rfl, h0, r0⟩ := trodAll_cons hA
  obtain ⟨v1, vs1, d1, ds1, p1, q1, rfl, rfl, rfl, h1, r1⟩ := trodAll_cons r0
  obtain ⟨v2, vs2, d2, ds2, p2, q2, rfl, rfl, rfl, h2, r2⟩ := trodAll_cons r1
  obtain ⟨rfl, rfl, rfl⟩ := trodAll_nil r2
  obtain rfl : args = #[v0, v1, v2] := by cases args; simp_all
  obtain ⟨rfl, rfl⟩ := trodVars_none hV
  obtain ⟨a0, len0, cap0, rfl⟩ := okWide_slice Try.underlying23 (hval 0 23 v0 rfl rfl)
  have k0 := h0
  have lt0 : ∀ x ∈ p0, x.block < W.heap.size := by obtain ⟨m, hm⟩ := k0; exact DataW.trod_lt m _ _ _ hm
  obtain ⟨z0, w0⟩ : ∃ zs, IsRow .u64 W a0 len0 cap0 zs := by
    obtain ⟨fuel, hf⟩ := h0
    rcases open_ints Try.underlying23 Try.underlying45 (by kernel_rfl) hf with ⟨hcs, _⟩ | ⟨x, l, c, zs, hcs, _, hl, hm, hz, _, hcell, hwz⟩
    · simp [Value.cells] at hcs
      obtain ⟨rfl, rfl, rfl⟩ := hcs
      exact ⟨[], .inl ⟨rfl, rfl, rfl, rfl⟩⟩
    · simp [Value.cells] at hcs
      obtain ⟨rfl, rfl, rfl⟩ := hcs
      exact ⟨zs, .inr ⟨_, rfl, hl, hm, by simpa using hz, hcell, hwz⟩⟩
  obtain ⟨a1, rfl, rfl, rfl, w1⟩ := open_int Try.underlying3 (hval 1 3 v1 rfl rfl) h1
  obtain ⟨a2, rfl, rfl, rfl, w2⟩ := open_int Try.underlying3 (hval 2 3 v2 rfl rfl) h2
  clear hA0 hval0
  refine (walk a0 len0 cap0 z0 a1 a2 W w0 w1 w2).mono fun e W' ⟨he, bel⟩ => ?_
  subst he
  exact ⟨_, rfl, _, _, _, [], _, [], hW', trodAll_mk1 (shut_bool Try.underlying4 _), (trodAll_cons_mk (Below.trod laidOut (by kernel_rfl) (of_decide_eq_true (by kernel_rfl)) k0 bel lt0) (trodAll_cons_mk (shut_int Try.underlying3 w1) (trodAll_cons_mk (shut_int Try.underlying3 w2) trodAll_mk0))), rfl, bel.frame _, fun h => by cases h⟩

theorem over : Rows.fnExactBitsFreeRow.holds Try.pinned (OpenSpec.ofChange Rows.fnExactBitsFreeSpec) :=
  OpenClaim.holds_of_wide 7 Try.f7 rfl rfl rfl rfl rfl rfl rfl ⟨rfl, rfl, rfl, rfl, rfl⟩ rfl rfl rfl rfl rfl (by kernel_rfl) Try.func7 (by kernel_rfl)
    (of_decide_eq_true (by kernel_rfl)) (by unfold Func.isWrapper; first | (rw [if_pos (by decide +kernel)]; kernel_rfl) | (rw [if_neg (by decide +kernel)]; exact ⟨rfl, rfl⟩))
    (fun os started H enc _ => lifted os started H enc)

/-- ████ THE STATEMENT ████ -/
theorem proved : Rows.FnExactBitsFreeSaid := over
end Go.Proofs.Ythcimbocchoehaa.fnExactBitsFree

namespace Go.Proofs.Ythcimbocchoehaa
theorem bitsFree_holds : Rows.FnExactBitsFreeSaid := fnExactBitsFree.proved
#print axioms bitsFree_holds
end Go.Proofs.Ythcimbocchoehaa
