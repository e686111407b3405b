import Derived.Test.YthcimbocchoehaaWalkJ
import Derived.WalkKit
import Derived.ProofKit
import Derived.OpenShut
import Derived.ShutString
import Derived.ChangeOld
import Derived.Below
namespace Go.Proofs.Ythcimbocchoehaa.fnExactBitsPut
open Go.ChangeShapes Go.WideShapes Go.ChangeAt Go.RowKit
open Go.ChangeMaps (open_string shut_string)
set_option linter.unusedVariables false

theorem own : ownKnob Try.prog.godebug = none := by kernel_rfl
theorem laidOut : laidOutB Try.prog = true := by kernel_rfl

/-! ### STEP 1: THE WALK: the Go text returns true, AND WRITES NOTHING THAT WAS THERE: 'Below w.heap.size w w'' (Derived/Below.lean: '.refl', '.alloc', '.drew', '.setCell' at a new block, '.trans'). Open each 'IsRow' by 'rcases' AHEAD of 'go_enter'; part every test ahead of the walk. -/
set_option maxHeartbeats 2000000 in
theorem walk (a0 : Option Addr) (len0 cap0 : Nat) (z0 : List Int) (a1 : Int) (a2 : Int) (a3 : Bool) (w : World) (w0 : IsRow .u64 w a0 len0 cap0 z0) (w1 : (Lit.int .i64 a1).wf = true) (w2 : (Lit.int .i64 a2).wf = true) :
    Calls Try.prog 4 #[.slice a0 len0 cap0, .int .i64 a1, .int .i64 a2, .bool a3] w fun e w' => e = .returned (.bool true) ∧ Below w.heap.size w w' := by
  by_cases hlen : 1048576 < len0
  · have hl' : ((1048576 : Int) < (len0 : Int)) := by omega
    go_enter Try.func4, Try.ntmps4
    go_wp2
    go_ret
    exact ⟨rfl, Below.refl _ _⟩
  · have hlen' : len0 ≤ 1048576 := by omega
    have hl := w0.len
    have hw := w0.wf
    have T := hid (fun W (h : IsRow .u64 W a0 len0 cap0 z0) => to_any a0 len0 cap0 z0 W h hlen')
    have S := hid (fun g W h => spec_put g len0 len0 (z0.take len0) a1 a2 a3 W hl hw h)
    have I := hid (fun g W h => impl_put g len0 len0 (z0.take len0) a1 a2 a3 W hl hlen' hw h)
    have Z := hid w0
    have HL := hid hl
    have PL := hid (show (putZ (z0.take len0) a2.toNat a3).length = len0 by rw [putZ_len]; exact hl)
    clear hlen w0 hl hw w1 w2
    go_enter Try.func4, Try.ntmps4
    go_wp2_with fail
    refine (T.out _ Z.out).mono ?_
    rintro e x1 ⟨rfl, r1, b1⟩
    have R1 := hid r1
    have B1 := hid b1
    clear r1 b1
    go_wp2_with fail
    refine (S.out _ _ R1.out).mono ?_
    rintro e x2 (⟨ho, rfl, b2⟩ | ⟨ho, gs, cs, rfl, hgs, rs, b2⟩)
    ·
      -- refused: both answers are nil
      have B2 := hid (bl_trans B1.out b2)
      clear b2
      go_wp2_with fail
      refine (T.out _ (Z.out.below B2.out)).mono ?_
      rintro e x3 ⟨rfl, r3, b3⟩
      have R3 := hid r3
      have B3 := hid (bl_trans B2.out b3)
      have S3 := hid B2.out.size
      clear r3 b3
      go_wp2_with fail
      refine (I.out _ _ R3.out).mono ?_
      rintro e x4 (⟨_, rfl, b4⟩ | ⟨ho', _⟩)
      rotate_left
      · exact absurd (ho.symm.trans ho') (by decide)
      have R4 := hid (R3.out.below b4 R3.out.lt)
      have B4 := hid (bl_trans B3.out b4)
      clear b4
      go_wp2_with fail
      refine (eq_same none none 0 0 0 [] _ (by decide) (fun i hi => by omega) (fun i hi => by omega)).mono ?_
      rintro e x5 ⟨rfl, b5⟩
      have R5 := hid (R4.out.below b5 R4.out.lt)
      have B5 := hid (bl_trans B4.out b5)
      clear b5
      go_wp2_with fail
      refine (T.out _ (Z.out.below B5.out)).mono ?_
      rintro e x6 ⟨rfl, r6, b6⟩
      have R6 := hid r6
      have X6 := hid (R5.out.below b6 R5.out.lt)
      have B6 := hid (bl_trans B5.out b6)
      clear r6 b6
      go_wp2_with fail
      refine (eq_same _ _ _ _ _ (z0.take len0) _ hlen' (sl_of X6.out HL.out) (sl_of R6.out HL.out)).mono ?_
      rintro e x7 ⟨rfl, b7⟩
      have X7 := hid (X6.out.below b7 X6.out.lt)
      have B7 := hid (bl_trans B6.out b7)
      clear b7
      go_wp2_with fail
      refine (mark_row _ len0 len0 (z0.take len0) 1 _ HL.out hlen' (by decide) X7.out).mono ?_
      rintro e x8 ⟨rfl, _, g8⟩
      have B8 := hid (below_grown B7.out g8 S3.out)
      clear g8
      go_wp2_with fail
      refine (eq_same none none 0 0 0 [] _ (by decide) (fun i hi => by omega) (fun i hi => by omega)).mono ?_
      rintro e x9 ⟨rfl, b9⟩
      have B9 := hid (bl_trans B8.out b9)
      clear b9
      go_wp2_with fail
      refine (mark_nil 1 _ (by decide)).mono ?_
      rintro e x10 ⟨rfl, rfl⟩
      go_wp2_with fail
      refine (held_nil 1 _ (by decide)).mono ?_
      rintro e x11 ⟨rfl, rfl⟩
      go_wp2_with fail
      refine (T.out _ (Z.out.below B9.out)).mono ?_
      rintro e x12 ⟨rfl, r12, b12⟩
      have R12 := hid r12
      have B12 := hid (bl_trans B9.out b12)
      clear r12 b12
      go_wp2_with fail
      refine (I.out _ _ R12.out).mono ?_
      rintro e x13 (⟨_, rfl, b13⟩ | ⟨ho', _⟩)
      rotate_left
      · exact absurd (ho.symm.trans ho') (by decide)
      have B13 := hid (bl_trans B12.out b13)
      clear b13
      go_wp2_with fail
      refine (eq_same none none 0 0 0 [] _ (by decide) (fun i hi => by omega) (fun i hi => by omega)).mono ?_
      rintro e x14 ⟨rfl, b14⟩
      have B14 := hid (bl_trans B13.out b14)
      clear b14
      go_wp2_with fail
      refine (held_nil 1 _ (by decide)).mono ?_
      rintro e x15 ⟨rfl, rfl⟩
      go_wp2
      go_ret
      exact ⟨rfl, B14.out⟩
    · rw [HL.out]
      -- answered: both answers hold the same words
      have B2 := hid (bl_trans B1.out b2)
      have W2 := hid (And.intro hgs rs)
      clear b2 hgs rs
      go_wp2_with fail
      refine (T.out _ (Z.out.below B2.out)).mono ?_
      rintro e x3 ⟨rfl, r3, b3⟩
      have R3 := hid r3
      have B3 := hid (bl_trans B2.out b3)
      have S3 := hid B2.out.size
      have W3 := hid (W2.out.2.below b3 W2.out.2.lt)
      have L3 := hid W2.out.2.lt
      clear r3 b3
      go_wp2_with fail
      refine (I.out _ _ R3.out).mono ?_
      rintro e x4 (⟨ho', _⟩ | ⟨_, gi, ci, rfl, hgi, ri, b4⟩)
      · exact absurd (ho.symm.trans ho') (by decide)
      have R4 := hid (R3.out.below b4 R3.out.lt)
      have G4 := hid (And.intro hgi ri)
      have K4 := hid R3.out.lt
      have W4 := hid (W3.out.below b4 W3.out.lt)
      have B4 := hid (bl_trans B3.out b4)
      clear b4 hgi ri
      rw [HL.out]
      go_wp2_with fail
      refine (eq_same _ _ _ _ _ (putZ (z0.take len0) a2.toNat a3) _ hlen' (sl_of G4.out.2 PL.out) (sl_of W4.out PL.out)).mono ?_
      rintro e x5 ⟨rfl, b5⟩
      have R5 := hid (R4.out.below b5 R4.out.lt)
      have G5 := hid (G4.out.2.below b5 G4.out.2.lt)
      have W5 := hid (W4.out.below b5 W4.out.lt)
      have B5 := hid (bl_trans B4.out b5)
      clear b5
      go_wp2_with fail
      refine (T.out _ (Z.out.below B5.out)).mono ?_
      rintro e x6 ⟨rfl, r6, b6⟩
      have R6 := hid r6
      have X6 := hid (R5.out.below b6 R5.out.lt)
      have G6 := hid (G5.out.below b6 G5.out.lt)
      have W6 := hid (W5.out.below b6 W5.out.lt)
      have B6 := hid (bl_trans B5.out b6)
      clear r6 b6
      go_wp2_with fail
      refine (eq_same _ _ _ _ _ (z0.take len0) _ hlen' (sl_of X6.out HL.out) (sl_of R6.out HL.out)).mono ?_
      rintro e x7 ⟨rfl, b7⟩
      have X7 := hid (X6.out.below b7 X6.out.lt)
      have G7 := hid (G6.out.below b7 G6.out.lt)
      have W7 := hid (W6.out.below b7 W6.out.lt)
      have B7 := hid (bl_trans B6.out b7)
      clear b7
      go_wp2_with fail
      refine (mark_row _ len0 len0 (z0.take len0) 1 _ HL.out hlen' (by decide) X7.out).mono ?_
      rintro e x8 ⟨rfl, _, g8⟩
      have B8 := hid (below_grown B7.out g8 S3.out)
      have G8 := hid (G7.out.grown g8 (by have h1 := K4.out; have h2 := G4.out.1; omega))
      have W8 := hid (W7.out.grown g8 (by have h1 := L3.out; omega))
      clear g8
      go_wp2_with fail
      refine (eq_same _ _ _ _ _ (putZ (z0.take len0) a2.toNat a3) _ hlen' (sl_of G8.out PL.out) (sl_of W8.out PL.out)).mono ?_
      rintro e x9 ⟨rfl, b9⟩
      have G9 := hid (G8.out.below b9 G8.out.lt)
      have W9 := hid (W8.out.below b9 W8.out.lt)
      have B9 := hid (bl_trans B8.out b9)
      clear b9
      go_wp2_with fail
      refine (mark_row gi len0 ci (putZ (z0.take len0) a2.toNat a3) 1 _ PL.out hlen' (by decide) G9.out).mono ?_
      rintro e x10 ⟨rfl, r10, g10⟩
      have M10 := hid r10
      have B10 := hid (below_grown B9.out g10 (by have h1 := S3.out; have h2 := G4.out.1; have h3 := K4.out; omega))
      have W10 := hid (W9.out.grown g10 (by have h1 := L3.out; have h2 := G4.out.1; have h3 := K4.out; omega))
      clear r10 g10
      go_wp2_with fail
      refine (held_row gi len0 ci 1 _ hlen' (by decide) M10.out).mono ?_
      rintro e x11 ⟨rfl, rfl⟩
      go_wp2_with fail
      refine (T.out _ (Z.out.below B10.out)).mono ?_
      rintro e x12 ⟨rfl, r12, b12⟩
      have R12 := hid r12
      have M12 := hid (M10.out.below b12 M10.out.lt)
      have W12 := hid (W10.out.below b12 W10.out.lt)
      have B12 := hid (bl_trans B10.out b12)
      clear r12 b12
      go_wp2_with fail
      refine (I.out _ _ R12.out).mono ?_
      rintro e x13 (⟨ho', _⟩ | ⟨_, gh, ch, rfl, hgh, rh, b13⟩)
      · exact absurd (ho.symm.trans ho') (by decide)
      have H13 := hid rh
      have M13 := hid (M12.out.below b13 M12.out.lt)
      have W13 := hid (W12.out.below b13 W12.out.lt)
      have B13 := hid (bl_trans B12.out b13)
      clear b13 hgh rh
      rw [HL.out]
      go_wp2_with fail
      refine (eq_same _ _ _ _ _ (putZ (z0.take len0) a2.toNat a3) _ hlen' (sl_of H13.out PL.out) (sl_of W13.out PL.out)).mono ?_
      rintro e x14 ⟨rfl, b14⟩
      have M14 := hid (M13.out.below b14 M13.out.lt)
      have B14 := hid (bl_trans B13.out b14)
      clear b14
      go_wp2_with fail
      refine (held_row gi len0 ci 1 _ hlen' (by decide) M14.out).mono ?_
      rintro e x15 ⟨rfl, rfl⟩
      go_wp2
      go_ret
      exact ⟨rfl, B14.out⟩

/-! ### THE ROW's STEP: WRITTEN OUT: LEAVE IT -/
set_option maxRecDepth 100000 in
theorem lifted (os : Os) (started : os.Started) (H : Type) (enc : TypeId × Value → H) :
    ReturnsInHanded {} Try.checked os 4 .any (Rows.fnExactBitsPutSpec.pre6 enc Try.prog Try.f4 Rows.fnExactBitsPutRow.domain false) (Rows.fnExactBitsPutSpec.post enc Try.prog Try.f4 false true false false) := by
  refine returnsInHanded_of_change (C := Try.checked) own started (by kernel_rfl) Try.func4
    (ChangeSpec.witness6 (enc := enc) (C := Try.checked) false ⟨#[], #[.slice none 0 0, .int .i64 0, .int .i64 0, .bool false], []⟩ 8 (by kernel_rfl) (by kernel_rfl) (by kernel_rfl) (by kernel_rfl)) ?_
  intro W base args ds gs before hval0 hW hcnd _
  have hval : ∀ (j : Nat) t v, Try.f4.params[j]? = some t → args[j]? = some v → Value.okWide Try.prog W .any base t v := hval0
  have hW' := hW
  obtain ⟨p, q, hA0, hV, rfl, hfz, hnd⟩ := hW
  have hA : DataW.TrodAll enc Try.prog W 0 (fun _ => true) true Try.f4.params.toList args.toList ds p := hA0
  rw [Try.params4] at hA hval
  obtain ⟨v0, vs0, d0, ds0, p0, q0, hargs, rfl, rfl, h0, r0⟩ := trodAll_cons hA
  obtain ⟨v1, vs1, d1, ds1, p1, q1, rfl, rfl, rfl, h1, r1⟩ := trodAll_cons r0
  obtain ⟨v2, vs2, d2, ds2, p2, q2, rfl, rfl, rfl, h2, r2⟩ := trodAll_cons r1
  obtain ⟨v3, vs3, d3, ds3, p3, q3, rfl, rfl, rfl, h3, r3⟩ := trodAll_cons r2
  obtain ⟨rfl, rfl, rfl⟩ := trodAll_nil r3
  obtain rfl : args = #[v0, v1, v2, v3] := by cases args; simp_all
  obtain ⟨rfl, rfl⟩ := trodVars_none hV
  obtain ⟨a0, len0, cap0, rfl⟩ := okWide_slice Try.underlying23 (hval 0 23 v0 rfl rfl)
  have k0 := h0
  have lt0 : ∀ x ∈ p0, x.block < W.heap.size := by obtain ⟨m, hm⟩ := k0; exact DataW.trod_lt m _ _ _ hm
  obtain ⟨z0, w0⟩ : ∃ zs, IsRow .u64 W a0 len0 cap0 zs := by
    obtain ⟨fuel, hf⟩ := h0
    rcases open_ints Try.underlying23 Try.underlying45 (by kernel_rfl) hf with ⟨hcs, _⟩ | ⟨x, l, c, zs, hcs, _, hl, hm, hz, _, hcell, hwz⟩
    · simp [Value.cells] at hcs
      obtain ⟨rfl, rfl, rfl⟩ := hcs
      exact ⟨[], .inl ⟨rfl, rfl, rfl, rfl⟩⟩
    · simp [Value.cells] at hcs
      obtain ⟨rfl, rfl, rfl⟩ := hcs
      exact ⟨zs, .inr ⟨_, rfl, hl, hm, by simpa using hz, hcell, hwz⟩⟩
  obtain ⟨a1, rfl, rfl, rfl, w1⟩ := open_int Try.underlying3 (hval 1 3 v1 rfl rfl) h1
  obtain ⟨a2, rfl, rfl, rfl, w2⟩ := open_int Try.underlying3 (hval 2 3 v2 rfl rfl) h2
  obtain ⟨a3, rfl, rfl, rfl⟩ := open_bool Try.underlying4 (hval 3 4 v3 rfl rfl) h3
  clear hA0 hval0
  refine (walk a0 len0 cap0 z0 a1 a2 a3 W w0 w1 w2).mono fun e W' ⟨he, bel⟩ => ?_
  subst he
  exact ⟨_, rfl, _, _, _, [], _, [], hW', trodAll_mk1 (shut_bool Try.underlying4 _), (trodAll_cons_mk (Below.trod laidOut (by kernel_rfl) (of_decide_eq_true (by kernel_rfl)) k0 bel lt0) (trodAll_cons_mk (shut_int Try.underlying3 w1) (trodAll_cons_mk (shut_int Try.underlying3 w2) (trodAll_cons_mk (shut_bool Try.underlying4 _) trodAll_mk0)))), rfl, bel.frame _, fun h => by cases h⟩

theorem over : Rows.fnExactBitsPutRow.holds Try.pinned (OpenSpec.ofChange Rows.fnExactBitsPutSpec) :=
  OpenClaim.holds_of_wide 4 Try.f4 rfl rfl rfl rfl rfl rfl rfl ⟨rfl, rfl, rfl, rfl, rfl⟩ rfl rfl rfl rfl rfl (by kernel_rfl) Try.func4 (by kernel_rfl)
    (of_decide_eq_true (by kernel_rfl)) (by unfold Func.isWrapper; first | (rw [if_pos (by decide +kernel)]; kernel_rfl) | (rw [if_neg (by decide +kernel)]; exact ⟨rfl, rfl⟩))
    (fun os started H enc _ => lifted os started H enc)

/-- ████ THE STATEMENT ████ -/
theorem proved : Rows.FnExactBitsPutSaid := over
end Go.Proofs.Ythcimbocchoehaa.fnExactBitsPut

namespace Go.Proofs.Ythcimbocchoehaa
theorem bitsPut_holds : Rows.FnExactBitsPutSaid := fnExactBitsPut.proved
#print axioms bitsPut_holds
end Go.Proofs.Ythcimbocchoehaa
