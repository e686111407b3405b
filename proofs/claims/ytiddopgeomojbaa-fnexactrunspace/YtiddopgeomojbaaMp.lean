import Derived.Test.YtiddopgeomojbaaMk
import Derived.WalkKit
import Derived.ProofKit
import Derived.OpenShut
import Derived.ShutString
import Derived.ChangeOld
import Derived.Below
import Derived.Deep.Slices
namespace Go.Proofs.Ytiddopgeomojbaa.fnExactRunSpace
open Go.ChangeShapes Go.WideShapes Go.ChangeAt Go.RowKit
open Go.ChangeMaps (open_string shut_string)
set_option linter.unusedVariables false

theorem own : ownKnob Try.prog.godebug = none := by kernel_rfl
theorem laidOut : laidOutB Try.prog = true := by kernel_rfl

theorem cells61 : Try.prog.cellsOf 61 = 6 := by kernel_rfl
theorem cells3 : Try.prog.cellsOf 3 = 1 := by kernel_rfl
theorem cells32 : Try.prog.cellsOf 32 = 1 := by kernel_rfl
theorem cells22 : Try.prog.cellsOf 22 = 1 := by kernel_rfl
instance : Inhabited Op9 := ⟨⟨0, 0, 0, 0, 0, none, 0, 0, []⟩⟩
theorem list6 {α : Type} {l : List α} (h : l.length = 6) : ∃ c0 c1 c2 c3 c4 c5, l = [c0, c1, c2, c3, c4, c5] := by
  match l, h with
  | [c0, c1, c2, c3, c4, c5], _ => exact ⟨c0, c1, c2, c3, c4, c5, rfl⟩
theorem trod_struct6 {H : Type} {enc : TypeId × Value → H} {P : Program} {w : World} {base : Nat} {spare : Nat → Bool} {held : Bool} {t : TypeId} {f0 f1 f2 f3 f4 f5 : Field} {fuel : Nat} {cs : List Value} {x : DataW H × List MemPlace} (ht : P.underlying t = some (.struct #[f0, f1, f2, f3, f4, f5])) (h : DataW.trod enc P w base spare held fuel t cs = some x) :
    ∃ y0 y1 y2 y3 y4 y5 n, DataW.trod enc P w base spare held n f0.type ((cs.drop f0.offset).take (P.cellsOf f0.type)) = some y0 ∧ DataW.trod enc P w base spare held n f1.type ((cs.drop f1.offset).take (P.cellsOf f1.type)) = some y1 ∧ DataW.trod enc P w base spare held n f2.type ((cs.drop f2.offset).take (P.cellsOf f2.type)) = some y2 ∧
      DataW.trod enc P w base spare held n f3.type ((cs.drop f3.offset).take (P.cellsOf f3.type)) = some y3 ∧ DataW.trod enc P w base spare held n f4.type ((cs.drop f4.offset).take (P.cellsOf f4.type)) = some y4 ∧ DataW.trod enc P w base spare held n f5.type ((cs.drop f5.offset).take (P.cellsOf f5.type)) = some y5 := by
  obtain ⟨xs, n, _, _, _, hlen, hf⟩ := DataW.trod_struct ht h
  obtain ⟨y0, y1, y2, y3, y4, y5, rfl⟩ := list6 (l := xs) hlen
  exact ⟨y0, y1, y2, y3, y4, y5, n, hf 0 f0 rfl, hf 1 f1 rfl, hf 2 f2 rfl, hf 3 f3 rfl, hf 4 f4 rfl, hf 5 f5 rfl⟩
theorem row_of {H : Type} {enc : TypeId × Value → H} {W : World} {n : Nat} {cs : List Value} {y : DataW H × List MemPlace} (h : DataW.trod enc Try.prog W 0 (fun _ => true) true n 22 cs = some y) : ∃ a len cap zs, cs = [.slice a len cap] ∧ len ≤ maxLen ∧ IsRow .u8 W a len cap zs := by
  rcases open_ints Try.underlying22 Try.underlying5 (by kernel_rfl) h with ⟨hcs, _⟩ | ⟨x, l, c, zs, hcs, _, hl, hm, hz, _, hcell, hwz⟩
  · exact ⟨none, 0, 0, [], hcs, by unfold maxLen; omega, .inl ⟨rfl, rfl, rfl, rfl⟩⟩
  · exact ⟨some x, l, c, zs, hcs, by omega, .inr ⟨_, rfl, hl, hm, by simpa using hz, hcell, hwz⟩⟩
theorem op_of {H : Type} {enc : TypeId × Value → H} {W : World} {n : Nat} {p : Addr} {cs : List Value} {y : DataW H × List MemPlace} (hc : W.cells? 0 p 6 = some cs) (h : DataW.trod enc Try.prog W 0 (fun _ => true) true n 61 cs = some y) : ∃ o : Op9, (∀ j v, (opC o)[j]? = some v → W.cell? (p.add j) = some v) ∧ In1 W o := by
  obtain ⟨_, hlen, hcell⟩ := World.cells?_some hc
  obtain ⟨c0, c1, c2, c3, c4, c5, rfl⟩ := list6 hlen
  obtain ⟨x0, x1, x2, x3, x4, x5, m, f0, f1, f2, f3, f4, f5⟩ := trod_struct6 Try.underlying61 h
  dsimp only at f0 f1 f2 f3 f4 f5
  rw [cells3] at f0 f1 f2 f4
  rw [cells32] at f3
  rw [cells22] at f5
  replace f0 : DataW.trod enc Try.prog W 0 (fun _ => true) true m 3 [c0] = some x0 := f0
  replace f1 : DataW.trod enc Try.prog W 0 (fun _ => true) true m 3 [c1] = some x1 := f1
  replace f2 : DataW.trod enc Try.prog W 0 (fun _ => true) true m 3 [c2] = some x2 := f2
  replace f3 : DataW.trod enc Try.prog W 0 (fun _ => true) true m 32 [c3] = some x3 := f3
  replace f4 : DataW.trod enc Try.prog W 0 (fun _ => true) true m 3 [c4] = some x4 := f4
  replace f5 : DataW.trod enc Try.prog W 0 (fun _ => true) true m 22 [c5] = some x5 := f5
  obtain ⟨n0, e0, _, w0⟩ := DataW.trod_int Try.underlying3 f0
  obtain ⟨n1, e1, _, w1⟩ := DataW.trod_int Try.underlying3 f1
  obtain ⟨n2, e2, _, w2⟩ := DataW.trod_int Try.underlying3 f2
  obtain ⟨n3, e3, _, w3⟩ := DataW.trod_int Try.underlying32 f3
  obtain ⟨n4, e4, _, w4⟩ := DataW.trod_int Try.underlying3 f4
  obtain ⟨a, len, cap, zs, e5, hm, hr⟩ := row_of f5
  cases e0; cases e1; cases e2; cases e3; cases e4; cases e5
  have b3 := bounds_u64 w3
  refine ⟨⟨n0, n1, n2, n3.toNat, n4, a, len, cap, zs.take len⟩, fun j v hv => ?_, by dsimp only; omega, (bounds_i64 w1).2, hm, zs, hr, rfl⟩
  have hj := (List.getElem?_eq_some_iff.1 hv).1
  rw [hcell j (by simpa [opC] using hj), ← hv]
  unfold opC
  rw [show ((n3.toNat : Nat) : Int) = n3 by omega]
theorem ops_of {H : Type} {enc : TypeId × Value → H} {W : World} {n : Nat} {cs : List Value} {y : DataW H × List MemPlace} (h : DataW.trod enc Try.prog W 0 (fun _ => true) true n 39 cs = some y) : ∃ A len cap ops, cs = [.slice A len cap] ∧ InO W A len ops := by
  rcases Go.Deep.open_slice Try.underlying39 h with ⟨hcs, _⟩ | ⟨a, len, cap, m, n', D, Pl, hcs, _, hl, hm, hmm, _, hx⟩
  · exact ⟨none, 0, 0, [], hcs, ⟨rfl, by unfold maxLen; omega, fun k o ho => by simp at ho⟩⟩
  · have hmc : m = cap := by simpa using hmm
    subst hmc
    obtain ⟨V, hV⟩ := Go.Deep.choose_lt (n := len) (p := fun i o => (∀ j v, (opC o)[j]? = some v → W.cell? ((a.add (i * 6)).add j) = some v) ∧ In1 W o) (fun i hi => by
      obtain ⟨cs', h1, h2⟩ := hx i (by omega)
      rw [cells61] at h1
      exact op_of h1 h2)
    refine ⟨some a, len, m, (List.range len).map V, hcs, ⟨by simp, by omega, fun k o ho => ?_⟩⟩
    have hk := (List.getElem?_eq_some_iff.1 ho).1
    simp at hk
    simp [hk] at ho
    subst ho
    exact ⟨a, rfl, (hV k hk).1, (hV k hk).2⟩

set_option maxRecDepth 100000 in
theorem lifted (os : Go.Os) (started : os.Started) (H : Type) (enc : TypeId × Value → H) :
    ReturnsInHanded {} Try.checked os 4 .any (Rows.fnExactRunSpaceSpec.pre6 enc Try.prog Try.f4 Rows.fnExactRunSpaceRow.domain false) (Rows.fnExactRunSpaceSpec.post enc Try.prog Try.f4 false true false false) := by
  refine returnsInHanded_of_change (C := Try.checked) own started (by kernel_rfl) Try.func4
    (ChangeSpec.witness6 (enc := enc) (C := Try.checked) false ⟨#[], #[.int .i64 0, .int .i64 0, .slice none 0 0], []⟩ 8 (by kernel_rfl) (by kernel_rfl) (by kernel_rfl) (by kernel_rfl)) ?_
  intro W base args ds gs before hval0 hW hcnd _
  have hval : ∀ (j : Nat) t v, Try.f4.params[j]? = some t → args[j]? = some v → Value.okWide Try.prog W .any base t v := hval0
  have hW' := hW
  obtain ⟨p, q, hA0, hV, rfl, hfz, hnd⟩ := hW
  have hA : DataW.TrodAll enc Try.prog W 0 (fun _ => true) true Try.f4.params.toList args.toList ds p := hA0
  rw [Try.params4] at hA hval
  obtain ⟨v0, vs0, d0, ds0, p0, q0, hargs, rfl, rfl, h0, r0⟩ := trodAll_cons hA
  obtain ⟨v1, vs1, d1, ds1, p1, q1, rfl, rfl, rfl, h1, r1⟩ := trodAll_cons r0
  obtain ⟨v2, vs2, d2, ds2, p2, q2, rfl, rfl, rfl, h2, r2⟩ := trodAll_cons r1
  obtain ⟨rfl, rfl, rfl⟩ := trodAll_nil r2
  obtain rfl : args = #[v0, v1, v2] := by cases args; simp_all
  obtain ⟨rfl, rfl⟩ := trodVars_none hV
  obtain ⟨a0, rfl, rfl, rfl, w0⟩ := open_int Try.underlying3 (hval 0 3 v0 rfl rfl) h0
  obtain ⟨a1, rfl, rfl, rfl, w1⟩ := open_int Try.underlying3 (hval 1 3 v1 rfl rfl) h1
  obtain ⟨a2, len2, cap2, rfl⟩ := okWide_slice Try.underlying39 (hval 2 39 v2 rfl rfl)
  have k2 := h2
  have lt2 : ∀ x ∈ p2, x.block < W.heap.size := by obtain ⟨m, hm⟩ := k2; exact DataW.trod_lt m _ _ _ hm
  obtain ⟨ops, hI⟩ : ∃ ops, InO W a2 len2 ops := by
    obtain ⟨fuel, hf⟩ := h2
    obtain ⟨A, len, cap, ops, e, hI⟩ := ops_of hf
    simp [Value.cells] at e
    obtain ⟨rfl, rfl, rfl⟩ := e
    exact ⟨ops, hI⟩
  clear hA0 hval0
  refine (walkS a0 a1 a2 len2 cap2 ops W hI).mono fun e W' ⟨he, bel⟩ => ?_
  subst he
  exact ⟨_, rfl, _, _, _, [], _, [], hW', trodAll_mk1 (shut_bool Try.underlying4 _), (trodAll_cons_mk (shut_int Try.underlying3 w0) (trodAll_cons_mk (shut_int Try.underlying3 w1) (trodAll_cons_mk (Below.trod laidOut (by kernel_rfl) (of_decide_eq_true (by kernel_rfl)) k2 bel lt2) trodAll_mk0))), rfl, bel.frame _, fun h => by cases h⟩

theorem over : Rows.fnExactRunSpaceRow.holds Try.pinned (OpenSpec.ofChange Rows.fnExactRunSpaceSpec) :=
  OpenClaim.holds_of_wide 4 Try.f4 rfl rfl rfl rfl rfl rfl rfl ⟨rfl, rfl, rfl, rfl, rfl⟩ rfl rfl rfl rfl rfl (by kernel_rfl) Try.func4 (by kernel_rfl)
    (of_decide_eq_true (by kernel_rfl)) (by unfold Func.isWrapper; first | (rw [if_pos (by decide +kernel)]; kernel_rfl) | (rw [if_neg (by decide +kernel)]; exact ⟨rfl, rfl⟩))
    (fun os started H enc _ => lifted os started H enc)

/-- ████ THE STATEMENT ████ -/
theorem proved : Rows.FnExactRunSpaceSaid := over
end Go.Proofs.Ytiddopgeomojbaa.fnExactRunSpace

namespace Go.Proofs.Ytiddopgeomojbaa
theorem runSpace_holds : Rows.FnExactRunSpaceSaid := fnExactRunSpace.proved
#print axioms runSpace_holds
end Go.Proofs.Ytiddopgeomojbaa
