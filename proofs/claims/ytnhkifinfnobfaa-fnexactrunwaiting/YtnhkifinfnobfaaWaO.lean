import Derived.Test.YtnhkifinfnobfaaWaN
import Derived.Laws.OwnMore
namespace Go.Proofs.Ytnhkifinfnobfaa
open Go.ChangeShapes Go.WideShapes Go.ChangeAt Go.RowKit
set_option linter.unusedVariables false

/-- a slice of whole numbers that the call has made itself, in no block below base -/
def Ow (w : World) (base : Nat) (a : Option Addr) (c : Nat) (zs : List Int) : Prop := w.ownsRow base 3 1 (.slice a zs.length c) zs.length (Ns .i64 zs)
theorem Ow.nil (w : World) (base : Nat) : Ow w base none 0 [] := ⟨rfl, .inl ⟨rfl, rfl⟩⟩
theorem Ow.but {S : Nat → Prop} {w w' : World} {base : Nat} {a : Option Addr} {c : Nat} {zs : List Int} (h : Ow w base a c zs) (hb : But S w w') (hS : ∀ g, a = some ⟨g, 0, none⟩ → ¬ S g) : Ow w' base a c zs := by
  refine ⟨h.1, ?_⟩
  rcases h.2 with h2 | ⟨g, cap, cur, e, hg, hh, h3⟩
  · exact .inl h2
  · right
    have ea : a = some ⟨g, 0, none⟩ := by simp at e; exact e.1
    exact ⟨g, cap, cur, e, hg, by rw [hb.block g (lt_blk hh) (hS g ea)]; exact hh, h3⟩
theorem Ow.below {w w' : World} {base : Nat} {a : Option Addr} {c : Nat} {zs : List Int} (h : Ow w base a c zs) (hb : Below w.heap.size w w') : Ow w' base a c zs := h.but (But.ofBelow (S := fun _ => False) hb) (fun _ _ => id)
theorem Ow.base {w : World} {base : Nat} {a : Option Addr} {c : Nat} {zs : List Int} (h : Ow w base a c zs) : ∀ g, a = some ⟨g, 0, none⟩ → base ≤ g ∧ g < w.heap.size := by
  rintro g rfl
  rcases h.2 with ⟨e, _⟩ | ⟨g', cap, cur, e, hg, hh, h3⟩
  · simp at e
  · simp at e
    obtain ⟨rfl, _⟩ := e
    exact ⟨hg, lt_blk hh⟩
theorem Ow.sl {w : World} {base : Nat} {a : Option Addr} {c : Nat} {zs : List Int} (h : Ow w base a c zs) : Sl w a zs := by
  have h' := h
  rcases h.2 with ⟨e, h0⟩ | ⟨g, cap, cur, e, hg, hh, h3⟩
  · simp at e
    exact .inl ⟨e.1, List.length_eq_zero_iff.1 h0⟩
  · have ea : a = some ⟨g, 0, none⟩ := by simp at e; exact e.1
    subst ea
    exact .inr ⟨g, rfl, RowV.ofOwns h'⟩
theorem Ow.cap0 {w : World} {base : Nat} {a : Option Addr} {c : Nat} {zs : List Int} (h : Ow w base a c zs) : a = none → c = 0 := by
  rintro rfl
  rcases h.2 with ⟨e, h0⟩ | ⟨g, cap, cur, e, hg, hh, h3⟩
  · simp at e; exact e.2
  · simp at e
theorem Ow.capge {w : World} {base : Nat} {a : Option Addr} {c : Nat} {zs : List Int} (h : Ow w base a c zs) : zs.length ≤ c := by
  rcases h.2 with ⟨e, h0⟩ | ⟨g, cap, cur, e, hg, hh, h3, _⟩
  · omega
  · simp at e; omega

theorem app_run (w : World) (base : Nat) (a : Option Addr) (c : Nat) (zs : List Int) (sp : Option Addr) (m c' : Nat) (ys : List Int) (hown : Ow w base a c zs) (hm : ys.length = m) (h0 : sp = none → c' = 0)
    (hsrc : (sp = none ∧ ys = []) ∨ ∃ ad, sp = some ad ∧ ∀ j u, (Ns .i64 ys)[j]? = some u → w.cell? (ad.add j) = some u) (hb : zs.length + m ≤ 1048576) (hbase : base ≤ w.heap.size) :
    ∃ a' c'' w', (Builtin.append_ #[23, 23] 23 #[.slice a zs.length c, .slice sp m c']).run Try.prog w = .ok (.slice a' (zs.length + m) c'') w' ∧ Ow w' base a' c'' (zs ++ ys) ∧ But (fun k => base ≤ k) w w' := by
  obtain ⟨i0, hi, hz0, hz1, hz2⟩ := info_parts Try.info3In
  rcases hsrc with ⟨rfl, rfl⟩ | ⟨ad, rfl, hs⟩
  · obtain rfl : m = 0 := by simpa using hm.symm
    obtain rfl := h0 rfl
    refine ⟨a, c, w, ?_, by rw [List.append_nil]; exact hown, But.refl _ _⟩
    rw [Nat.add_zero]
    exact run_append_owned_none (P := Try.prog) (w := w) base 23 23 3 i0 1 Try.underlying23 hi _ _ _ hown
  · obtain ⟨v', w', hr, ho, hg, _⟩ := run_append_own (P := Try.prog) w base 23 23 3 i0 (.int .i64 0) 1 8 Try.underlying23 hi hz0 hz1 hz2 rfl (by omega) (.slice a zs.length c) zs.length (Ns .i64 zs) hown ad m c' (Ns .i64 ys) (by rw [Ns_len]; omega) hs (Ns_one _ _) (by unfold maxLen; omega) (by omega) hbase
    have hv : ∃ a' c'', v' = .slice a' (zs.length + m) c'' := by
      rcases ho.2 with ⟨e, e0⟩ | ⟨g, cap, cur, e, _⟩
      · exact ⟨none, 0, by rw [e0]; exact e⟩
      · exact ⟨_, _, e⟩
    obtain ⟨a', c'', rfl⟩ := hv
    refine ⟨a', c'', w', hr, ?_, ⟨hg.os, hg.tape, hg.output, hg.size, fun k h1 h2 => hg.block k h1 fun h3 => h2 ?_⟩⟩
    · have e1 : (zs ++ ys).length = zs.length + m := by simp [hm]
      unfold Ow
      rw [e1]
      have e2 : Ns .i64 (zs ++ ys) = Ns .i64 zs ++ Ns .i64 ys := by simp [Ns]
      rw [e2]
      exact ho
    · cases a with
      | none => simp [Value.ownBlock] at h3
      | some x =>
        rcases hown.2 with ⟨e, _⟩ | ⟨g, cap, cur, e, hg2, _⟩
        · simp at e
        · simp at e
          obtain ⟨rfl, _⟩ := e
          simp [Value.ownBlock] at h3
          omega
end Go.Proofs.Ytnhkifinfnobfaa
