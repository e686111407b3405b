import Derived.Test.YtnhkifinfnobfaaWaP
namespace Go.Proofs.Ytnhkifinfnobfaa
open Go.ChangeShapes Go.WideShapes Go.ChangeAt Go.RowKit
set_option linter.unusedVariables false

theorem app_one (W : World) (base : Nat) (a : Option Addr) (c : Nat) (zs : List Int) (y : Int) (h : Ow W base a c zs) (hl : zs.length ≤ 1000000) (hb : base ≤ W.heap.size) :
    ∃ a' c' W', (Builtin.append_ #[23, 23] 23 #[.slice a zs.length c, .slice (some ⟨W.heap.size, 0, none⟩) 1 1]).run Try.prog (W.alloc (.cells #[.int .i64 y] 3)) = .ok (.slice a' (zs.length + 1) c') W' ∧ Ow W' base a' c' (zs ++ [y]) ∧ But (fun k => base ≤ k) W W' := by
  have hA : Below W.heap.size W (W.alloc (.cells #[.int .i64 y] 3)) := (Below.refl _ W).alloc (Nat.le_refl _) _
  obtain ⟨a', c', W', hr, hw, hb⟩ := app_run (W.alloc (.cells #[.int .i64 y] 3)) base a c zs (some ⟨W.heap.size, 0, none⟩) 1 1 [y] (h.below hA) rfl (by simp) (.inr ⟨_, rfl, fun j u hu => by
    cases j with
    | zero =>
      simp [Ns] at hu
      subst hu
      rw [show (⟨W.heap.size, 0, none⟩ : Addr).add 0 = ⟨W.heap.size, 0, none⟩ from rfl, cell_of_row _ _ _ _ _ _ (al_last W _)]
      rfl
    | succ j => simp [Ns] at hu⟩) (by omega) (by have := hA.size; omega)
  exact ⟨a', c', W', hr, hw, (But.ofBelow hA).trans hb⟩
theorem Sl.srcs {w : World} {a : Option Addr} {zs : List Int} (h : Sl w a zs) : (a = none ∧ zs = []) ∨ ∃ ad, a = some ad ∧ ∀ j u, (Ns .i64 zs)[j]? = some u → w.cell? (ad.add j) = some u := by
  rcases h with h | ⟨g, rfl, hr⟩
  · exact .inl h
  · right
    refine ⟨_, rfl, fun j v hv => ?_⟩
    have hj : j < (Ns .i64 zs).length := by
      by_cases hj : j < (Ns .i64 zs).length
      · exact hj
      · rw [List.getElem?_eq_none (by omega)] at hv; cases hv
    have := hr.cell j hj
    rw [hv] at this
    have e : (⟨g, 0, none⟩ : Addr).add j = ⟨g, j, none⟩ := by cases j <;> simp [Addr.add]
    rw [e]
    exact this

/-- the answer of the spec's push in memory -/
def Ans (w : World) (n : Nat) (M F : List Int) (z : Int) (e : Ending) (w' : World) : Prop :=
  ∃ a1 c1 a2 c2, e = .returned (.tuple #[wv a1 M.length c1 a2 F.length c2 (n : Nat), .int .i64 z]) ∧ Wt w' a1 M.length a2 F.length M F ∧ (a1 = none → c1 = 0) ∧ (a2 = none → c2 = 0) ∧ Below w.heap.size w w' ∧ (∀ g, a1 = some ⟨g, 0, none⟩ → w.heap.size ≤ g) ∧ (∀ g, a2 = some ⟨g, 0, none⟩ → w.heap.size ≤ g)

/-- behind the loop, Fifo told: what is left to show -/
theorem Lp.fin {w : World} {s o : Nat} {am : Option Addr} {lm cm : Nat} {af : Option Addr} {lf cf n : Nat} {a : Option Addr} {c : Nat} {ms : List Int} {W W2 : World} (h : Lp w s o am lm cm af lf cf n lm a c ms W) (hs : w.heap.size = s) (hso : s + 1 < o) (hl : ms.length = lm) {a2 : Option Addr} {c2 : Nat} {F : List Int} (hb : Below W.heap.size W W2) (hF : Ow W2 W.heap.size a2 c2 F) :
    W2.heap[o]? = some (.cells #[.slice a lm c, .slice none 0 0, .int .i64 (n : Nat)] 29 (0, 0)) ∧ (∀ W3, W3 = W2.setCell ⟨o, 1, none⟩ (.slice a2 F.length c2) ∨ W3 = (W2.setCell ⟨o, 1, none⟩ (.slice a2 F.length c2)).drew →
      W3.cell? ⟨o, 0, none⟩ = some (.slice a lm c) ∧ W3.cell? ⟨o, 1, none⟩ = some (.slice a2 F.length c2) ∧ W3.cell? ⟨o, 2, none⟩ = some (.int .i64 (n : Nat)) ∧
      W3.heap[s + 1]? = some (.cells #[.slice none 0 0, .slice none 0 0, .int .i64 0] 29 (0, 0)) ∧
      ∀ W4 z, W4 = ((W3.setCell ⟨s + 1, 0, none⟩ (.slice a lm c)).setCell ⟨s + 1, 1, none⟩ (.slice a2 F.length c2)).setCell ⟨s + 1, 2, none⟩ (.int .i64 (n : Nat)) ∨ W4 = (((W3.setCell ⟨s + 1, 0, none⟩ (.slice a lm c)).setCell ⟨s + 1, 1, none⟩ (.slice a2 F.length c2)).setCell ⟨s + 1, 2, none⟩ (.int .i64 (n : Nat))).drew → Ans w n ms F z (.returned (.tuple #[.agg #[.slice a lm c, .slice a2 F.length c2, .int .i64 (n : Nat)], .int .i64 z])) W4) := by
  have ol := lt_blk h.ob
  have ho := below_at h.ob hb
  have h1 := below_at h.s1 hb
  have e : ms.take lm = ms := by rw [← hl, List.take_length]
  have hM := h.ow
  rw [e] at hM
  refine ⟨ho, fun W3 h3 => ?_⟩
  have hb3 : But (fun k => k = o) W2 W3 := by
    rcases h3 with rfl | rfl
    · exact (But.refl _ W2).set _ _ _ rfl
    · exact ((But.refl (fun k => k = o) W2).set _ _ _ rfl).drew
  have ho3 : W3.heap[o]? = some (.cells #[.slice a lm c, .slice a2 F.length c2, .int .i64 (n : Nat)] 29 (0, 0)) := by
    rcases h3 with rfl | rfl
    · rw [heap_setCell_same _ _ _ _ _ _ ho]; rfl
    · show (W2.setCell ⟨o, 1, none⟩ _).heap[o]? = _
      rw [heap_setCell_same _ _ _ _ _ _ ho]; rfl
  refine ⟨by rw [cell_of_row _ _ _ _ _ _ ho3]; rfl, by rw [cell_of_row _ _ _ _ _ _ ho3]; rfl, by rw [cell_of_row _ _ _ _ _ _ ho3]; rfl, hb3.at h1 (by omega), fun W4 z h4 => ?_⟩
  have hb4 : But (fun k => k = s + 1) W3 W4 := by
    rcases h4 with rfl | rfl
    · exact (((But.refl (fun k => k = s + 1) W3).set _ _ _ rfl).set _ _ _ rfl).set _ _ _ rfl
    · exact ((((But.refl (fun k => k = s + 1) W3).set _ _ _ rfl).set _ _ _ rfl).set _ _ _ rfl).drew
  have hMf : Sl W4 a ms := (((hM.below hb).but hb3 (fun g e => by have := (hM.base g e).1; omega)).but hb4 (fun g e => by have := (hM.base g e).1; omega)).sl
  have hFf : Sl W4 a2 F := ((hF.but hb3 (fun g e => by have := (hF.base g e).1; omega)).but hb4 (fun g e => by have := (hF.base g e).1; omega)).sl
  refine ⟨a, c, a2, c2, by rw [hl]; rfl, ⟨hMf, rfl, hFf, rfl⟩, hM.cap0, hF.cap0, ?_, fun g e => by have := (hM.base g e).1; omega, fun g e => by have := (hF.base g e).1; have := h.b.size; omega⟩
  have b2 := bl_trans h.b hb
  exact (b2.trans (hb3.below (by have := b2.size; omega) (fun g hg => by omega))).trans (hb4.below (by have := b2.size; have := hb3.size; omega) (fun g hg => by omega))
end Go.Proofs.Ytnhkifinfnobfaa
