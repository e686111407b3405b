import Derived.Test.YtnhkifinfnobfaaWaO
namespace Go.Proofs.Ytnhkifinfnobfaa
open Go.ChangeShapes Go.WideShapes Go.ChangeAt Go.RowKit
set_option linter.unusedVariables false

set_option maxHeartbeats 400000 in
theorem spush_no (am : Option Addr) (lm cm : Nat) (af : Option Addr) (lf cf : Nat) (lim : Int) (mix fifo : List Int) (x d : Int) (w : World) (h : Wt w am lm af lf mix fifo) (hg : (goodM mix fifo lim && decide (0 ≤ x)) = false) :
    Calls Try.prog 11 #[wv am lm cm af lf cf lim, .int .i64 x, .int .i64 d] w fun e w' => e = .returned (.tuple #[wv none 0 0 none 0 0 0, .int .i64 (-1)]) ∧ Below w.heap.size w w' := by
  have T2 := hid (al_two w (.cells #[.slice am lm cm, .slice af lf cf, .int .i64 lim] 29) (.cells #[.slice none 0 0, .slice none 0 0, .int .i64 0] 29))
  have GD := hid (l5Good_in am lm cm af lf cf lim mix fifo _ (h.below T2.out.2.2))
  unfold wv at GD ⊢
  clear h
  generalize goodM mix fifo lim = b at *
  have H : Hid (∀ w1, Below ((w.alloc (.cells #[.slice am lm cm, .slice af lf cf, .int .i64 lim] 29)).alloc (.cells #[.slice none 0 0, .slice none 0 0, .int .i64 0] 29)).heap.size ((w.alloc (.cells #[.slice am lm cm, .slice af lf cf, .int .i64 lim] 29)).alloc (.cells #[.slice none 0 0, .slice none 0 0, .int .i64 0] 29)) w1 → w1.heap[w.heap.size + 1]? = some (.cells #[.slice none 0 0, .slice none 0 0, .int .i64 0] 29 (0, 0)) ∧ Below w.heap.size w w1) := fun w1 hb => ⟨below_at T2.out.2.1 hb, bl_trans T2.out.2.2 hb⟩
  clear T2
  cases b
  · go_enter Try.func11, Try.ntmps11
    go_wp2_with fail
    refine (GD.out).mono ?_
    rintro e w1 ⟨rfl, b1⟩
    have Z := hid (H.out w1 b1)
    clear H GD b1
    have d0 : w1.cell? ⟨w.heap.size + 1, 0, none⟩ = some (.slice none 0 0) := by rw [cell_of_row _ _ _ _ _ _ Z.out.1]; rfl
    have d1 : w1.cell? ⟨w.heap.size + 1, 1, none⟩ = some (.slice none 0 0) := by rw [cell_of_row _ _ _ _ _ _ Z.out.1]; rfl
    have d2 : w1.cell? ⟨w.heap.size + 1, 2, none⟩ = some (.int .i64 0) := by rw [cell_of_row _ _ _ _ _ _ Z.out.1]; rfl
    have f0 : w1.frozen? ⟨w.heap.size + 1, 0, none⟩ = false := frozen_of_row _ _ _ _ _ Z.out.1
    have f1 : w1.frozen? ⟨w.heap.size + 1, 1, none⟩ = false := frozen_of_row _ _ _ _ _ Z.out.1
    have f2 : w1.frozen? ⟨w.heap.size + 1, 2, none⟩ = false := frozen_of_row _ _ _ _ _ Z.out.1
    go_wp2
    refine bodyPost_ret (results_two (by rfl) _ _ (w.heap.size + 1) 29 _ (0, 0) _ (by rfl) (set3 Z.out.1 _ _ _) Try.underlying29 rfl (by kernel_rfl)) (by rfl) ?_
    exact ⟨rfl, ((Z.out.2.setCell (by dsimp only; omega) _).setCell (by dsimp only; omega) _).setCell (by dsimp only; omega) _⟩
  · have hx : x < 0 := by simp at hg; exact hg
    go_enter Try.func11, Try.ntmps11
    go_wp2_with fail
    refine (GD.out).mono ?_
    rintro e w1 ⟨rfl, b1⟩
    have Z := hid (H.out w1 b1)
    clear H GD b1
    have d0 : w1.cell? ⟨w.heap.size + 1, 0, none⟩ = some (.slice none 0 0) := by rw [cell_of_row _ _ _ _ _ _ Z.out.1]; rfl
    have d1 : w1.cell? ⟨w.heap.size + 1, 1, none⟩ = some (.slice none 0 0) := by rw [cell_of_row _ _ _ _ _ _ Z.out.1]; rfl
    have d2 : w1.cell? ⟨w.heap.size + 1, 2, none⟩ = some (.int .i64 0) := by rw [cell_of_row _ _ _ _ _ _ Z.out.1]; rfl
    have f0 : w1.frozen? ⟨w.heap.size + 1, 0, none⟩ = false := frozen_of_row _ _ _ _ _ Z.out.1
    have f1 : w1.frozen? ⟨w.heap.size + 1, 1, none⟩ = false := frozen_of_row _ _ _ _ _ Z.out.1
    have f2 : w1.frozen? ⟨w.heap.size + 1, 2, none⟩ = false := frozen_of_row _ _ _ _ _ Z.out.1
    go_wp2
    refine bodyPost_ret (results_two (by rfl) _ _ (w.heap.size + 1) 29 _ (0, 0) _ (by rfl) (set3 Z.out.1 _ _ _) Try.underlying29 rfl (by kernel_rfl)) (by rfl) ?_
    exact ⟨rfl, ((Z.out.2.setCell (by dsimp only; omega) _).setCell (by dsimp only; omega) _).setCell (by dsimp only; omega) _⟩

theorem set_take (mix : List Int) (i k : Nat) (x : Int) (hk : k < mix.length) : (mix.set i x).take (k + 1) = (mix.set i x).take k ++ [if k = i then x else mix[k]?.getD 0] := by
  rw [List.take_add_one]
  congr 1
  rw [List.getElem?_set]
  by_cases h : i = k
  · subst h; simp [hk]
  · rw [if_neg h, if_neg (fun e => h e.symm)]; simp [hk]

/-- the spec's loop over Mix: what stands in memory after k rounds -/
structure Lp (w : World) (s o : Nat) (am : Option Addr) (lm cm : Nat) (af : Option Addr) (lf cf n : Nat) (k : Nat) (a : Option Addr) (c : Nat) (ms : List Int) (W : World) : Prop where
  ob : W.heap[o]? = some (.cells #[.slice a k c, .slice none 0 0, .int .i64 (n : Nat)] 29 (0, 0))
  ow : Ow W (o + 1) a c (ms.take k)
  s0 : W.heap[s]? = some (.cells #[.slice am lm cm, .slice af lf cf, .int .i64 (n : Nat)] 29 (0, 0))
  s1 : W.heap[s + 1]? = some (.cells #[.slice none 0 0, .slice none 0 0, .int .i64 0] 29 (0, 0))
  b : Below w.heap.size w W
theorem ten {ms : List Int} {k : Nat} (h : k ≤ ms.length) : (ms.take k).length = k := by simp; omega

theorem Lp.next {w : World} {s o : Nat} {am : Option Addr} {lm cm : Nat} {af : Option Addr} {lf cf n k : Nat} {a : Option Addr} {c : Nat} {ms : List Int} {W : World} (h : Lp w s o am lm cm af lf cf n k a c ms W) (hs : w.heap.size = s) (hso : s + 1 < o) (hl : ms.length = lm) (hk : k < lm) (hlm : lm ≤ 16) (x : Int) (hx : ms.take (k + 1) = ms.take k ++ [x]) :
    ∃ a' c' W', (Builtin.append_ #[23, 23] 23 #[.slice a k c, .slice (some ⟨W.heap.size, 0, none⟩) 1 1]).run Try.prog (W.alloc (.cells #[.int .i64 x] 3)) = .ok (.slice a' (k + 1) c') W' ∧ W'.cell? ⟨o, 0, none⟩ = some (.slice a k c) ∧ W'.frozen? ⟨o, 0, none⟩ = false ∧ Lp w s o am lm cm af lf cf n (k + 1) a' c' ms (W'.setCell ⟨o, 0, none⟩ (.slice a' (k + 1) c')) := by
  have hA : Below W.heap.size W (W.alloc (.cells #[.int .i64 x] 3)) := (Below.refl _ W).alloc (Nat.le_refl _) _
  have e0 := ten (ms := ms) (k := k) (by omega)
  have ol := lt_blk h.ob
  obtain ⟨a', c', W', hr, hw, hb⟩ := app_run (W.alloc (.cells #[.int .i64 x] 3)) (o + 1) a c (ms.take k) (some ⟨W.heap.size, 0, none⟩) 1 1 [x] (h.ow.below hA) rfl (by simp) (.inr ⟨_, rfl, fun j u hu => by
    cases j with
    | zero =>
      simp [Ns] at hu
      subst hu
      rw [show (⟨W.heap.size, 0, none⟩ : Addr).add 0 = ⟨W.heap.size, 0, none⟩ from rfl, cell_of_row _ _ _ _ _ _ (al_last W _)]
      rfl
    | succ j => simp [Ns] at hu⟩) (by rw [e0]; omega) (by have := hA.size; omega)
  rw [e0] at hr
  rw [← hx] at hw
  have ho := hb.at (below_at h.ob hA) (by omega)
  have h0 := hb.at (below_at h.s0 hA) (by omega)
  have h1 := hb.at (below_at h.s1 hA) (by omega)
  refine ⟨a', c', W', hr, by rw [cell_of_row _ _ _ _ _ _ ho]; rfl, frozen_of_row _ _ _ _ _ ho, ⟨?_, ?_, set_ne h0 _ _ _ (by omega), set_ne h1 _ _ _ (by omega), ?_⟩⟩
  · rw [heap_setCell_same _ _ _ _ _ _ ho]; rfl
  · exact hw.but (S := fun k => k = o) ((But.refl _ W').set _ _ _ rfl) (fun g e => by have := (hw.base g e).1; omega)
  · exact ((bl_trans h.b hA).trans (hb.below (by rw [hs]; have := hA.size; omega) (fun g hg => by omega))).setCell (by dsimp only; omega) _
end Go.Proofs.Ytnhkifinfnobfaa
