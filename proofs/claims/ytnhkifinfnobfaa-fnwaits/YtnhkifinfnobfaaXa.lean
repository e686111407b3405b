import Derived.Test.YtnhkifinfnobfaaWaZ
namespace Go.Proofs.Ytnhkifinfnobfaa
open Go.ChangeShapes Go.WideShapes Go.ChangeAt Go.RowKit
set_option linter.unusedVariables false

theorem nb_iff {l : Int} {zs : List Int} : nb l zs = true ↔ ∀ x, x ∈ zs → l ≤ x := by
  unfold nb
  rw [List.all_eq_true]
  simp
theorem good_iff {mix fifo : List Int} {n : Nat} : goodM mix fifo (n : Nat) = true ↔ (mix.length ≤ 16 ∧ (1 ≤ n ∧ n ≤ 32) ∧ fifo.length ≤ n) ∧ (∀ x, x ∈ mix → -1 ≤ x) ∧ (∀ x, x ∈ fifo → 0 ≤ x) := by
  unfold goodM
  simp only [Bool.and_eq_true, decide_eq_true_eq, nb_iff]
  constructor
  · rintro ⟨a, b, c, d, e, f⟩; exact ⟨⟨a, ⟨by omega, by omega⟩, by omega⟩, e, f⟩
  · rintro ⟨⟨a, ⟨b, c⟩, d⟩, e, f⟩; exact ⟨a, by omega, by omega, by omega, e, f⟩
theorem pushF_good {n : Nat} {xs : List Int} {y : Int} (h1 : 1 ≤ n) (hl : xs.length ≤ n) (hx : ∀ x, x ∈ xs → 0 ≤ x) (hy : 0 ≤ y) : (pushF n xs y).1.length ≤ n ∧ ∀ x, x ∈ (pushF n xs y).1 → 0 ≤ x := by
  unfold pushF
  split
  · refine ⟨by simp; omega, fun x hm => ?_⟩
    simp at hm
    rcases hm with hm | rfl
    · exact hx x hm
    · exact hy
  · refine ⟨by simp; omega, fun x hm => ?_⟩
    simp at hm
    rcases hm with hm | rfl
    · exact hx x (List.mem_of_mem_tail hm)
    · exact hy
theorem good_next {n : Nat} {mix fifo : List Int} {x : Int} (d : Int) (h : goodM mix fifo (n : Nat) = true) (hx : 0 ≤ x) : goodM (wpM n mix fifo x d).1 (wpM n mix fifo x d).2.1 (n : Nat) = true := by
  obtain ⟨⟨g1, g2, g3⟩, g4, g5⟩ := good_iff.1 h
  refine good_iff.2 ⟨⟨by rw [wpM_len]; exact g1, g2, ?_⟩, ?_, ?_⟩
  all_goals
    unfold wpM
    split
    · rename_i h0
      have := pushF_good g2.1 g3 g5 hx
      first | exact this.1 | exact this.2 | (intro y hy; simp at hy)
    · rename_i h0
      have hl : 0 < mix.length := List.length_pos_iff.2 h0
      have hi := md_lt d mix.length hl
      have hm : mix[md d mix.length]?.getD 0 ∈ mix := by simp [hi]
      split
      · first
          | exact g3
          | exact g5
          | (intro y hy
             rcases List.mem_or_eq_of_mem_set hy with h1 | h1
             · exact g4 y h1
             · omega)
      · rename_i hne
        have := pushF_good g2.1 g3 g5 (y := mix[md d mix.length]?.getD 0) (by have := g4 _ hm; omega)
        first
          | exact this.1
          | exact this.2
          | (intro y hy
             rcases List.mem_or_eq_of_mem_set hy with h1 | h1
             · exact g4 y h1
             · omega)
theorem stW_good {n m : Nat} {slots draws : List Int} (h1 : m ≤ 16) (hn : 1 ≤ n ∧ n ≤ 32) (hs : nb 0 slots = true) : ∀ k, goodM (stW n m slots draws k).1 (stW n m slots draws k).2 (n : Nat) = true
  | 0 => goodR h1 hn
  | k + 1 => good_next _ (stW_good h1 hn hs k) (by
      by_cases h : k < slots.length
      · have hm : slots[k]?.getD 0 ∈ slots := by simp [h]
        exact nb_iff.1 hs _ hm
      · rw [List.getElem?_eq_none (by omega)]; exact Int.le_refl _)
theorem slot_ge {slots : List Int} (hs : nb 0 slots = true) (k : Nat) : 0 ≤ slots[k]?.getD 0 := by
  by_cases h : k < slots.length
  · have hm : slots[k]?.getD 0 ∈ slots := by simp [h]
    exact nb_iff.1 hs _ hm
  · rw [List.getElem?_eq_none (by omega)]; exact Int.le_refl _

/-- the spec's loop: what stands in memory after k pushes -/
structure Ls (w : World) (o n m : Nat) (slots draws : List Int) (k : Nat) (a : Option Addr) (c : Nat) (a1 : Option Addr) (c1 : Nat) (a2 : Option Addr) (c2 : Nat) (W : World) : Prop where
  ob : W.heap[o]? = some (.cells #[.slice a1 (stW n m slots draws k).1.length c1, .slice a2 (stW n m slots draws k).2.length c2, .int .i64 (n : Nat)] 29 (0, 0))
  wt : Wt W a1 (stW n m slots draws k).1.length a2 (stW n m slots draws k).2.length (stW n m slots draws k).1 (stW n m slots draws k).2
  z2 : a2 = none → c2 = 0
  ow : Ow W (o + 1) a c ((outsW n m slots draws).take k)
  b : Below w.heap.size w W
  lo : w.heap.size ≤ o

theorem Sl.ne {w : World} {a : Option Addr} {b : Nat} {zs : List Int} {cs : Array Value} {t : TypeId} (h : Sl w a zs) (hb : w.heap[b]? = some (.cells cs t (0, 0))) (ht : 3 ≠ t) : ∀ g, a = some ⟨g, 0, none⟩ → ¬ (g = b) := by
  rintro g rfl rfl
  rcases h with ⟨e, _⟩ | ⟨g', e, hr⟩
  · cases e
  · simp at e; subst e; exact hr.ne hb ht rfl

/-- an append of one number turns the row itself and no other -/
theorem app_one2 (W : World) (base : Nat) (a : Option Addr) (c : Nat) (zs : List Int) (y : Int) (h : Ow W base a c zs) (hl : zs.length ≤ 1000000) (hb : base ≤ W.heap.size) :
    ∃ a' c' W', (Builtin.append_ #[23, 23] 23 #[.slice a zs.length c, .slice (some ⟨W.heap.size, 0, none⟩) 1 1]).run Try.prog (W.alloc (.cells #[.int .i64 y] 3)) = .ok (.slice a' (zs.length + 1) c') W' ∧ Ow W' base a' c' (zs ++ [y]) ∧ But (fun k => a = some ⟨k, 0, none⟩) W W' := by
  obtain ⟨i0, hi, hz0, hz1, hz2⟩ := info_parts Try.info3In
  have hA : Below W.heap.size W (W.alloc (.cells #[.int .i64 y] 3)) := (Below.refl _ W).alloc (Nat.le_refl _) _
  obtain ⟨v', w', hr, ho, hg, _⟩ := run_append_own (P := Try.prog) (W.alloc (.cells #[.int .i64 y] 3)) base 23 23 3 i0 (.int .i64 0) 1 8 Try.underlying23 hi hz0 hz1 hz2 rfl (by omega) (.slice a zs.length c) zs.length (Ns .i64 zs) (h.below hA) ⟨W.heap.size, 0, none⟩ 1 1 (Ns .i64 [y]) rfl (fun j u hu => by
    cases j with
    | zero =>
      simp [Ns] at hu
      subst hu
      rw [show (⟨W.heap.size, 0, none⟩ : Addr).add 0 = ⟨W.heap.size, 0, none⟩ from rfl, cell_of_row _ _ _ _ _ _ (al_last W _)]
      rfl
    | succ j => simp [Ns] at hu) (Ns_one _ _) (by unfold maxLen; omega) (by omega) (by have := hA.size; omega)
  have hv : ∃ a' c'', v' = .slice a' (zs.length + 1) c'' := by
    rcases ho.2 with ⟨e, e0⟩ | ⟨g, cap, cur, e, _⟩
    · exact ⟨none, 0, by rw [e0]; exact e⟩
    · exact ⟨_, _, e⟩
  obtain ⟨a', c'', rfl⟩ := hv
  refine ⟨a', c'', w', hr, ?_, (But.ofBelow hA).trans ⟨hg.os, hg.tape, hg.output, hg.size, fun k h1 h2 => hg.block k h1 fun h3 => h2 ?_⟩⟩
  · have e1 : (zs ++ [y]).length = zs.length + 1 := by simp
    unfold Ow
    rw [e1]
    have e2 : Ns .i64 (zs ++ [y]) = Ns .i64 zs ++ Ns .i64 [y] := by simp [Ns]
    rw [e2]
    exact ho
  · cases a with
    | none => simp [Value.ownBlock] at h3
    | some x =>
      rcases h.2 with ⟨e, _⟩ | ⟨g, cap, cur, e, hg2, _⟩
      · simp at e
      · simp at e
        obtain ⟨rfl, _⟩ := e
        simp [Value.ownBlock] at h3
        rw [h3]

theorem Ls.next {w : World} {o n m : Nat} {slots draws : List Int} {k : Nat} {a : Option Addr} {c : Nat} {a1 : Option Addr} {c1 : Nat} {a2 : Option Addr} {c2 : Nat} {W w5 : World} {b1 : Option Addr} {d1 : Nat} {b2 : Option Addr} {d2 : Nat} (h : Ls w o n m slots draws k a c a1 c1 a2 c2 W) (hk : k < slots.length) (hl : slots.length ≤ 2000)
    (hw : Wt w5 b1 (stW n m slots draws (k + 1)).1.length b2 (stW n m slots draws (k + 1)).2.length (stW n m slots draws (k + 1)).1 (stW n m slots draws (k + 1)).2) (hz : b2 = none → d2 = 0) (hb : Below W.heap.size W w5) (n1 : ∀ g, b1 = some ⟨g, 0, none⟩ → W.heap.size ≤ g) (n2 : ∀ g, b2 = some ⟨g, 0, none⟩ → W.heap.size ≤ g) :
    w5.heap[o]? = some (.cells #[.slice a1 (stW n m slots draws k).1.length c1, .slice a2 (stW n m slots draws k).2.length c2, .int .i64 (n : Nat)] 29 (0, 0)) ∧
    ∀ W6, W6 = ((w5.setCell ⟨o, 0, none⟩ (.slice b1 (stW n m slots draws (k + 1)).1.length d1)).setCell ⟨o, 1, none⟩ (.slice b2 (stW n m slots draws (k + 1)).2.length d2)).setCell ⟨o, 2, none⟩ (.int .i64 (n : Nat)) →
      ∃ a' c' W7, (Builtin.append_ #[23, 23] 23 #[.slice a k c, .slice (some ⟨W6.heap.size, 0, none⟩) 1 1]).run Try.prog (W6.alloc (.cells #[.int .i64 (outW n m slots draws k)] 3)) = .ok (.slice a' (k + 1) c') W7 ∧ Ls w o n m slots draws (k + 1) a' c' b1 d1 b2 d2 W7 := by
  have ho := below_at h.ob hb
  refine ⟨ho, ?_⟩
  rintro W6 rfl
  have bt : But (fun k => k = o) w5 (((w5.setCell ⟨o, 0, none⟩ (.slice b1 (stW n m slots draws (k + 1)).1.length d1)).setCell ⟨o, 1, none⟩ (.slice b2 (stW n m slots draws (k + 1)).2.length d2)).setCell ⟨o, 2, none⟩ (.int .i64 (n : Nat))) := (((But.refl (fun k => k = o) w5).set _ _ _ rfl).set _ _ _ rfl).set _ _ _ rfl
  have h6 := set3 ho (.slice b1 (stW n m slots draws (k + 1)).1.length d1) (.slice b2 (stW n m slots draws (k + 1)).2.length d2) (.int .i64 (n : Nat))
  have w6 := hw.but bt (hw.m.ne ho (by decide)) (hw.f.ne ho (by decide))
  have ow6 := (h.ow.below hb).but bt (fun g e => by have := (h.ow.base g e).1; omega)
  have b6 : Below w.heap.size w _ := (bl_trans h.b hb).trans (bt.below (bl_trans h.b hb).size (fun g e => by have := h.lo; omega))
  generalize ((w5.setCell ⟨o, 0, none⟩ (.slice b1 (stW n m slots draws (k + 1)).1.length d1)).setCell ⟨o, 1, none⟩ (.slice b2 (stW n m slots draws (k + 1)).2.length d2)).setCell ⟨o, 2, none⟩ (.int .i64 (n : Nat)) = W6 at *
  have lk : ((outsW n m slots draws).take k).length = k := ten (by rw [outsW_len]; omega)
  have ol := lt_blk h6
  obtain ⟨a', c', W7, hr, ho7, hb7⟩ := app_one2 W6 (o + 1) a c ((outsW n m slots draws).take k) (outW n m slots draws k) ow6 (by rw [lk]; omega) (by omega)
  rw [lk] at hr
  have et : (outsW n m slots draws).take k ++ [outW n m slots draws k] = (outsW n m slots draws).take (k + 1) := by
    rw [List.take_add_one, outsW_get _ _ _ _ _ hk]; rfl
  rw [et] at ho7
  refine ⟨a', c', W7, hr, ⟨hb7.at h6 (fun e => by have := (h.ow.base _ e).1; omega), w6.but hb7 (fun g e e' => by have := n1 g e; have := (h.ow.base _ e').2; omega) (fun g e e' => by have := n2 g e; have := (h.ow.base _ e').2; omega), hz, ho7, b6.trans (hb7.below b6.size (fun g e => by have := h.lo; have := (h.ow.base _ e).1; omega)), h.lo⟩⟩
end Go.Proofs.Ytnhkifinfnobfaa
