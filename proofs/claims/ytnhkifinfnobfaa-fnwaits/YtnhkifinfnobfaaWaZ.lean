import Derived.Test.YtnhkifinfnobfaaWaY
namespace Go.Proofs.Ytnhkifinfnobfaa
open Go.ChangeShapes Go.WideShapes Go.ChangeAt Go.RowKit
set_option linter.unusedVariables false

/-- arguments of a run that are good -/
def okW (mix lim : Int) (slots : List Int) : Bool := decide (0 ≤ mix) && (decide (mix ≤ 16) && (decide (1 ≤ lim) && (decide (lim ≤ 32) && (decide (slots.length ≤ 2000) && nb 0 slots))))

set_option maxHeartbeats 1000000 in
theorem run_no (mix lim : Int) (a2 : Option Addr) (l2 c2 : Nat) (a3 : Option Addr) (l3 c3 : Nat) (slots : List Int) (w : World) (hs : Sl w a2 slots) (e2 : slots.length = l2) (hl2 : l2 ≤ 1048576) (hk : okW mix lim slots = false) :
    Calls Try.prog 7 #[.int .i64 mix, .int .i64 lim, .slice a2 l2 c2, .slice a3 l3 c3] w fun e w' => e = .returned (.tuple #[.slice none 0 0, .bool false]) ∧ Below w.heap.size w w' := by
  by_cases h1 : mix < 0
  · clear hk hs
    go_enter Try.func7, Try.ntmps7
    go_wp2
    go_ret2
    exact ⟨rfl, Below.refl _ _⟩
  by_cases h2 : 16 < mix
  · clear hk hs
    go_enter Try.func7, Try.ntmps7
    go_wp2
    go_ret2
    exact ⟨rfl, Below.refl _ _⟩
  by_cases h3 : 2000 < (l2 : Int)
  · clear hk hs
    go_enter Try.func7, Try.ntmps7
    go_wp2
    go_ret2
    exact ⟨rfl, Below.refl _ _⟩
  have NB := hid (noneBelow a2 l2 c2 slots 0 w e2 (by omega) hs)
  cases hnb : nb 0 slots with
  | false =>
    rw [hnb] at NB
    clear hk hs e2 hnb
    go_enter Try.func7, Try.ntmps7
    go_wp2_with fail
    refine (NB.out).mono ?_
    rintro e w1 ⟨rfl, b1⟩
    have B1 := hid b1
    clear b1
    go_wp2
    go_ret2
    exact ⟨rfl, B1.out⟩
  | true =>
    obtain ⟨m, rfl⟩ : ∃ m : Nat, mix = m := ⟨mix.toNat, by omega⟩
    have hm : m ≤ 16 := by omega
    have hb : ¬ (1 ≤ lim ∧ lim ≤ 32) := by
      intro hb
      unfold okW at hk
      rw [hnb, decide_eq_true (show (0 : Int) ≤ (m : Int) by omega), decide_eq_true (show (m : Int) ≤ 16 by omega), decide_eq_true hb.1, decide_eq_true hb.2, decide_eq_true (show slots.length ≤ 2000 by omega)] at hk
      simp at hk
    have gd : goodM (List.replicate m (-1)) [] lim = false := by
      unfold goodM
      by_cases h : 1 ≤ lim
      · rw [decide_eq_false (show ¬ lim ≤ 32 from fun h' => hb ⟨h, h'⟩)]; simp
      · rw [decide_eq_false h]; simp
    have RP := hid (fun W => empty_in m lim W hm)
    have GD := hid (fun W g (hW : RowV W g 3 (Ns .i64 (List.replicate m (-1)))) => good_in (some ⟨g, 0, none⟩) m m none 0 0 lim (List.replicate m (-1)) [] W ⟨.inr ⟨g, rfl, hW⟩, by simp, .inl ⟨rfl, rfl⟩, rfl⟩)
    rw [gd] at GD
    rw [hnb] at NB
    unfold wv at GD
    clear hk hs e2 hnb gd hb
    go_enter Try.func7, Try.ntmps7
    go_wp2_with fail
    refine (NB.out).mono ?_
    rintro e w1 ⟨rfl, b1⟩
    have B1 := hid b1
    clear b1 NB
    go_wp2_with fail
    refine (RP.out _).mono ?_
    rintro e w2 ⟨g, rfl, r2, l2', b2⟩
    have B2 := hid (bl_trans B1.out b2)
    have A2 := hid ((Below.refl _ w2).alloc (Nat.le_refl _) (.cells #[.slice (some ⟨g, 0, none⟩) m m, .slice none 0 0, .int .i64 lim] 29))
    have R2 := hid (r2.below A2.out r2.lt)
    clear r2 l2' b2 B1
    have B3 := hid (bl_trans B2.out A2.out)
    go_wp2_with fail
    refine (GD.out _ g R2.out).mono ?_
    rintro e w3 ⟨rfl, b3⟩
    have B4 := hid (bl_trans B3.out b3)
    clear b3
    go_wp2
    go_ret2
    exact ⟨rfl, B4.out⟩

/-- l5New: a quarantine of m empty places -/
theorem rep_snoc (k : Nat) : List.replicate k (-1 : Int) ++ [-1] = List.replicate (k + 1) (-1) := by
  rw [List.replicate_succ']

structure Ln (w : World) (s o n k : Nat) (a : Option Addr) (c : Nat) (W : World) : Prop where
  ob : W.heap[o]? = some (.cells #[.slice a k c, .slice none 0 0, .int .i64 (n : Nat)] 29 (0, 0))
  ow : Ow W (o + 1) a c (List.replicate k (-1))
  s1 : W.heap[s]? = some (.cells #[.slice none 0 0, .slice none 0 0, .int .i64 0] 29 (0, 0))
  b : Below w.heap.size w W
theorem Ln.next {w : World} {s o n k : Nat} {a : Option Addr} {c : Nat} {W : World} (h : Ln w s o n k a c W) (hs : w.heap.size = s) (hso : s < o) (hk : k ≤ 16) :
    ∃ a' c' W', (Builtin.append_ #[23, 23] 23 #[.slice a k c, .slice (some ⟨W.heap.size, 0, none⟩) 1 1]).run Try.prog (W.alloc (.cells #[.int .i64 (-1)] 3)) = .ok (.slice a' (k + 1) c') W' ∧ W'.cell? ⟨o, 0, none⟩ = some (.slice a k c) ∧ W'.frozen? ⟨o, 0, none⟩ = false ∧ Ln w s o n (k + 1) a' c' (W'.setCell ⟨o, 0, none⟩ (.slice a' (k + 1) c')) := by
  have ol := lt_blk h.ob
  obtain ⟨a', c', W', hr, hw, hb⟩ := app_one W (o + 1) a c (List.replicate k (-1)) (-1) h.ow (by simp; omega) (by omega)
  rw [List.length_replicate] at hr
  rw [rep_snoc] at hw
  have ho := hb.at h.ob (by omega)
  have h1 := hb.at h.s1 (by omega)
  refine ⟨a', c', W', hr, by rw [cell_of_row _ _ _ _ _ _ ho]; rfl, frozen_of_row _ _ _ _ _ ho, ⟨?_, ?_, set_ne h1 _ _ _ (by omega), ?_⟩⟩
  · rw [heap_setCell_same _ _ _ _ _ _ ho]; rfl
  · exact hw.but (S := fun k => k = o) ((But.refl _ W').set _ _ _ rfl) (fun g e => by have := (hw.base g e).1; omega)
  · exact (h.b.trans (hb.below (by have := h.b.size; omega) (fun g hg => by omega))).setCell (by dsimp only; omega) _

set_option maxHeartbeats 1000000 in
theorem l5New_in (m n : Nat) (w : World) (hm : m ≤ 16) :
    Calls Try.prog 25 #[.int .i64 (m : Nat), .int .i64 (n : Nat)] w fun e w' => ∃ a c, e = .returned (wv a m c none 0 0 (n : Nat)) ∧ Ow w' w.heap.size a c (List.replicate m (-1)) ∧ Below w.heap.size w w' := by
  have T2 := al_two w (.cells #[.slice none 0 0, .slice none 0 0, .int .i64 0] 29) (.cells #[.slice none 0 0, .slice none 0 0, .int .i64 (n : Nat)] 29)
  have L0 := hid (show Ln w w.heap.size (w.heap.size + 1) n 0 none 0 ((w.alloc (.cells #[.slice none 0 0, .slice none 0 0, .int .i64 0] 29)).alloc (.cells #[.slice none 0 0, .slice none 0 0, .int .i64 (n : Nat)] 29)) from ⟨T2.2.1, Ow.nil _ _, T2.1, T2.2.2⟩)
  clear T2
  unfold wv
  go_enter Try.func25, Try.ntmps25
  go_wp2
  go_loopw [0] (fun i wr => ∃ (k : Nat) (a : Option Addr) (c : Nat), k ≤ m ∧ i = .int .i64 ((m : Int) - (k : Int)) ∧ Hid (Ln w w.heap.size (w.heap.size + 1) n k a c wr)) (fun i _ => (intOf i).toNat)
  case atStart => exact ⟨0, none, 0, Nat.zero_le _, by go_num, L0⟩
  case round =>
    obtain ⟨k, a, c, hk, rfl, HL⟩ := hrel
    clear L0
    by_cases hlt : k < m
    · have ht : (0 : Int) < (m : Int) - (k : Int) := by omega
      obtain ⟨a', c', W', happ, o1, o2, hn⟩ := HL.out.next rfl (by omega) (by omega)
      have HN := hid hn
      have o0 : wr.cell? ⟨w.heap.size + 1, 0, none⟩ = some (.slice a k c) := by rw [cell_of_row _ _ _ _ _ _ HL.out.ob]; rfl
      clear hn HL
      go_wp2_with (at_builtin; refine wpList_app rfl (.tmp 13) (.tmp 14) (by with_reducible rfl) rfl rfl rfl happ ?_)
      go_roundw
      case rel => exact ⟨k + 1, a', c', by omega, by go_num, HN⟩
      case measure => simp [intOf]; omega
    · obtain rfl : m = k := by omega
      have ht : ¬ ((0 : Int) < (m : Int) - (m : Int)) := by omega
      have o0 : wr.cell? ⟨w.heap.size + 1, 0, none⟩ = some (.slice a m c) := by rw [cell_of_row _ _ _ _ _ _ HL.out.ob]; rfl
      have o1 : wr.cell? ⟨w.heap.size + 1, 1, none⟩ = some (.slice none 0 0) := by rw [cell_of_row _ _ _ _ _ _ HL.out.ob]; rfl
      have o2 : wr.cell? ⟨w.heap.size + 1, 2, none⟩ = some (.int .i64 (n : Nat)) := by rw [cell_of_row _ _ _ _ _ _ HL.out.ob]; rfl
      have d0 : wr.cell? ⟨w.heap.size, 0, none⟩ = some (.slice none 0 0) := by rw [cell_of_row _ _ _ _ _ _ HL.out.s1]; rfl
      have d1 : wr.cell? ⟨w.heap.size, 1, none⟩ = some (.slice none 0 0) := by rw [cell_of_row _ _ _ _ _ _ HL.out.s1]; rfl
      have d2 : wr.cell? ⟨w.heap.size, 2, none⟩ = some (.int .i64 0) := by rw [cell_of_row _ _ _ _ _ _ HL.out.s1]; rfl
      have f0 : wr.frozen? ⟨w.heap.size, 0, none⟩ = false := frozen_of_row _ _ _ _ _ HL.out.s1
      have f1 : wr.frozen? ⟨w.heap.size, 1, none⟩ = false := frozen_of_row _ _ _ _ _ HL.out.s1
      have f2 : wr.frozen? ⟨w.heap.size, 2, none⟩ = false := frozen_of_row _ _ _ _ _ HL.out.s1
      go_wp2
      refine bodyPost_ret (results_cell_row (by rfl) _ _ w.heap.size 29 _ (0, 0) _ (by rfl) (set3 HL.out.s1 _ _ _) Try.underlying29 rfl (by kernel_rfl)) (by rfl) ?_
      refine ⟨a, c, rfl, ?_, ((HL.out.b.setCell (by dsimp only; omega) _).setCell (by dsimp only; omega) _).setCell (by dsimp only; omega) _⟩
      exact (HL.out.ow.but (S := fun k => k = w.heap.size) ((((But.refl (fun k => k = w.heap.size) wr).set _ _ _ rfl).set _ _ _ rfl).set _ _ _ rfl) (fun g e => by have := (HL.out.ow.base g e).1; omega)).mono (by omega)
end Go.Proofs.Ytnhkifinfnobfaa
