import Derived.Test.YtnhkifinfnobfaaWaX
namespace Go.Proofs.Ytnhkifinfnobfaa
open Go.ChangeShapes Go.WideShapes Go.ChangeAt Go.RowKit
set_option linter.unusedVariables false

set_option maxHeartbeats 1000000 in
/-- a quarantine without slots -/
theorem empty_in (m : Nat) (lim : Int) (w : World) (hm : m ≤ 16) :
    Calls Try.prog 22 #[.int .i64 m, .int .i64 lim] w fun e w' => ∃ g, e = .returned (.agg #[.slice (some ⟨g, 0, none⟩) m m, .slice none 0 0, .int .i64 lim]) ∧ RowV w' g 3 (Ns .i64 (List.replicate m (-1))) ∧ w.heap.size ≤ g ∧ Below w.heap.size w w' := by
  have RP := hid (fun W q (hr : RowV W q 3 (Ns .i64 [-1])) => repeat_in q m W hm hr)
  have AA := al_two w (.cells #[.slice none 0 0, .slice none 0 0, .int .i64 0] 29) (.cells #[.int .i64 (-1)] 3)
  have q1 := hid (show RowV ((w.alloc (.cells #[.slice none 0 0, .slice none 0 0, .int .i64 0] 29)).alloc (.cells #[.int .i64 (-1)] 3)) (w.heap.size + 1) 3 (Ns .i64 [-1]) from rowOf AA.2.1)
  have X1 := hid AA.1
  have B1 := hid AA.2.2
  clear AA hm
  go_enter Try.func22, Try.ntmps22
  go_wp2_with fail
  refine (RP.out _ _ q1.out).mono ?_
  rintro e w2 ⟨g, rfl, r2, l2', b2⟩
  have x2 := below_at X1.out b2
  have R2 := hid r2
  have L2 := hid (show w.heap.size + 1 < g by have := q1.out.lt; omega)
  have B2 := hid (bl_trans B1.out b2)
  clear r2 l2' b2 RP q1 X1 B1
  have c0 : w2.cell? ⟨w.heap.size, 0, none⟩ = some (.slice none 0 0) := by rw [cell_of_row _ _ _ _ _ _ x2]; rfl
  have c1 : w2.cell? ⟨w.heap.size, 1, none⟩ = some (.slice none 0 0) := by rw [cell_of_row _ _ _ _ _ _ x2]; rfl
  have c2 : w2.cell? ⟨w.heap.size, 2, none⟩ = some (.int .i64 0) := by rw [cell_of_row _ _ _ _ _ _ x2]; rfl
  have f0 : w2.frozen? ⟨w.heap.size, 0, none⟩ = false := frozen_of_row _ _ _ _ _ x2
  have f1 : w2.frozen? ⟨w.heap.size, 1, none⟩ = false := frozen_of_row _ _ _ _ _ x2
  have f2 : w2.frozen? ⟨w.heap.size, 2, none⟩ = false := frozen_of_row _ _ _ _ _ x2
  have X2 := hid x2
  clear x2
  go_wp2
  refine bodyPost_ret (results_cell_row (by rfl) _ _ w.heap.size 29 _ (0, 0) _ (by rfl) (set3 X2.out _ _ _) Try.underlying29 rfl (by kernel_rfl)) (by rfl) ?_
  refine ⟨g, rfl, ((R2.out.other (p := ⟨_, _, none⟩) ?_ _).other (p := ⟨_, _, none⟩) ?_ _).other (p := ⟨_, _, none⟩) ?_ _, by have := L2.out; omega, ((B2.out.setCell (p := ⟨_, _, none⟩) (Nat.le_refl _) _).setCell (p := ⟨_, _, none⟩) (Nat.le_refl _) _).setCell (p := ⟨_, _, none⟩) (Nat.le_refl _) _⟩
  all_goals (have := L2.out; dsimp only; omega)


/-- the quarantine after k pushes -/
def stW (n m : Nat) (slots draws : List Int) : Nat → List Int × List Int
  | 0 => (List.replicate m (-1), [])
  | k + 1 => ((wpM n (stW n m slots draws k).1 (stW n m slots draws k).2 (slots[k]?.getD 0) (draws[k]?.getD 0)).1, (wpM n (stW n m slots draws k).1 (stW n m slots draws k).2 (slots[k]?.getD 0) (draws[k]?.getD 0)).2.1)
/-- what leaves at push k -/
def outW (n m : Nat) (slots draws : List Int) (k : Nat) : Int := (wpM n (stW n m slots draws k).1 (stW n m slots draws k).2 (slots[k]?.getD 0) (draws[k]?.getD 0)).2.2
def outsW (n m : Nat) (slots draws : List Int) : List Int := (List.range slots.length).map (outW n m slots draws)
theorem outsW_len (n m : Nat) (slots draws : List Int) : (outsW n m slots draws).length = slots.length := by simp [outsW]
theorem outsW_get (n m : Nat) (slots draws : List Int) (k : Nat) (h : k < slots.length) : (outsW n m slots draws)[k]? = some (outW n m slots draws k) := by simp [outsW, h]
theorem stW_len (n m : Nat) (slots draws : List Int) : ∀ k, (stW n m slots draws k).1.length = m
  | 0 => by simp [stW]
  | k + 1 => by
    show (wpM n _ _ _ _).1.length = m
    rw [wpM_len, stW_len n m slots draws k]
theorem nb_rep (m : Nat) : nb (-1) (List.replicate m (-1)) = true := by
  unfold nb
  rw [List.all_eq_true]
  intro x hx
  have := List.eq_of_mem_replicate hx
  simp [this]
theorem goodR {m n : Nat} (h1 : m ≤ 16) (hn : 1 ≤ n ∧ n ≤ 32) : goodM (List.replicate m (-1)) [] (n : Nat) = true := by
  unfold goodM
  rw [nb_rep, List.length_replicate]
  simp [nb]
  omega

/-- impl's loop: what stands in memory after k pushes -/
structure Li (w : World) (q L M rm G rq n m : Nat) (slots draws : List Int) (cs : Array Value) (k : Nat) (ys : List Int) (W : World) : Prop where
  q : W.heap[q]? = some (.cells cs 55 (0, 0))
  row : RowV W L 3 (Ns .i64 ys)
  yl : ys.length = slots.length
  ag : Agree ys (outsW n m slots draws) k
  qr : Qr W M rm G rq n (stW n m slots draws k).1 (stW n m slots draws k).2
  b : Below w.heap.size w W
theorem Li.next {w : World} {q M rm G rq n m : Nat} {slots draws : List Int} {cs : Array Value} {k l2 : Nat} {ys : List Int} {W w5 : World} {z : Int} (h : Li w q (q + 1) M rm G rq n m slots draws cs k ys W)
    (hn : (rm < q ∧ G < q ∧ rq < q) ∧ (w.heap.size ≤ rm ∧ w.heap.size ≤ G ∧ w.heap.size ≤ rq) ∧ w.heap.size ≤ q) (hk : k < l2)
    (hz : z = (wpM n (stW n m slots draws k).1 (stW n m slots draws k).2 (slots[k]?.getD 0) (draws[k]?.getD 0)).2.2)
    (q5 : Qr w5 M rm G rq n (wpM n (stW n m slots draws k).1 (stW n m slots draws k).2 (slots[k]?.getD 0) (draws[k]?.getD 0)).1 (wpM n (stW n m slots draws k).1 (stW n m slots draws k).2 (slots[k]?.getD 0) (draws[k]?.getD 0)).2.1)
    (b5 : But (Qs rm G rq) W w5) (el : slots.length = l2 := by assumption) :
    w5.cell? ⟨q + 1, k, none⟩ = some (.int .i64 (ys[k]?.getD 0)) ∧ w5.frozen? ⟨q + 1, k, none⟩ = false ∧ Li w q (q + 1) M rm G rq n m slots draws cs (k + 1) (ys.set k z) (w5.setCell ⟨q + 1, k, none⟩ (.int .i64 z)) := by
  have r5 := h.row.but b5 (by unfold Qs; omega)
  have kq := h.q
  have lq := lt_blk h.q
  refine ⟨cell_n r5 k (by rw [h.yl]; omega), r5.free k, ⟨?_, ?_, ?_, ?_, ?_, ?_⟩⟩
  · exact set_ne (b5.at h.q (by unfold Qs; omega)) _ _ _ (by omega)
  · rw [← Ns_set]; exact r5.set k (by rw [Ns_len, h.yl]; omega) _
  · rw [List.length_set]; exact h.yl
  · refine h.ag.succ (by rw [outsW_len]; omega) z ?_
    rw [outsW_get _ _ _ _ _ (by omega), hz]
    rfl
  · exact q5.but (S := fun k => k = q + 1) ((But.refl _ w5).set _ _ _ rfl) (by have := q5.sep; intro e; have := q5.mx.1; rw [e] at this; exact (r5.ne this (by decide)) rfl) (by omega) (by omega) (by omega)
  · exact (h.b.trans (b5.below h.b.size (fun g hg => by unfold Qs at hg; omega))).setCell (by dsimp only; omega) _

set_option maxHeartbeats 1000000 in
theorem run_e (m n : Nat) (a2 : Option Addr) (l2 c2 : Nat) (a3 : Option Addr) (l3 c3 : Nat) (slots draws : List Int) (w : World) (hs : Sl w a2 slots) (e2 : slots.length = l2) (hd : Sl w a3 draws) (e3 : draws.length = l3) (h1 : m ≤ 16) (hn : 1 ≤ n ∧ n ≤ 32) (h2 : l2 ≤ 2000) (hnb : nb 0 slots = true) (h0 : m = 0) :
    Calls Try.prog 7 #[.int .i64 (m : Nat), .int .i64 (n : Nat), .slice a2 l2 c2, .slice a3 l3 c3] w fun e w' => ∃ L, e = .returned (.tuple #[.slice (some ⟨L, 0, none⟩) l2 l2, .bool true]) ∧ RowV w' L 3 (Ns .i64 (outsW n m slots draws)) ∧ w.heap.size ≤ L ∧ Below w.heap.size w w' := by
  have NB := hid (noneBelow a2 l2 c2 slots 0 w e2 (by omega) hs)
  rw [hnb] at NB
  have RP := hid (fun W => empty_in m (n : Nat) W h1)
  have gd := goodR h1 hn
  have GD := hid (fun W g (hW : RowV W g 3 (Ns .i64 (List.replicate m (-1)))) => good_in (some ⟨g, 0, none⟩) m m none 0 0 (n : Nat) (List.replicate m (-1)) [] W ⟨.inr ⟨g, rfl, hW⟩, by simp, .inl ⟨rfl, rfl⟩, rfl⟩)
  rw [gd] at GD
  have NQ := hid (fun W g (hW : RowV W g 3 (Ns .i64 (List.replicate m (-1)))) => newQ_in (some ⟨g, 0, none⟩) m m none 0 0 n (List.replicate m (-1)) [] W ⟨.inr ⟨g, rfl, hW⟩, by simp, .inl ⟨rfl, rfl⟩, rfl⟩ h1 hn (by omega))
  have qe' : ∀ M G, qv M G (List.replicate m (-1)) = .agg #[.pointer (some ⟨M, 0, none⟩), .pointer (some ⟨G, 0, none⟩), .iface 51 (.pointer (some ⟨G, 0, none⟩))] := fun M G => by unfold qv; rw [List.length_replicate, if_pos h0]
  simp only [qe'] at NQ
  have PS := hid (fun W k M rm G rq (hW : Qr W M rm G rq n (stW n m slots draws k).1 (stW n m slots draws k).2) => epushL M rm G rq n _ _ (slots[k]?.getD 0) (draws[k]?.getD 0) W hW (by omega) (by rw [stW_len]; exact h0))
  have CS := hid (fun W (hW : Below w.heap.size w W) => (hs.below hW).cells)
  have CD := hid (fun W (hW : Below w.heap.size w W) => (hd.below hW).cells)
  have E2 := hid e2
  have E3 := hid e3
  have t1 : ¬ ((m : Int) < 0) := by omega
  have t2 : ¬ ((16 : Int) < (m : Int)) := by omega
  have t3 : ¬ ((2000 : Int) < (l2 : Int)) := by omega
  have hmk := fun W => mk23 l2 (by omega) W
  unfold wv at GD NQ
  clear hs hd e2 e3 hnb gd qe' h0
  go_enter Try.func7, Try.ntmps7
  go_wp2_with fail
  refine (NB.out).mono ?_
  rintro e w1 ⟨rfl, b1⟩
  have B1 := hid b1
  clear b1 NB
  go_wp2_with fail
  refine (RP.out _).mono ?_
  rintro e w2 ⟨g, rfl, r2, l2', b2⟩
  have B2 := hid (bl_trans B1.out b2)
  have A2 := hid ((Below.refl _ w2).alloc (Nat.le_refl _) (.cells #[.slice (some ⟨g, 0, none⟩) m m, .slice none 0 0, .int .i64 (n : Nat)] 29))
  have R2 := hid (r2.below A2.out r2.lt)
  clear r2 l2' b2 B1
  have x2 := hid (al_last w2 (.cells #[.slice (some ⟨g, 0, none⟩) m m, .slice none 0 0, .int .i64 (n : Nat)] 29))
  have B3 := hid (bl_trans B2.out A2.out)
  go_wp2_with fail
  refine (GD.out _ g R2.out).mono ?_
  rintro e w3 ⟨rfl, b3⟩
  have x3 := hid (below_at x2.out b3)
  have R3 := hid (R2.out.below b3 R2.out.lt)
  have B4 := hid (bl_trans B3.out b3)
  clear b3 x2 R2 B3 A2 B2
  have c0 : w3.cell? ⟨w2.heap.size, 0, none⟩ = some (.slice (some ⟨g, 0, none⟩) m m) := by rw [cell_of_row _ _ _ _ _ _ x3.out]; rfl
  have c1 : w3.cell? ⟨w2.heap.size, 1, none⟩ = some (.slice none 0 0) := by rw [cell_of_row _ _ _ _ _ _ x3.out]; rfl
  have c2' : w3.cell? ⟨w2.heap.size, 2, none⟩ = some (.int .i64 (n : Nat)) := by rw [cell_of_row _ _ _ _ _ _ x3.out]; rfl
  go_wp2_with fail
  refine (NQ.out _ g R3.out).mono ?_
  rintro e w4 ⟨M, rm, G, rq, rfl, q4, l4, b4⟩
  clear c0 c1 c2' x3 R3
  have B5 := hid (bl_trans B4.out b4)
  have lt4 := q4.lts
  obtain ⟨q, hq⟩ : ∃ q, q = w4.heap.size := ⟨_, rfl⟩
  have AA := al_two w4 (.cells #[.pointer (some ⟨M, 0, none⟩), .pointer (some ⟨G, 0, none⟩), .iface 51 (.pointer (some ⟨G, 0, none⟩))] 55) (.cells (madeCells #[.int .i64 0] l2) 3)
  have LI := hid (show Li w q (q + 1) M rm G rq n m slots draws #[.pointer (some ⟨M, 0, none⟩), .pointer (some ⟨G, 0, none⟩), .iface 51 (.pointer (some ⟨G, 0, none⟩))] 0 (List.replicate l2 0) ((w4.alloc (.cells #[.pointer (some ⟨M, 0, none⟩), .pointer (some ⟨G, 0, none⟩), .iface 51 (.pointer (some ⟨G, 0, none⟩))] 55)).alloc (.cells (madeCells #[.int .i64 0] l2) 3)) from
    ⟨by rw [hq]; exact AA.1, by rw [hq]; exact rowOf (by rw [← made_n]; exact AA.2.1), by rw [List.length_replicate]; exact E2.out.symm, Agree.zero (by rw [List.length_replicate, outsW_len]; exact E2.out.symm), q4.below AA.2.2, bl_trans B5.out AA.2.2⟩)
  have NS := hid (show (rm < q ∧ G < q ∧ rq < q) ∧ (w.heap.size ≤ rm ∧ w.heap.size ≤ G ∧ w.heap.size ≤ rq) ∧ w.heap.size ≤ q by have := B4.out.size; have := B5.out.size; omega)
  have hmq := fun w => meth_q ⟨G, 0, none⟩ w
  have hmm := fun w => meth_m ⟨M, 0, none⟩ w
  clear B4 B5 q4 l4 b4 lt4 AA RP GD NQ
  go_wp2
  rw [← hq]
  have HQ := hid hq
  clear hq
  generalize (w4.alloc (.cells #[.pointer (some ⟨M, 0, none⟩), .pointer (some ⟨G, 0, none⟩), .iface 51 (.pointer (some ⟨G, 0, none⟩))] 55)).alloc (.cells (madeCells #[.int .i64 0] l2) 3) = W at *
  go_loopw [45] (fun i wr => ∃ (k : Nat) (ys : List Int), k ≤ l2 ∧ i = .int .i64 k ∧ Hid (Li w q (q + 1) M rm G rq n m slots draws #[.pointer (some ⟨M, 0, none⟩), .pointer (some ⟨G, 0, none⟩), .iface 51 (.pointer (some ⟨G, 0, none⟩))] k ys wr)) (fun i _ => l2 - (intOf i).toNat)
  case atStart => exact ⟨0, _, Nat.zero_le _, rfl, LI⟩
  case round =>
    obtain ⟨k, ys, hk, rfl, HL⟩ := hrel
    clear LI
    by_cases hlt : k < l2
    · obtain ⟨g2, rfl, hc2⟩ := CS.out _ HL.out.b k (by rw [E2.out]; exact hlt)
      have cq : wr.cell? ⟨q, 2, none⟩ = some (.iface 51 (.pointer (some ⟨G, 0, none⟩))) := by rw [cell_of_row _ _ _ _ _ _ HL.out.q]; rfl
      by_cases hl3 : k < l3
      · obtain ⟨g3, rfl, hc3⟩ := CD.out _ HL.out.b k (by rw [E3.out]; exact hl3)
        go_wp2_with fail
        refine (PS.out _ k M rm G rq HL.out.qr).mono ?_
        rintro e w5 ⟨z, rfl, hz, q5, b5⟩
        have NX := HL.out.next NS.out hlt hz q5 b5 E2.out
        clear q5 b5
        have o1 := NX.1
        have o2 := NX.2.1
        have HN := hid NX.2.2
        clear NX HL hz
        go_wp2
        go_roundw
        case rel => exact ⟨k + 1, _, by omega, by go_num, HN⟩
        case measure => simp [intOf]; omega
      · have hdz : draws[k]?.getD 0 = 0 := by rw [List.getElem?_eq_none (by rw [E3.out]; omega)]; rfl
        have PS0 := hid (show Calls Try.prog 56 #[.pointer (some ⟨G, 0, none⟩), .int .i64 (slots[k]?.getD 0), .int .i64 0] wr fun e w' => ∃ z, e = .returned (.int .i64 z) ∧ z = (wpM n (stW n m slots draws k).1 (stW n m slots draws k).2 (slots[k]?.getD 0) (draws[k]?.getD 0)).2.2 ∧ Qr w' M rm G rq n (wpM n (stW n m slots draws k).1 (stW n m slots draws k).2 (slots[k]?.getD 0) (draws[k]?.getD 0)).1 (wpM n (stW n m slots draws k).1 (stW n m slots draws k).2 (slots[k]?.getD 0) (draws[k]?.getD 0)).2.1 ∧ But (Qs rm G rq) wr w' by have := PS.out wr k M rm G rq HL.out.qr; rw [hdz] at this ⊢; exact this)
        clear hdz
        go_wp2_with fail
        refine (PS0.out).mono ?_
        rintro e w5 ⟨z, rfl, hz, q5, b5⟩
        have NX := HL.out.next NS.out hlt hz q5 b5 E2.out
        clear q5 b5
        have o1 := NX.1
        have o2 := NX.2.1
        have HN := hid NX.2.2
        clear NX HL hz PS0
        go_wp2
        go_roundw
        case rel => exact ⟨k + 1, _, by omega, by go_num, HN⟩
        case measure => simp [intOf]; omega
    · obtain rfl : l2 = k := by omega
      have HF := hid (show RowV wr (q + 1) 3 (Ns .i64 (outsW n m slots draws)) ∧ Below w.heap.size w wr from ⟨by rw [← HL.out.ag.all (by rw [outsW_len, E2.out]; omega)]; exact HL.out.row, HL.out.b⟩)
      clear HL
      go_wp2
      go_ret2
      exact ⟨q + 1, rfl, HF.out.1, by have := NS.out; omega, HF.out.2⟩

set_option maxHeartbeats 1000000 in
theorem run_m (m n : Nat) (a2 : Option Addr) (l2 c2 : Nat) (a3 : Option Addr) (l3 c3 : Nat) (slots draws : List Int) (w : World) (hs : Sl w a2 slots) (e2 : slots.length = l2) (hd : Sl w a3 draws) (e3 : draws.length = l3) (h1 : m ≤ 16) (hn : 1 ≤ n ∧ n ≤ 32) (h2 : l2 ≤ 2000) (hnb : nb 0 slots = true) (h0 : m ≠ 0) :
    Calls Try.prog 7 #[.int .i64 (m : Nat), .int .i64 (n : Nat), .slice a2 l2 c2, .slice a3 l3 c3] w fun e w' => ∃ L, e = .returned (.tuple #[.slice (some ⟨L, 0, none⟩) l2 l2, .bool true]) ∧ RowV w' L 3 (Ns .i64 (outsW n m slots draws)) ∧ w.heap.size ≤ L ∧ Below w.heap.size w w' := by
  have NB := hid (noneBelow a2 l2 c2 slots 0 w e2 (by omega) hs)
  rw [hnb] at NB
  have RP := hid (fun W => empty_in m (n : Nat) W h1)
  have gd := goodR h1 hn
  have GD := hid (fun W g (hW : RowV W g 3 (Ns .i64 (List.replicate m (-1)))) => good_in (some ⟨g, 0, none⟩) m m none 0 0 (n : Nat) (List.replicate m (-1)) [] W ⟨.inr ⟨g, rfl, hW⟩, by simp, .inl ⟨rfl, rfl⟩, rfl⟩)
  rw [gd] at GD
  have NQ := hid (fun W g (hW : RowV W g 3 (Ns .i64 (List.replicate m (-1)))) => newQ_in (some ⟨g, 0, none⟩) m m none 0 0 n (List.replicate m (-1)) [] W ⟨.inr ⟨g, rfl, hW⟩, by simp, .inl ⟨rfl, rfl⟩, rfl⟩ h1 hn (by omega))
  have qe' : ∀ M G, qv M G (List.replicate m (-1)) = .agg #[.pointer (some ⟨M, 0, none⟩), .pointer (some ⟨G, 0, none⟩), .iface 50 (.pointer (some ⟨M, 0, none⟩))] := fun M G => by unfold qv; rw [List.length_replicate, if_neg h0]
  simp only [qe'] at NQ
  have PS := hid (fun W k M rm G rq (hW : Qr W M rm G rq n (stW n m slots draws k).1 (stW n m slots draws k).2) => mpush M rm G rq n _ _ (slots[k]?.getD 0) (draws[k]?.getD 0) W hW (fun e => h0 (by rw [← stW_len n m slots draws k, e]; rfl)) (by rw [stW_len]; omega) (by omega))
  have CS := hid (fun W (hW : Below w.heap.size w W) => (hs.below hW).cells)
  have CD := hid (fun W (hW : Below w.heap.size w W) => (hd.below hW).cells)
  have E2 := hid e2
  have E3 := hid e3
  have t1 : ¬ ((m : Int) < 0) := by omega
  have t2 : ¬ ((16 : Int) < (m : Int)) := by omega
  have t3 : ¬ ((2000 : Int) < (l2 : Int)) := by omega
  have hmk := fun W => mk23 l2 (by omega) W
  unfold wv at GD NQ
  clear hs hd e2 e3 hnb gd qe' h0
  go_enter Try.func7, Try.ntmps7
  go_wp2_with fail
  refine (NB.out).mono ?_
  rintro e w1 ⟨rfl, b1⟩
  have B1 := hid b1
  clear b1 NB
  go_wp2_with fail
  refine (RP.out _).mono ?_
  rintro e w2 ⟨g, rfl, r2, l2', b2⟩
  have B2 := hid (bl_trans B1.out b2)
  have A2 := hid ((Below.refl _ w2).alloc (Nat.le_refl _) (.cells #[.slice (some ⟨g, 0, none⟩) m m, .slice none 0 0, .int .i64 (n : Nat)] 29))
  have R2 := hid (r2.below A2.out r2.lt)
  clear r2 l2' b2 B1
  have x2 := hid (al_last w2 (.cells #[.slice (some ⟨g, 0, none⟩) m m, .slice none 0 0, .int .i64 (n : Nat)] 29))
  have B3 := hid (bl_trans B2.out A2.out)
  go_wp2_with fail
  refine (GD.out _ g R2.out).mono ?_
  rintro e w3 ⟨rfl, b3⟩
  have x3 := hid (below_at x2.out b3)
  have R3 := hid (R2.out.below b3 R2.out.lt)
  have B4 := hid (bl_trans B3.out b3)
  clear b3 x2 R2 B3 A2 B2
  have c0 : w3.cell? ⟨w2.heap.size, 0, none⟩ = some (.slice (some ⟨g, 0, none⟩) m m) := by rw [cell_of_row _ _ _ _ _ _ x3.out]; rfl
  have c1 : w3.cell? ⟨w2.heap.size, 1, none⟩ = some (.slice none 0 0) := by rw [cell_of_row _ _ _ _ _ _ x3.out]; rfl
  have c2' : w3.cell? ⟨w2.heap.size, 2, none⟩ = some (.int .i64 (n : Nat)) := by rw [cell_of_row _ _ _ _ _ _ x3.out]; rfl
  go_wp2_with fail
  refine (NQ.out _ g R3.out).mono ?_
  rintro e w4 ⟨M, rm, G, rq, rfl, q4, l4, b4⟩
  clear c0 c1 c2' x3 R3
  have B5 := hid (bl_trans B4.out b4)
  have lt4 := q4.lts
  obtain ⟨q, hq⟩ : ∃ q, q = w4.heap.size := ⟨_, rfl⟩
  have AA := al_two w4 (.cells #[.pointer (some ⟨M, 0, none⟩), .pointer (some ⟨G, 0, none⟩), .iface 50 (.pointer (some ⟨M, 0, none⟩))] 55) (.cells (madeCells #[.int .i64 0] l2) 3)
  have LI := hid (show Li w q (q + 1) M rm G rq n m slots draws #[.pointer (some ⟨M, 0, none⟩), .pointer (some ⟨G, 0, none⟩), .iface 50 (.pointer (some ⟨M, 0, none⟩))] 0 (List.replicate l2 0) ((w4.alloc (.cells #[.pointer (some ⟨M, 0, none⟩), .pointer (some ⟨G, 0, none⟩), .iface 50 (.pointer (some ⟨M, 0, none⟩))] 55)).alloc (.cells (madeCells #[.int .i64 0] l2) 3)) from
    ⟨by rw [hq]; exact AA.1, by rw [hq]; exact rowOf (by rw [← made_n]; exact AA.2.1), by rw [List.length_replicate]; exact E2.out.symm, Agree.zero (by rw [List.length_replicate, outsW_len]; exact E2.out.symm), q4.below AA.2.2, bl_trans B5.out AA.2.2⟩)
  have NS := hid (show (rm < q ∧ G < q ∧ rq < q) ∧ (w.heap.size ≤ rm ∧ w.heap.size ≤ G ∧ w.heap.size ≤ rq) ∧ w.heap.size ≤ q by have := B4.out.size; have := B5.out.size; omega)
  have hmq := fun w => meth_q ⟨G, 0, none⟩ w
  have hmm := fun w => meth_m ⟨M, 0, none⟩ w
  clear B4 B5 q4 l4 b4 lt4 AA RP GD NQ
  go_wp2
  rw [← hq]
  have HQ := hid hq
  clear hq
  generalize (w4.alloc (.cells #[.pointer (some ⟨M, 0, none⟩), .pointer (some ⟨G, 0, none⟩), .iface 50 (.pointer (some ⟨M, 0, none⟩))] 55)).alloc (.cells (madeCells #[.int .i64 0] l2) 3) = W at *
  go_loopw [45] (fun i wr => ∃ (k : Nat) (ys : List Int), k ≤ l2 ∧ i = .int .i64 k ∧ Hid (Li w q (q + 1) M rm G rq n m slots draws #[.pointer (some ⟨M, 0, none⟩), .pointer (some ⟨G, 0, none⟩), .iface 50 (.pointer (some ⟨M, 0, none⟩))] k ys wr)) (fun i _ => l2 - (intOf i).toNat)
  case atStart => exact ⟨0, _, Nat.zero_le _, rfl, LI⟩
  case round =>
    obtain ⟨k, ys, hk, rfl, HL⟩ := hrel
    clear LI
    by_cases hlt : k < l2
    · obtain ⟨g2, rfl, hc2⟩ := CS.out _ HL.out.b k (by rw [E2.out]; exact hlt)
      have cq : wr.cell? ⟨q, 2, none⟩ = some (.iface 50 (.pointer (some ⟨M, 0, none⟩))) := by rw [cell_of_row _ _ _ _ _ _ HL.out.q]; rfl
      by_cases hl3 : k < l3
      · obtain ⟨g3, rfl, hc3⟩ := CD.out _ HL.out.b k (by rw [E3.out]; exact hl3)
        go_wp2_with fail
        refine (PS.out _ k M rm G rq HL.out.qr).mono ?_
        rintro e w5 ⟨z, rfl, hz, q5, b5⟩
        have NX := HL.out.next NS.out hlt hz q5 b5 E2.out
        clear q5 b5
        have o1 := NX.1
        have o2 := NX.2.1
        have HN := hid NX.2.2
        clear NX HL hz
        go_wp2
        go_roundw
        case rel => exact ⟨k + 1, _, by omega, by go_num, HN⟩
        case measure => simp [intOf]; omega
      · have hdz : draws[k]?.getD 0 = 0 := by rw [List.getElem?_eq_none (by rw [E3.out]; omega)]; rfl
        have PS0 := hid (show Calls Try.prog 53 #[.pointer (some ⟨M, 0, none⟩), .int .i64 (slots[k]?.getD 0), .int .i64 0] wr fun e w' => ∃ z, e = .returned (.int .i64 z) ∧ z = (wpM n (stW n m slots draws k).1 (stW n m slots draws k).2 (slots[k]?.getD 0) (draws[k]?.getD 0)).2.2 ∧ Qr w' M rm G rq n (wpM n (stW n m slots draws k).1 (stW n m slots draws k).2 (slots[k]?.getD 0) (draws[k]?.getD 0)).1 (wpM n (stW n m slots draws k).1 (stW n m slots draws k).2 (slots[k]?.getD 0) (draws[k]?.getD 0)).2.1 ∧ But (Qs rm G rq) wr w' by have := PS.out wr k M rm G rq HL.out.qr; rw [hdz] at this ⊢; exact this)
        clear hdz
        go_wp2_with fail
        refine (PS0.out).mono ?_
        rintro e w5 ⟨z, rfl, hz, q5, b5⟩
        have NX := HL.out.next NS.out hlt hz q5 b5 E2.out
        clear q5 b5
        have o1 := NX.1
        have o2 := NX.2.1
        have HN := hid NX.2.2
        clear NX HL hz PS0
        go_wp2
        go_roundw
        case rel => exact ⟨k + 1, _, by omega, by go_num, HN⟩
        case measure => simp [intOf]; omega
    · obtain rfl : l2 = k := by omega
      have HF := hid (show RowV wr (q + 1) 3 (Ns .i64 (outsW n m slots draws)) ∧ Below w.heap.size w wr from ⟨by rw [← HL.out.ag.all (by rw [outsW_len, E2.out]; omega)]; exact HL.out.row, HL.out.b⟩)
      clear HL
      go_wp2
      go_ret2
      exact ⟨q + 1, rfl, HF.out.1, by have := NS.out; omega, HF.out.2⟩

end Go.Proofs.Ytnhkifinfnobfaa
