import Derived.Test.YtnhkifinfnobfaaWaK
namespace Go.Proofs.Ytnhkifinfnobfaa
open Go.ChangeShapes Go.WideShapes Go.ChangeAt Go.RowKit
set_option linter.unusedVariables false

theorem results_two {P : Program} {fn : Func} {p q : Tmp} {ty : TypeId} (h : fn.results = #[.cell p ty, .tmp q]) (tmps : Array Value) (w : World) (g : Nat) (t : TypeId) (cs : Array Value) (fr : Nat × Nat) (d : TypeDesc)
    (hp : tmps.getD p undef = .pointer (some ⟨g, 0, none⟩)) (hg : w.heap[g]? = some (.cells cs t fr))
    (hu : P.underlying ty = some d) (hd : (match d with | .struct _ | .array _ _ => true | _ => false) = true) (hi : (P.info? ty).map (·.size) = some cs.size) :
    (results fn tmps).run P w = .ok (.tuple #[.agg cs, tmps.getD q undef]) w := by
  have hp' : tmps[p]?.getD undef = .pointer (some ⟨g, 0, none⟩) := by simpa using hp
  simp [results, h, hp', asAddr, run_loadVar_row w g t ty cs fr d hg hu hd hi]

theorem wpM_len (n : Nat) (mix fifo : List Int) (x d : Int) : (wpM n mix fifo x d).1.length = mix.length := by
  unfold wpM
  split
  · rename_i h; rw [h]
  · split <;> simp
theorem Qr.lts {w : World} {M rm G rq n : Nat} {mix fifo : List Int} (h : Qr w M rm G rq n mix fifo) : M < w.heap.size ∧ rm < w.heap.size ∧ G < w.heap.size ∧ rq < w.heap.size := by
  obtain ⟨⟨a, b⟩, ⟨ps, o, k, c, d, _⟩, _⟩ := h
  exact ⟨lt_blk a, b.lt, lt_blk c, d.lt⟩
theorem Qr.below {w w' : World} {M rm G rq n : Nat} {mix fifo : List Int} (h : Qr w M rm G rq n mix fifo) (hb : Below w.heap.size w w') : Qr w' M rm G rq n mix fifo :=
  h.but (But.ofBelow (S := fun _ => False) hb) id id id id

theorem epush (M rm G rq n : Nat) (fifo : List Int) (x d : Int) (w : World) (h : Qr w M rm G rq n [] fifo) (hnl : n ≤ 1024) :
    Calls Try.prog 56 #[.pointer (some ⟨G, 0, none⟩), .int .i64 x, .int .i64 d] w fun e w' => ∃ z, e = .returned (.int .i64 z) ∧ z = (wpM n [] fifo x d).2.2 ∧ Qr w' M rm G rq n (wpM n [] fifo x d).1 (wpM n [] fifo x d).2.1 ∧ But (Qs rm G rq) w w' := by
  obtain ⟨s1, s2, s3, s4, s5⟩ := h.sep
  refine (qpush G rq n fifo x d w h.qu hnl).mono ?_
  rintro e w' ⟨rfl, q1, b1⟩
  have e1 : wpM n [] fifo x d = ([], (pushF n fifo x).1, (pushF n fifo x).2) := by unfold wpM; rw [if_pos rfl]
  rw [e1]
  exact ⟨_, rfl, rfl, ⟨h.mx.but b1 (fun h2 => h2.elim (fun e => s1 e) (fun e => s2 e)) (fun h2 => h2.elim (fun e => s4 e.symm) (fun e => h.ne e)), q1, h.ne⟩, b1.mono (fun g h2 => h2.elim (fun e => .inr (.inl e)) (fun e => .inr (.inr e)))⟩

set_option maxHeartbeats 400000 in
theorem push_no (am : Option Addr) (lm cm : Nat) (af : Option Addr) (lf cf : Nat) (lim : Int) (mix fifo : List Int) (x d : Int) (w : World) (h : Wt w am lm af lf mix fifo) (hg : (goodM mix fifo lim && decide (0 ≤ x)) = false) :
    Calls Try.prog 9 #[wv am lm cm af lf cf lim, .int .i64 x, .int .i64 d] w fun e w' => e = .returned (.tuple #[wv none 0 0 none 0 0 0, .int .i64 (-1)]) ∧ Below w.heap.size w w' := by
  have T2 := hid (al_two w (.cells #[.slice am lm cm, .slice af lf cf, .int .i64 lim] 29) (.cells #[.slice none 0 0, .slice none 0 0, .int .i64 0] 29))
  have GD := hid (good_in am lm cm af lf cf lim mix fifo _ (h.below T2.out.2.2))
  unfold wv at GD ⊢
  clear h
  generalize goodM mix fifo lim = b at *
  have H : Hid (∀ w1, Below ((w.alloc (.cells #[.slice am lm cm, .slice af lf cf, .int .i64 lim] 29)).alloc (.cells #[.slice none 0 0, .slice none 0 0, .int .i64 0] 29)).heap.size ((w.alloc (.cells #[.slice am lm cm, .slice af lf cf, .int .i64 lim] 29)).alloc (.cells #[.slice none 0 0, .slice none 0 0, .int .i64 0] 29)) w1 → w1.heap[w.heap.size + 1]? = some (.cells #[.slice none 0 0, .slice none 0 0, .int .i64 0] 29 (0, 0)) ∧ Below w.heap.size w w1) := fun w1 hb => ⟨below_at T2.out.2.1 hb, bl_trans T2.out.2.2 hb⟩
  clear T2
  cases b
  · go_enter Try.func9, Try.ntmps9
    go_wp2_with fail
    refine (GD.out).mono ?_
    rintro e w1 ⟨rfl, b1⟩
    have Z := hid (H.out w1 b1)
    clear H GD b1
    have d0 : w1.cell? ⟨w.heap.size + 1, 0, none⟩ = some (.slice none 0 0) := by rw [cell_of_row _ _ _ _ _ _ Z.out.1]; rfl
    have d1 : w1.cell? ⟨w.heap.size + 1, 1, none⟩ = some (.slice none 0 0) := by rw [cell_of_row _ _ _ _ _ _ Z.out.1]; rfl
    have d2 : w1.cell? ⟨w.heap.size + 1, 2, none⟩ = some (.int .i64 0) := by rw [cell_of_row _ _ _ _ _ _ Z.out.1]; rfl
    have f0 : w1.frozen? ⟨w.heap.size + 1, 0, none⟩ = false := frozen_of_row _ _ _ _ _ Z.out.1
    have f1 : w1.frozen? ⟨w.heap.size + 1, 1, none⟩ = false := frozen_of_row _ _ _ _ _ Z.out.1
    have f2 : w1.frozen? ⟨w.heap.size + 1, 2, none⟩ = false := frozen_of_row _ _ _ _ _ Z.out.1
    go_wp2
    refine bodyPost_ret (results_two (by rfl) _ _ (w.heap.size + 1) 29 _ (0, 0) _ (by rfl) (set3 Z.out.1 _ _ _) Try.underlying29 rfl (by kernel_rfl)) (by rfl) ?_
    exact ⟨rfl, ((Z.out.2.setCell (by dsimp only; omega) _).setCell (by dsimp only; omega) _).setCell (by dsimp only; omega) _⟩
  · have hx : x < 0 := by simp at hg; exact hg
    go_enter Try.func9, Try.ntmps9
    go_wp2_with fail
    refine (GD.out).mono ?_
    rintro e w1 ⟨rfl, b1⟩
    have Z := hid (H.out w1 b1)
    clear H GD b1
    have d0 : w1.cell? ⟨w.heap.size + 1, 0, none⟩ = some (.slice none 0 0) := by rw [cell_of_row _ _ _ _ _ _ Z.out.1]; rfl
    have d1 : w1.cell? ⟨w.heap.size + 1, 1, none⟩ = some (.slice none 0 0) := by rw [cell_of_row _ _ _ _ _ _ Z.out.1]; rfl
    have d2 : w1.cell? ⟨w.heap.size + 1, 2, none⟩ = some (.int .i64 0) := by rw [cell_of_row _ _ _ _ _ _ Z.out.1]; rfl
    have f0 : w1.frozen? ⟨w.heap.size + 1, 0, none⟩ = false := frozen_of_row _ _ _ _ _ Z.out.1
    have f1 : w1.frozen? ⟨w.heap.size + 1, 1, none⟩ = false := frozen_of_row _ _ _ _ _ Z.out.1
    have f2 : w1.frozen? ⟨w.heap.size + 1, 2, none⟩ = false := frozen_of_row _ _ _ _ _ Z.out.1
    go_wp2
    refine bodyPost_ret (results_two (by rfl) _ _ (w.heap.size + 1) 29 _ (0, 0) _ (by rfl) (set3 Z.out.1 _ _ _) Try.underlying29 rfl (by kernel_rfl)) (by rfl) ?_
    exact ⟨rfl, ((Z.out.2.setCell (by dsimp only; omega) _).setCell (by dsimp only; omega) _).setCell (by dsimp only; omega) _⟩
end Go.Proofs.Ytnhkifinfnobfaa
