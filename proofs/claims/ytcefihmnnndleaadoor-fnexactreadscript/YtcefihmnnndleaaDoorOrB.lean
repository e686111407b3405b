import Derived.Test.YtcefihmnnndleaaDoorOrA
namespace Go.Proofs.YtcefihmnnndleaaDoor
open Go.ChangeShapes Go.WideShapes Go.ChangeAt Go.RowKit
set_option linter.unusedVariables false
set_option maxRecDepth 20000
set_option linter.unusedSimpArgs false

theorem list_put {P : Program} {t : TypeId} {ops : Array Oper} {rest : List Oper} {o : Oper} {a : Act} {w : World} {Q : Exit → Act → World → Prop} (hgd : o.guard = none) (m x v : Operand) (ho : o.op = .insert t m x v)
    {vm vx vv : Value} {w' : World} (hm : a.eval m = vm) (hx : a.eval x = vx) (hv : a.eval v = vv)
    (hr : (Instr.mapUpdate t vm vx vv).run P w = .ok () w') (h : wpList P ops Q rest (a.put o.dst undef) w') : wpList P ops Q (o :: rest) a w := by
  refine wpList_plain hgd fun K hK => ?_
  unfold Oper.wp
  simp [execOp, ho, hm, hx, hv, hr, Result.andThen]
  exact hK _ _ h
def fv (f : Nat) : Value := .func (.func f) #[] #[]
def rowF (fs : List Nat) : Array Value := (fs.map fv).toArray
/-- the boxes of an order of operations -/
def opW (W : World) (S k : Nat) (fs : List Nat) : World := (((W.alloc (.cells (rowF fs) 103)).alloc (.cells #[.pointer (some ⟨S, 0, none⟩)] 50)).alloc (.cells #[.int .i64 (k : Int)] 3)).alloc (.cells #[.slice (some ⟨W.heap.size, 0, none⟩) fs.length fs.length] 102)
def fvO (p : Nat) : Value := .func (.func 50) #[] #[.pointer (some ⟨p + 1 + 1 + 1, 0, none⟩), .pointer (some ⟨p + 1 + 1, 0, none⟩), .pointer (some ⟨p + 1, 0, none⟩)]
structure ClF (W : World) (S p k : Nat) (fs : List Nat) : Prop where
  b0 : W.heap[p]? = some (.cells (rowF fs) 103 (0, 0))
  b1 : W.heap[p + 1]? = some (.cells #[.pointer (some ⟨S, 0, none⟩)] 50 (0, 0))
  b2 : W.heap[p + 1 + 1]? = some (.cells #[.int .i64 (k : Int)] 3 (0, 0))
  b3 : W.heap[p + 1 + 1 + 1]? = some (.cells #[.slice (some ⟨p, 0, none⟩) fs.length fs.length] 102 (0, 0))
theorem opW_size (W : World) (S k : Nat) (fs : List Nat) : (opW W S k fs).heap.size = W.heap.size + 1 + 1 + 1 + 1 := by simp [opW]
theorem opW_cl (W : World) (S k : Nat) (fs : List Nat) : ClF (opW W S k fs) S W.heap.size k fs := by
  have s1 : (W.alloc (.cells (rowF fs) 103)).heap.size = W.heap.size + 1 := by simp
  have s2 : ((W.alloc (.cells (rowF fs) 103)).alloc (.cells #[.pointer (some ⟨S, 0, none⟩)] 50)).heap.size = W.heap.size + 1 + 1 := by simp
  have s3 : (((W.alloc (.cells (rowF fs) 103)).alloc (.cells #[.pointer (some ⟨S, 0, none⟩)] 50)).alloc (.cells #[.int .i64 (k : Int)] 3)).heap.size = W.heap.size + 1 + 1 + 1 := by simp
  refine ⟨?_, ?_, ?_, ?_⟩
  · unfold opW; rw [al_old _ _ _ (by omega), al_old _ _ _ (by omega), al_old _ _ _ (by omega), al_last]
  · unfold opW; rw [al_old _ _ _ (by omega), al_old _ _ _ (by omega), ← s1, al_last]
  · unfold opW; rw [al_old _ _ _ (by omega), ← s2, al_last]
  · unfold opW; rw [← s3, al_last]
theorem opW_below (W : World) (S k : Nat) (fs : List Nat) : Below W.heap.size W (opW W S k fs) := by
  unfold opW
  exact ((((Below.refl _ W).alloc (Nat.le_refl _) _).alloc (by simp) _).alloc (by simp; omega) _).alloc (by simp; omega) _
theorem Mp.below {W W' : World} {M : Nat} {es : List (List UInt8 × Value)} (h : Mp W M es) (hb : Below W.heap.size W W') : Mp W' M es := by
  obtain ⟨arr, c, h1, h2⟩ := h
  exact ⟨arr, c, by rw [hb.block M (lt_of_block h1)]; exact h1, h2⟩
theorem Mp.lt {W : World} {M : Nat} {es : List (List UInt8 × Value)} (h : Mp W M es) : M < W.heap.size := by
  obtain ⟨arr, c, h1, h2⟩ := h
  exact lt_of_block h1
theorem ClF.keep {W W' : World} {S p k M : Nat} {fs : List Nat} (h : ClF W S p k fs) (g : W.grownBy W' (some M)) (hM : M < p) : ClF W' S p k fs :=
  ⟨(g.block _ (lt_of_block h.b0) (by simp; omega)).trans h.b0, (g.block _ (lt_of_block h.b1) (by simp; omega)).trans h.b1, (g.block _ (lt_of_block h.b2) (by simp; omega)).trans h.b2, (g.block _ (lt_of_block h.b3) (by simp; omega)).trans h.b3⟩
theorem ord1 {W : World} {M : Nat} {es : List (List UInt8 × Value)} (h : Mp W M es) (S k : Nat) (fs : List Nat) (nm : List UInt8) (hn : lk nm es = none) :
    ∃ W', (Instr.mapUpdate 67 (.map (some M)) (.string (bs nm)) (fvO W.heap.size)).run Tryd.prog (opW W S k fs) = .ok () W' ∧ Mp W' M (es ++ [(nm, fvO W.heap.size)]) ∧ W.grownBy W' (some M) ∧ ClF W' S W.heap.size k fs := by
  have hb := opW_below W S k fs
  obtain ⟨W', e1, m1, g1⟩ := run_put (h.below hb) nm (fvO W.heap.size) hn
  exact ⟨W', e1, m1, gb_trans (gb_below hb) g1, (opW_cl W S k fs).keep g1 h.lt⟩
def kwsO (S : Nat) (p : Nat → Nat) : List (List UInt8 × Value) := [([104, 101, 97, 112], .func (.func 36) #[.pointer (some ⟨S, 0, none⟩)] #[]), ([107, 101, 121], .func (.func 37) #[.pointer (some ⟨S, 0, none⟩)] #[]), ([100, 114, 97, 119, 115], .func (.func 38) #[.pointer (some ⟨S, 0, none⟩)] #[]), ([109, 97, 108, 108, 111, 99], fvO (p 0)), ([99, 97, 108, 108, 111, 99], fvO (p 1)), ([114, 101, 97, 108, 108, 111, 99], fvO (p 2)), ([102, 114, 101, 101], fvO (p 3)), ([117, 115, 97, 98, 108, 101], fvO (p 4)), ([108, 111, 97, 100], fvO (p 5)), ([115, 116, 111, 114, 101], fvO (p 6))]
def fsO : List (List Nat) := [[40], [40, 41], [42, 40], [42], [42], [42, 40], [42, 43]]
set_option maxHeartbeats 4000000 in
theorem im_orders (S : Nat) (w : World) :
    Calls Tryd.prog 30 #[.pointer (some ⟨S, 0, none⟩)] w fun e w' => e = .returned (.map (some w.heap.size)) ∧ Below w.heap.size w w' ∧ ∃ p : Nat → Nat, Mp w' w.heap.size (kwsO S p) ∧ (∀ i, i < 7 → w.heap.size < p i) ∧ ∀ i fs, fsO[i]? = some fs → ClF w' S (p i) i fs := by
  have m0 : Mp (w.alloc (.map #[] 0)) w.heap.size [] := ⟨#[], 0, al_last _ _, rfl⟩
  have hmm := @run_makeMap Tryd.prog
  obtain ⟨W1, e1, m1, g1⟩ := run_put m0 [104, 101, 97, 112] (.func (.func 36) #[.pointer (some ⟨S, 0, none⟩)] #[]) (by simp [lk])
  obtain ⟨W2, e2, m2, g2⟩ := run_put m1 [107, 101, 121] (.func (.func 37) #[.pointer (some ⟨S, 0, none⟩)] #[]) (by simp [lk])
  obtain ⟨W3, e3, m3, g3⟩ := run_put m2 [100, 114, 97, 119, 115] (.func (.func 38) #[.pointer (some ⟨S, 0, none⟩)] #[]) (by simp [lk])
  obtain ⟨W4, e4, m4, g4, c4⟩ := ord1 m3 S 0 [40] [109, 97, 108, 108, 111, 99] (by simp [lk])
  obtain ⟨W5, e5, m5, g5, c5⟩ := ord1 m4 S 1 [40, 41] [99, 97, 108, 108, 111, 99] (by simp [lk])
  obtain ⟨W6, e6, m6, g6, c6⟩ := ord1 m5 S 2 [42, 40] [114, 101, 97, 108, 108, 111, 99] (by simp [lk])
  obtain ⟨W7, e7, m7, g7, c7⟩ := ord1 m6 S 3 [42] [102, 114, 101, 101] (by simp [lk])
  obtain ⟨W8, e8, m8, g8, c8⟩ := ord1 m7 S 4 [42] [117, 115, 97, 98, 108, 101] (by simp [lk])
  obtain ⟨W9, e9, m9, g9, c9⟩ := ord1 m8 S 5 [42, 40] [108, 111, 97, 100] (by simp [lk])
  obtain ⟨W10, e10, m10, g10, c10⟩ := ord1 m9 S 6 [42, 43] [115, 116, 111, 114, 101] (by simp [lk])
  have q3 := m3.lt
  have z3 : w.heap.size < W3.heap.size := m3.lt
  have z4 : w.heap.size < W4.heap.size := m4.lt
  have z5 : w.heap.size < W5.heap.size := m5.lt
  have z6 : w.heap.size < W6.heap.size := m6.lt
  have z7 : w.heap.size < W7.heap.size := m7.lt
  have z8 : w.heap.size < W8.heap.size := m8.lt
  have z9 : w.heap.size < W9.heap.size := m9.lt
  simp only [opW, rowF, fv, fvO, List.map_cons, List.map_nil, List.length_cons, List.length_nil, Nat.zero_add, Nat.reduceAdd, bs, show ((0 : Nat) : Int) = 0 from rfl, show ((1 : Nat) : Int) = 1 from rfl, show ((2 : Nat) : Int) = 2 from rfl, show ((3 : Nat) : Int) = 3 from rfl, show ((4 : Nat) : Int) = 4 from rfl, show ((5 : Nat) : Int) = 5 from rfl, show ((6 : Nat) : Int) = 6 from rfl] at e1 e2 e3 e4 e5 e6 e7 e8 e9 e10
  have k0 := hid ((((((c4.keep g5 z3).keep g6 z3).keep g7 z3).keep g8 z3).keep g9 z3).keep g10 z3)
  have k1 := hid (((((c5.keep g6 z4).keep g7 z4).keep g8 z4).keep g9 z4).keep g10 z4)
  have k2 := hid ((((c6.keep g7 z5).keep g8 z5).keep g9 z5).keep g10 z5)
  have k3 := hid (((c7.keep g8 z6).keep g9 z6).keep g10 z6)
  have k4 := hid ((c8.keep g9 z7).keep g10 z7)
  have k5 := hid (c9.keep g10 z8)
  have k6 := hid c10
  have GG := hid (gb_trans (gb_trans (gb_trans (gb_trans (gb_trans (gb_trans (gb_trans (gb_trans (gb_trans g1 g2) g3) g4) g5) g6) g7) g8) g9) g10)
  have MM := hid m10
  have ZZ := hid (And.intro z3 (And.intro z4 (And.intro z5 (And.intro z6 (And.intro z7 (And.intro z8 z9))))))
  have h390 : ∀ a m c w9, Calls Tryd.prog 39 #[.pointer (some ⟨S, 0, none⟩), .int .i64 0, .slice a m c] w9 fun e w' => e = .returned (.func (.func 50) #[] #[.pointer (some ⟨w9.heap.size + 1 + 1, 0, none⟩), .pointer (some ⟨w9.heap.size + 1, 0, none⟩), .pointer (some ⟨w9.heap.size, 0, none⟩)]) ∧ w' = ((w9.alloc (.cells #[.pointer (some ⟨S, 0, none⟩)] 50)).alloc (.cells #[.int .i64 0] 3)).alloc (.cells #[.slice a m c] 102) := fun a m c w9 => im_oper S 0 a m c w9
  have h391 : ∀ a m c w9, Calls Tryd.prog 39 #[.pointer (some ⟨S, 0, none⟩), .int .i64 1, .slice a m c] w9 fun e w' => e = .returned (.func (.func 50) #[] #[.pointer (some ⟨w9.heap.size + 1 + 1, 0, none⟩), .pointer (some ⟨w9.heap.size + 1, 0, none⟩), .pointer (some ⟨w9.heap.size, 0, none⟩)]) ∧ w' = ((w9.alloc (.cells #[.pointer (some ⟨S, 0, none⟩)] 50)).alloc (.cells #[.int .i64 1] 3)).alloc (.cells #[.slice a m c] 102) := fun a m c w9 => im_oper S 1 a m c w9
  have h392 : ∀ a m c w9, Calls Tryd.prog 39 #[.pointer (some ⟨S, 0, none⟩), .int .i64 2, .slice a m c] w9 fun e w' => e = .returned (.func (.func 50) #[] #[.pointer (some ⟨w9.heap.size + 1 + 1, 0, none⟩), .pointer (some ⟨w9.heap.size + 1, 0, none⟩), .pointer (some ⟨w9.heap.size, 0, none⟩)]) ∧ w' = ((w9.alloc (.cells #[.pointer (some ⟨S, 0, none⟩)] 50)).alloc (.cells #[.int .i64 2] 3)).alloc (.cells #[.slice a m c] 102) := fun a m c w9 => im_oper S 2 a m c w9
  have h393 : ∀ a m c w9, Calls Tryd.prog 39 #[.pointer (some ⟨S, 0, none⟩), .int .i64 3, .slice a m c] w9 fun e w' => e = .returned (.func (.func 50) #[] #[.pointer (some ⟨w9.heap.size + 1 + 1, 0, none⟩), .pointer (some ⟨w9.heap.size + 1, 0, none⟩), .pointer (some ⟨w9.heap.size, 0, none⟩)]) ∧ w' = ((w9.alloc (.cells #[.pointer (some ⟨S, 0, none⟩)] 50)).alloc (.cells #[.int .i64 3] 3)).alloc (.cells #[.slice a m c] 102) := fun a m c w9 => im_oper S 3 a m c w9
  have h394 : ∀ a m c w9, Calls Tryd.prog 39 #[.pointer (some ⟨S, 0, none⟩), .int .i64 4, .slice a m c] w9 fun e w' => e = .returned (.func (.func 50) #[] #[.pointer (some ⟨w9.heap.size + 1 + 1, 0, none⟩), .pointer (some ⟨w9.heap.size + 1, 0, none⟩), .pointer (some ⟨w9.heap.size, 0, none⟩)]) ∧ w' = ((w9.alloc (.cells #[.pointer (some ⟨S, 0, none⟩)] 50)).alloc (.cells #[.int .i64 4] 3)).alloc (.cells #[.slice a m c] 102) := fun a m c w9 => im_oper S 4 a m c w9
  have h395 : ∀ a m c w9, Calls Tryd.prog 39 #[.pointer (some ⟨S, 0, none⟩), .int .i64 5, .slice a m c] w9 fun e w' => e = .returned (.func (.func 50) #[] #[.pointer (some ⟨w9.heap.size + 1 + 1, 0, none⟩), .pointer (some ⟨w9.heap.size + 1, 0, none⟩), .pointer (some ⟨w9.heap.size, 0, none⟩)]) ∧ w' = ((w9.alloc (.cells #[.pointer (some ⟨S, 0, none⟩)] 50)).alloc (.cells #[.int .i64 5] 3)).alloc (.cells #[.slice a m c] 102) := fun a m c w9 => im_oper S 5 a m c w9
  have h396 : ∀ a m c w9, Calls Tryd.prog 39 #[.pointer (some ⟨S, 0, none⟩), .int .i64 6, .slice a m c] w9 fun e w' => e = .returned (.func (.func 50) #[] #[.pointer (some ⟨w9.heap.size + 1 + 1, 0, none⟩), .pointer (some ⟨w9.heap.size + 1, 0, none⟩), .pointer (some ⟨w9.heap.size, 0, none⟩)]) ∧ w' = ((w9.alloc (.cells #[.pointer (some ⟨S, 0, none⟩)] 50)).alloc (.cells #[.int .i64 6] 3)).alloc (.cells #[.slice a m c] 102) := fun a m c w9 => im_oper S 6 a m c w9
  clear m0 m1 g1 m2 g2 m3 g3 m4 g4 m5 g5 m6 g6 m7 g7 m8 g8 m9 g9 m10 g10 c4 c5 c6 c7 c8 c9 c10 z3 z4 z5 z6 z7 z8 z9 q3
  go_enter Tryd.func30, Tryd.ntmps30
  go_wp2_with (first | (go_at_call 39; refine (h390 _ _ _ _).mono ?_; rintro e w9 ⟨rfl, rfl⟩; clear h390) | (go_at_call 39; refine (h391 _ _ _ _).mono ?_; rintro e w9 ⟨rfl, rfl⟩; clear h391) | (go_at_call 39; refine (h392 _ _ _ _).mono ?_; rintro e w9 ⟨rfl, rfl⟩; clear h392) | (go_at_call 39; refine (h393 _ _ _ _).mono ?_; rintro e w9 ⟨rfl, rfl⟩; clear h393) | (go_at_call 39; refine (h394 _ _ _ _).mono ?_; rintro e w9 ⟨rfl, rfl⟩; clear h394) | (go_at_call 39; refine (h395 _ _ _ _).mono ?_; rintro e w9 ⟨rfl, rfl⟩; clear h395) | (go_at_call 39; refine (h396 _ _ _ _).mono ?_; rintro e w9 ⟨rfl, rfl⟩; clear h396) | (refine list_put (t := 67) (vm := ?vm) (vx := ?vx) (vv := ?vv) (w' := ?w9) ?h1 (.tmp 3) ?x (.tmp 5) ?h2 ?h3 ?h4 ?h5 ?h6 ?h7; (case h2 => with_reducible rfl); (case h1 => rfl); (case h3 => rfl); (case h4 => rfl); (case h5 => rfl); (case h6 => exact e1); clear e1) | (refine list_put (t := 67) (vm := ?vm) (vx := ?vx) (vv := ?vv) (w' := ?w9) ?h1 (.tmp 3) ?x (.tmp 7) ?h2 ?h3 ?h4 ?h5 ?h6 ?h7; (case h2 => with_reducible rfl); (case h1 => rfl); (case h3 => rfl); (case h4 => rfl); (case h5 => rfl); (case h6 => exact e2); clear e2) | (refine list_put (t := 67) (vm := ?vm) (vx := ?vx) (vv := ?vv) (w' := ?w9) ?h1 (.tmp 3) ?x (.tmp 9) ?h2 ?h3 ?h4 ?h5 ?h6 ?h7; (case h2 => with_reducible rfl); (case h1 => rfl); (case h3 => rfl); (case h4 => rfl); (case h5 => rfl); (case h6 => exact e3); clear e3) | (refine list_put (t := 67) (vm := ?vm) (vx := ?vx) (vv := ?vv) (w' := ?w9) ?h1 (.tmp 3) ?x (.tmp 12) ?h2 ?h3 ?h4 ?h5 ?h6 ?h7; (case h2 => with_reducible rfl); (case h1 => rfl); (case h3 => rfl); (case h4 => rfl); (case h5 => rfl); (case h6 => exact e4); clear e4) | (refine list_put (t := 67) (vm := ?vm) (vx := ?vx) (vv := ?vv) (w' := ?w9) ?h1 (.tmp 3) ?x (.tmp 15) ?h2 ?h3 ?h4 ?h5 ?h6 ?h7; (case h2 => with_reducible rfl); (case h1 => rfl); (case h3 => rfl); (case h4 => rfl); (case h5 => rfl); (case h6 => exact e5); clear e5) | (refine list_put (t := 67) (vm := ?vm) (vx := ?vx) (vv := ?vv) (w' := ?w9) ?h1 (.tmp 3) ?x (.tmp 18) ?h2 ?h3 ?h4 ?h5 ?h6 ?h7; (case h2 => with_reducible rfl); (case h1 => rfl); (case h3 => rfl); (case h4 => rfl); (case h5 => rfl); (case h6 => exact e6); clear e6) | (refine list_put (t := 67) (vm := ?vm) (vx := ?vx) (vv := ?vv) (w' := ?w9) ?h1 (.tmp 3) ?x (.tmp 21) ?h2 ?h3 ?h4 ?h5 ?h6 ?h7; (case h2 => with_reducible rfl); (case h1 => rfl); (case h3 => rfl); (case h4 => rfl); (case h5 => rfl); (case h6 => exact e7); clear e7) | (refine list_put (t := 67) (vm := ?vm) (vx := ?vx) (vv := ?vv) (w' := ?w9) ?h1 (.tmp 3) ?x (.tmp 24) ?h2 ?h3 ?h4 ?h5 ?h6 ?h7; (case h2 => with_reducible rfl); (case h1 => rfl); (case h3 => rfl); (case h4 => rfl); (case h5 => rfl); (case h6 => exact e8); clear e8) | (refine list_put (t := 67) (vm := ?vm) (vx := ?vx) (vv := ?vv) (w' := ?w9) ?h1 (.tmp 3) ?x (.tmp 27) ?h2 ?h3 ?h4 ?h5 ?h6 ?h7; (case h2 => with_reducible rfl); (case h1 => rfl); (case h3 => rfl); (case h4 => rfl); (case h5 => rfl); (case h6 => exact e9); clear e9) | (refine list_put (t := 67) (vm := ?vm) (vx := ?vx) (vv := ?vv) (w' := ?w9) ?h1 (.tmp 3) ?x (.tmp 30) ?h2 ?h3 ?h4 ?h5 ?h6 ?h7; (case h2 => with_reducible rfl); (case h1 => rfl); (case h3 => rfl); (case h4 => rfl); (case h5 => rfl); (case h6 => exact e10); clear e10))
  go_ret
  refine ⟨rfl, ?_, fun i => match i with | 0 => W3.heap.size | 1 => W4.heap.size | 2 => W5.heap.size | 3 => W6.heap.size | 4 => W7.heap.size | 5 => W8.heap.size | _ => W9.heap.size, MM.out, ?_, ?_⟩
  · have hb := (Below.refl w.heap.size w).alloc (Nat.le_refl _) (.map #[] 0)
    exact ⟨GG.out.os.trans hb.os, GG.out.tape.trans hb.tape, GG.out.output.trans hb.output, Nat.le_trans hb.size GG.out.size, fun k hk => (GG.out.block k (Nat.lt_of_lt_of_le hk hb.size) (by simp; omega)).trans (hb.block k hk)⟩
  · intro i hi
    obtain ⟨a3, a4, a5, a6, a7, a8, a9⟩ := ZZ.out
    rcases i with _ | _ | _ | _ | _ | _ | _ | i
    · exact a3
    · exact a4
    · exact a5
    · exact a6
    · exact a7
    · exact a8
    · exact a9
    · omega
  · intro i fs hf
    rcases i with _ | _ | _ | _ | _ | _ | _ | i
    · cases hf; exact k0.out
    · cases hf; exact k1.out
    · cases hf; exact k2.out
    · cases hf; exact k3.out
    · cases hf; exact k4.out
    · cases hf; exact k5.out
    · cases hf; exact k6.out
    · cases hf
end Go.Proofs.YtcefihmnnndleaaDoor
