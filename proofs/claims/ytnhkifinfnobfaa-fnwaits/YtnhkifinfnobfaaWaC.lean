import Derived.Test.YtnhkifinfnobfaaWaB
import Derived.OrdersHeld
namespace Go.Proofs.Ytnhkifinfnobfaa
open Go.ChangeShapes Go.WideShapes Go.ChangeAt Go.RowKit
set_option linter.unusedVariables false

/-- one operation of a drawn region, carried out -/
theorem wpOp_do {P : Program} {ops : Array Oper} {Q : Exit → Act → World → Prop} {i : Nat} {o : Oper} {K : Act → World → Prop} {a : Act} {w : World} (hi : ops[i]? = some o) (hw : Region.wanted o (yielded ops a.tmps) = true)
    (h : ∀ K' : Act → World → Prop, Hid (∀ a w, K a w → K' a w) → o.wp P a w K' Q) : wpOp P ops Q i K a w := by
  unfold wpOp; simp only [hi, hw, if_true]; exact .inl (h K fun _ _ h => h)
theorem wpAnyH_one {P : Program} {md : Region.Mode} {ops : Array Oper} {Q : Exit → Act → World → Prop} {S : World → Prop} {r fuel : Nat} {listed : Array Bool} {a : Act} {w : World} (hr : Region.ready md ops listed = [r])
    (h : wpOp P ops Q r (fun a' w' => S w' ∧ wpAnyH P md ops Q S fuel (listed.setIfInBounds r true) a' w') a w) : wpAnyH P md ops Q S (fuel + 1) listed a w :=
  wpAnyH_all hr (by simp) (fun i hi => by
    obtain rfl : i = r := by simpa using hi
    exact h)
theorem wpAnyH_put {P : Program} {md : Region.Mode} {ops : Array Oper} {Q : Exit → Act → World → Prop} {S : World → Prop} {i d : Nat} {oi : Oper} {v : Value} {fuel : Nat} {listed : Array Bool} {a : Act} {w : World} (hi : ops[i]? = some oi) (hd : oi.dst = some d)
    (hs : Region.noSelect ops = true) (hf : Region.free md ops listed i = true) (hr : (Region.ready md ops listed).contains i = true)
    (hQ : ∀ c a w, Q (.panic c) (a.put oi.dst v) w → Q (.panic c) a w) (hy : YieldsIf P ops S oi v a) (hS : S w)
    (h : wpAnyH P md ops Q S fuel (listed.setIfInBounds i true) { a with tmps := a.tmps.setIfInBounds d v } w) : wpAnyH P md ops Q S (fuel + 1) listed a w :=
  wpAnyH_take hi hs hf hr hQ hy hS (by
    have e : a.put oi.dst v = { a with tmps := a.tmps.setIfInBounds d v } := by rw [hd]; rfl
    rw [e]; exact h)
theorem lt_blk {W : World} {R : Nat} {o : Obj} (h : W.heap[R]? = some o) : R < W.heap.size := by
  by_cases hl : R < W.heap.size
  · exact hl
  · have : W.heap[R]? = none := Array.getElem?_eq_none (by omega)
    rw [this] at h; cases h

/-- all but the blocks of S stay as they are -/
structure But (S : Nat → Prop) (w w' : World) : Prop where
  os : w'.os = w.os
  tape : w'.tape = w.tape
  output : w'.output = w.output
  size : w.heap.size ≤ w'.heap.size
  block : ∀ k, k < w.heap.size → ¬ S k → w'.heap[k]? = w.heap[k]?
theorem But.refl (S : Nat → Prop) (w : World) : But S w w := ⟨rfl, rfl, rfl, Nat.le_refl _, fun _ _ _ => rfl⟩
theorem But.trans {S : Nat → Prop} {a b c : World} (h : But S a b) (k : But S b c) : But S a c :=
  ⟨k.os.trans h.os, k.tape.trans h.tape, k.output.trans h.output, Nat.le_trans h.size k.size, fun g h1 h2 => (k.block g (Nat.lt_of_lt_of_le h1 h.size) h2).trans (h.block g h1 h2)⟩
theorem But.mono {S S' : Nat → Prop} {a b : World} (h : But S a b) (k : ∀ g, S g → S' g) : But S' a b :=
  ⟨h.os, h.tape, h.output, h.size, fun g h1 h2 => h.block g h1 fun h3 => h2 (k g h3)⟩
theorem But.ofGrown {S : Nat → Prop} {a b : World} {g : Nat} (h : a.grownBy b (some g)) (k : S g) : But S a b :=
  ⟨h.os, h.tape, h.output, h.size, fun j h1 h2 => h.block j h1 fun h3 => by
    simp at h3; subst h3; exact h2 k⟩
theorem But.ofBelow {S : Nat → Prop} {a b : World} (h : Below a.heap.size a b) : But S a b := ⟨h.os, h.tape, h.output, h.size, fun j h1 _ => h.block j h1⟩
theorem But.below {S : Nat → Prop} {a b : World} {B : Nat} (h : But S a b) (hB : B ≤ a.heap.size) (k : ∀ g, S g → B ≤ g) : Below B a b :=
  ⟨h.os, h.tape, h.output, h.size, fun j h1 => h.block j (by omega) fun h3 => by have := k j h3; omega⟩
theorem But.drew {S : Nat → Prop} {a b : World} (h : But S a b) : But S a b.drew := ⟨h.os, h.tape, h.output, h.size, h.block⟩
theorem But.set {S : Nat → Prop} {a b : World} (h : But S a b) (g i : Nat) (v : Value) (k : S g) : But S a (b.setCell ⟨g, i, none⟩ v) :=
  h.trans (.ofGrown (grown_set (grown_refl b g) i v) k)
theorem cell_blk {a b : World} {g k : Nat} {o : Obj} (h : a.grownBy b (some g)) (hk : a.heap[k]? = some o) (hne : k ≠ g) : b.heap[k]? = some o := by
  rw [h.block k (lt_blk hk) (by simpa using hne)]; exact hk
theorem RowV.ne {w : World} {g r : Nat} {e t : TypeId} {xs : List Value} {c : Array Value} {f : Nat × Nat} (h : RowV w r e xs) (k : w.heap[g]? = some (.cells c t f)) (hne : e ≠ t) : g ≠ r := by
  obtain ⟨c', h1, _⟩ := h
  rintro rfl
  rw [h1] at k
  simp at k
  exact hne k.2.1
theorem RowV.but {S : Nat → Prop} {w w' : World} {r : Nat} {e : TypeId} {xs : List Value} (h : RowV w r e xs) (hb : But S w w') (hn : ¬ S r) : RowV w' r e xs := by
  obtain ⟨c, h1, h2⟩ := h
  exact ⟨c, by rw [hb.block r (lt_blk h1) hn]; exact h1, h2⟩
theorem But.at {S : Nat → Prop} {w w' : World} {g : Nat} {o : Obj} (hb : But S w w') (h : w.heap[g]? = some o) (hn : ¬ S g) : w'.heap[g]? = some o := by
  rw [hb.block g (lt_blk h) hn]; exact h

/-- what a row of at most n slots becomes when one more is pushed, and what leaves it -/
def pushF (n : Nat) (xs : List Int) (x : Int) : List Int × Int := if xs.length < n then (xs ++ [x], -1) else (xs.tail ++ [x], xs[0]?.getD 0)

/-- a queue in memory: its box is G, its places lie in r, xs are its slots, the oldest first -/
def Qu (w : World) (G r n : Nat) (xs : List Int) : Prop :=
  ∃ (ps : List Int) (o h : Nat), w.heap[G]? = some (.cells #[.slice (some ⟨r, 0, none⟩) n n, .int .i64 (o : Nat), .int .i64 (h : Nat)] 66 (0, 0)) ∧ RowV w r 3 (Ns .i64 ps) ∧ ps.length = n ∧ o < n ∧ h ≤ n ∧ (h < n → o = 0) ∧ xs = (ps.drop o ++ ps.take o).take h
theorem Qu.but {S : Nat → Prop} {w w' : World} {G r n : Nat} {xs : List Int} (h : Qu w G r n xs) (hb : But S w w') (h1 : ¬ S G) (h2 : ¬ S r) : Qu w' G r n xs := by
  obtain ⟨ps, o, h, a, b, c⟩ := h
  exact ⟨ps, o, h, hb.at a h1, b.but hb h2, c⟩
theorem Qu.len {w : World} {G r n : Nat} {xs : List Int} (h : Qu w G r n xs) : xs.length ≤ n := by
  obtain ⟨ps, o, h, a, b, c, d, e, f, rfl⟩ := h
  simp; omega

set_option maxHeartbeats 400000 in
theorem qpush_more (G r n h : Nat) (ps : List Int) (x d : Int) (w : World) (hb : w.heap[G]? = some (.cells #[.slice (some ⟨r, 0, none⟩) n n, .int .i64 (0 : Nat), .int .i64 (h : Nat)] 66 (0, 0))) (hr : RowV w r 3 (Ns .i64 ps)) (hn : ps.length = n) (hlt : h < n) (hnl : n ≤ 1024) :
    Calls Try.prog 56 #[.pointer (some ⟨G, 0, none⟩), .int .i64 x, .int .i64 d] w fun e w' => e = .returned (.int .i64 (-1)) ∧ w'.heap[G]? = some (.cells #[.slice (some ⟨r, 0, none⟩) n n, .int .i64 (0 : Nat), .int .i64 (h + 1 : Nat)] 66 (0, 0)) ∧ RowV w' r 3 (Ns .i64 (ps.set h x)) ∧ But (fun k => k = G ∨ k = r) w w' := by
    have hne : G ≠ r := hr.ne hb (by decide)
    have c0 : w.cell? ⟨G, 0, none⟩ = some (.slice (some ⟨r, 0, none⟩) n n) := by rw [cell_of_row _ _ _ _ _ _ hb]; rfl
    have c1 : w.cell? ⟨G, 1, none⟩ = some (.int .i64 (0 : Nat)) := by rw [cell_of_row _ _ _ _ _ _ hb]; rfl
    have c2 : w.cell? ⟨G, 2, none⟩ = some (.int .i64 (h : Nat)) := by rw [cell_of_row _ _ _ _ _ _ hb]; rfl
    have hlt' : (h : Int) < (n : Int) := by omega
    have SW := hid (swap_in G r n n 0 h h ps x w.drew.drew (by rw [Nat.zero_add, Nat.mod_eq_of_lt hlt]) hn (by omega) (by omega) (by omega) (by omega) c0 c1 hr)
    have HB := hid hb
    clear hb hr hn
    go_enter Try.func56, Try.ntmps56
    go_wp2
    go_region
    go_wp2
    refine wp_region_held (S := fun W => W.cell? ⟨G, 2, none⟩ = some (.int .i64 (h : Nat)) ∧ Hid (W.heap[G]? = some (.cells #[.slice (some ⟨r, 0, none⟩) n n, .int .i64 (0 : Nat), .int .i64 (h : Nat)] 66 (0, 0)))) (by kernel_rfl) ?_
    simp only [List.size_toArray, List.length_cons, List.length_nil, Nat.reduceAdd, Array.replicate_succ, Array.replicate_zero, List.push_toArray, List.nil_append, List.cons_append]
    have hS := (show _ ∧ Hid _ from ⟨c2, HB⟩)
    refine wpAnyH_put (i := 0) (d := 20) (v := .pointer (some ⟨G, 0, none⟩)) rfl (by kernel_rfl) (by kernel_rfl) (by kernel_rfl) (by kernel_rfl) (fun _ _ _ h => h) (Or.inl ⟨by kernel_rfl, fun _ _ => by kernel_rfl⟩) hS ?_
    simp only [List.setIfInBounds_toArray, List.set_cons_zero, List.set_cons_succ]
    refine wpAnyH_put (i := 1) (d := 21) (v := .pointer (some ⟨G, 0, none⟩)) rfl (by kernel_rfl) (by kernel_rfl) (by kernel_rfl) (by kernel_rfl) (fun _ _ _ h => h) (Or.inl ⟨by kernel_rfl, fun _ _ => by kernel_rfl⟩) hS ?_
    simp only [List.setIfInBounds_toArray, List.set_cons_zero, List.set_cons_succ]
    refine wpAnyH_put (i := 2) (d := 22) (v := .pointer (some ⟨G, 0, none⟩)) rfl (by kernel_rfl) (by kernel_rfl) (by kernel_rfl) (by kernel_rfl) (fun _ _ _ h => h) (Or.inl ⟨by kernel_rfl, fun _ _ => by kernel_rfl⟩) hS ?_
    simp only [List.setIfInBounds_toArray, List.set_cons_zero, List.set_cons_succ]
    refine wpAnyH_put (i := 3) (d := 23) (v := .pointer (some ⟨G, 0, none⟩)) rfl (by kernel_rfl) (by kernel_rfl) (by kernel_rfl) (by kernel_rfl) (fun _ _ _ h => h) (Or.inl ⟨by kernel_rfl, fun _ _ => by kernel_rfl⟩) hS ?_
    simp only [List.setIfInBounds_toArray, List.set_cons_zero, List.set_cons_succ]
    refine wpAnyH_put (i := 4) (d := 24) (v := .pointer (some ⟨G, 0, none⟩)) rfl (by kernel_rfl) (by kernel_rfl) (by kernel_rfl) (by kernel_rfl) (fun _ _ _ h => h) (Or.inl ⟨by kernel_rfl, fun _ _ => by kernel_rfl⟩) hS ?_
    simp only [List.setIfInBounds_toArray, List.set_cons_zero, List.set_cons_succ]
    refine wpAnyH_put (i := 5) (d := 25) (v := .pointer (some ⟨G, 0, none⟩)) rfl (by kernel_rfl) (by kernel_rfl) (by kernel_rfl) (by kernel_rfl) (fun _ _ _ h => h) (Or.inl ⟨by kernel_rfl, fun _ _ => by kernel_rfl⟩) hS ?_
    simp only [List.setIfInBounds_toArray, List.set_cons_zero, List.set_cons_succ]
    refine wpAnyH_put (i := 6) (d := 26) (v := .pointer (some ⟨G, 2, none⟩)) rfl (by kernel_rfl) (by kernel_rfl) (by kernel_rfl) (by kernel_rfl) (fun _ _ _ h => h) (Or.inl ⟨by kernel_rfl, fun _ _ => by kernel_rfl⟩) hS ?_
    simp only [List.setIfInBounds_toArray, List.set_cons_zero, List.set_cons_succ]
    refine wpAnyH_put (i := 7) (d := 27) (v := .int .i64 (h : Nat)) rfl (by kernel_rfl) (by kernel_rfl) (by kernel_rfl) (by kernel_rfl) (fun _ _ _ h => h) (Or.inl ⟨by kernel_rfl, fun W hS => by obtain ⟨h1, _⟩ := hS; go_simp⟩) hS ?_
    simp only [List.setIfInBounds_toArray, List.set_cons_zero, List.set_cons_succ]
    refine wpAnyH_put (i := 8) (d := 28) (v := .int .i64 x) rfl (by kernel_rfl) (by kernel_rfl) (by kernel_rfl) (by kernel_rfl) (fun _ _ _ h => h) (Or.inl ⟨by kernel_rfl, fun _ _ => by kernel_rfl⟩) hS ?_
    simp only [List.setIfInBounds_toArray, List.set_cons_zero, List.set_cons_succ]
    refine wpAnyH_one (r := 9) (by kernel_rfl) ?_
    refine wpOp_do rfl (by kernel_rfl) (fun K' hK => ?_)
    go_simp
    refine (SW.out).mono ?_
    rintro e w1 ⟨rfl, r1, g1⟩
    have hS1 := hid (cell_blk (k := G) g1 HB.out hne)
    refine hK.out _ _ ⟨⟨by rw [cell_of_row _ _ _ _ _ _ hS1.out]; rfl, hS1⟩, ?_⟩
    have R1 := hid r1
    have G1 := hid g1
    clear hS r1 g1
    clear hK K'
    refine wpAnyH_done (by kernel_rfl) ?_ _
    have c2' : w1.cell? ⟨G, 2, none⟩ = some (.int .i64 (h : Nat)) := by rw [cell_of_row _ _ _ _ _ _ hS1.out]; rfl
    have f2' : w1.frozen? ⟨G, 2, none⟩ = false := frozen_of_row _ _ _ _ _ hS1.out
    go_wp2
    go_ret
    refine ⟨rfl, ?_, ?_, ?_⟩
    · rw [heap_setCell_same _ _ _ _ _ _ hS1.out]; rfl
    · exact R1.out.other (by simpa using hne.symm) _
    · exact ((But.refl _ w).drew.drew.trans (.ofGrown G1.out (.inr rfl))).set _ _ _ (.inl rfl)
end Go.Proofs.Ytnhkifinfnobfaa
