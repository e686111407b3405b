import Derived.Test.YtamfbplchblkbaaSpF
import Derived.Deep.RegionWith
import Derived.OrdersHeld
import Derived.Deep.OwnRows
namespace Go.Proofs.Ytamfbplchblkbaa
open Go.RowKit Go.Shelf
set_option linter.unusedVariables false

/-- block g holds a page of spec's space -/
def IsPg (Q : Nat) (w : World) (g : Nat) : Prop := ∃ k, w.cell? ⟨Q, k * 3 + 2, none⟩ = some (.slice (some ⟨g, 0, none⟩) 1024 1024)
/-- what an operation of spec's space may turn: its row of pages and the pages -/
structure Sf (Q : Nat) (w w' : World) : Prop where
  os : w'.os = w.os
  tape : w'.tape = w.tape
  output : w'.output = w.output
  size : w.heap.size ≤ w'.heap.size
  block : ∀ g, g < w.heap.size → g ≠ Q → ¬ IsPg Q w g → w'.heap[g]? = w.heap[g]?
  pg : ∀ g, IsPg Q w' g → IsPg Q w g ∨ w.heap.size ≤ g

theorem Sf.refl (Q : Nat) (w : World) : Sf Q w w := ⟨rfl, rfl, rfl, Nat.le_refl _, fun _ _ _ _ => rfl, fun _ h => .inl h⟩
theorem Sf.trans {Q : Nat} {a b c : World} (h : Sf Q a b) (k : Sf Q b c) : Sf Q a c :=
  ⟨k.os.trans h.os, k.tape.trans h.tape, k.output.trans h.output, Nat.le_trans h.size k.size,
   fun g h1 h2 h3 => (k.block g (Nat.lt_of_lt_of_le h1 h.size) h2 (fun h4 => by
     rcases h.pg g h4 with h5 | h5
     · exact h3 h5
     · omega)).trans (h.block g h1 h2 h3),
   fun g h1 => by
     rcases k.pg g h1 with h2 | h2
     · exact h.pg g h2
     · exact .inr (Nat.le_trans h.size h2)⟩
theorem Sf.ofBelow {Q : Nat} {w w' : World} (h : Below w.heap.size w w') (hQ : Q < w.heap.size) : Sf Q w w' :=
  ⟨h.os, h.tape, h.output, h.size, fun g h1 _ _ => h.block g h1, fun g ⟨k, hk⟩ => .inl ⟨k, by
    unfold World.cell? at hk ⊢
    rw [h.block Q hQ] at hk
    exact hk⟩⟩
theorem Sf.below {Q B : Nat} {w w' : World} (h : Sf Q w w') (hB : B ≤ w.heap.size) (hQ : B ≤ Q) (hp : ∀ g, IsPg Q w g → B ≤ g) : Below B w w' :=
  ⟨h.os, h.tape, h.output, h.size, fun g hg => h.block g (by omega) (by omega) (fun h1 => by have := hp g h1; omega)⟩

theorem lt_blk {W : World} {R : Nat} {o : Obj} (h : W.heap[R]? = some o) : R < W.heap.size := by
  by_cases hl : R < W.heap.size
  · exact hl
  · have : W.heap[R]? = none := Array.getElem?_eq_none (by omega)
    rw [this] at h; cases h
theorem Sx.below {T Q n : Nat} {bud : Int} {m : Nat → Option (Bool × List Int)} {W W' : World} (h : Sx T Q n bud m W) (hb : Below W.heap.size W W') : Sx T Q n bud m W' := by
  obtain ⟨c, h1, h2, h3, hinj⟩ := h.row
  refine ⟨by rw [hb.block _ (lt_blk h.box)]; exact h.box, ⟨c, by rw [hb.block _ (lt_blk h1)]; exact h1, h2, fun k hk => ?_, hinj⟩, h.out⟩
  have h4 := h3 k hk
  cases hm : m k with
  | none => rw [hm] at h4; exact h4
  | some q =>
    obtain ⟨l, xs⟩ := q
    rw [hm] at h4
    obtain ⟨a1, a2, a4, g, a3, a5⟩ := h4
    exact ⟨a1, a2, a4, g, a3, by rw [hb.block _ (lt_blk a5)]; exact a5⟩
theorem Sx.drew {T Q n : Nat} {bud : Int} {m : Nat → Option (Bool × List Int)} {W : World} (h : Sx T Q n bud m W) : Sx T Q n bud m W.drew := h.below (Below.refl _ _).drew
theorem Sx.ltQ {T Q n : Nat} {bud : Int} {m : Nat → Option (Bool × List Int)} {W : World} (h : Sx T Q n bud m W) : Q < W.heap.size := by
  obtain ⟨c, h1, _⟩ := h.row
  exact lt_blk h1

/-- one operation of a drawn region, carried out -/
theorem wpOp_do {P : Program} {ops : Array Oper} {Q : Exit → Act → World → Prop} {i : Nat} {o : Oper} {K : Act → World → Prop} {a : Act} {w : World} (hi : ops[i]? = some o) (hw : Region.wanted o (yielded ops a.tmps) = true)
    (h : ∀ K' : Act → World → Prop, Hid (∀ a w, K a w → K' a w) → o.wp P a w K' Q) : wpOp P ops Q i K a w := by
  unfold wpOp; simp only [hi, hw, if_true]; exact .inl (h K fun _ _ h => h)
theorem wpAnyH_one {P : Program} {md : Region.Mode} {ops : Array Oper} {Q : Exit → Act → World → Prop} {S : World → Prop} {r fuel : Nat} {listed : Array Bool} {a : Act} {w : World} (hr : Region.ready md ops listed = [r])
    (h : wpOp P ops Q r (fun a' w' => S w' ∧ wpAnyH P md ops Q S fuel (listed.setIfInBounds r true) a' w') a w) : wpAnyH P md ops Q S (fuel + 1) listed a w :=
  wpAnyH_all hr (by simp) (fun i hi => by
    obtain rfl : i = r := by simpa using hi
    exact h)

theorem wpAnyH_put {P : Program} {md : Region.Mode} {ops : Array Oper} {Q : Exit → Act → World → Prop} {S : World → Prop} {i d : Nat} {oi : Oper} {v : Value} {fuel : Nat} {listed : Array Bool} {a : Act} {w : World} (hi : ops[i]? = some oi) (hd : oi.dst = some d)
    (hs : Region.noSelect ops = true) (hf : Region.free md ops listed i = true) (hr : (Region.ready md ops listed).contains i = true)
    (hQ : ∀ c a w, Q (.panic c) (a.put oi.dst v) w → Q (.panic c) a w) (hy : YieldsIf P ops S oi v a) (hS : S w)
    (h : wpAnyH P md ops Q S fuel (listed.setIfInBounds i true) { a with tmps := a.tmps.setIfInBounds d v } w) : wpAnyH P md ops Q S (fuel + 1) listed a w :=
  wpAnyH_take hi hs hf hr hQ hy hS (by
    have e : a.put oi.dst v = { a with tmps := a.tmps.setIfInBounds d v } := by rw [hd]; rfl
    rw [e]; exact h)

theorem al_last (w : World) (o : Obj) : (w.alloc o).heap[w.heap.size]? = some o := (MapKept.heap_alloc w o).1
theorem al_old (w : World) (o : Obj) (k : Nat) (h : k < w.heap.size) : (w.alloc o).heap[k]? = w.heap[k]? := (MapKept.heap_alloc w o).2 k h
theorem al_size (w : World) (o : Obj) : (w.alloc o).heap.size = w.heap.size + 1 := by
  have e : (w.alloc o).heap = w.heap.push o := rfl
  rw [e, Array.size_push]
theorem Sx.pglt {T Q n : Nat} {bud : Int} {m : Nat → Option (Bool × List Int)} {W : World} (h : Sx T Q n bud m W) {j g : Nat} (hj : j < n) (hc : W.cell? ⟨Q, j * 3 + 2, none⟩ = some (.slice (some ⟨g, 0, none⟩) 1024 1024)) : g < W.heap.size := by
  obtain ⟨c, h1, h2, h3, _⟩ := h.row
  have h4 := h3 j hj
  have e0 : c[j * 3 + 2]? = some (.slice (some ⟨g, 0, none⟩) 1024 1024) := by simpa [World.cell?, h1] using hc
  cases hm : m j with
  | none => rw [hm] at h4; rw [h4.2.2] at e0; simp at e0
  | some q =>
    obtain ⟨l, xs⟩ := q
    rw [hm] at h4
    obtain ⟨_, _, _, g', a3, a5⟩ := h4
    rw [a3] at e0
    simp at e0
    subst e0
    exact lt_blk a5
theorem made_bytes (N : Nat) : madeCells #[Value.int .u8 0] N = (Ns .u8 (List.replicate N 0)).toArray := by
  apply Array.ext'
  simp [toList_madeCells_one, Ns]
/-- a fresh page is laid -/
theorem Sx.fresh {T Q n : Nat} {bud : Int} {m : Nat → Option (Bool × List Int)} {W : World} (h : Sx T Q n bud m W) (k : Nat) (hk : k < n) {mk : Array Value} (hmk : mk = (Ns .u8 (List.replicate 1024 0)).toArray) :
    Sx T Q n bud (updM m k (some (false, List.replicate 1024 0))) ((((W.alloc (.cells mk 5)).setCell ⟨Q, k * 3, none⟩ (.bool true)).setCell ⟨Q, k * 3 + 1, none⟩ (.bool true)).setCell ⟨Q, k * 3 + 2, none⟩ (.slice (some ⟨W.heap.size, 0, none⟩) 1024 1024)).drew ∧
    Sf Q W ((((W.alloc (.cells mk 5)).setCell ⟨Q, k * 3, none⟩ (.bool true)).setCell ⟨Q, k * 3 + 1, none⟩ (.bool true)).setCell ⟨Q, k * 3 + 2, none⟩ (.slice (some ⟨W.heap.size, 0, none⟩) 1024 1024)).drew := by
  have hb : Below W.heap.size W (W.alloc (.cells mk 5)) := (Below.refl _ _).alloc (Nat.le_refl _) _
  have h6 := h.below hb
  have hl := al_last W (.cells mk 5)
  have hQ := h.ltQ
  generalize W.alloc (.cells mk 5) = W6 at *
  have cQ : ∀ i, W6.cell? ⟨Q, i, none⟩ = W.cell? ⟨Q, i, none⟩ := fun i => by unfold World.cell?; rw [hb.block Q hQ]
  refine ⟨(h6.set3 k hk (some (false, List.replicate 1024 0)) (.bool true) (.bool true) (.slice (some ⟨W.heap.size, 0, none⟩) 1024 1024) (fun g j hj hne hc e => ?_) (fun c W' a1 a2 a3 ho => ⟨a1, a2, List.length_replicate, W.heap.size, a3, ?_⟩)).drew, ?_⟩
  · rw [cQ] at hc
    have h5 := h.pglt hj hc
    simp only [Value.slice.injEq, Option.some.injEq, Addr.mk.injEq, and_true] at e
    omega
  · rw [ho W.heap.size (by omega), hl, hmk]
  · have hc3 : ∀ g, g ≠ Q → (((W6.setCell ⟨Q, k * 3, none⟩ (.bool true)).setCell ⟨Q, k * 3 + 1, none⟩ (.bool true)).setCell ⟨Q, k * 3 + 2, none⟩ (.slice (some ⟨W.heap.size, 0, none⟩) 1024 1024)).heap[g]? = W6.heap[g]? := by
      intro g hg
      rw [Below.heap_setCell _ _ _ _ hg, Below.heap_setCell _ _ _ _ hg, Below.heap_setCell _ _ _ _ hg]
    have hbel : Below 0 W (((W6.setCell ⟨Q, k * 3, none⟩ (.bool true)).setCell ⟨Q, k * 3 + 1, none⟩ (.bool true)).setCell ⟨Q, k * 3 + 2, none⟩ (.slice (some ⟨W.heap.size, 0, none⟩) 1024 1024)) :=
      (((hb.mono (Nat.zero_le _)).setCell (Nat.zero_le _) _).setCell (Nat.zero_le _) _).setCell (Nat.zero_le _) _
    obtain ⟨c, h1, _⟩ := h6.row
    have e3 := heap_set_at (heap_set_at (heap_set_at h1 (i := k * 3) (.bool true)) (i := k * 3 + 1) (.bool true)) (i := k * 3 + 2) (.slice (some ⟨W.heap.size, 0, none⟩) 1024 1024)
    generalize ((W6.setCell ⟨Q, k * 3, none⟩ (.bool true)).setCell ⟨Q, k * 3 + 1, none⟩ (.bool true)).setCell ⟨Q, k * 3 + 2, none⟩ (.slice (some ⟨W.heap.size, 0, none⟩) 1024 1024) = W9 at *
    refine ⟨hbel.drew.os, hbel.drew.tape, hbel.drew.output, hbel.drew.size, fun g hg hne _ => (hc3 g hne).trans (hb.block g hg), ?_⟩
    rintro g ⟨j, hj⟩
    have hj' : W9.cell? ⟨Q, j * 3 + 2, none⟩ = some (.slice (some ⟨g, 0, none⟩) 1024 1024) := hj
    simp only [World.cell?, e3] at hj'
    by_cases ejk : j = k
    · subst ejk
      right
      rw [Array.getElem?_setIfInBounds] at hj'
      simp at hj'
      omega
    · left
      refine ⟨j, ?_⟩
      rw [← cQ]
      have q : (((c.setIfInBounds (k * 3) (.bool true)).setIfInBounds (k * 3 + 1) (.bool true)).setIfInBounds (k * 3 + 2) (.slice (some ⟨W.heap.size, 0, none⟩) 1024 1024))[j * 3 + 2]? = c[j * 3 + 2]? := by
        rw [Array.getElem?_setIfInBounds, if_neg (by omega), Array.getElem?_setIfInBounds, if_neg (by omega), Array.getElem?_setIfInBounds, if_neg (by omega)]
      rw [q] at hj'
      simp only [World.cell?, h1]
      exact hj'

set_option maxHeartbeats 400000 in
theorem sp_commit_yes (T Q n : Nat) (bud : Int) (m : Nat → Option (Bool × List Int)) (first count : Nat) (w : World) (h : Sx T Q n bud m w) (hn : n ≤ 4096) (hf : first + count ≤ n) (hb : (cntM m n : Int) + count ≤ bud) :
    Calls Try.prog 46 #[.pointer (some ⟨T, 0, none⟩), .int .i64 first, .int .i64 count] w fun e w' => e = .returned (.bool true) ∧ Sx T Q n bud (freshM m first count) w' ∧ Sf Q w w' := by
  have HC := hid (fun W (hW : Sx T Q n bud m W) => committed_any T Q n bud m W hW hn)
  have hcn := cntM_le m n
  have HD := hid (show Sx T Q n bud m w.drew ∧ Below w.heap.size w w.drew from ⟨h.drew, (Below.refl _ _).drew⟩)
  have SS : Hid (∀ W', (Sx T Q n bud m W' ∧ Below w.heap.size w W') → W'.cell? ⟨T, 1, none⟩ = some (.int .i64 bud) ∧ Hid (Sx T Q n bud m W' ∧ Below w.heap.size w W')) := fun W' h => ⟨h.1.c.2, h⟩
  have hQ := h.ltQ
  clear h
  generalize cntM m n = cn at *
  have m1 : IntKind.i64.wrap ((cn : Int) + (count : Int)) = (cn : Int) + (count : Int) := by rw [IntKind.wrap_i64]; omega
  have t1 : decide (bud < (cn : Int) + (count : Int)) = false := decide_eq_false (by omega)
  go_enter Try.func46, Try.ntmps46
  go_wp2
  refine wp_region_held (S := fun W' => W'.cell? ⟨T, 1, none⟩ = some (.int .i64 bud) ∧ Hid (Sx T Q n bud m W' ∧ Below w.heap.size w W')) (by kernel_rfl) ?_
  simp only [List.size_toArray, List.length_cons, List.length_nil, Nat.reduceAdd, Array.replicate_succ, Array.replicate_zero, List.push_toArray, List.nil_append, List.cons_append]
  have hS := SS.out _ HD.out
  refine wpAnyH_put (i := 0) (d := 8) (v := .pointer (some ⟨T, 0, none⟩)) rfl (by kernel_rfl) (by kernel_rfl) (by kernel_rfl) (by kernel_rfl) (fun _ _ _ h => h) (Or.inl ⟨by kernel_rfl, fun _ _ => by kernel_rfl⟩) hS ?_
  simp only [List.setIfInBounds_toArray, List.set_cons_zero, List.set_cons_succ]
  refine wpAnyH_put (i := 2) (d := 10) (v := .int .i64 (count : Int)) rfl (by kernel_rfl) (by kernel_rfl) (by kernel_rfl) (by kernel_rfl) (fun _ _ _ h => h) (Or.inl ⟨by kernel_rfl, fun _ _ => by kernel_rfl⟩) hS ?_
  simp only [List.setIfInBounds_toArray, List.set_cons_zero, List.set_cons_succ]
  refine wpAnyH_put (i := 4) (d := 12) (v := .pointer (some ⟨T, 0, none⟩)) rfl (by kernel_rfl) (by kernel_rfl) (by kernel_rfl) (by kernel_rfl) (fun _ _ _ h => h) (Or.inl ⟨by kernel_rfl, fun _ _ => by kernel_rfl⟩) hS ?_
  simp only [List.setIfInBounds_toArray, List.set_cons_zero, List.set_cons_succ]
  refine wpAnyH_put (i := 5) (d := 13) (v := .pointer (some ⟨T, 0, none⟩)) rfl (by kernel_rfl) (by kernel_rfl) (by kernel_rfl) (by kernel_rfl) (fun _ _ _ h => h) (Or.inl ⟨by kernel_rfl, fun _ _ => by kernel_rfl⟩) hS ?_
  simp only [List.setIfInBounds_toArray, List.set_cons_zero, List.set_cons_succ]
  refine wpAnyH_put (i := 6) (d := 14) (v := .pointer (some ⟨T, 1, none⟩)) rfl (by kernel_rfl) (by kernel_rfl) (by kernel_rfl) (by kernel_rfl) (fun _ _ _ h => h) (Or.inl ⟨by kernel_rfl, fun _ _ => by kernel_rfl⟩) hS ?_
  simp only [List.setIfInBounds_toArray, List.set_cons_zero, List.set_cons_succ]
  refine wpAnyH_put (i := 7) (d := 15) (v := .int .i64 bud) rfl (by kernel_rfl) (by kernel_rfl) (by kernel_rfl) (by kernel_rfl) (fun _ _ _ h => h) (Or.inl ⟨by kernel_rfl, fun W hS => by obtain ⟨h1, _⟩ := hS; go_simp⟩) hS ?_
  simp only [List.setIfInBounds_toArray, List.set_cons_zero, List.set_cons_succ]
  refine wpAnyH_one (r := 1) (by kernel_rfl) ?_
  refine wpOp_do rfl (by kernel_rfl) (fun K' hK => ?_)
  go_simp
  refine (HC.out _ hS.2.out.1).mono ?_
  rintro e w1 ⟨rfl, b1⟩
  have h1 := SS.out _ ⟨hS.2.out.1.below b1, bl_trans hS.2.out.2 b1⟩
  refine hK.out _ _ ⟨h1, ?_⟩
  clear hS
  have hS := h1
  clear hK K'
  refine wpAnyH_put (i := 3) (d := 11) (v := .int .i64 ((cn : Int) + (count : Int))) rfl (by kernel_rfl) (by kernel_rfl) (by kernel_rfl) (by kernel_rfl) (fun _ _ _ h => h) (Or.inl ⟨by kernel_rfl, fun W _ => by first | (go_simp; done) | (go_simp; omega)⟩) hS ?_
  simp only [List.setIfInBounds_toArray, List.set_cons_zero, List.set_cons_succ]
  refine wpAnyH_put (i := 8) (d := 16) (v := .bool false) rfl (by kernel_rfl) (by kernel_rfl) (by kernel_rfl) (by kernel_rfl) (fun _ _ _ h => h) (Or.inl ⟨by kernel_rfl, fun W _ => by first | (go_simp; done) | (go_simp; omega)⟩) hS ?_
  simp only [List.setIfInBounds_toArray, List.set_cons_zero, List.set_cons_succ]
  refine wpAnyH_done (by kernel_rfl) ?_ _
  clear m1 t1 HC SS HD
  have HS := hid hS.2.out.1
  have HF := hid (Sf.ofBelow hS.2.out.2 hQ)
  clear hS
  have hmk : ∀ w, (Instr.makeSlice 22 (.int .i64 1024) (.int .i64 1024)).run Try.prog w = .ok (.slice (some ⟨w.heap.size, 0, none⟩) 1024 1024) (w.alloc (.cells (madeCells #[Value.int .u8 0] 1024) 5)) := fun w => run_make_row' 22 5 (.int .u8 0) 1 Try.underlying22 Try.info5By rfl .i64 .i64 1024 (by omega) (by omega) w
  have HM := hid hmk
  clear hmk
  go_wp2
  go_loopw [7] (fun i wr => ∃ k : Nat, k ≤ count ∧ i = .int .i64 ((first : Int) + (k : Int)) ∧ Hid (Sx T Q n bud (freshM m first k) wr ∧ Sf Q w wr)) (fun i _ => first + count - (intOf i).toNat)
  case atStart => exact ⟨0, Nat.zero_le _, by go_num, HS.out, HF.out⟩
  case round =>
    obtain ⟨k, hk, rfl, HJ⟩ := hrel
    by_cases hlt : k < count
    · have HX := hid (HJ.out.1.fresh (first + k) (by omega) (made_bytes 1024))
      have q0 : wr.cell? ⟨T, 0, none⟩ = some (.slice (some ⟨Q, 0, none⟩) n n) := HJ.out.1.c.1
      have hb6 : Below wr.heap.size wr (wr.alloc (.cells (madeCells #[Value.int .u8 0] 1024) 5)) := (Below.refl _ _).alloc (Nat.le_refl _) _
      have q6 := (HJ.out.1.below hb6).c.1
      have q9 := HX.out.1.c.1
      obtain ⟨op, pp, l, cc, d1, d2, d3, _⟩ := (HJ.out.1.below hb6).three (first + k) (by omega)
      obtain ⟨c9, g1, g2, _⟩ := (HJ.out.1.below hb6).row
      have f1 : ∀ i, (wr.alloc (.cells (madeCells #[Value.int .u8 0] 1024) 5)).frozen? ⟨Q, i, none⟩ = false := fun i => by simp [World.frozen?, g1]
      have f2 := f1 ((first + k) * 3)
      have f3 := f1 ((first + k) * 3 + 1)
      have f4 := f1 ((first + k) * 3 + 2)
      have hmk : ∀ w, (Instr.makeSlice 22 (.int .i64 1024) (.int .i64 1024)).run Try.prog w = .ok (.slice (some ⟨w.heap.size, 0, none⟩) 1024 1024) (w.alloc (.cells (madeCells #[Value.int .u8 0] 1024) 5)) := HM.out
      have HF2 := hid HJ.out.2
      have tn : ((first : Int) + (k : Int)).toNat = first + k := by omega
      have tl : (first : Int) + (k : Int) < (n : Int) := by omega
      clear f1 g1 g2 hb6
      generalize madeCells #[Value.int .u8 0] 1024 = mk at *
      go_wp2
      refine wp_region_held (S := fun W' => W'.cell? ⟨T, 0, none⟩ = some (.slice (some ⟨Q, 0, none⟩) n n)) (by kernel_rfl) ?_
      simp only [List.size_toArray, List.length_cons, List.length_nil, Nat.reduceAdd, Array.replicate_succ, Array.replicate_zero, List.push_toArray, List.nil_append, List.cons_append]
      have hS := q0
      refine wpAnyH_put (i := 0) (d := 25) (v := .pointer (some ⟨T, 0, none⟩)) rfl (by kernel_rfl) (by kernel_rfl) (by kernel_rfl) (by kernel_rfl) (fun _ _ _ h => h) (Or.inl ⟨by kernel_rfl, fun _ _ => by kernel_rfl⟩) hS ?_
      simp only [List.setIfInBounds_toArray, List.set_cons_zero, List.set_cons_succ]
      refine wpAnyH_put (i := 1) (d := 26) (v := .pointer (some ⟨T, 0, none⟩)) rfl (by kernel_rfl) (by kernel_rfl) (by kernel_rfl) (by kernel_rfl) (fun _ _ _ h => h) (Or.inl ⟨by kernel_rfl, fun _ _ => by kernel_rfl⟩) hS ?_
      simp only [List.setIfInBounds_toArray, List.set_cons_zero, List.set_cons_succ]
      refine wpAnyH_put (i := 2) (d := 27) (v := .pointer (some ⟨T, 0, none⟩)) rfl (by kernel_rfl) (by kernel_rfl) (by kernel_rfl) (by kernel_rfl) (fun _ _ _ h => h) (Or.inl ⟨by kernel_rfl, fun _ _ => by kernel_rfl⟩) hS ?_
      simp only [List.setIfInBounds_toArray, List.set_cons_zero, List.set_cons_succ]
      refine wpAnyH_put (i := 3) (d := 28) (v := .slice (some ⟨Q, 0, none⟩) n n) rfl (by kernel_rfl) (by kernel_rfl) (by kernel_rfl) (by kernel_rfl) (fun _ _ _ h => h) (Or.inl ⟨by kernel_rfl, fun W hS => by obtain h1 := hS; go_simp⟩) hS ?_
      simp only [List.setIfInBounds_toArray, List.set_cons_zero, List.set_cons_succ]
      refine wpAnyH_put (i := 4) (d := 29) (v := .int .i64 ((first : Int) + (k : Int))) rfl (by kernel_rfl) (by kernel_rfl) (by kernel_rfl) (by kernel_rfl) (fun _ _ _ h => h) (Or.inl ⟨by kernel_rfl, fun _ _ => by kernel_rfl⟩) hS ?_
      simp only [List.setIfInBounds_toArray, List.set_cons_zero, List.set_cons_succ]
      refine wpAnyH_one (r := 5) (by kernel_rfl) ?_
      refine wpOp_do rfl (by kernel_rfl) (fun K' hK => ?_)
      go_simp
      refine hK.out _ _ ⟨q6, ?_⟩
      clear hS
      have hS := q6
      clear hK K'
      refine wpAnyH_put (i := 6) (d := 31) (v := .agg #[.bool true, .bool true, .slice (some ⟨wr.heap.size, 0, none⟩) 1024 1024]) rfl (by kernel_rfl) (by kernel_rfl) (by kernel_rfl) (by kernel_rfl) (fun _ _ _ h => h) (Or.inl ⟨by kernel_rfl, fun _ _ => by kernel_rfl⟩) hS ?_
      simp only [List.setIfInBounds_toArray, List.set_cons_zero, List.set_cons_succ]
      refine wpAnyH_put (i := 7) (d := 32) (v := .pointer (some ⟨Q, (first + k) * 3, none⟩)) rfl (by kernel_rfl) (by kernel_rfl) (by kernel_rfl) (by kernel_rfl) (fun _ _ _ h => h) (Or.inl ⟨by kernel_rfl, fun W _ => by first | (go_simp; done) | (go_simp; omega)⟩) hS ?_
      simp only [List.setIfInBounds_toArray, List.set_cons_zero, List.set_cons_succ]
      refine wpAnyH_one (r := 8) (by kernel_rfl) ?_
      refine wpOp_do rfl (by kernel_rfl) (fun K' hK => ?_)
      go_simp
      refine hK.out _ _ ⟨q9, ?_⟩
      clear hS
      clear hK K'
      refine wpAnyH_done (by kernel_rfl) ?_ _
      go_wp2
      go_roundw
      case rel => exact ⟨k + 1, by omega, by go_num, HX.out.1, HF2.out.trans HX.out.2⟩
      case measure => simp [intOf]; omega
    · have hkc : k = count := by omega
      subst hkc
      go_wp2
      go_ret
      exact ⟨rfl, HJ.out⟩

set_option maxHeartbeats 400000 in
theorem sp_commit_no (T Q n : Nat) (bud : Int) (m : Nat → Option (Bool × List Int)) (first count : Nat) (w : World) (h : Sx T Q n bud m w) (hn : n ≤ 4096) (hf : first + count ≤ n) (hb : bud < (cntM m n : Int) + count) :
    Calls Try.prog 46 #[.pointer (some ⟨T, 0, none⟩), .int .i64 first, .int .i64 count] w fun e w' => e = .returned (.bool false) ∧ Below w.heap.size w w' := by
  have HC := hid (fun W (hW : Sx T Q n bud m W) => committed_any T Q n bud m W hW hn)
  have hcn := cntM_le m n
  have HD := hid (show Sx T Q n bud m w.drew ∧ Below w.heap.size w w.drew from ⟨h.drew, (Below.refl _ _).drew⟩)
  have SS : Hid (∀ W', (Sx T Q n bud m W' ∧ Below w.heap.size w W') → W'.cell? ⟨T, 1, none⟩ = some (.int .i64 bud) ∧ Hid (Sx T Q n bud m W' ∧ Below w.heap.size w W')) := fun W' h => ⟨h.1.c.2, h⟩
  clear h
  generalize cntM m n = cn at *
  have m1 : IntKind.i64.wrap ((cn : Int) + (count : Int)) = (cn : Int) + (count : Int) := by rw [IntKind.wrap_i64]; omega
  have t1 : decide (bud < (cn : Int) + (count : Int)) = true := decide_eq_true (by omega)
  go_enter Try.func46, Try.ntmps46
  go_wp2
  refine wp_region_held (S := fun W' => W'.cell? ⟨T, 1, none⟩ = some (.int .i64 bud) ∧ Hid (Sx T Q n bud m W' ∧ Below w.heap.size w W')) (by kernel_rfl) ?_
  simp only [List.size_toArray, List.length_cons, List.length_nil, Nat.reduceAdd, Array.replicate_succ, Array.replicate_zero, List.push_toArray, List.nil_append, List.cons_append]
  have hS := SS.out _ HD.out
  refine wpAnyH_put (i := 0) (d := 8) (v := .pointer (some ⟨T, 0, none⟩)) rfl (by kernel_rfl) (by kernel_rfl) (by kernel_rfl) (by kernel_rfl) (fun _ _ _ h => h) (Or.inl ⟨by kernel_rfl, fun _ _ => by kernel_rfl⟩) hS ?_
  simp only [List.setIfInBounds_toArray, List.set_cons_zero, List.set_cons_succ]
  refine wpAnyH_put (i := 2) (d := 10) (v := .int .i64 (count : Int)) rfl (by kernel_rfl) (by kernel_rfl) (by kernel_rfl) (by kernel_rfl) (fun _ _ _ h => h) (Or.inl ⟨by kernel_rfl, fun _ _ => by kernel_rfl⟩) hS ?_
  simp only [List.setIfInBounds_toArray, List.set_cons_zero, List.set_cons_succ]
  refine wpAnyH_put (i := 4) (d := 12) (v := .pointer (some ⟨T, 0, none⟩)) rfl (by kernel_rfl) (by kernel_rfl) (by kernel_rfl) (by kernel_rfl) (fun _ _ _ h => h) (Or.inl ⟨by kernel_rfl, fun _ _ => by kernel_rfl⟩) hS ?_
  simp only [List.setIfInBounds_toArray, List.set_cons_zero, List.set_cons_succ]
  refine wpAnyH_put (i := 5) (d := 13) (v := .pointer (some ⟨T, 0, none⟩)) rfl (by kernel_rfl) (by kernel_rfl) (by kernel_rfl) (by kernel_rfl) (fun _ _ _ h => h) (Or.inl ⟨by kernel_rfl, fun _ _ => by kernel_rfl⟩) hS ?_
  simp only [List.setIfInBounds_toArray, List.set_cons_zero, List.set_cons_succ]
  refine wpAnyH_put (i := 6) (d := 14) (v := .pointer (some ⟨T, 1, none⟩)) rfl (by kernel_rfl) (by kernel_rfl) (by kernel_rfl) (by kernel_rfl) (fun _ _ _ h => h) (Or.inl ⟨by kernel_rfl, fun _ _ => by kernel_rfl⟩) hS ?_
  simp only [List.setIfInBounds_toArray, List.set_cons_zero, List.set_cons_succ]
  refine wpAnyH_put (i := 7) (d := 15) (v := .int .i64 bud) rfl (by kernel_rfl) (by kernel_rfl) (by kernel_rfl) (by kernel_rfl) (fun _ _ _ h => h) (Or.inl ⟨by kernel_rfl, fun W hS => by obtain ⟨h1, _⟩ := hS; go_simp⟩) hS ?_
  simp only [List.setIfInBounds_toArray, List.set_cons_zero, List.set_cons_succ]
  refine wpAnyH_one (r := 1) (by kernel_rfl) ?_
  refine wpOp_do rfl (by kernel_rfl) (fun K' hK => ?_)
  go_simp
  refine (HC.out _ hS.2.out.1).mono ?_
  rintro e w1 ⟨rfl, b1⟩
  have h1 := SS.out _ ⟨hS.2.out.1.below b1, bl_trans hS.2.out.2 b1⟩
  refine hK.out _ _ ⟨h1, ?_⟩
  clear hS
  have hS := h1
  clear hK K'
  refine wpAnyH_put (i := 3) (d := 11) (v := .int .i64 ((cn : Int) + (count : Int))) rfl (by kernel_rfl) (by kernel_rfl) (by kernel_rfl) (by kernel_rfl) (fun _ _ _ h => h) (Or.inl ⟨by kernel_rfl, fun W _ => by first | (go_simp; done) | (go_simp; omega)⟩) hS ?_
  simp only [List.setIfInBounds_toArray, List.set_cons_zero, List.set_cons_succ]
  refine wpAnyH_put (i := 8) (d := 16) (v := .bool true) rfl (by kernel_rfl) (by kernel_rfl) (by kernel_rfl) (by kernel_rfl) (fun _ _ _ h => h) (Or.inl ⟨by kernel_rfl, fun W _ => by first | (go_simp; done) | (go_simp; omega)⟩) hS ?_
  simp only [List.setIfInBounds_toArray, List.set_cons_zero, List.set_cons_succ]
  refine wpAnyH_done (by kernel_rfl) ?_ _
  clear m1 t1 HC SS HD
  have HF := hid hS.2.out.2
  clear hS
  go_wp2
  go_ret
  exact ⟨rfl, HF.out⟩
end Go.Proofs.Ytamfbplchblkbaa
