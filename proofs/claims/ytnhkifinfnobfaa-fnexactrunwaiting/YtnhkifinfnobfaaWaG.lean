import Derived.Test.YtnhkifinfnobfaaWaF
import Derived.Laws.CopyOwn
import Derived.Deep.OwnRows
namespace Go.Proofs.Ytnhkifinfnobfaa
open Go.ChangeShapes Go.WideShapes Go.ChangeAt Go.RowKit
set_option linter.unusedVariables false

theorem grown_setRow (w : World) (g : Nat) (cs : Array Value) : w.grownBy (w.setRow g cs) (some g) :=
  ⟨rfl, rfl, rfl, by simp [World.setRow], fun k _ h => setRow_other w g k cs (by simpa using h)⟩

/-- a copy into a row of one's own: what it turns is that row alone -/
theorem copy_run (w : World) (dp sp : Option Addr) (dLen dCap sLen sCap g off : Nat) (cur : List Value) (hg : w.heap[g]? = some (.cells cur.toArray 3 (0, 0))) (cs : List Value) (hn : cs.length = Nat.min sLen dLen)
    (hpos : 0 < cs.length → dp = some ⟨g, off, none⟩ ∧ ∃ ad, sp = some ad ∧ ∀ j v, cs[j]? = some v → w.cell? (ad.add j) = some v)
    (hfit : off + cs.length ≤ cur.length) (h1 : ∀ v ∈ cs, v.oneCell' = true) :
    ∃ w', (Builtin.copy_ #[23, 23] 3 #[.slice dp dLen dCap, .slice sp sLen sCap]).run Try.prog w = .ok (.int .i64 (cs.length : Nat)) w' ∧ w'.heap[g]? = some (.cells (splice cur off cs).toArray 3 (0, 0)) ∧ w.grownBy w' (some g) := by
  by_cases h0 : cs.length = 0
  · obtain rfl : cs = [] := List.eq_nil_of_length_eq_zero h0
    refine ⟨w, run_copy_none (P := Try.prog) w 23 23 3 3 dp sp dLen dCap sLen sCap Try.underlying23 (by kernel_rfl) (by simpa using hn.symm), by simpa [splice] using hg, grown_refl w g⟩
  · obtain ⟨rfl, ad, rfl, hsrc⟩ := hpos (by omega)
    refine ⟨_, run_copy_row (P := Try.prog) w 23 23 3 3 g off dLen dCap ad sLen sCap cur.toArray 3 cs Try.underlying23 (by kernel_rfl) hg hn hsrc (by simpa using hfit) h1, ?_, grown_setRow w g _⟩
    simpa [splice] using setRow_heap w g _ _ 3 _ hg

theorem mk23 (n : Nat) (h : n ≤ 1048576) (w : World) : (Instr.makeSlice 23 (.int .i64 (n : Int)) (.int .i64 (n : Int))).run Try.prog w = .ok (.slice (some ⟨w.heap.size, 0, none⟩) n n) (w.alloc (.cells (madeCells #[Value.int .i64 0] n) 3)) :=
  run_make_row' 23 3 (.int .i64 0) 8 Try.underlying23 Try.info3In rfl .i64 .i64 n (by omega) (by omega) w

theorem al_last (w : World) (o : Obj) : (w.alloc o).heap[w.heap.size]? = some o := heap_alloc_new w o
theorem al_size (w : World) (o : Obj) : (w.alloc o).heap.size = w.heap.size + 1 := by
  have e : (w.alloc o).heap = w.heap.push o := rfl
  rw [e, Array.size_push]
theorem al_old {w : World} {k : Nat} {p : Obj} (h : w.heap[k]? = some p) (o : Obj) : (w.alloc o).heap[k]? = some p := by
  rw [heap_alloc_old w o (lt_blk h)]; exact h
theorem al_three (w : World) (A B C : Obj) : ((((w.alloc A).alloc B).alloc C).heap[w.heap.size]? = some A) ∧ ((((w.alloc A).alloc B).alloc C).heap[w.heap.size + 1]? = some B) ∧ ((((w.alloc A).alloc B).alloc C).heap[w.heap.size + 1 + 1]? = some C) ∧ Below w.heap.size w (((w.alloc A).alloc B).alloc C) := by
  have h1 := al_last w A
  have h2 := al_last (w.alloc A) B
  have h3 := al_last ((w.alloc A).alloc B) C
  rw [al_size] at h2
  rw [al_size, al_size] at h3
  exact ⟨al_old (al_old h1 B) C, al_old h2 C, h3, (((Below.refl _ w).alloc (Nat.le_refl _) A).alloc (by rw [al_size]; omega) B).alloc (by rw [al_size, al_size]; omega) C⟩
theorem made_n (n : Nat) : madeCells #[Value.int .i64 0] n = (Ns .i64 (List.replicate n 0)).toArray := by
  apply Array.ext'
  simp [toList_madeCells_one, Ns]
theorem Sl.src {w : World} {a : Option Addr} {zs : List Int} (h : Sl w a zs) (h0 : 0 < zs.length) : ∃ ad, a = some ad ∧ ∀ j v, (Ns .i64 zs)[j]? = some v → w.cell? (ad.add j) = some v := by
  rcases h with ⟨_, rfl⟩ | ⟨g, rfl, hr⟩
  · simp at h0
  · refine ⟨_, rfl, fun j v hv => ?_⟩
    have hj : j < (Ns .i64 zs).length := by
      by_cases hj : j < (Ns .i64 zs).length
      · exact hj
      · rw [List.getElem?_eq_none (by omega)] at hv; cases hv
    have := hr.cell j hj
    rw [hv] at this
    have e : (⟨g, 0, none⟩ : Addr).add j = ⟨g, j, none⟩ := by cases j <;> simp [Addr.add]
    rw [e]
    exact this
theorem Ns_one (k : IntKind) (zs : List Int) : ∀ v ∈ Ns k zs, v.oneCell' = true := by
  intro v hv
  simp only [Ns, List.mem_map] at hv
  obtain ⟨x, _, rfl⟩ := hv
  rfl
theorem splice_start (zs : List Int) (n : Nat) (h : zs.length ≤ n) : splice (Ns .i64 (List.replicate n 0)) 0 (Ns .i64 zs) = Ns .i64 (zs ++ List.replicate (n - zs.length) 0) := by
  simp [splice, Ns]
theorem rowOf {w : World} {g : Nat} {e : TypeId} {xs : List Value} (h : w.heap[g]? = some (.cells xs.toArray e (0, 0))) : RowV w g e xs :=
  ⟨_, h, by simp, fun i hi => by simp⟩

theorem set3 {w : World} {g : Nat} {a b c : Value} {t : TypeId} (h : w.heap[g]? = some (.cells #[a, b, c] t (0, 0))) (x y z : Value) :
    (((w.setCell ⟨g, 0, none⟩ x).setCell ⟨g, 1, none⟩ y).setCell ⟨g, 2, none⟩ z).heap[g]? = some (.cells #[x, y, z] t (0, 0)) := by
  rw [heap_setCell_same _ _ _ _ _ _ (heap_setCell_same _ _ _ _ _ _ (heap_setCell_same _ _ _ _ _ _ h))]; rfl
theorem set_ne {w : World} {g : Nat} {o : Obj} (h : w.heap[g]? = some o) (k i : Nat) (v : Value) (hne : g ≠ k) : (w.setCell ⟨k, i, none⟩ v).heap[g]? = some o := by
  rw [heap_setCell_other _ _ _ _ (by simpa using hne)]; exact h

set_option maxHeartbeats 400000 in
theorem newRing_in (n len cap : Nat) (a : Option Addr) (zs : List Int) (w : World) (hl : zs.length = len) (hlen : len ≤ n) (hn : n ≤ 1024) (hr : Sl w a zs) :
    Calls Try.prog 32 #[.int .i64 n, .slice a len cap] w fun e w' => ∃ g, e = .returned (.agg #[.slice (some ⟨g, 0, none⟩) n n, .int .i64 (0 : Nat), .int .i64 (len : Nat)]) ∧ RowV w' g 3 (Ns .i64 (zs ++ List.replicate (n - len) 0)) ∧ w.heap.size ≤ g ∧ Below w.heap.size w w' := by
  have hmk := fun W => mk23 n (by omega) W
  have HR := hid hr
  have HL := hid hl
  clear hr hl
  have T3 := hid (al_three w (.cells #[.slice none 0 0, .int .i64 0, .int .i64 0] 63) (.cells (madeCells #[.int .i64 0] n) 3) (.cells #[.slice (some ⟨w.heap.size + 1, 0, none⟩) n n, .int .i64 0, .int .i64 0] 63))
  obtain ⟨w1, hcp, hg1, hgr⟩ := copy_run _ (some ⟨w.heap.size + 1, 0, none⟩) a n n len cap (w.heap.size + 1) 0 (Ns .i64 (List.replicate n 0)) (by rw [← made_n]; exact T3.out.2.1) (Ns .i64 zs) (by rw [Ns_len, HL.out]; exact (Nat.min_eq_left hlen).symm) (fun h0 => ⟨rfl, (HR.out.below T3.out.2.2.2).src (by rw [Ns_len] at h0; exact h0)⟩) (by simp only [Ns_len, List.length_replicate]; rw [HL.out]; omega) (Ns_one _ _)
  rw [Ns_len, HL.out] at hcp
  have b0 := hid (cell_blk hgr T3.out.1 (by omega))
  have b2 := hid (cell_blk hgr T3.out.2.2.1 (by omega))
  have hg := hid (below_grown T3.out.2.2.2 hgr (by omega))
  have hr1 := hid (rowOf hg1)
  clear hg1 hgr T3
  have c2 : w1.cell? ⟨w.heap.size + 1 + 1, 2, none⟩ = some (.int .i64 0) := by rw [cell_of_row _ _ _ _ _ _ b2.out]; rfl
  have f2 : w1.frozen? ⟨w.heap.size + 1 + 1, 2, none⟩ = false := frozen_of_row _ _ _ _ _ b2.out
  have c20 : w1.cell? ⟨w.heap.size + 1 + 1, 0, none⟩ = some (.slice (some ⟨w.heap.size + 1, 0, none⟩) n n) := by rw [cell_of_row _ _ _ _ _ _ b2.out]; rfl
  have c21 : w1.cell? ⟨w.heap.size + 1 + 1, 1, none⟩ = some (.int .i64 0) := by rw [cell_of_row _ _ _ _ _ _ b2.out]; rfl
  have d0 : w1.cell? ⟨w.heap.size, 0, none⟩ = some (.slice none 0 0) := by rw [cell_of_row _ _ _ _ _ _ b0.out]; rfl
  have d1 : w1.cell? ⟨w.heap.size, 1, none⟩ = some (.int .i64 0) := by rw [cell_of_row _ _ _ _ _ _ b0.out]; rfl
  have d2 : w1.cell? ⟨w.heap.size, 2, none⟩ = some (.int .i64 0) := by rw [cell_of_row _ _ _ _ _ _ b0.out]; rfl
  have f0 : w1.frozen? ⟨w.heap.size, 0, none⟩ = false := frozen_of_row _ _ _ _ _ b0.out
  have f1 : w1.frozen? ⟨w.heap.size, 1, none⟩ = false := frozen_of_row _ _ _ _ _ b0.out
  have f3 : w1.frozen? ⟨w.heap.size, 2, none⟩ = false := frozen_of_row _ _ _ _ _ b0.out
  go_enter Try.func32, Try.ntmps32
  go_wp2
  refine bodyPost_ret (results_cell_row (by rfl) _ _ w.heap.size 63 _ (0, 0) _ (by rfl) (set3 (set_ne b0.out _ _ _ (by omega)) _ _ _) Try.underlying63 rfl (by kernel_rfl)) (by rfl) ?_
  refine ⟨w.heap.size + 1, rfl, ?_, by omega, ?_⟩
  · rw [← HL.out, ← splice_start _ _ (by rw [HL.out]; exact hlen)]
    refine (((hr1.out.other ?_ _).other ?_ _).other ?_ _).other ?_ _
    all_goals (dsimp only; omega)
  · exact (((hg.out.setCell (by dsimp only; omega) _).setCell (by dsimp only; omega) _).setCell (by dsimp only; omega) _).setCell (by dsimp only; omega) _
end Go.Proofs.Ytnhkifinfnobfaa
