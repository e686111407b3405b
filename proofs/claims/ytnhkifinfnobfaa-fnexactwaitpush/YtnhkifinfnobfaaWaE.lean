import Derived.Test.YtnhkifinfnobfaaWaD
namespace Go.Proofs.Ytnhkifinfnobfaa
open Go.ChangeShapes Go.WideShapes Go.ChangeAt Go.RowKit
set_option linter.unusedVariables false

set_option maxHeartbeats 400000 in
theorem mpush_empty (M G r n k : Nat) (mix : List Int) (x d : Int) (w : World) (hb : w.heap[M]? = some (.cells #[.slice (some ⟨r, 0, none⟩) n n, .int .i64 (0 : Nat), .int .i64 (n : Nat), .iface 51 (.pointer (some ⟨G, 0, none⟩))] 68 (0, 0))) (hr : RowV w r 3 (Ns .i64 mix)) (hn : mix.length = n) (h0 : 0 < n) (hnl : n ≤ 1024) (hk : md d n = k) (hm : mix[k]?.getD 0 = -1) :
    Calls Try.prog 53 #[.pointer (some ⟨M, 0, none⟩), .int .i64 x, .int .i64 d] w fun e w' => e = .returned (.int .i64 (-1)) ∧ RowV w' r 3 (Ns .i64 (mix.set k x)) ∧ w.grownBy w' (some r) := by
  have hne : M ≠ r := hr.ne hb (by decide)
  have c0 : w.cell? ⟨M, 0, none⟩ = some (.slice (some ⟨r, 0, none⟩) n n) := by rw [cell_of_row _ _ _ _ _ _ hb]; rfl
  have c1 : w.cell? ⟨M, 1, none⟩ = some (.int .i64 (0 : Nat)) := by rw [cell_of_row _ _ _ _ _ _ hb]; rfl
  have c2 : w.cell? ⟨M, 2, none⟩ = some (.int .i64 (n : Nat)) := by rw [cell_of_row _ _ _ _ _ _ hb]; rfl
  have hkn : k < n := hk ▸ md_lt d n h0
  have SW := hid (swap_in M r n n 0 k k mix x w.drew (by rw [Nat.zero_add, Nat.mod_eq_of_lt hkn]) hn h0 (by omega) (by omega) (by omega) c0 c1 hr)
  have MD := hid (fun W => modulo_in d n W h0 (by omega))
  rw [hk] at MD
  have HB := hid hb
  clear hb hr hn hk
  rw [hm] at SW
  go_enter Try.func53, Try.ntmps53
  go_wp2
  refine wp_region_held (S := fun W => W.cell? ⟨M, 2, none⟩ = some (.int .i64 (n : Nat)) ∧ Hid (W.heap[M]? = some (.cells #[.slice (some ⟨r, 0, none⟩) n n, .int .i64 (0 : Nat), .int .i64 (n : Nat), .iface 51 (.pointer (some ⟨G, 0, none⟩))] 68 (0, 0)))) (by kernel_rfl) ?_
  simp only [List.size_toArray, List.length_cons, List.length_nil, Nat.reduceAdd, Array.replicate_succ, Array.replicate_zero, List.push_toArray, List.nil_append, List.cons_append]
  have hS := (show _ ∧ Hid _ from ⟨c2, HB⟩)
  refine wpAnyH_put (i := 0) (d := 8) (v := .pointer (some ⟨M, 0, none⟩)) rfl (by kernel_rfl) (by kernel_rfl) (by kernel_rfl) (by kernel_rfl) (fun _ _ _ h => h) (Or.inl ⟨by kernel_rfl, fun _ _ => by kernel_rfl⟩) hS ?_
  simp only [List.setIfInBounds_toArray, List.set_cons_zero, List.set_cons_succ]
  refine wpAnyH_put (i := 1) (d := 9) (v := .pointer (some ⟨M, 0, none⟩)) rfl (by kernel_rfl) (by kernel_rfl) (by kernel_rfl) (by kernel_rfl) (fun _ _ _ h => h) (Or.inl ⟨by kernel_rfl, fun _ _ => by kernel_rfl⟩) hS ?_
  simp only [List.setIfInBounds_toArray, List.set_cons_zero, List.set_cons_succ]
  refine wpAnyH_put (i := 2) (d := 10) (v := .pointer (some ⟨M, 0, none⟩)) rfl (by kernel_rfl) (by kernel_rfl) (by kernel_rfl) (by kernel_rfl) (fun _ _ _ h => h) (Or.inl ⟨by kernel_rfl, fun _ _ => by kernel_rfl⟩) hS ?_
  simp only [List.setIfInBounds_toArray, List.set_cons_zero, List.set_cons_succ]
  refine wpAnyH_put (i := 3) (d := 11) (v := .int .i64 d) rfl (by kernel_rfl) (by kernel_rfl) (by kernel_rfl) (by kernel_rfl) (fun _ _ _ h => h) (Or.inl ⟨by kernel_rfl, fun _ _ => by kernel_rfl⟩) hS ?_
  simp only [List.setIfInBounds_toArray, List.set_cons_zero, List.set_cons_succ]
  refine wpAnyH_put (i := 4) (d := 12) (v := .pointer (some ⟨M, 0, none⟩)) rfl (by kernel_rfl) (by kernel_rfl) (by kernel_rfl) (by kernel_rfl) (fun _ _ _ h => h) (Or.inl ⟨by kernel_rfl, fun _ _ => by kernel_rfl⟩) hS ?_
  simp only [List.setIfInBounds_toArray, List.set_cons_zero, List.set_cons_succ]
  refine wpAnyH_put (i := 5) (d := 13) (v := .pointer (some ⟨M, 0, none⟩)) rfl (by kernel_rfl) (by kernel_rfl) (by kernel_rfl) (by kernel_rfl) (fun _ _ _ h => h) (Or.inl ⟨by kernel_rfl, fun _ _ => by kernel_rfl⟩) hS ?_
  simp only [List.setIfInBounds_toArray, List.set_cons_zero, List.set_cons_succ]
  refine wpAnyH_put (i := 6) (d := 14) (v := .pointer (some ⟨M, 0, none⟩)) rfl (by kernel_rfl) (by kernel_rfl) (by kernel_rfl) (by kernel_rfl) (fun _ _ _ h => h) (Or.inl ⟨by kernel_rfl, fun _ _ => by kernel_rfl⟩) hS ?_
  simp only [List.setIfInBounds_toArray, List.set_cons_zero, List.set_cons_succ]
  refine wpAnyH_put (i := 7) (d := 15) (v := .pointer (some ⟨M, 2, none⟩)) rfl (by kernel_rfl) (by kernel_rfl) (by kernel_rfl) (by kernel_rfl) (fun _ _ _ h => h) (Or.inl ⟨by kernel_rfl, fun _ _ => by kernel_rfl⟩) hS ?_
  simp only [List.setIfInBounds_toArray, List.set_cons_zero, List.set_cons_succ]
  refine wpAnyH_put (i := 8) (d := 16) (v := .int .i64 (n : Nat)) rfl (by kernel_rfl) (by kernel_rfl) (by kernel_rfl) (by kernel_rfl) (fun _ _ _ h => h) (Or.inl ⟨by kernel_rfl, fun W hS => by obtain ⟨h1, _⟩ := hS; go_simp⟩) hS ?_
  simp only [List.setIfInBounds_toArray, List.set_cons_zero, List.set_cons_succ]
  refine wpAnyH_put (i := 10) (d := 18) (v := .int .i64 x) rfl (by kernel_rfl) (by kernel_rfl) (by kernel_rfl) (by kernel_rfl) (fun _ _ _ h => h) (Or.inl ⟨by kernel_rfl, fun _ _ => by kernel_rfl⟩) hS ?_
  simp only [List.setIfInBounds_toArray, List.set_cons_zero, List.set_cons_succ]
  refine wpAnyH_one (r := 9) (by kernel_rfl) ?_
  refine wpOp_do rfl (by kernel_rfl) (fun K' hK => ?_)
  go_simp
  refine (MD.out _).mono ?_
  rintro e w1 ⟨rfl, rfl⟩
  refine hK.out _ _ ⟨hS, ?_⟩
  clear hK K'
  refine wpAnyH_one (r := 11) (by kernel_rfl) ?_
  refine wpOp_do rfl (by kernel_rfl) (fun K' hK => ?_)
  go_simp
  refine (SW.out).mono ?_
  rintro e w1 ⟨rfl, r1, g1⟩
  have hS1 := hid (cell_blk (k := M) g1 HB.out hne)
  have hS2 : w1.cell? ⟨M, 2, none⟩ = some (.int .i64 (n : Nat)) ∧ Hid (w1.heap[M]? = some (.cells #[.slice (some ⟨r, 0, none⟩) n n, .int .i64 (0 : Nat), .int .i64 (n : Nat), .iface 51 (.pointer (some ⟨G, 0, none⟩))] 68 (0, 0))) := ⟨by rw [cell_of_row _ _ _ _ _ _ hS1.out]; rfl, hS1⟩
  refine hK.out _ _ ⟨hS2, ?_⟩
  have R1 := hid r1
  have G1 := hid g1
  clear hS r1 g1
  have hS := hS2
  clear hK K'
  refine wpAnyH_put (i := 12) (d := 7) (v := .int .i64 (-1)) rfl (by kernel_rfl) (by kernel_rfl) (by kernel_rfl) (by kernel_rfl) (fun _ _ _ h => h) (Or.inl ⟨by kernel_rfl, fun _ _ => by kernel_rfl⟩) hS ?_
  simp only [List.setIfInBounds_toArray, List.set_cons_zero, List.set_cons_succ]
  refine wpAnyH_done (by kernel_rfl) ?_ _
  go_wp2
  go_ret
  exact ⟨rfl, R1.out, ⟨G1.out.os, G1.out.tape, G1.out.output, G1.out.size, G1.out.block⟩⟩

theorem meth_q (a : Addr) (w : World) : (method 196 51 (.pointer (some a)) "loop.example/s01868/impl.push").run Try.prog w = .ok (56, .pointer (some a)) w := by kernel_rfl
theorem meth_m (a : Addr) (w : World) : (method 196 50 (.pointer (some a)) "loop.example/s01868/impl.push").run Try.prog w = .ok (53, .pointer (some a)) w := by kernel_rfl

set_option maxHeartbeats 400000 in
theorem mpush_on (M G r n k : Nat) (mix : List Int) (x d : Int) (w : World) (hb : w.heap[M]? = some (.cells #[.slice (some ⟨r, 0, none⟩) n n, .int .i64 (0 : Nat), .int .i64 (n : Nat), .iface 51 (.pointer (some ⟨G, 0, none⟩))] 68 (0, 0))) (hr : RowV w r 3 (Ns .i64 mix)) (hn : mix.length = n) (h0 : 0 < n) (hnl : n ≤ 1024) (hk : md d n = k) (y : Int) (hy : mix[k]?.getD 0 = y) (hm : y ≠ -1)
    (R : Value → World → Prop) (C : ∀ w1, RowV w1 r 3 (Ns .i64 (mix.set k x)) → w.grownBy w1 (some r) → Calls Try.prog 56 #[.pointer (some ⟨G, 0, none⟩), .int .i64 y, .int .i64 d] w1 fun e w' => ∃ z, e = .returned (.int .i64 z) ∧ R (.int .i64 z) w') :
    Calls Try.prog 53 #[.pointer (some ⟨M, 0, none⟩), .int .i64 x, .int .i64 d] w fun e w' => ∃ z, e = .returned (.int .i64 z) ∧ R (.int .i64 z) w' := by
  have hne : M ≠ r := hr.ne hb (by decide)
  have c0 : w.cell? ⟨M, 0, none⟩ = some (.slice (some ⟨r, 0, none⟩) n n) := by rw [cell_of_row _ _ _ _ _ _ hb]; rfl
  have c1 : w.cell? ⟨M, 1, none⟩ = some (.int .i64 (0 : Nat)) := by rw [cell_of_row _ _ _ _ _ _ hb]; rfl
  have c2 : w.cell? ⟨M, 2, none⟩ = some (.int .i64 (n : Nat)) := by rw [cell_of_row _ _ _ _ _ _ hb]; rfl
  have hkn : k < n := hk ▸ md_lt d n h0
  have SW := hid (swap_in M r n n 0 k k mix x w.drew (by rw [Nat.zero_add, Nat.mod_eq_of_lt hkn]) hn h0 (by omega) (by omega) (by omega) c0 c1 hr)
  have MD := hid (fun W => modulo_in d n W h0 (by omega))
  rw [hk] at MD
  have HB := hid hb
  clear hb hr hn hk
  rw [hy] at SW
  have CC := hid C
  clear C
  have hm' : (y == -1) = false := by simpa using hm
  go_enter Try.func53, Try.ntmps53
  go_wp2
  refine wp_region_held (S := fun W => W.cell? ⟨M, 2, none⟩ = some (.int .i64 (n : Nat)) ∧ Hid (W.heap[M]? = some (.cells #[.slice (some ⟨r, 0, none⟩) n n, .int .i64 (0 : Nat), .int .i64 (n : Nat), .iface 51 (.pointer (some ⟨G, 0, none⟩))] 68 (0, 0)))) (by kernel_rfl) ?_
  simp only [List.size_toArray, List.length_cons, List.length_nil, Nat.reduceAdd, Array.replicate_succ, Array.replicate_zero, List.push_toArray, List.nil_append, List.cons_append]
  have hS := (show _ ∧ Hid _ from ⟨c2, HB⟩)
  refine wpAnyH_put (i := 0) (d := 8) (v := .pointer (some ⟨M, 0, none⟩)) rfl (by kernel_rfl) (by kernel_rfl) (by kernel_rfl) (by kernel_rfl) (fun _ _ _ h => h) (Or.inl ⟨by kernel_rfl, fun _ _ => by kernel_rfl⟩) hS ?_
  simp only [List.setIfInBounds_toArray, List.set_cons_zero, List.set_cons_succ]
  refine wpAnyH_put (i := 1) (d := 9) (v := .pointer (some ⟨M, 0, none⟩)) rfl (by kernel_rfl) (by kernel_rfl) (by kernel_rfl) (by kernel_rfl) (fun _ _ _ h => h) (Or.inl ⟨by kernel_rfl, fun _ _ => by kernel_rfl⟩) hS ?_
  simp only [List.setIfInBounds_toArray, List.set_cons_zero, List.set_cons_succ]
  refine wpAnyH_put (i := 2) (d := 10) (v := .pointer (some ⟨M, 0, none⟩)) rfl (by kernel_rfl) (by kernel_rfl) (by kernel_rfl) (by kernel_rfl) (fun _ _ _ h => h) (Or.inl ⟨by kernel_rfl, fun _ _ => by kernel_rfl⟩) hS ?_
  simp only [List.setIfInBounds_toArray, List.set_cons_zero, List.set_cons_succ]
  refine wpAnyH_put (i := 3) (d := 11) (v := .int .i64 d) rfl (by kernel_rfl) (by kernel_rfl) (by kernel_rfl) (by kernel_rfl) (fun _ _ _ h => h) (Or.inl ⟨by kernel_rfl, fun _ _ => by kernel_rfl⟩) hS ?_
  simp only [List.setIfInBounds_toArray, List.set_cons_zero, List.set_cons_succ]
  refine wpAnyH_put (i := 4) (d := 12) (v := .pointer (some ⟨M, 0, none⟩)) rfl (by kernel_rfl) (by kernel_rfl) (by kernel_rfl) (by kernel_rfl) (fun _ _ _ h => h) (Or.inl ⟨by kernel_rfl, fun _ _ => by kernel_rfl⟩) hS ?_
  simp only [List.setIfInBounds_toArray, List.set_cons_zero, List.set_cons_succ]
  refine wpAnyH_put (i := 5) (d := 13) (v := .pointer (some ⟨M, 0, none⟩)) rfl (by kernel_rfl) (by kernel_rfl) (by kernel_rfl) (by kernel_rfl) (fun _ _ _ h => h) (Or.inl ⟨by kernel_rfl, fun _ _ => by kernel_rfl⟩) hS ?_
  simp only [List.setIfInBounds_toArray, List.set_cons_zero, List.set_cons_succ]
  refine wpAnyH_put (i := 6) (d := 14) (v := .pointer (some ⟨M, 0, none⟩)) rfl (by kernel_rfl) (by kernel_rfl) (by kernel_rfl) (by kernel_rfl) (fun _ _ _ h => h) (Or.inl ⟨by kernel_rfl, fun _ _ => by kernel_rfl⟩) hS ?_
  simp only [List.setIfInBounds_toArray, List.set_cons_zero, List.set_cons_succ]
  refine wpAnyH_put (i := 7) (d := 15) (v := .pointer (some ⟨M, 2, none⟩)) rfl (by kernel_rfl) (by kernel_rfl) (by kernel_rfl) (by kernel_rfl) (fun _ _ _ h => h) (Or.inl ⟨by kernel_rfl, fun _ _ => by kernel_rfl⟩) hS ?_
  simp only [List.setIfInBounds_toArray, List.set_cons_zero, List.set_cons_succ]
  refine wpAnyH_put (i := 8) (d := 16) (v := .int .i64 (n : Nat)) rfl (by kernel_rfl) (by kernel_rfl) (by kernel_rfl) (by kernel_rfl) (fun _ _ _ h => h) (Or.inl ⟨by kernel_rfl, fun W hS => by obtain ⟨h1, _⟩ := hS; go_simp⟩) hS ?_
  simp only [List.setIfInBounds_toArray, List.set_cons_zero, List.set_cons_succ]
  refine wpAnyH_put (i := 10) (d := 18) (v := .int .i64 x) rfl (by kernel_rfl) (by kernel_rfl) (by kernel_rfl) (by kernel_rfl) (fun _ _ _ h => h) (Or.inl ⟨by kernel_rfl, fun _ _ => by kernel_rfl⟩) hS ?_
  simp only [List.setIfInBounds_toArray, List.set_cons_zero, List.set_cons_succ]
  refine wpAnyH_one (r := 9) (by kernel_rfl) ?_
  refine wpOp_do rfl (by kernel_rfl) (fun K' hK => ?_)
  go_simp
  refine (MD.out _).mono ?_
  rintro e w1 ⟨rfl, rfl⟩
  refine hK.out _ _ ⟨hS, ?_⟩
  clear hK K'
  refine wpAnyH_one (r := 11) (by kernel_rfl) ?_
  refine wpOp_do rfl (by kernel_rfl) (fun K' hK => ?_)
  go_simp
  refine (SW.out).mono ?_
  rintro e w1 ⟨rfl, r1, g1⟩
  have hS1 := hid (cell_blk (k := M) g1 HB.out hne)
  have hS2 : w1.cell? ⟨M, 2, none⟩ = some (.int .i64 (n : Nat)) ∧ Hid (w1.heap[M]? = some (.cells #[.slice (some ⟨r, 0, none⟩) n n, .int .i64 (0 : Nat), .int .i64 (n : Nat), .iface 51 (.pointer (some ⟨G, 0, none⟩))] 68 (0, 0))) := ⟨by rw [cell_of_row _ _ _ _ _ _ hS1.out]; rfl, hS1⟩
  refine hK.out _ _ ⟨hS2, ?_⟩
  have R1 := hid r1
  have G1 := hid g1
  clear hS r1 g1
  have hS := hS2
  clear hK K'
  refine wpAnyH_put (i := 12) (d := 7) (v := .int .i64 (y)) rfl (by kernel_rfl) (by kernel_rfl) (by kernel_rfl) (by kernel_rfl) (fun _ _ _ h => h) (Or.inl ⟨by kernel_rfl, fun _ _ => by kernel_rfl⟩) hS ?_
  simp only [List.setIfInBounds_toArray, List.set_cons_zero, List.set_cons_succ]
  refine wpAnyH_done (by kernel_rfl) ?_ _
  have c3 : w1.cell? ⟨M, 3, none⟩ = some (.iface 51 (.pointer (some ⟨G, 0, none⟩))) := by rw [cell_of_row _ _ _ _ _ _ hS1.out]; rfl
  have hmq := fun w => meth_q ⟨G, 0, none⟩ w
  go_wp2_with fail
  refine (CC.out w1 R1.out ⟨G1.out.os, G1.out.tape, G1.out.output, G1.out.size, G1.out.block⟩).mono ?_
  rintro e w2 ⟨z, rfl, hR⟩
  go_wp2
  go_ret
  exact ⟨z, rfl, hR⟩

end Go.Proofs.Ytnhkifinfnobfaa
