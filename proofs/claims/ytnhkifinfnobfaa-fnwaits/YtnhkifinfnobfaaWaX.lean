import Derived.Test.YtnhkifinfnobfaaWaV
import Derived.Shelf.Bits.Mul64
namespace Go.Proofs.Ytnhkifinfnobfaa
open Go.ChangeShapes Go.WideShapes Go.ChangeAt Go.RowKit
set_option linter.unusedVariables false

set_option maxHeartbeats 1000000 in
theorem mul64 (x y : Nat) (hx : x < 18446744073709551616) (hy : y < 18446744073709551616) (w : World) :
    Calls Try.prog 36 #[.int .u64 x, .int .u64 y] w fun e w' => e = .returned (.tuple #[.int .u64 ((x * y / 18446744073709551616 : Nat) : Int), .int .u64 ((x * y % 18446744073709551616 : Nat) : Int)]) ∧ w' = w := by
  obtain ⟨bd, bt, bw, hhi⟩ := Lib.mul64_hi x y hx hy
  have ba := Lib.half_mul_le (a := x / 4294967296) (b := y / 4294967296) (by omega) (by omega)
  have bb := Lib.half_mul_le (a := x / 4294967296) (b := y % 4294967296) (by omega) (by omega)
  have bc := Lib.half_mul_le (a := x % 4294967296) (b := y / 4294967296) (by omega) (by omega)
  have ba' : x / 4294967296 * (y / 4294967296) < 18446744073709551616 := by omega
  have bb' : x / 4294967296 * (y % 4294967296) < 18446744073709551616 := by omega
  have bc' : x % 4294967296 * (y / 4294967296) < 18446744073709551616 := by omega
  have bh1 : x / 4294967296 * (y / 4294967296) + (x / 4294967296 * (y % 4294967296) + x % 4294967296 * (y % 4294967296) / 4294967296) / 4294967296 < 18446744073709551616 := by omega
  have bh : x / 4294967296 * (y / 4294967296) + (x / 4294967296 * (y % 4294967296) + x % 4294967296 * (y % 4294967296) / 4294967296) / 4294967296 + ((x / 4294967296 * (y % 4294967296) + x % 4294967296 * (y % 4294967296) / 4294967296) % 4294967296 + x % 4294967296 * (y / 4294967296)) / 4294967296 < 18446744073709551616 := by omega
  go_enter Try.func36, Try.ntmps36
  go_wp2
  simp only [Mul64.maskN x hx, Mul64.maskN y hy, Mul64.divN, Mul64.mulN, Mul64.addN, Mul64.wrapN _ bd, Mul64.wrapN _ bb', Mul64.wrapN _ bt, Mul64.maskN _ bt, Mul64.wrapN _ bc', Mul64.wrapN _ bw, Mul64.wrapN _ ba', Mul64.wrapN _ bh1, Mul64.wrapN _ bh, Mul64.wrapM (x * y)]
  rw [hhi]
  go_ret2
  exact ⟨rfl, rfl⟩


set_option maxHeartbeats 400000 in
theorem mul_in (m : Nat) (hm : m ≤ 16) (w : World) :
    Calls Try.prog 34 #[.int .u64 1, .int .u64 m] w fun e w' => e = .returned (.tuple #[.int .u64 0, .int .u64 m]) ∧ w' = w := by
  have H := hid (mul64 1 m (by omega) (by omega) w)
  rw [Nat.one_mul, Nat.div_eq_of_lt (by omega), Nat.mod_eq_of_lt (by omega)] at H
  go_enter Try.func34, Try.ntmps34
  go_wp2_with fail
  refine (H.out).mono ?_
  rintro e w' ⟨rfl, rfl⟩
  go_wp2
  go_ret2
  exact ⟨rfl, rfl⟩

theorem sliced_to (g l len cap : Nat) (hl : l ≤ cap) : ∀ w : World, (Instr.slice 23 (.slice (some ⟨g, 0, none⟩) len cap) none (some (.int .i64 (l : Nat))) none).run Try.prog w = .ok (.slice (some ⟨g, 0, none⟩) l cap) w := by
  intro w
  have h := run_slice_h (P := Try.prog) w 23 (some ⟨g, 0, none⟩) len cap Try.underlying23 .i64 (l : Int) (by omega) (by omega)
  have hs : ∀ w : World, (sizeOf (Try.prog.elem 23)).run Try.prog w = .ok 1 w := fun w => by kernel_rfl
  rw [h, hs]
  simp [sliced, Result.andThen, Addr.add]

theorem rep_splice (m k cnt : Nat) (ys : List Int) (hl : ys.length = m) (hk : k + cnt ≤ m) (hy : ys.take k = List.replicate k (-1)) : ∃ zs : List Int, splice (Ns .i64 ys) k (Ns .i64 (List.replicate cnt (-1))) = Ns .i64 zs ∧ zs.length = m ∧ zs.take (k + cnt) = List.replicate (k + cnt) (-1) := by
  refine ⟨ys.take k ++ (List.replicate cnt (-1) ++ ys.drop (k + cnt)), ?_, ?_, ?_⟩
  · simp [splice, Ns]
  · simp; omega
  · rw [hy, ← List.append_assoc, List.replicate_append_replicate, List.take_append_of_le_length (by simp), List.take_of_length_le (by simp)]

set_option maxHeartbeats 1000000 in
theorem repeat_in (q m : Nat) (w : World) (hm : m ≤ 16) (hr : RowV w q 3 (Ns .i64 [-1])) :
    Calls Try.prog 31 #[.slice (some ⟨q, 0, none⟩) 1 1, .int .i64 m] w fun e w' => ∃ g, e = .returned (.slice (some ⟨g, 0, none⟩) m m) ∧ RowV w' g 3 (Ns .i64 (List.replicate m (-1))) ∧ w.heap.size ≤ g ∧ Below w.heap.size w w' := by
  have MU := hid (mul_in m hm w)
  have hmk := fun W => mk23 m (by omega) W
  obtain ⟨g, hg⟩ : ∃ g, g = w.heap.size := ⟨_, rfl⟩
  have gb : Below w.heap.size w (w.alloc (.cells (madeCells #[.int .i64 0] m) 3)) := (Below.refl _ w).alloc (Nat.le_refl _) _
  have gl : (w.alloc (.cells (madeCells #[.int .i64 0] m) 3)).heap[g]? = some (.cells (Ns .i64 (List.replicate m 0)).toArray 3 (0, 0)) := by rw [← made_n, hg]; exact al_last _ _
  obtain ⟨c, hc⟩ : ∃ c, c = Nat.min 1 m := ⟨_, rfl⟩
  have hc' : c = min 1 m := hc
  obtain ⟨w1, hcp, hg1, hgr⟩ := copy_run (w.alloc (.cells (madeCells #[.int .i64 0] m) 3)) (some ⟨g, 0, none⟩) (some ⟨q, 0, none⟩) m m 1 1 g 0 (Ns .i64 (List.replicate m 0)) gl (Ns .i64 (List.replicate c (-1))) (by rw [Ns_len, List.length_replicate]; exact hc) (fun h0 => ⟨rfl, _, rfl, fun j v hv => by
    have e1 : c = 1 := by rw [Ns_len, List.length_replicate] at h0; omega
    rw [e1] at hv
    have := src_at (hr.below gb hr.lt) 0 1 (by simp) j v (by simpa using hv)
    exact this⟩) (by rw [Ns_len, Ns_len]; simp; omega) (Ns_one _ _)
  rw [show (Ns .i64 (List.replicate c (-1))).length = c by rw [Ns_len, List.length_replicate]] at hcp
  obtain ⟨zs, hz1, hz2, hz3⟩ := rep_splice m 0 c (List.replicate m 0) (by simp) (by omega) (by simp)
  rw [hz1] at hg1
  rw [Nat.zero_add] at hz3
  have HI := hid (show Below w.heap.size w w1 ∧ w1.heap[g]? = some (.cells (Ns .i64 zs).toArray 3 (0, 0)) ∧ zs.length = m ∧ zs.take c = List.replicate c (-1) from ⟨below_grown gb hgr (by omega), hg1, hz2, hz3⟩)
  have HG := hid hg
  have t1 : ¬ ((m : Int) < 0) := by omega
  have t2 : ¬ ((9223372036854775807 : Int) < (m : Int)) := by omega
  have HC := hid hc'
  clear gb gl hgr hg1 hz1 hz2 hz3 hr hc hc'
  go_enter Try.func31, Try.ntmps31
  go_wp2_with fail
  refine (MU.out).mono ?_
  rintro e w' ⟨rfl, rfl⟩
  rw [hg] at hcp
  clear hg
  go_wp2
  rw [← HG.out]
  go_loopw [8] (fun i wr => ∃ (k : Nat) (ys : List Int), k ≤ m ∧ (0 < m → 0 < k) ∧ i = .int .i64 k ∧ Hid (Below w'.heap.size w' wr ∧ wr.heap[g]? = some (.cells (Ns .i64 ys).toArray 3 (0, 0)) ∧ ys.length = m ∧ ys.take k = List.replicate k (-1))) (fun i _ => m - (intOf i).toNat)
  case atStart => exact ⟨c, zs, by have := HC.out; omega, by have := HC.out; omega, rfl, HI⟩
  case round =>
    obtain ⟨k, ys, hk, hp, rfl, hh⟩ := hrel
    by_cases hlt : k < m
    · obtain ⟨cnt, hcnt⟩ : ∃ cnt, cnt = Nat.min k (m - k) := ⟨_, rfl⟩
      have hcnt' : cnt = min k (m - k) := hcnt
      obtain ⟨dp, hs1, hdp⟩ := sliced_at g k m m (by omega) (Nat.le_refl _)
      have hdp' := hdp hlt
      subst hdp'
      have hs2 := sliced_to g k m m (by omega)
      obtain ⟨w2, hcq, hg2, hgr2⟩ := copy_run wr.drew (some ⟨g, k, none⟩) (some ⟨g, 0, none⟩) (m - k) (m - k) k m g k (Ns .i64 ys) hh.out.2.1 (Ns .i64 (List.replicate cnt (-1))) (by rw [Ns_len, List.length_replicate]; exact hcnt) (fun h0 => ⟨rfl, _, rfl, fun j v hv => by
        have hrow : RowV wr.drew g 3 (Ns .i64 ys) := rowOf hh.out.2.1
        refine src_at hrow 0 cnt (by rw [hh.out.2.2.1]; omega) j v ?_
        rw [List.drop_zero]
        have : ys.take cnt = List.replicate cnt (-1) := by
          have e := congrArg (List.take cnt) hh.out.2.2.2
          rw [List.take_take, List.take_replicate, Nat.min_eq_left (by omega)] at e
          exact e
        rw [this]; exact hv⟩) (by rw [Ns_len, Ns_len, List.length_replicate, hh.out.2.2.1]; omega) (Ns_one _ _)
      rw [show (Ns .i64 (List.replicate cnt (-1))).length = cnt by rw [Ns_len, List.length_replicate]] at hcq
      obtain ⟨zs2, hz1, hz2, hz3⟩ := rep_splice m k cnt ys hh.out.2.2.1 (by omega) hh.out.2.2.2
      rw [hz1] at hg2
      have HN := hid (show Below w'.heap.size w' w2 ∧ w2.heap[g]? = some (.cells (Ns .i64 zs2).toArray 3 (0, 0)) ∧ zs2.length = m ∧ zs2.take (k + cnt) = List.replicate (k + cnt) (-1) from ⟨below_grown hh.out.1.drew hgr2 (by have := HG.out; omega), hg2, hz2, hz3⟩)
      have hcn : 0 < cnt ∧ k + cnt ≤ m := by have := hp (by omega); omega
      have hw : IntKind.i64.wrap ((k : Int) + (cnt : Int)) = (k : Int) + (cnt : Int) := by rw [IntKind.wrap_i64]; omega
      clear hh hgr2 hg2 hz1 hz2 hz3 hcnt hcnt' hdp HI hcp
      go_wp2
      refine wp_region_held (S := fun _ => True) (by kernel_rfl) ?_
      simp only [List.size_toArray, List.length_cons, List.length_nil, Nat.reduceAdd, Array.replicate_succ, Array.replicate_zero, List.push_toArray, List.nil_append, List.cons_append]
      have hS := trivial
      refine wpAnyH_put (i := 0) (d := 38) (v := .int .i64 (k : Nat)) rfl (by kernel_rfl) (by kernel_rfl) (by kernel_rfl) (by kernel_rfl) (fun _ _ _ h => h) (Or.inl ⟨by kernel_rfl, fun _ _ => by kernel_rfl⟩) hS ?_
      simp only [List.setIfInBounds_toArray, List.set_cons_zero, List.set_cons_succ]
      refine wpAnyH_put (i := 1) (d := 39) (v := .slice (some ⟨g, 0, none⟩) m m) rfl (by kernel_rfl) (by kernel_rfl) (by kernel_rfl) (by kernel_rfl) (fun _ _ _ h => h) (Or.inl ⟨by kernel_rfl, fun _ _ => by kernel_rfl⟩) hS ?_
      simp only [List.setIfInBounds_toArray, List.set_cons_zero, List.set_cons_succ]
      refine wpAnyH_put (i := 2) (d := 40) (v := .int .i64 (k : Nat)) rfl (by kernel_rfl) (by kernel_rfl) (by kernel_rfl) (by kernel_rfl) (fun _ _ _ h => h) (Or.inl ⟨by kernel_rfl, fun _ _ => by kernel_rfl⟩) hS ?_
      simp only [List.setIfInBounds_toArray, List.set_cons_zero, List.set_cons_succ]
      refine wpAnyH_put (i := 3) (d := 41) (v := .slice (some ⟨g, k, none⟩) (m - k) (m - k)) rfl (by kernel_rfl) (by kernel_rfl) (by kernel_rfl) (by kernel_rfl) (fun _ _ _ h => h) (Or.inl ⟨by kernel_rfl, fun W _ => by first | (go_simp; done) | (go_simp; omega)⟩) hS ?_
      simp only [List.setIfInBounds_toArray, List.set_cons_zero, List.set_cons_succ]
      refine wpAnyH_put (i := 4) (d := 42) (v := .slice (some ⟨g, 0, none⟩) m m) rfl (by kernel_rfl) (by kernel_rfl) (by kernel_rfl) (by kernel_rfl) (fun _ _ _ h => h) (Or.inl ⟨by kernel_rfl, fun _ _ => by kernel_rfl⟩) hS ?_
      simp only [List.setIfInBounds_toArray, List.set_cons_zero, List.set_cons_succ]
      refine wpAnyH_put (i := 5) (d := 43) (v := .int .i64 (k : Nat)) rfl (by kernel_rfl) (by kernel_rfl) (by kernel_rfl) (by kernel_rfl) (fun _ _ _ h => h) (Or.inl ⟨by kernel_rfl, fun _ _ => by kernel_rfl⟩) hS ?_
      simp only [List.setIfInBounds_toArray, List.set_cons_zero, List.set_cons_succ]
      refine wpAnyH_put (i := 6) (d := 44) (v := .slice (some ⟨g, 0, none⟩) k m) rfl (by kernel_rfl) (by kernel_rfl) (by kernel_rfl) (by kernel_rfl) (fun _ _ _ h => h) (Or.inl ⟨by kernel_rfl, fun W _ => by first | (go_simp; done) | (go_simp; omega)⟩) hS ?_
      simp only [List.setIfInBounds_toArray, List.set_cons_zero, List.set_cons_succ]
      refine wpAnyH_one (r := 7) (by kernel_rfl) ?_
      refine wpOp_do rfl (by kernel_rfl) (fun K' hK => ?_)
      go_simp
      refine hK.out _ _ ⟨trivial, ?_⟩
      clear hK K'
      refine wpAnyH_put (i := 8) (d := 46) (v := .int .i64 ((k : Int) + (cnt : Int))) rfl (by kernel_rfl) (by kernel_rfl) (by kernel_rfl) (by kernel_rfl) (fun _ _ _ h => h) (Or.inl ⟨by kernel_rfl, fun W _ => by first | (go_simp; done) | (go_simp; omega)⟩) hS ?_
      simp only [List.setIfInBounds_toArray, List.set_cons_zero, List.set_cons_succ]
      refine wpAnyH_put (i := 9) (d := 8) (v := .int .i64 ((k : Int) + (cnt : Int))) rfl (by kernel_rfl) (by kernel_rfl) (by kernel_rfl) (by kernel_rfl) (fun _ _ _ h => h) (Or.inl ⟨by kernel_rfl, fun _ _ => by kernel_rfl⟩) hS ?_
      simp only [List.setIfInBounds_toArray, List.set_cons_zero, List.set_cons_succ]
      refine wpAnyH_done (by kernel_rfl) ?_ _
      go_wp2
      go_roundw
      case rel => exact ⟨k + cnt, zs2, hcn.2, by omega, by go_num, HN⟩
      case measure => simp [intOf]; omega
    · obtain rfl : m = k := by omega
      have HF := hid (show RowV wr g 3 (Ns .i64 (List.replicate m (-1))) by
        have := rowOf hh.out.2.1
        rwa [← hh.out.2.2.2, ← hh.out.2.2.1, List.take_length] )
      have HB := hid hh.out.1
      clear hh HI hcp
      go_wp2
      go_ret
      exact ⟨g, rfl, HF.out, by have := HG.out; omega, HB.out⟩
end Go.Proofs.Ytnhkifinfnobfaa
