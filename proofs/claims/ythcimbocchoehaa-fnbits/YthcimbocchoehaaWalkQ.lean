import Derived.Test.YthcimbocchoehaaWalkP
import Derived.Test.YthcimbocchoehaaBitsM

namespace Go.Proofs.Ythcimbocchoehaa
open Go.ChangeShapes Go.WideShapes Go.ChangeAt Go.RowKit
set_option linter.unusedVariables false

/-- the three bitmaps of the law lie, and nothing old has turned -/
structure Tri (w0 : World) (zs : List Int) (k g go gf : Nat) (W : World) : Prop where
  b : RowV W g 45 (U zs)
  on : RowV W go 45 (U (putZ zs k true))
  off : RowV W gf 45 (U (putZ (putZ zs k true) k false))
  bel : Below w0.heap.size w0 W
theorem Tri.step {w0 : World} {zs : List Int} {k g go gf : Nat} {W W' : World} (h : Tri w0 zs k g go gf W) (hb : Below W.heap.size W W') : Tri w0 zs k g go gf W' :=
  ⟨h.b.below hb h.b.lt, h.on.below hb h.on.lt, h.off.below hb h.off.lt, bl_trans h.bel hb⟩

/-- what the calls of the law answer, the bitmap a good one of m bits, k a place in it -/
structure Says (w0 : World) (zs : List Int) (m k g c go co gf cf : Nat) (P F : Nat) (S Fo : Int) : Prop where
  hasOn : ∀ W, Tri w0 zs k g go gf W → Calls Try.prog 12 #[.slice (some ⟨go, 0, none⟩) zs.length co, .int .i64 m, .int .i64 k] W fun e W' => e = .returned (.bool true) ∧ Tri w0 zs k g go gf W'
  hasOff : ∀ W, Tri w0 zs k g go gf W → Calls Try.prog 12 #[.slice (some ⟨gf, 0, none⟩) zs.length cf, .int .i64 m, .int .i64 k] W fun e W' => e = .returned (.bool false) ∧ Tri w0 zs k g go gf W'
  cntOn : ∀ W, Tri w0 zs k g go gf W → Calls Try.prog 13 #[.slice (some ⟨go, 0, none⟩) zs.length co, .int .i64 m] W fun e W' => e = .returned (.int .i64 (P + 1 : Nat)) ∧ Tri w0 zs k g go gf W'
  cntOff : ∀ W, Tri w0 zs k g go gf W → Calls Try.prog 13 #[.slice (some ⟨gf, 0, none⟩) zs.length cf, .int .i64 m] W fun e W' => e = .returned (.int .i64 P) ∧ Tri w0 zs k g go gf W'
  was : ∀ W, Tri w0 zs k g go gf W → Calls Try.prog 14 #[.slice (some ⟨g, 0, none⟩) zs.length c, .int .i64 m] W fun e W' => e = .returned (.int .i64 (P + (bitAt zs k).toNat : Nat)) ∧ Tri w0 zs k g go gf W'
  hasB : ∀ W, Tri w0 zs k g go gf W → Calls Try.prog 15 #[.slice (some ⟨g, 0, none⟩) zs.length c, .int .i64 m, .int .i64 k] W fun e W' => e = .returned (.bool (bitAt zs k)) ∧ Tri w0 zs k g go gf W'
  scanOff : ∀ W, Tri w0 zs k g go gf W → Calls Try.prog 16 #[.slice (some ⟨gf, 0, none⟩) zs.length cf, .int .i64 m, .int .i64 k] W fun e W' => e = .returned (.int .i64 k) ∧ Tri w0 zs k g go gf W'
  eachOn : ∀ j, j < m → j ≠ k → ∀ W, Tri w0 zs k g go gf W → Calls Try.prog 12 #[.slice (some ⟨go, 0, none⟩) zs.length co, .int .i64 m, .int .i64 j] W fun e W' => e = .returned (.bool (bitAt zs j)) ∧ Tri w0 zs k g go gf W'
  eachOff : ∀ j, j < m → j ≠ k → ∀ W, Tri w0 zs k g go gf W → Calls Try.prog 12 #[.slice (some ⟨gf, 0, none⟩) zs.length cf, .int .i64 m, .int .i64 j] W fun e W' => e = .returned (.bool (bitAt zs j)) ∧ Tri w0 zs k g go gf W'
  eachB : ∀ j, j < m → ∀ W, Tri w0 zs k g go gf W → Calls Try.prog 15 #[.slice (some ⟨g, 0, none⟩) zs.length c, .int .i64 m, .int .i64 j] W fun e W' => e = .returned (.bool (bitAt zs j)) ∧ Tri w0 zs k g go gf W'
  freeOff : ∀ W, Tri w0 zs k g go gf W → Calls Try.prog 17 #[.slice (some ⟨gf, 0, none⟩) zs.length cf, .int .i64 m, .int .i64 F] W fun e W' => e = .returned (.int .i64 k) ∧ Tri w0 zs k g go gf W'
  freeOn : ∀ W, Tri w0 zs k g go gf W → Calls Try.prog 17 #[.slice (some ⟨go, 0, none⟩) zs.length co, .int .i64 m, .int .i64 F] W fun e W' => e = .returned (.int .i64 Fo) ∧ Tri w0 zs k g go gf W'
  scanOn : ∀ W, Tri w0 zs k g go gf W → Calls Try.prog 16 #[.slice (some ⟨go, 0, none⟩) zs.length co, .int .i64 m, .int .i64 k] W fun e W' => e = .returned (.int .i64 S) ∧ Tri w0 zs k g go gf W'
  hasOnS : ∀ W, Tri w0 zs k g go gf W → 0 ≤ S → Calls Try.prog 15 #[.slice (some ⟨go, 0, none⟩) zs.length co, .int .i64 m, .int .i64 S] W fun e W' => e = .returned (.bool false) ∧ Tri w0 zs k g go gf W'

theorem says (w0 : World) (zs : List Int) (m k g c go co gf cf : Nat) (hw : Wf zs) (hm : m ≤ 4096) (hl : zs.length = (m + 63) / 64) (hg : goodB zs m = true) (hk : k < m) :
    ∃ (P F : Nat) (S Fo : Int), P ≤ 4096 ∧ F = (frees zs k).length ∧ F ≤ 4096 ∧ Fo ≠ (k : Int) ∧ ((S = -1 ∧ P + 1 = m) ∨ (0 ≤ S ∧ S < (m : Int) ∧ P + 1 ≠ m)) ∧ Says w0 zs m k g c go co gf cf P F S Fo := by
  have hw1 := putZ_wf zs hw k true
  have hl1 : (putZ zs k true).length = zs.length := putZ_len _ _ _
  have hl1' : (putZ zs k true).length = (m + 63) / 64 := by rw [hl1]; exact hl
  have hg1 := put_good hw hm hl hg hk true
  have hw2 := putZ_wf _ hw1 k false
  have hl2 : (putZ (putZ zs k true) k false).length = zs.length := by rw [putZ_len]; exact hl1
  have hg2 := put_good hw1 hm hl1' hg1 hk false
  have b1 := fun j hj => put_bit hw hm hl hg hk true j hj
  have b2 := fun j hj => put_bit hw1 hm hl1' hg1 hk false j hj
  have n1 := put_cnt hw hm hl hg hk true m (Nat.le_refl _)
  have n2 := put_cnt hw1 hm hl1' hg1 hk false m (Nat.le_refl _)
  rw [if_pos hk, if_pos hk] at n1 n2
  rw [b1 k hk, if_pos rfl] at n2
  have hle := cntTo_le (putZ (putZ zs k true) k false) m
  have hF := frees_len zs k
  have lz : zs.length ≤ 1048576 := by omega
  simp only [Bool.toNat_true, Bool.toNat_false] at n1 n2
  refine ⟨cntTo (putZ (putZ zs k true) k false) m, (frees zs k).length, scanB (putZ zs k true) m k, freeB (putZ zs k true) m ((frees zs k).length : Nat), by omega, rfl, by omega, free_on hw hm hl hg hk _, ?_, ?_⟩
  · rcases scan_kind (putZ zs k true) m k hg1 hk with ⟨h1, h2⟩ | ⟨j, h1, h2, h3, h4⟩
    · left; exact ⟨h1, by omega⟩
    · right; rw [h2]; exact ⟨by omega, by omega, by omega⟩
  · refine { hasOn := ?_, hasOff := ?_, cntOn := ?_, cntOff := ?_, was := ?_, hasB := ?_, scanOff := ?_, eachOn := ?_, eachOff := ?_, eachB := ?_, freeOff := ?_, freeOn := ?_, scanOn := ?_, hasOnS := ?_ }
    · intro W h
      refine (impl_has go zs.length co _ m k W hl1 lz hw1 h.on).mono ?_
      rintro e W' ⟨rfl, hb⟩
      exact ⟨ret_bool (by rw [has_eq _ m k hg1 k rfl hk, b1 k hk, if_pos rfl]), h.step hb⟩
    · intro W h
      refine (impl_has gf zs.length cf _ m k W hl2 lz hw2 h.off).mono ?_
      rintro e W' ⟨rfl, hb⟩
      exact ⟨ret_bool (by rw [has_eq _ m k hg2 k rfl hk, b2 k hk, if_pos rfl]), h.step hb⟩
    · intro W h
      refine (impl_count go zs.length co _ m W hl1 lz hw1 h.on).mono ?_
      rintro e W' ⟨rfl, hb⟩
      exact ⟨ret_int (by rw [count_eq _ m hg1]; omega), h.step hb⟩
    · intro W h
      refine (impl_count gf zs.length cf _ m W hl2 lz hw2 h.off).mono ?_
      rintro e W' ⟨rfl, hb⟩
      exact ⟨ret_int (by rw [count_eq _ m hg2]), h.step hb⟩
    · intro W h
      refine (spec_count g zs.length c _ m W rfl hw h.b).mono ?_
      rintro e W' ⟨rfl, hb⟩
      exact ⟨ret_int (by rw [count_eq _ m hg]; omega), h.step hb⟩
    · intro W h
      refine (spec_has g zs.length c _ m k W rfl hw h.b).mono ?_
      rintro e W' ⟨rfl, hb⟩
      exact ⟨ret_bool (by rw [has_eq _ m k hg k rfl hk]), h.step hb⟩
    · intro W h
      refine (impl_scan gf zs.length cf _ m k W hl2 lz hw2 h.off).mono ?_
      rintro e W' ⟨rfl, hb⟩
      exact ⟨ret_int (scan_first _ m k hg2 hk (by rw [b2 k hk, if_pos rfl])), h.step hb⟩
    · intro j hj hjk W h
      refine (impl_has go zs.length co _ m j W hl1 lz hw1 h.on).mono ?_
      rintro e W' ⟨rfl, hb⟩
      exact ⟨ret_bool (by rw [has_eq _ m j hg1 j rfl hj, b1 j hj, if_neg hjk]), h.step hb⟩
    · intro j hj hjk W h
      refine (impl_has gf zs.length cf _ m j W hl2 lz hw2 h.off).mono ?_
      rintro e W' ⟨rfl, hb⟩
      exact ⟨ret_bool (by rw [has_eq _ m j hg2 j rfl hj, b2 j hj, if_neg hjk, b1 j hj, if_neg hjk]), h.step hb⟩
    · intro j hj W h
      refine (spec_has g zs.length c _ m j W rfl hw h.b).mono ?_
      rintro e W' ⟨rfl, hb⟩
      exact ⟨ret_bool (by rw [has_eq _ m j hg j rfl hj]), h.step hb⟩
    · intro W h
      refine (impl_free gf zs.length cf _ m _ W hl2 lz hw2 h.off (by omega)).mono ?_
      rintro e W' ⟨rfl, hb⟩
      exact ⟨ret_int (free_off hw hm hl hg hk), h.step hb⟩
    · intro W h
      refine (impl_free go zs.length co _ m _ W hl1 lz hw1 h.on (by omega)).mono ?_
      rintro e W' ⟨rfl, hb⟩
      exact ⟨rfl, h.step hb⟩
    · intro W h
      refine (impl_scan go zs.length co _ m k W hl1 lz hw1 h.on).mono ?_
      rintro e W' ⟨rfl, hb⟩
      exact ⟨rfl, h.step hb⟩
    · intro W h hS
      rcases scan_kind (putZ zs k true) m k hg1 hk with ⟨h1, h2⟩ | ⟨j, h1, h2, h3, h4⟩
      · omega
      · refine (spec_has go zs.length co _ m _ W hl1 hw1 h.on).mono ?_
        rintro e W' ⟨rfl, hb⟩
        exact ⟨ret_bool (by rw [has_eq _ m _ hg1 j h2 h1]; exact h3), h.step hb⟩
end Go.Proofs.Ythcimbocchoehaa
