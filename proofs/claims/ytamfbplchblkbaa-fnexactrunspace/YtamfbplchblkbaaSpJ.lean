import Derived.Test.YtamfbplchblkbaaSpI
namespace Go.Proofs.Ytamfbplchblkbaa
open Go.RowKit Go.Shelf
set_option linter.unusedVariables false

/-- the code of an access, by the document -/
def accC (m : Nat → Option (Bool × List Int)) (a : Nat) (n : Int) : Int :=
  if n < 0 ∨ 4096 < n then 6 else if n = 0 then 0 else if 4611686018427387904 ≤ (a : Int) + (n - 1) then 2 else accCode (reachN m a n.toNat)

theorem sp_access (T Q nn : Nat) (bud : Int) (m : Nat → Option (Bool × List Int)) (a : Nat) (n : Int) (w : World) (hs : Sx T Q nn bud m w) (hnn : nn ≤ 4096) (ha : a < 18446744073709551616) :
    Calls Try.prog 61 #[.pointer (some ⟨T, 0, none⟩), .int .u64 a, .int .i64 n] w fun e w' => e = .returned (.int .i64 (accC m a n)) ∧ w' = w := by
  unfold accC
  by_cases h1 : n < 0 ∨ 4096 < n
  · rw [if_pos h1]; exact sp_access_range T a n w h1
  · rw [if_neg h1]
    by_cases h2 : n = 0
    · rw [if_pos h2]; subst h2; exact sp_access_zero T a w
    · rw [if_neg h2]
      by_cases h3 : 4611686018427387904 ≤ (a : Int) + (n - 1)
      · rw [if_pos h3]; exact sp_access_far T a n w (by omega) (by omega) (by omega) (by omega) h3
      · rw [if_neg h3]
        obtain ⟨k, rfl⟩ := Int.eq_ofNat_of_zero_le (show 0 ≤ n by omega)
        exact sp_access_near T Q nn bud m a k w hs hnn (by omega) (by omega) (by omega)

theorem reachN_each {m : Nat → Option (Bool × List Int)} {a : Nat} : ∀ {n : Nat}, reachN m a n = true → ∀ i, i < n → isOpen (m ((a + i) / 1024)) = true
  | 0, _, i, hi => by omega
  | n + 1, h, i, hi => by
    simp only [reachN, Bool.and_eq_true] at h
    by_cases e : i = n
    · subst e; exact h.2
    · exact reachN_each h.1 i (by omega)
theorem accC_ok {m : Nat → Option (Bool × List Int)} {a : Nat} {n : Int} (h : accC m a n = 0) : 0 ≤ n ∧ n ≤ 4096 ∧ (n = 0 ∨ (a : Int) + n ≤ 4611686018427387904) ∧ ∀ i, i < n.toNat → isOpen (m ((a + i) / 1024)) = true := by
  unfold accC at h
  split at h
  · omega
  · split at h
    · rename_i h1 h2; subst h2; exact ⟨by omega, by omega, .inl rfl, fun i hi => by simp at hi⟩
    · split at h
      · omega
      · rename_i h1 h2 h3
        refine ⟨by omega, by omega, .inr (by omega), reachN_each ?_⟩
        unfold accCode at h
        split at h
        · assumption
        · omega

set_option maxHeartbeats 400000 in
theorem sp_load_code (T : Nat) (a n c : Int) (w : World) (hc : (c == 0) = false) (h : ∀ W, Below w.heap.size w W → Calls Try.prog 61 #[.pointer (some ⟨T, 0, none⟩), .int .u64 a, .int .i64 n] W fun e w' => e = .returned (.int .i64 c) ∧ w' = W) :
    Calls Try.prog 44 #[.pointer (some ⟨T, 0, none⟩), .int .u64 a, .int .i64 n] w fun e w' => e = .returned (.agg #[.int .i64 c, .slice none 0 0]) ∧ Below w.heap.size w w' := by
  have H1 := hid h
  clear h
  by_cases hn : 0 < n
  all_goals
    go_enter Try.func44, Try.ntmps44
    go_wp2_with fail
    refine (H1.out _ ((Below.refl _ _).alloc (Nat.le_refl _) _)).mono ?_
    rintro _ w1 ⟨rfl, rfl⟩
    go_wp2_with fail
    refine wp_loop_rounds 1 ?_
    rw [rounds_succ]
    go_wp2
    exact bodyPost_ret (v := .agg #[.int .i64 c, .slice none 0 0]) (by simp [results, Try.results44, go_sem]) rfl ⟨rfl, ((Below.refl _ w).alloc (Nat.le_refl _) _).alloc (by simp) _⟩

set_option maxHeartbeats 400000 in
theorem sp_store_code (T : Nat) (a c : Int) (d : Option Addr) (len cap : Nat) (w : World) (hc : (c == 0) = false) (h : ∀ W, Below w.heap.size w W → Calls Try.prog 61 #[.pointer (some ⟨T, 0, none⟩), .int .u64 a, .int .i64 len] W fun e w' => e = .returned (.int .i64 c) ∧ w' = W) :
    Calls Try.prog 45 #[.pointer (some ⟨T, 0, none⟩), .int .u64 a, .slice d len cap] w fun e w' => e = .returned (.agg #[.int .i64 c, .slice none 0 0]) ∧ Below w.heap.size w w' := by
  have H1 := hid h
  clear h
  by_cases hn : 0 < len
  all_goals
    go_enter Try.func45, Try.ntmps45
    go_wp2_with fail
    refine (H1.out _ ((Below.refl _ _).alloc (Nat.le_refl _) _)).mono ?_
    rintro _ w1 ⟨rfl, rfl⟩
    go_wp2_with fail
    refine wp_loop_rounds 1 ?_
    rw [rounds_succ]
    go_wp2
    exact bodyPost_ret (v := .agg #[.int .i64 c, .slice none 0 0]) (by simp [results, Try.results45, go_sem]) rfl ⟨rfl, ((Below.refl _ w).alloc (Nat.le_refl _) _).alloc (by simp) _⟩

/-- a load, whole -/
theorem sp_load (T Q nn : Nat) (bud : Int) (m : Nat → Option (Bool × List Int)) (a : Nat) (n : Int) (w : World) (hs : Sx T Q nn bud m w) (hnn : nn ≤ 4096) (ha : a < 18446744073709551616) (c : Int) (hc : accC m a n = c) :
    Calls Try.prog 44 #[.pointer (some ⟨T, 0, none⟩), .int .u64 a, .int .i64 n] w fun e w' => ∃ v, e = .returned (.agg #[.int .i64 c, v]) ∧ w'.ownsRow w.heap.size 5 1 v (if c = 0 then n.toNat else 0) (Ns .u8 (if c = 0 then loadB m a n.toNat else [])) ∧ Below w.heap.size w w' := by
  have hacc : ∀ W, Below w.heap.size w W → Calls Try.prog 61 #[.pointer (some ⟨T, 0, none⟩), .int .u64 a, .int .i64 n] W fun e w' => e = .returned (.int .i64 c) ∧ w' = W := fun W hW => by
    have := sp_access T Q nn bud m a n W (hs.below hW) hnn ha
    rw [hc] at this
    exact this
  by_cases h0 : c = 0
  · subst h0
    obtain ⟨h1, h2, h3, h4⟩ := accC_ok hc
    obtain ⟨k, rfl⟩ := Int.eq_ofNat_of_zero_le h1
    simp only [if_true, Int.toNat_natCast] at h4 ⊢
    rcases Nat.eq_zero_or_pos k with hk | hk
    · subst hk
      exact sp_load_yes T Q nn bud m a 0 w hs hnn (by omega) (by omega) (fun i hi => by omega) hacc
    · exact sp_load_yes T Q nn bud m a k w hs hnn (by omega) (by omega) h4 hacc
  · refine (sp_load_code T a n c w (by simp [h0]) hacc).mono ?_
    rintro e w' ⟨rfl, hb⟩
    refine ⟨_, rfl, ?_, hb⟩
    rw [if_neg h0, if_neg h0]
    exact ⟨rfl, .inl ⟨rfl, rfl⟩⟩

/-- a store, whole -/
theorem sp_store (T Q nn : Nat) (bud : Int) (m : Nat → Option (Bool × List Int)) (a len cap : Nat) (d : Option Addr) (ys : List Int) (w : World) (hs : Sx T Q nn bud m w) (hd : Dt Q w d len ys) (hnn : nn ≤ 4096) (ha : a < 18446744073709551616) (c : Int) (hc : accC m a (len : Int) = c) :
    Calls Try.prog 45 #[.pointer (some ⟨T, 0, none⟩), .int .u64 a, .slice d len cap] w fun e w' => e = .returned (.agg #[.int .i64 c, .slice none 0 0]) ∧ Sx T Q nn bud (if c = 0 then storeM m a ys len else m) w' ∧ Sf Q w w' := by
  have hacc : ∀ W, Below w.heap.size w W → Calls Try.prog 61 #[.pointer (some ⟨T, 0, none⟩), .int .u64 a, .int .i64 len] W fun e w' => e = .returned (.int .i64 c) ∧ w' = W := fun W hW => by
    have := sp_access T Q nn bud m a len W (hs.below hW) hnn ha
    rw [hc] at this
    exact this
  by_cases h0 : c = 0
  · subst h0
    obtain ⟨h1, h2, h3, h4⟩ := accC_ok hc
    simp only [if_true, Int.toNat_natCast] at h4 ⊢
    rcases Nat.eq_zero_or_pos len with hk | hk
    · subst hk
      exact sp_store_yes T Q nn bud m a 0 cap d ys w hs hd hnn (by omega) (by omega) (fun i hi => by omega) hacc
    · exact sp_store_yes T Q nn bud m a len cap d ys w hs hd hnn (by omega) (by omega) h4 hacc
  · refine (sp_store_code T a c d len cap w (by simp [h0]) hacc).mono ?_
    rintro e w' ⟨rfl, hb⟩
    rw [if_neg h0]
    exact ⟨rfl, hs.below hb, Sf.ofBelow hb hs.ltQ⟩
end Go.Proofs.Ytamfbplchblkbaa
