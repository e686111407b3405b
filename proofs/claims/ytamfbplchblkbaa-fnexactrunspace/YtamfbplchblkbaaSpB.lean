import Derived.Test.YtamfbplchblkbaaSpA
namespace Go.Proofs.Ytamfbplchblkbaa
open Go.RowKit Go.Shelf
set_option linter.unusedVariables false

/-- the bytes from a on may be reached -/
def reachN (m : Nat → Option (Bool × List Int)) (a : Nat) : Nat → Bool
  | 0 => true
  | k + 1 => reachN m a k && isOpen (m ((a + k) / 1024))
theorem reachN_false {m : Nat → Option (Bool × List Int)} {a k : Nat} (h : isOpen (m ((a + k) / 1024)) = false) : ∀ N, k < N → reachN m a N = false
  | 0, hk => by omega
  | N + 1, hk => by
    simp only [reachN]
    by_cases e : k = N
    · subst e; simp [h]
    · rw [reachN_false h N (by omega)]; rfl
theorem reachN_all {m : Nat → Option (Bool × List Int)} {a : Nat} : ∀ {N : Nat}, reachN m a N = true → ∀ k, k < N → isOpen (m ((a + k) / 1024)) = true
  | 0, _, k, hk => by omega
  | N + 1, h, k, hk => by
    simp only [reachN, Bool.and_eq_true] at h
    by_cases e : k = N
    · subst e; exact h.2
    · exact reachN_all h.1 k (by omega)
theorem reachN_of {m : Nat → Option (Bool × List Int)} {a : Nat} : ∀ {N : Nat}, (∀ k, k < N → isOpen (m ((a + k) / 1024)) = true) → reachN m a N = true
  | 0, _ => rfl
  | N + 1, h => by
    simp only [reachN]
    rw [reachN_of (fun k hk => h k (by omega)), h N (by omega)]
    rfl
theorem openN_of {m : Nat → Option (Bool × List Int)} {p : Nat} : ∀ {N : Nat}, (∀ k, k < N → isOpen (m (p + k)) = true) → openN m p N = true
  | 0, _ => rfl
  | N + 1, h => by
    simp only [openN]
    rw [openN_of (fun k hk => h k (by omega)), h N (by omega)]
    rfl
/-- byte by byte and page by page are one -/
theorem reach_open (m : Nat → Option (Bool × List Int)) (a n : Nat) (hn : 1 ≤ n) : openN m (a / 1024) ((a + (n - 1)) / 1024 + 1 - a / 1024) = reachN m a n := by
  cases hr : reachN m a n
  · cases ho : openN m (a / 1024) ((a + (n - 1)) / 1024 + 1 - a / 1024)
    · rfl
    · exfalso
      have : reachN m a n = true := reachN_of (fun k hk => by
        have h1 := openN_all ho ((a + k) / 1024 - a / 1024) (by omega)
        rwa [show a / 1024 + ((a + k) / 1024 - a / 1024) = (a + k) / 1024 by omega] at h1)
      rw [hr] at this
      cases this
  · refine openN_of (fun k hk => ?_)
    by_cases e : k = 0
    · have h1 := reachN_all hr 0 (by omega)
      subst e
      simpa using h1
    · have h1 := reachN_all hr ((a / 1024 + k) * 1024 - a) (by omega)
      rwa [show (a + ((a / 1024 + k) * 1024 - a)) / 1024 = a / 1024 + k by omega] at h1

set_option maxHeartbeats 400000 in
theorem sp_access_range (T : Nat) (a n : Int) (w : World) (h : n < 0 ∨ 4096 < n) :
    Calls Try.prog 61 #[.pointer (some ⟨T, 0, none⟩), .int .u64 a, .int .i64 n] w fun e w' => e = .returned (.int .i64 6) ∧ w' = w := by
  rcases h with h | h
  · go_enter Try.func61, Try.ntmps61
    go_wp2
    go_ret
    exact ⟨rfl, rfl⟩
  · have h' : ¬ n < 0 := by omega
    go_enter Try.func61, Try.ntmps61
    go_wp2
    go_ret
    exact ⟨rfl, rfl⟩
set_option maxHeartbeats 400000 in
theorem sp_access_zero (T : Nat) (a : Int) (w : World) :
    Calls Try.prog 61 #[.pointer (some ⟨T, 0, none⟩), .int .u64 a, .int .i64 0] w fun e w' => e = .returned (.int .i64 0) ∧ w' = w := by
  go_enter Try.func61, Try.ntmps61
  go_wp2
  go_ret
  exact ⟨rfl, rfl⟩
set_option maxHeartbeats 400000 in
theorem sp_access_far (T : Nat) (a n : Int) (w : World) (ha : 0 ≤ a) (ha' : a ≤ 18446744073709551615) (h1 : 1 ≤ n) (h2 : n ≤ 4096) (h : 4611686018427387904 ≤ a + (n - 1)) :
    Calls Try.prog 61 #[.pointer (some ⟨T, 0, none⟩), .int .u64 a, .int .i64 n] w fun e w' => e = .returned (.int .i64 2) ∧ w' = w := by
  have H1 := hid (spec_pg_no a n w ha ha' (.inr (.inr h)))
  clear h
  go_enter Try.func61, Try.ntmps61
  go_wp2_with fail
  refine H1.out.mono ?_
  rintro _ _ ⟨rfl, rfl⟩
  unfold pgNo
  go_wp2_with fail
  go_ret
  exact ⟨rfl, rfl⟩

set_option maxRecDepth 4000 in
set_option maxHeartbeats 400000 in
theorem sp_access_near (T Q nn : Nat) (bud : Int) (m : Nat → Option (Bool × List Int)) (a n : Nat) (w : World) (hs : Sx T Q nn bud m w) (hnn : nn ≤ 4096) (h1 : 1 ≤ n) (h2 : n ≤ 4096) (h : a + (n - 1) < 4611686018427387904) :
    Calls Try.prog 61 #[.pointer (some ⟨T, 0, none⟩), .int .u64 a, .int .i64 n] w fun e w' => e = .returned (.int .i64 (accCode (reachN m a n))) ∧ w' = w := by
  have H1 := hid (spec_pg_yes a n w (by omega) (by omega) (by omega) (by omega))
  have HR := hid (fun (j : Nat) (hj : j < n) => reach_any T Q nn bud m (a + j) w hs hnn (by omega))
  clear hs
  go_enter Try.func61, Try.ntmps61
  go_wp2_with fail
  refine H1.out.mono ?_
  rintro _ w0 ⟨rfl, rfl⟩
  go_wp2_with fail
  clear H1
  go_loop [10] (fun i => ∃ j : Nat, j ≤ n ∧ i = .int .i64 j ∧ reachN m a j = true) (fun i => n - (intOf i).toNat)
  case atStart => exact ⟨0, Nat.zero_le _, rfl, rfl⟩
  case round =>
    obtain ⟨j, hj, rfl, hop⟩ := hrel
    by_cases hlt : j < n
    · have H2 := hid (HR.out j hlt)
      rw [show ((a + j : Nat) : Int) = (a : Int) + (j : Int) by omega] at H2
      cases ho : isOpen (m ((a + j) / 1024))
      · have HO := hid (reachN_false ho n hlt)
        rw [ho] at H2
        clear ho hop
        go_wp2_with fail
        refine H2.out.mono ?_
        rintro _ _ ⟨rfl, rfl⟩
        go_wp2_with fail
        go_ret
        exact ⟨ret_int (by rw [HO.out]; rfl), rfl⟩
      · have HO := hid (show reachN m a (j + 1) = true by simp only [reachN]; rw [hop, ho]; rfl)
        rw [ho] at H2
        clear ho hop
        go_wp2_with fail
        refine H2.out.mono ?_
        rintro _ _ ⟨rfl, rfl⟩
        go_wp2_with fail
        go_round
        case rel => exact ⟨j + 1, by omega, by go_num, HO.out⟩
        case measure => simp [intOf]; omega
    · have hje : j = n := by omega
      have HO := hid (hje ▸ hop)
      clear hop hje
      go_wp2
      go_ret
      exact ⟨ret_int (by rw [HO.out]; rfl), rfl⟩
end Go.Proofs.Ytamfbplchblkbaa
