import Derived.Test.YtamfbplchblkbaaImD
import Derived.Test.YtamfbplchblkbaaPages
namespace Go.Proofs.Ytamfbplchblkbaa
open Go.ChangeShapes Go.WideShapes Go.ChangeAt Go.RowKit Go.Maps
set_option linter.unusedVariables false

/-- a page that may be touched -/
def isOpen : Option (Bool × List Int) → Bool
  | some (l, _) => !l
  | none => false
/-- the pages first .. first + k - 1 may be touched -/
def openN (m : Nat → Option (Bool × List Int)) (first : Nat) : Nat → Bool
  | 0 => true
  | k + 1 => openN m first k && isOpen (m (first + k))
/-- the code of an access -/
def accCode (b : Bool) : Int := if b then 0 else 2
theorem openN_false {m : Nat → Option (Bool × List Int)} {first k : Nat} (h : isOpen (m (first + k)) = false) : ∀ N, k < N → openN m first N = false
  | 0, hk => by omega
  | N + 1, hk => by
    simp only [openN]
    by_cases e : k = N
    · subst e; simp [h]
    · rw [openN_false h N (by omega)]; rfl
theorem openN_all {m : Nat → Option (Bool × List Int)} {first : Nat} : ∀ {N : Nat}, openN m first N = true → ∀ k, k < N → isOpen (m (first + k)) = true
  | 0, _, k, hk => by omega
  | N + 1, h, k, hk => by
    simp only [openN, Bool.and_eq_true] at h
    by_cases e : k = N
    · subst e; exact h.2
    · exact openN_all h.1 k (by omega)

set_option maxHeartbeats 400000 in
theorem access_range (S : Nat) (a n : Int) (w : World) (h : n < 0 ∨ 4096 < n) :
    Calls Try.prog 57 #[.pointer (some ⟨S, 0, none⟩), .int .u64 a, .int .i64 n] w fun e w' => e = .returned (.int .i64 6) ∧ w' = w := by
  rcases h with h | h
  · go_enter Try.func57, Try.ntmps57
    go_wp2
    go_ret
    exact ⟨rfl, rfl⟩
  · have h' : ¬ n < 0 := by omega
    go_enter Try.func57, Try.ntmps57
    go_wp2
    go_ret
    exact ⟨rfl, rfl⟩

set_option maxHeartbeats 400000 in
theorem access_zero (S : Nat) (a : Int) (w : World) :
    Calls Try.prog 57 #[.pointer (some ⟨S, 0, none⟩), .int .u64 a, .int .i64 0] w fun e w' => e = .returned (.int .i64 0) ∧ w' = w := by
  go_enter Try.func57, Try.ntmps57
  go_wp2
  go_ret
  exact ⟨rfl, rfl⟩

set_option maxHeartbeats 400000 in
theorem access_far (S : Nat) (a n : Int) (w : World) (ha : 0 ≤ a) (ha' : a ≤ 18446744073709551615) (h1 : 1 ≤ n) (h2 : n ≤ 4096) (h : 4611686018427387904 ≤ a + (n - 1)) :
    Calls Try.prog 57 #[.pointer (some ⟨S, 0, none⟩), .int .u64 a, .int .i64 n] w fun e w' => e = .returned (.int .i64 2) ∧ w' = w := by
  have H1 := hid (impl_pg_no a n w ha ha' (.inr (.inr h)))
  clear h
  go_enter Try.func57, Try.ntmps57
  go_wp2_with fail
  refine H1.out.mono ?_
  rintro _ _ ⟨rfl, rfl⟩
  unfold pgNo
  go_wp2_with fail
  go_ret
  exact ⟨rfl, rfl⟩

set_option maxRecDepth 4000 in
set_option maxHeartbeats 400000 in
theorem access_near (S M : Nat) (st nn bud : Int) (f : Nat → Option Nat) (m : Nat → Option (Bool × List Int)) (a n p q : Nat) (w : World) (hi : Im S M st nn bud f w) (hp : Pg f m w) (h1 : 1 ≤ n) (h2 : n ≤ 4096) (h : a + (n - 1) < 4611686018427387904)
    (hpe : p = a / 1024) (hqe : q = (a + (n - 1)) / 1024) :
    Calls Try.prog 57 #[.pointer (some ⟨S, 0, none⟩), .int .u64 a, .int .i64 n] w fun e w' => e = .returned (.int .i64 (accCode (openN m p (q + 1 - p)))) ∧ w' = w := by
  have H1 := hid (impl_pg_yes a n w (by omega) (by omega) (by omega) (by omega))
  have e1 : (a : Int) / 1024 = (p : Int) := by omega
  have e2 : ((a : Int) + ((n : Int) - 1)) / 1024 = (q : Int) := by omega
  rw [e1, e2] at H1
  have hpq : p ≤ q := by omega
  have hq : q < 4503599627370496 := by omega
  have HI := hid (And.intro hi hp)
  obtain ⟨_, _, _, c4⟩ := hi.c
  clear e1 e2 hpe hqe hi hp h
  go_enter Try.func57, Try.ntmps57
  go_wp2_with fail
  refine H1.out.mono ?_
  rintro _ w0 ⟨rfl, rfl⟩
  go_wp2_with fail
  clear H1
  go_loop [10, 11] (fun i _ => ∃ j : Nat, j ≤ q + 1 - p ∧ i = .int .i64 ((p : Int) + (j : Int)) ∧ openN m p j = true) (fun i _ => q + 1 - (intOf i).toNat)
  case atStart => exact ⟨0, Nat.zero_le _, by go_num, rfl⟩
  case round =>
    obtain ⟨j, hj, rfl, hop⟩ := hrel
    by_cases hlt : j < q + 1 - p
    · have hrun := HI.out.1.look (p + j) (by omega)
      have ec : ((p + j : Nat) : Int) = (p : Int) + (j : Int) := by omega
      rw [ec] at hrun
      clear ec
      rcases HI.out.2.at' (p + j) with ⟨hf, hm⟩ | ⟨b, l, xs, hf, hm, _⟩
      · rw [hf] at hrun
        simp only [Option.map_none] at hrun
        have HO := hid (openN_false (m := m) (first := p) (k := j) (by rw [hm]; rfl) (q + 1 - p) hlt)
        clear hf hm hop
        go_wp2
        go_ret
        exact ⟨ret_int (by rw [HO.out]; rfl), rfl⟩
      · rw [hf] at hrun
        simp only [Option.map_some] at hrun
        obtain ⟨cl, _⟩ := HI.out.2.lockCell hf hm
        cases l with
        | true =>
          have HO := hid (openN_false (m := m) (first := p) (k := j) (by rw [hm]; rfl) (q + 1 - p) hlt)
          clear hf hm hop
          go_wp2
          go_ret
          exact ⟨ret_int (by rw [HO.out]; rfl), rfl⟩
        | false =>
          have HO := hid (show openN m p (j + 1) = true by simp only [openN]; rw [hop, hm]; rfl)
          clear hf hm hop
          go_wp2
          go_round
          case rel => exact ⟨j + 1, by omega, by go_num, HO.out⟩
          case measure => simp [intOf]; omega
    · have hje : j = q + 1 - p := by omega
      have HO := hid (hje ▸ hop)
      clear hop hje
      go_wp2
      go_ret
      exact ⟨ret_int (by rw [HO.out]; rfl), rfl⟩
end Go.Proofs.Ytamfbplchblkbaa
