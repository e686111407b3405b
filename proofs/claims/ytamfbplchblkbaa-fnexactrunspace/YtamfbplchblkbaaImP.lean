import Derived.Test.YtamfbplchblkbaaImO
namespace Go.Proofs.Ytamfbplchblkbaa
open Go.RowKit Go.Shelf
set_option linter.unusedVariables false

theorem held_all {f : Nat → Option Nat} {m : Nat → Option (Bool × List Int)} (h : ∀ k, (f k).isSome = (m k).isSome) (p : Nat) : ∀ c, heldN f p c = c ↔ allBb m p true c = true
  | 0 => by simp [heldN, allBb]
  | k + 1 => by
    have ih := held_all h p k
    have h1 := heldN_le f p k
    simp only [heldN, allBb, Bool.and_eq_true, beq_iff_eq, ← h (p + k), ← ih]
    cases (f (p + k)).isSome <;> simp <;> omega
theorem held_no {f : Nat → Option Nat} {m : Nat → Option (Bool × List Int)} (h : ∀ k, (f k).isSome = (m k).isSome) (p : Nat) : ∀ c, heldN f p c = 0 ↔ allBb m p false c = true
  | 0 => by simp [heldN, allBb]
  | k + 1 => by
    have ih := held_no h p k
    simp only [heldN, allBb, Bool.and_eq_true, beq_iff_eq, ← h (p + k), ← ih]
    cases (f (p + k)).isSome <;> simp
theorem inside_ok (nn : Nat) (p c : Int) : insideB nn p c = true ↔ okP nn p c := by
  unfold insideB okP
  rw [decide_eq_true_eq]
  omega

/-- a step of impl's space over pages, as the document has it -/
theorem im_page (S M nn : Nat) (bud : Int) (f : Nat → Option Nat) (m : Nat → Option (Bool × List Int)) (kd p c : Int) (a : Nat) (n : Int) (d : Option Addr) (dl dc : Nat) (ys : List Int) (w : World) (h : Im S M 0 nn bud f w) (hp : Pg f m w) (hout : ∀ k, nn ≤ k → m k = none) (hnn : nn ≤ 4096) (hpm : p ≤ 9223372036854775807) (hk : kd = 0 ∨ kd = 1 ∨ kd = 2 ∨ kd = 3) :
    Calls Try.prog 20 #[.pointer (some ⟨S, 0, none⟩), opV kd p c a n d dl dc] w fun e w' => e = .returned (.agg #[.int .i64 (stepM nn bud m kd p c a n ys).2.1, .slice none 0 0]) ∧ Ims S M nn bud f (stepM nn bud m kd p c a n ys).1 w w' := by
  have hn0 : (0 : Int) ≤ nn := by omega
  have hn1 : (nn : Int) ≤ 4096 := by omega
  have e4 : ¬ kd = 4 := by omega
  have e5 : ¬ kd = 5 := by omega
  have e6 : ¬ (kd < 0 ∨ 5 < kd) := by omega
  have his := hp.none_iff
  have hcnt : heldN f 0 4096 = cntM m nn := by
    rw [cntM_held his 4096, show 4096 = nn + (4096 - nn) by omega, cntM_out hout]
  unfold stepM
  rw [if_neg e4, if_neg e5, if_neg e6]
  by_cases hin : okP nn p c
  · rw [if_pos hin]
    have hin' := (inside_ok nn p c).2 hin
    obtain ⟨g1, g2, g3, g4⟩ := hin
    obtain ⟨p, rfl⟩ := Int.eq_ofNat_of_zero_le g2
    obtain ⟨c, rfl⟩ := Int.eq_ofNat_of_zero_le (show 0 ≤ c by omega)
    simp only [Int.toNat_natCast]
    have hle := heldN_le f p c
    rcases hk with rfl | rfl | rfl | rfl
    · refine run_commit S M nn bud f m _ _ p c a n d dl dc w h hp (fun V i q => ?_)
      simp only [pageM, if_true]
      cases hb : allBb m p false c with
      | false =>
        simp only [if_true]
        refine (commit_part S M 1 nn bud f p c _ V i hn0 hn1 hin' rfl (by
          have := (held_no his p c)
          rw [hb] at this
          have h2 : heldN f p c ≠ 0 := fun e => by simpa using this.1 e
          omega)).mono ?_
        rintro e w' ⟨rfl, rfl⟩
        exact ⟨rfl, f, i, q, Fr.refl _ _ _ _⟩
      | true =>
        have hz := (held_no his p c).2 hb
        by_cases hbd : bud < (cntM m nn : Int) + c
        · simp only [if_pos hbd, Bool.true_eq_false, if_false]
          refine (commit_full S M 1 nn bud f p c _ V i hn0 hn1 hin' hz hcnt hbd).mono ?_
          rintro e w' ⟨rfl, rfl⟩
          exact ⟨rfl, f, i.drew, q.drew, (Fr.refl _ _ _ _).drew⟩
        · simp only [if_neg hbd, Bool.true_eq_false, if_false]
          exact commit_yes S M 1 nn bud f m p c _ V i q hn0 hn1 hin' hz hcnt (by omega)
    · refine run_decommit S M nn bud f m _ _ p c a n d dl dc w h hp (fun V i q => ?_)
      simp only [pageM, show ¬ ((1 : Int) = 0) by omega, if_false, if_true]
      cases hb : allBb m p true c with
      | false =>
        simp only [if_true]
        refine (decommit_part S M 1 nn bud f p c _ V i hn0 hn1 hin' rfl (by
          have := (held_all his p c)
          rw [hb] at this
          have h2 : heldN f p c ≠ c := fun e => by simpa using this.1 e
          omega)).mono ?_
        rintro e w' ⟨rfl, rfl⟩
        exact ⟨rfl, f, i, q, Fr.refl _ _ _ _⟩
      | true =>
        simp only [Bool.true_eq_false, if_false]
        exact decommit_all S M 1 nn bud f m p c V i q hn0 hn1 hin' ((held_all his p c).2 hb)
    · refine run_lock S M nn bud f m _ _ p c a n d dl dc w h hp (fun V i q => ?_)
      simp only [pageM, show ¬ ((2 : Int) = 0) by omega, show ¬ ((2 : Int) = 1) by omega, if_false, if_true]
      cases hb : allBb m p true c with
      | false =>
        simp only [if_true]
        refine (setLock_part S M 1 nn bud f p c _ true V i hn0 hn1 hin' rfl (by
          have := (held_all his p c)
          rw [hb] at this
          have h2 : heldN f p c ≠ c := fun e => by simpa using this.1 e
          omega)).mono ?_
        rintro e w' ⟨rfl, rfl⟩
        exact ⟨rfl, f, i, q, Fr.refl _ _ _ _⟩
      | true =>
        simp only [Bool.true_eq_false, if_false]
        refine (setLock_yes S M 1 nn bud f m p c true V i q hn0 hn1 hin' ((held_all his p c).2 hb)).mono ?_
        rintro e w' ⟨rfl, h1, h2, h3⟩
        exact ⟨rfl, f, h1, h2, h3⟩
    · refine run_unlock S M nn bud f m _ _ p c a n d dl dc w h hp (fun V i q => ?_)
      simp only [pageM, show ¬ ((3 : Int) = 0) by omega, show ¬ ((3 : Int) = 1) by omega, show ¬ ((3 : Int) = 2) by omega, if_false]
      cases hb : allBb m p true c with
      | false =>
        simp only [if_true]
        refine (setLock_part S M 1 nn bud f p c _ false V i hn0 hn1 hin' rfl (by
          have := (held_all his p c)
          rw [hb] at this
          have h2 : heldN f p c ≠ c := fun e => by simpa using this.1 e
          omega)).mono ?_
        rintro e w' ⟨rfl, rfl⟩
        exact ⟨rfl, f, i, q, Fr.refl _ _ _ _⟩
      | true =>
        simp only [Bool.true_eq_false, if_false]
        refine (setLock_yes S M 1 nn bud f m p c false V i q hn0 hn1 hin' ((held_all his p c).2 hb)).mono ?_
        rintro e w' ⟨rfl, h1, h2, h3⟩
        exact ⟨rfl, f, h1, h2, h3⟩
  · rw [if_neg hin]
    have hno : insideB nn p c = false := by
      cases hb : insideB nn p c with
      | false => rfl
      | true => exact absurd ((inside_ok nn p c).1 hb) hin
    rcases hk with rfl | rfl | rfl | rfl
    · refine run_commit S M nn bud f m _ _ p c a n d dl dc w h hp (fun V i q => (commit_no S M 1 nn bud f p c V i hn0 hn1 hpm hno).mono ?_)
      rintro e w' ⟨rfl, rfl⟩
      exact ⟨rfl, f, i, q, Fr.refl _ _ _ _⟩
    · refine run_decommit S M nn bud f m _ _ p c a n d dl dc w h hp (fun V i q => (decommit_no S M 1 nn bud f p c V i hn0 hn1 hpm hno).mono ?_)
      rintro e w' ⟨rfl, rfl⟩
      exact ⟨rfl, f, i, q, Fr.refl _ _ _ _⟩
    · refine run_lock S M nn bud f m _ _ p c a n d dl dc w h hp (fun V i q => (setLock_no S M 1 nn bud f p c true V i hn0 hn1 hpm hno).mono ?_)
      rintro e w' ⟨rfl, rfl⟩
      exact ⟨rfl, f, i, q, Fr.refl _ _ _ _⟩
    · refine run_unlock S M nn bud f m _ _ p c a n d dl dc w h hp (fun V i q => (setLock_no S M 1 nn bud f p c false V i hn0 hn1 hpm hno).mono ?_)
      rintro e w' ⟨rfl, rfl⟩
      exact ⟨rfl, f, i, q, Fr.refl _ _ _ _⟩
end Go.Proofs.Ytamfbplchblkbaa
