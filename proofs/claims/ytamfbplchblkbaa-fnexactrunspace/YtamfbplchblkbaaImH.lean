import Derived.Test.YtamfbplchblkbaaImG
import Derived.Test.YtamfbplchblkbaaBytes
namespace Go.Proofs.Ytamfbplchblkbaa
open Go.RowKit Go.Shelf
set_option linter.unusedVariables false

attribute [local go_sem] Oper.semAt_some

/-- the pages first .. first + k - 1 are gone -/
def goneM (m : Nat → Option (Bool × List Int)) (first : Nat) : Nat → (Nat → Option (Bool × List Int))
  | 0 => m
  | k + 1 => updM (goneM m first k) (first + k) none
theorem Pg.drop {f : Nat → Option Nat} {m : Nat → Option (Bool × List Int)} {W : World} (h : Pg f m W) (k : Nat) : Pg (upd f k none) (updM m k none) W := by
  constructor
  · intro j
    by_cases e : j = k
    · subst e
      exact .inl ⟨upd_same _ _ _, updM_same _ _ _⟩
    · rw [updM_other m k j _ e, upd_other f k j _ e]
      exact h.at' j
  · intro i j b ei ej
    by_cases e : i = k
    · subst e; rw [upd_same] at ei; cases ei
    · by_cases e2 : j = k
      · subst e2; rw [upd_same] at ej; cases ej
      · rw [upd_other f k i _ e] at ei
        rw [upd_other f k j _ e2] at ej
        exact h.inj i j b ei ej
theorem Pg.without {f : Nat → Option Nat} {m : Nat → Option (Bool × List Int)} {W : World} (h : Pg f m W) (first : Nat) : ∀ k, Pg (without f first k) (goneM m first k) W
  | 0 => h
  | k + 1 => (Pg.without h first k).drop (first + k)
theorem Pg.turned {f : Nat → Option Nat} {m : Nat → Option (Bool × List Int)} {W W' : World} {M : Nat} (h : Pg f m W) (hM : ∀ k b, f k = some b → b ≠ M) (ht : W.mapTurned W' M) : Pg f m W' := by
  refine ⟨?_, h.inj⟩
  intro j
  rcases h.at' j with h1 | ⟨b, l, xs, h1, h2, h3, h4⟩
  · exact .inl h1
  · exact .inr ⟨b, l, xs, h1, h2, h3, by rw [turned_other ht (hM j b h1)]; exact h4⟩
theorem without_some {f : Nat → Option Nat} {first : Nat} : ∀ {k j b : Nat}, without f first k j = some b → f j = some b
  | 0, _, _, h => h
  | k + 1, j, b, h => by
    simp only [without] at h
    by_cases e : j = first + k
    · subst e; rw [upd_same] at h; cases h
    · rw [upd_other _ _ _ _ e] at h
      exact without_some h
theorem Fr.without {S M : Nat} {f : Nat → Option Nat} {W W' : World} (first k : Nat) (ht : W.mapTurned W' M) : Fr S M f (without f first k) W W' := by
  have h := (Fr.refl S M f W).turned ht
  exact ⟨h.os, h.tape, h.output, h.size, h.block, fun j g e => .inl ⟨j, without_some e⟩⟩

theorem decommit_all (S M : Nat) (st n bud : Int) (f : Nat → Option Nat) (m : Nat → Option (Bool × List Int)) (first count : Nat) (w : World) (h : Im S M st n bud f w) (hp : Pg f m w) (hn : 0 ≤ n) (hn' : n ≤ 4096) (hin : insideB n first count = true) (hall : heldN f first count = count) :
    Calls Try.prog 39 #[.pointer (some ⟨S, 0, none⟩), .int .i64 first, .int .i64 count] w fun e w' => e = .returned (.int .i64 0) ∧ ∃ f', Im S M st n bud f' w' ∧ Pg f' (goneM m first count) w' ∧ Fr S M f f' w w' := by
  refine (decommit_yes S M st n bud f first count w h hn hn' hin hall).mono ?_
  rintro e w' ⟨rfl, h1, h2⟩
  exact ⟨rfl, _, h1, (hp.without first count).turned (fun k b e => (hp.apart h (without_some e)).2) h2, Fr.without first count h2⟩

set_option maxHeartbeats 400000 in
theorem load_no (S : Nat) (a n c : Int) (w : World) (hc : (c != 0) = true) (h : ∀ w, Calls Try.prog 57 #[.pointer (some ⟨S, 0, none⟩), .int .u64 a, .int .i64 n] w fun e w' => e = .returned (.int .i64 c) ∧ w' = w) :
    Calls Try.prog 41 #[.pointer (some ⟨S, 0, none⟩), .int .u64 a, .int .i64 n] w fun e w' => e = .returned (.agg #[.int .i64 c, .slice none 0 0]) ∧ w' = w.alloc (.cells #[.int .i64 c, .slice none 0 0] 36) := by
  have H1 := hid h
  clear h
  go_enter Try.func41, Try.ntmps41
  go_wp2_with fail
  refine (H1.out _).mono ?_
  rintro _ _ ⟨rfl, rfl⟩
  go_wp2_with fail
  refine bodyPost_ret (v := .agg #[.int .i64 c, .slice none 0 0]) (by simp [results, Try.results41, go_sem]) rfl ⟨rfl, rfl⟩
end Go.Proofs.Ytamfbplchblkbaa
