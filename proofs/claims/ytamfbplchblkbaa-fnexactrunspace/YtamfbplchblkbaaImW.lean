import Derived.Test.YtamfbplchblkbaaImV
namespace Go.Proofs.Ytamfbplchblkbaa
open Go.RowKit Go.Shelf
set_option linter.unusedVariables false

theorem Da.keep {S M : Nat} {f : Nat → Option Nat} {w V : World} {p : Option Addr} {n : Nat} {ys : List Int} (h : Da S M f w p n ys) (hf : Fr S M f f w V) : Da S M f V p n ys := by
  refine ⟨h.1, fun i hi => ?_⟩
  obtain ⟨x, e, c, l, h1, h2, h3⟩ := h.2 i hi
  refine ⟨x, e, ?_, Nat.lt_of_lt_of_le l hf.size, h1, h2, h3⟩
  unfold World.cell? at c ⊢
  rw [hf.block _ l h1 h2 h3]
  exact c

/-- stores, as the document has them -/
theorem im_store (S M nn : Nat) (bud : Int) (f : Nat → Option Nat) (m : Nat → Option (Bool × List Int)) (p c : Int) (a : Nat) (n : Int) (d : Option Addr) (dl dc : Nat) (ys : List Int) (w : World) (h : Im S M 0 nn bud f w) (hp : Pg f m w) (ha : a < 18446744073709551616) (hd : Da S M f w d dl ys) (hdc : dl ≤ dc) :
    Calls Try.prog 20 #[.pointer (some ⟨S, 0, none⟩), opV 5 p c a n d dl dc] w fun e w' => e = .returned (.agg #[.int .i64 (stepM nn bud m 5 p c a n ys).2.1, .slice none 0 0]) ∧ Ims S M nn bud f (stepM nn bud m 5 p c a n ys).1 w w' := by
  have es : stepM nn bud m 5 p c a n ys = (if accC m a (ys.length : Int) = 0 then storeM m a ys ys.length else m, accC m a (ys.length : Int), []) := by unfold stepM; rw [if_neg (by decide), if_pos rfl]
  rw [es, hd.1]
  refine run_store S M nn bud f m _ _ p c a n d dl dc w h hp (fun V i q r => ?_)
  by_cases hz : accC m a (dl : Int) = 0
  · rw [hz, if_pos rfl]
    obtain ⟨k, hk, h1, h2, h3⟩ := acc_zero hz
    obtain rfl : dl = k := by omega
    have hl := store_in S M 1 nn bud f m a dl dc d ys V i q h1 hdc h2 (hd.keep r) (fun d hd => open_some q (h3 d hd)) (fun W iW qW => by
      have := im_access S M 1 nn bud f m a (dl : Nat) W iW qW ha
      rwa [hz] at this)
    refine ((callsIn_wide (n := 5)).1 hl).mono ?_
    rintro e w' ⟨rfl, r1, r2, r3⟩
    exact ⟨rfl, f, r1, r2, r3⟩
  · rw [if_neg hz]
    refine (store_no1 S a _ dl dc d V (by simpa using hz) (im_access S M 1 nn bud f m a dl _ (i.alloc _) (q.alloc _) ha)).mono ?_
    rintro e w' ⟨rfl, rfl⟩
    exact ⟨rfl, f, i.alloc _, q.alloc _, Fr.ofGrown (World.grownBy_alloc _ _ none)⟩

/-- one operation, whatever its kind -/
theorem im_do (S M nn : Nat) (bud : Int) (f : Nat → Option Nat) (m : Nat → Option (Bool × List Int)) (kd p c : Int) (a : Nat) (n : Int) (d : Option Addr) (dl dc : Nat) (ys : List Int) (w : World) (h : Im S M 0 nn bud f w) (hp : Pg f m w) (hout : ∀ k, nn ≤ k → m k = none) (hnn : nn ≤ 4096) (ha : a < 18446744073709551616) (hpm : p ≤ 9223372036854775807) (hd : Da S M f w d dl ys) (hdc : dl ≤ dc) :
    Calls Try.prog 20 #[.pointer (some ⟨S, 0, none⟩), opV kd p c a n d dl dc] w fun e w' => ∃ v, e = .returned (.agg #[.int .i64 (stepM nn bud m kd p c a n ys).2.1, v]) ∧ w'.ownsRow w.heap.size 5 1 v (stepM nn bud m kd p c a n ys).2.2.length (Ns .u8 (stepM nn bud m kd p c a n ys).2.2) ∧ Ims S M nn bud f (stepM nn bud m kd p c a n ys).1 w w' := by
  have key : ∀ (e : Ending) (w' : World), (stepM nn bud m kd p c a n ys).2.2 = [] → (e = .returned (.agg #[.int .i64 (stepM nn bud m kd p c a n ys).2.1, .slice none 0 0]) ∧ Ims S M nn bud f (stepM nn bud m kd p c a n ys).1 w w') → ∃ v, e = .returned (.agg #[.int .i64 (stepM nn bud m kd p c a n ys).2.1, v]) ∧ w'.ownsRow w.heap.size 5 1 v (stepM nn bud m kd p c a n ys).2.2.length (Ns .u8 (stepM nn bud m kd p c a n ys).2.2) ∧ Ims S M nn bud f (stepM nn bud m kd p c a n ys).1 w w' := by
    rintro e w' h0 ⟨rfl, r⟩
    exact ⟨_, rfl, by rw [h0]; exact ⟨rfl, .inl ⟨rfl, rfl⟩⟩, r⟩
  by_cases h4 : kd = 4
  · subst h4
    exact im_load S M nn bud f m p c a n d dl dc ys w h hp ha
  · by_cases h5 : kd = 5
    · subst h5
      refine (im_store S M nn bud f m p c a n d dl dc ys w h hp ha hd hdc).mono (fun e w' => key e w' ?_)
      unfold stepM; rw [if_neg (by decide), if_pos rfl]
    · by_cases hk : kd < 0 ∨ 5 < kd
      · refine (im_none S M nn bud f m kd p c a n d dl dc ys w h hp hk).mono (fun e w' => key e w' ?_)
        unfold stepM; rw [if_neg h4, if_neg h5, if_pos hk]
      · refine (im_page S M nn bud f m kd p c a n d dl dc ys w h hp hout hnn hpm (by omega)).mono (fun e w' => key e w' ?_)
        unfold stepM; rw [if_neg h4, if_neg h5, if_neg hk]; split <;> rfl
theorem freshM_at (m : Nat → Option (Bool × List Int)) (p : Nat) : ∀ k j, p + k ≤ j → freshM m p k j = m j
  | 0, j, h => rfl
  | k + 1, j, h => by
    show updM (freshM m p k) (p + k) _ j = m j
    rw [updM_other _ _ _ _ (by omega)]
    exact freshM_at m p k j (by omega)
theorem goneM_at (m : Nat → Option (Bool × List Int)) (p : Nat) : ∀ k j, p + k ≤ j → goneM m p k j = m j
  | 0, j, h => rfl
  | k + 1, j, h => by
    show updM (goneM m p k) (p + k) _ j = m j
    rw [updM_other _ _ _ _ (by omega)]
    exact goneM_at m p k j (by omega)
theorem stepM_out (nn : Nat) (bud : Int) (m : Nat → Option (Bool × List Int)) (kd p c : Int) (a : Nat) (n : Int) (ys : List Int) (h : ∀ k, nn ≤ k → m k = none) : ∀ k, nn ≤ k → (stepM nn bud m kd p c a n ys).1 k = none := by
  intro k hk
  unfold stepM
  split
  · exact h k hk
  · split
    · dsimp only
      split
      · have : ∀ j, (storeM m a ys j k).isSome = (m k).isSome := by
          intro j
          induction j with
          | zero => rfl
          | succ j ih =>
            show (putM (storeM m a ys j) (a + j) (ys[j]?.getD 0) k).isSome = _
            unfold putM
            by_cases e : k = (a + j) / 1024
            · subst e; rw [updM_same, Option.isSome_map]; exact ih
            · rw [updM_other _ _ _ _ e]; exact ih
        have := this ys.length
        rw [h k hk] at this
        cases hs : storeM m a ys ys.length k with
        | none => rfl
        | some q => rw [hs] at this; cases this
      · exact h k hk
    · split
      · exact h k hk
      · split
        · rename_i hok
          unfold okP at hok
          have hle : p.toNat + c.toNat ≤ k := by omega
          have h0 := h k hk
          dsimp only
          unfold pageM
          split
          · split
            · exact h0
            · split
              · exact h0
              · rw [← h0]; exact freshM_at m _ _ k hle
          · split
            · exact h0
            · split
              · rw [← h0]; exact goneM_at m _ _ k hle
              · split
                · rw [← h0]; exact lockedM_at m _ _ _ k hle
                · rw [← h0]; exact lockedM_at m _ _ _ k hle
        · exact h k hk
end Go.Proofs.Ytamfbplchblkbaa
