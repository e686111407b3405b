import Derived.Test.YtamfbplchblkbaaImQ
import Derived.Laws.CopyOwn
namespace Go.Proofs.Ytamfbplchblkbaa
open Go.RowKit Go.Shelf
set_option linter.unusedVariables false

theorem acc_zero {m : Nat → Option (Bool × List Int)} {a : Nat} {n : Int} (h : accC m a n = 0) : ∃ k : Nat, n = k ∧ k ≤ 4096 ∧ (k = 0 ∨ a + k ≤ 4611686018427387904) ∧ ∀ d, d < k → isOpen (m ((a + d) / 1024)) = true := by
  unfold accC at h
  by_cases h1 : n < 0 ∨ 4096 < n
  · rw [if_pos h1] at h; cases h
  · rw [if_neg h1] at h
    obtain ⟨k, rfl⟩ := Int.eq_ofNat_of_zero_le (show 0 ≤ n by omega)
    refine ⟨k, rfl, by omega, ?_⟩
    by_cases h2 : (k : Int) = 0
    · exact ⟨.inl (by omega), fun d hd => by omega⟩
    · rw [if_neg h2] at h
      by_cases h3 : 4611686018427387904 ≤ (a : Int) + ((k : Int) - 1)
      · rw [if_pos h3] at h; cases h
      · rw [if_neg h3] at h
        refine ⟨.inr (by omega), ?_⟩
        cases hr : reachN m a k with
        | false => simp [hr, accCode] at h
        | true => exact reachN_all hr
theorem open_some {f : Nat → Option Nat} {m : Nat → Option (Bool × List Int)} {W : World} (hp : Pg f m W) {k : Nat} (h : isOpen (m k) = true) : ∃ g, f k = some g := by
  rcases hp.at' k with ⟨h1, h2⟩ | ⟨b, l, xs, h1, _⟩
  · rw [h2] at h; cases h
  · exact ⟨b, h1⟩

set_option maxHeartbeats 400000 in
theorem load_no1 (S : Nat) (a n c : Int) (w : World) (hc : (c != 0) = true) (h : Calls Try.prog 57 #[.pointer (some ⟨S, 0, none⟩), .int .u64 a, .int .i64 n] (w.alloc (.cells #[.int .i64 0, .slice none 0 0] 36)) fun e w' => e = .returned (.int .i64 c) ∧ w' = w.alloc (.cells #[.int .i64 0, .slice none 0 0] 36)) :
    Calls Try.prog 41 #[.pointer (some ⟨S, 0, none⟩), .int .u64 a, .int .i64 n] w fun e w' => e = .returned (.agg #[.int .i64 c, .slice none 0 0]) ∧ w' = w.alloc (.cells #[.int .i64 c, .slice none 0 0] 36) := by
  have H1 := hid h
  clear h
  go_enter Try.func41, Try.ntmps41
  go_wp2_with fail
  refine (H1.out).mono ?_
  rintro _ _ ⟨rfl, rfl⟩
  go_wp2_with fail
  refine bodyPost_ret (v := .agg #[.int .i64 c, .slice none 0 0]) (by simp [results, Try.results41, go_sem]) rfl ⟨rfl, rfl⟩
set_option maxHeartbeats 400000 in
theorem store_no1 (S : Nat) (a c : Int) (n cap : Nat) (p : Option Addr) (w : World) (hc : (c != 0) = true) (h : Calls Try.prog 57 #[.pointer (some ⟨S, 0, none⟩), .int .u64 a, .int .i64 n] (w.alloc (.cells #[.slice p n cap] 22)) fun e w' => e = .returned (.int .i64 c) ∧ w' = w.alloc (.cells #[.slice p n cap] 22)) :
    Calls Try.prog 42 #[.pointer (some ⟨S, 0, none⟩), .int .u64 a, .slice p n cap] w fun e w' => e = .returned (.int .i64 c) ∧ w' = w.alloc (.cells #[.slice p n cap] 22) := by
  have H1 := hid h
  clear h
  go_enter Try.func42, Try.ntmps42
  go_wp2_with fail
  refine (H1.out).mono ?_
  rintro _ _ ⟨rfl, rfl⟩
  go_wp2_with fail
  go_ret
  exact ⟨rfl, rfl⟩

/-- loads, as the document has them -/
theorem im_load (S M nn : Nat) (bud : Int) (f : Nat → Option Nat) (m : Nat → Option (Bool × List Int)) (p c : Int) (a : Nat) (n : Int) (d : Option Addr) (dl dc : Nat) (ys : List Int) (w : World) (h : Im S M 0 nn bud f w) (hp : Pg f m w) (ha : a < 18446744073709551616) :
    Calls Try.prog 20 #[.pointer (some ⟨S, 0, none⟩), opV 4 p c a n d dl dc] w fun e w' => ∃ v, e = .returned (.agg #[.int .i64 (stepM nn bud m 4 p c a n ys).2.1, v]) ∧ w'.ownsRow w.heap.size 5 1 v (stepM nn bud m 4 p c a n ys).2.2.length (Ns .u8 (stepM nn bud m 4 p c a n ys).2.2) ∧ Ims S M nn bud f (stepM nn bud m 4 p c a n ys).1 w w' := by
  have es : stepM nn bud m 4 p c a n ys = (m, accC m a n, if accC m a n = 0 then loadB m a n.toNat else []) := by unfold stepM; rw [if_pos rfl]
  rw [es]
  refine run_load S M nn bud f m _ _ p c a n d dl dc w h hp (fun V i q => ?_)
  by_cases hz : accC m a n = 0
  · rw [hz, if_pos rfl]
    obtain ⟨k, rfl, h1, h2, h3⟩ := acc_zero hz
    have hl := load_in S M 1 nn bud f m a k V i q h1 h2 (fun d hd => open_some q (h3 d hd)) (fun W iW qW => by
      have := im_access S M 1 nn bud f m a (k : Nat) W iW qW ha
      rwa [hz] at this)
    refine ((callsIn_wide (n := 5)).1 hl).mono ?_
    rintro e w' ⟨v, rfl, ho, r⟩
    refine ⟨v, rfl, ?_, r⟩
    simp only [Int.toNat_natCast]
    have el : (loadB m a k).length = k := by simp [loadB]
    rw [el]
    exact ho
  · rw [if_neg hz]
    refine (load_no1 S a n _ V (by simpa using hz) (im_access S M 1 nn bud f m a n _ (i.alloc _) (q.alloc _) ha)).mono ?_
    · rintro e w' ⟨rfl, rfl⟩
      exact ⟨_, rfl, ⟨rfl, .inl ⟨rfl, rfl⟩⟩, i.alloc _, q.alloc _, Fr.ofGrown (World.grownBy_alloc _ _ none)⟩

theorem updM_twice (m : Nat → Option (Bool × List Int)) (k : Nat) (u v : Option (Bool × List Int)) : updM (updM m k u) k v = updM m k v := by
  funext j
  unfold updM
  split <;> rfl
theorem updM_self (m : Nat → Option (Bool × List Int)) (k : Nat) (v : Option (Bool × List Int)) (h : m k = v) : updM m k v = m := by
  funext j
  unfold updM
  split
  · rename_i e; rw [e, h]
  · rfl
theorem splice_snoc (xs zs : List Int) (off : Nat) (z : Int) (h : off + zs.length < xs.length) : (splice xs off zs).set (off + zs.length) z = splice xs off (zs ++ [z]) := by
  have hl : (xs.take off).length = off := by simp; omega
  have hd : xs.drop (off + zs.length) = xs[off + zs.length] :: xs.drop (off + zs.length + 1) := List.drop_eq_getElem_cons h
  unfold splice
  rw [hd, List.set_append_right _ _ (by omega), hl, Nat.add_sub_cancel_left, List.set_append_right _ _ (Nat.le_refl _), Nat.sub_self, List.set_cons_zero]
  simp [Nat.add_assoc]
/-- a piece of a store is one page turned -/
theorem storeM_piece (m : Nat → Option (Bool × List Int)) (a : Nat) (ys : List Int) (d : Nat) (lk : Bool) (xs : List Int) (hx : xs.length = 1024) (hm : storeM m a ys d ((a + d) / 1024) = some (lk, xs)) :
    ∀ l, (a + d) % 1024 + l ≤ 1024 → d + l ≤ ys.length → storeM m a ys (d + l) = updM (storeM m a ys d) ((a + d) / 1024) (some (lk, splice xs ((a + d) % 1024) ((ys.drop d).take l)))
  | 0, _, _ => by
    have e : splice xs ((a + d) % 1024) ((ys.drop d).take 0) = xs := by simp [splice]
    rw [e, Nat.add_zero, updM_self _ _ _ hm]
  | l + 1, h1, h2 => by
    have ih := storeM_piece m a ys d lk xs hx hm l (by omega) (by omega)
    have e0 : storeM m a ys (d + (l + 1)) = putM (storeM m a ys (d + l)) (a + (d + l)) (ys[d + l]?.getD 0) := rfl
    have e1 : (a + (d + l)) / 1024 = (a + d) / 1024 := by omega
    have e2 : (a + (d + l)) % 1024 = (a + d) % 1024 + l := by omega
    rw [e0, ih]
    unfold putM
    rw [e1, e2, updM_same, updM_twice]
    simp only [Option.map_some]
    have hlen : ((ys.drop d).take l).length = l := by simp; omega
    have e3 : (ys.drop d).take (l + 1) = (ys.drop d).take l ++ [ys[d + l]?.getD 0] := by
      rw [List.take_add_one, List.getElem?_drop, List.getElem?_eq_getElem (by omega)]
      rfl
    rw [e3, ← splice_snoc _ _ _ _ (by rw [hlen, hx]; omega), hlen]
theorem storeM_some (m : Nat → Option (Bool × List Int)) (a : Nat) (ys : List Int) (f : Nat → Option Nat) {W : World} (hp : Pg f m W) : ∀ k, (∀ j, (storeM m a ys k j).isSome = (m j).isSome)
  | 0 => fun j => rfl
  | k + 1 => fun j => by
    show (putM (storeM m a ys k) (a + k) (ys[k]?.getD 0) j).isSome = _
    unfold putM
    by_cases e : j = (a + k) / 1024
    · subst e; rw [updM_same, Option.isSome_map]; exact storeM_some m a ys f hp k _
    · rw [updM_other _ _ _ _ e]; exact storeM_some m a ys f hp k j
theorem pageC_splice (l : Bool) (xs zs : List Int) (off : Nat) (hx : xs.length = 1024) (h : off + zs.length ≤ 1024) : (splice (pageC l xs).toList off (Ns .u8 zs)).toArray = pageC l (splice xs off zs) := by
  unfold pageC splice
  have h1 : off ≤ (Ns .u8 xs).length := by simp [Ns]; omega
  have h2 : off + zs.length ≤ (Ns .u8 xs).length := by simp [Ns]; omega
  dsimp only
  rw [List.take_append_of_le_length h1, Ns_len, List.drop_append_of_le_length h2]
  simp [Ns]
end Go.Proofs.Ytamfbplchblkbaa
