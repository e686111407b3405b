import Derived.Test.YtamfbplchblkbaaImR
namespace Go.Proofs.Ytamfbplchblkbaa
open Go.RowKit Go.Shelf
set_option linter.unusedVariables false

attribute [local go_sem] Oper.semAt_some

/-- bytes are laid into one page -/
def layM (m : Nat → Option (Bool × List Int)) (p : Nat) (bs : List Int) : Nat → Option (Bool × List Int) := updM m (p / 1024) ((m (p / 1024)).map fun q => (q.1, splice q.2 (p % 1024) bs))
/-- how much of the data is spent, and the pages, behind some pieces -/
def stF (m : Nat → Option (Bool × List Int)) (a n : Nat) (ys : List Int) (pre : List { d : Nat // d < n }) : Nat × (Nat → Option (Bool × List Int)) :=
  pre.foldl (fun s x => (s.1 + min (plen a n x.1) (n - s.1), layM s.2 (a + x.1) ((ys.drop s.1).take (min (plen a n x.1) (n - s.1))))) (0, m)
theorem stF_snoc (m : Nat → Option (Bool × List Int)) (a n : Nat) (ys : List Int) (pre : List { d : Nat // d < n }) (x : { d : Nat // d < n }) :
    stF m a n ys (pre ++ [x]) = ((stF m a n ys pre).1 + min (plen a n x.1) (n - (stF m a n ys pre).1), layM (stF m a n ys pre).2 (a + x.1) ((ys.drop (stF m a n ys pre).1).take (min (plen a n x.1) (n - (stF m a n ys pre).1)))) := by
  simp [stF]
theorem stF_le0 (a n : Nat) (ys : List Int) : ∀ (pre : List { d : Nat // d < n }) (s : Nat × (Nat → Option (Bool × List Int))), s.1 ≤ n → (pre.foldl (fun s x => (s.1 + min (plen a n x.1) (n - s.1), layM s.2 (a + x.1) ((ys.drop s.1).take (min (plen a n x.1) (n - s.1))))) s).1 ≤ n
  | [], s, h => h
  | x :: pre, s, h => by
    rw [List.foldl_cons]
    exact stF_le0 a n ys pre _ (by dsimp only; omega)
theorem stF_le (m : Nat → Option (Bool × List Int)) (a n : Nat) (ys : List Int) (pre : List { d : Nat // d < n }) : (stF m a n ys pre).1 ≤ n := stF_le0 a n ys pre _ (Nat.zero_le _)
theorem plen_page (a n d : Nat) : (a + d) % 1024 + plen a n d ≤ 1024 := by unfold plen; omega
/-- all pages are of 1024 bytes -/
def Full (m : Nat → Option (Bool × List Int)) : Prop := ∀ k q, m k = some q → q.2.length = 1024
theorem splice_len (xs zs : List Int) (off : Nat) (h : off + zs.length ≤ xs.length) : (splice xs off zs).length = xs.length := length_splice _ _ _ h
theorem Full.lay {m : Nat → Option (Bool × List Int)} (h : Full m) (p : Nat) (bs : List Int) (hb : p % 1024 + bs.length ≤ 1024) : Full (layM m p bs) := by
  intro k q e
  unfold layM at e
  by_cases hk : k = p / 1024
  · subst hk
    rw [updM_same] at e
    cases hm : m (p / 1024) with
    | none => rw [hm] at e; cases e
    | some r =>
      rw [hm] at e
      simp only [Option.map_some, Option.some.injEq] at e
      subst e
      dsimp only
      rw [splice_len _ _ _ (by rw [h _ _ hm]; exact hb)]
      exact h _ _ hm
  · rw [updM_other _ _ _ _ hk] at e
    exact h k q e
theorem Full.store {m : Nat → Option (Bool × List Int)} (h : Full m) (a : Nat) (ys : List Int) : ∀ k, Full (storeM m a ys k)
  | 0 => h
  | k + 1 => by
    intro j q e
    have ih := Full.store h a ys k
    have e' : putM (storeM m a ys k) (a + k) (ys[k]?.getD 0) j = some q := e
    unfold putM at e'
    by_cases hk : j = (a + k) / 1024
    · subst hk
      rw [updM_same] at e'
      cases hm : storeM m a ys k ((a + k) / 1024) with
      | none => rw [hm] at e'; cases e'
      | some r =>
        rw [hm] at e'
        simp only [Option.map_some, Option.some.injEq] at e'
        subst e'
        simp
        exact ih _ _ hm
    · rw [updM_other _ _ _ _ hk] at e'
      exact ih j q e'
theorem Got.stF {m : Nat → Option (Bool × List Int)} {a n : Nat} {ys : List Int} {pre : List { d : Nat // d < n }} {d : Nat} (hl : ys.length = n) (hm : Full m) (hs : ∀ d, d < n → (m ((a + d) / 1024)).isSome = true) (h : Got a n pre d) : stF m a n ys pre = (d, storeM m a ys d) := by
  induction h with
  | zero => rfl
  | @next pre d h hd ih =>
    rw [stF_snoc, ih]
    have h1 := plen_le (a := a) hd
    have e1 : min (plen a n d) (n - d) = plen a n d := by omega
    dsimp only
    rw [e1]
    congr 1
    have hsome : (storeM m a ys d ((a + d) / 1024)).isSome = true := by
      have : ∀ k j, (storeM m a ys k j).isSome = (m j).isSome := by
        intro k
        induction k with
        | zero => intro j; rfl
        | succ k ih =>
          intro j
          show (putM (storeM m a ys k) (a + k) (ys[k]?.getD 0) j).isSome = _
          unfold putM
          by_cases e : j = (a + k) / 1024
          · subst e; rw [updM_same, Option.isSome_map]; exact ih _
          · rw [updM_other _ _ _ _ e]; exact ih j
      rw [this]; exact hs d hd
    obtain ⟨q, hq⟩ := Option.isSome_iff_exists.1 hsome
    obtain ⟨lk, xs⟩ := q
    have hx := (hm.store a ys d) _ _ hq
    rw [storeM_piece m a ys d lk xs hx hq (plen a n d) (plen_page a n d) (by omega)]
    unfold layM
    rw [hq]
    rfl
end Go.Proofs.Ytamfbplchblkbaa
