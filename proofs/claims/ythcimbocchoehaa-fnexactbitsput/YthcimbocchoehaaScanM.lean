import Derived.Test.YthcimbocchoehaaWalkF
namespace Go.Proofs.Ythcimbocchoehaa

/-- going round: from place j behind s on, f places at most -/
def scanF (zs : List Int) (n s : Nat) : Nat → Nat → Int
  | 0, _ => -1
  | f + 1, j => if bitAt zs ((s + j) % n) then scanF zs n s f (j + 1) else ((s + j) % n : Nat)

theorem scanF_skip (zs : List Int) (n s : Nat) : ∀ d f j, (∀ j', j ≤ j' → j' < j + d → bitAt zs ((s + j') % n) = true) → scanF zs n s (d + f) j = scanF zs n s f (j + d)
  | 0, f, j, _ => by simp
  | d + 1, f, j, h => by
    rw [show d + 1 + f = (d + f) + 1 by omega, scanF, h j (Nat.le_refl _) (by omega), if_pos rfl, scanF_skip zs n s d f (j + 1) (fun j' h1 h2 => h j' (by omega) (by omega)), show j + 1 + d = j + (d + 1) by omega]

/-- BitsScan, as a function of the words -/
def scanB (zs : List Int) (n s : Int) : Int := if goodB zs n && decide (0 ≤ s) && decide (s < n) then scanF zs n.toNat s.toNat n.toNat 0 else -1

theorem scan_at (zs : List Int) (n s j : Nat) (hj : j < n) (h : ∀ j', j' < j → bitAt zs ((s + j') % n) = true) (ho : bitAt zs ((s + j) % n) = false) : scanF zs n s n 0 = ((s + j) % n : Nat) := by
  have := scanF_skip zs n s j (n - j) 0 (fun j' _ h2 => h j' (by omega))
  rw [show j + (n - j) = n by omega] at this
  rw [this, show n - j = (n - j - 1) + 1 by omega, Nat.zero_add, scanF, ho]
  rfl

theorem scan_none (zs : List Int) (n s : Nat) (h : ∀ j', j' < n → bitAt zs ((s + j') % n) = true) : scanF zs n s n 0 = -1 := by
  have := scanF_skip zs n s n 0 0 (fun j' _ h2 => h j' (by omega))
  rw [Nat.add_zero] at this
  rw [this]
  rfl

/-- what has been seen to be on when word u (counted on and on from the first) begins -/
def Seen (zs : List Int) (n s len u : Nat) : Prop := ∀ p, p < n → (s ≤ p ∧ p < 64 * u) ∨ (len ≤ u ∧ p < 64 * (u - len)) → bitAt zs p = true
/-- and within it, up to place i -/
def SeenIn (zs : List Int) (n s len u a i : Nat) : Prop := Seen zs n s len u ∧ ∀ p, p < n → 64 * a ≤ p → p < i → (u ≠ s / 64 ∨ s ≤ p) → bitAt zs p = true

theorem seen_zero (zs : List Int) (n s len : Nat) (hs : s / 64 < len) : Seen zs n s len (s / 64) := by
  intro p hp h
  omega

theorem seen_next (zs : List Int) (n s len u a i : Nat) (hl : len = (n + 63) / 64) (hs : s / 64 < len) (ha : a = if u < len then u else u - len) (hu : s / 64 ≤ u) (h : SeenIn zs n s len u a i) (hi : n ≤ i ∨ 64 * (a + 1) ≤ i) : Seen zs n s len (u + 1) := by
  intro p hp h1
  rcases Nat.lt_or_ge u len with hlt | hge
  · rw [if_pos hlt] at ha
    subst ha
    by_cases hp1 : s ≤ p ∧ p < 64 * a
    · exact h.1 p hp (.inl hp1)
    · exact h.2 p hp (by omega) (by omega) (by omega)
  · rw [if_neg (by omega)] at ha
    by_cases hp1 : (s ≤ p ∧ p < 64 * u) ∨ (len ≤ u ∧ p < 64 * (u - len))
    · exact h.1 p hp hp1
    · exact h.2 p hp (by omega) (by omega) (by omega)

theorem scan_found (zs : List Int) (n s len u a i : Nat) (hl : len = (n + 63) / 64) (hs : s < n) (ha : a = if u < len then u else u - len) (hu : s / 64 ≤ u) (hu2 : u ≤ s / 64 + len) (h : SeenIn zs n s len u a i) (hi : i < n) (h1 : 64 * a ≤ i) (h2 : i < 64 * (a + 1)) (h3 : u ≠ s / 64 ∨ s ≤ i) (ho : bitAt zs i = false) :
    scanF zs n s n 0 = i := by
  rcases Nat.lt_or_ge u len with hlt | hge
  · rw [if_pos hlt] at ha
    subst ha
    have hsi : s ≤ i := by omega
    have := scan_at zs n s (i - s) (by omega) (fun j' hj' => by
      rw [Nat.mod_eq_of_lt (by omega)]
      by_cases hp1 : s + j' < 64 * a
      · exact h.1 _ (by omega) (.inl ⟨by omega, hp1⟩)
      · exact h.2 _ (by omega) (by omega) (by omega) (by omega)) (by rw [Nat.mod_eq_of_lt (by omega), show s + (i - s) = i by omega]; exact ho)
    rw [this, Nat.mod_eq_of_lt (by omega), show s + (i - s) = i by omega]
  · rw [if_neg (by omega)] at ha
    have hon : ∀ p, p < n → s ≤ p → bitAt zs p = true := fun p hp hsp => h.1 p hp (.inl ⟨hsp, by omega⟩)
    have his : i < s := by
      rcases Nat.lt_or_ge i s with h' | h'
      · exact h'
      · rw [hon i hi h'] at ho; cases ho
    have e : (s + (n - s + i)) % n = i := by
      rw [show s + (n - s + i) = i + n by omega, Nat.add_mod_right, Nat.mod_eq_of_lt hi]
    have := scan_at zs n s (n - s + i) (by omega) (fun j' hj' => by
      by_cases hw : s + j' < n
      · rw [Nat.mod_eq_of_lt hw]; exact hon _ hw (by omega)
      · rw [show s + j' = (s + j' - n) + n by omega, Nat.add_mod_right, Nat.mod_eq_of_lt (by omega)]
        by_cases hp1 : s + j' - n < 64 * (u - len)
        · exact h.1 _ (by omega) (.inr ⟨hge, hp1⟩)
        · exact h.2 _ (by omega) (by omega) (by omega) (by omega)) (by rw [e]; exact ho)
    rw [this, e]

theorem scan_end (zs : List Int) (n s len : Nat) (hl : len = (n + 63) / 64) (hs : s < n) (h : Seen zs n s len (s / 64 + (len + 1))) : scanF zs n s n 0 = -1 := by
  refine scan_none zs n s fun j' hj => ?_
  have hm : (s + j') % n < n := Nat.mod_lt _ (by omega)
  generalize (s + j') % n = p at hm
  rcases Nat.lt_or_ge p s with h' | h'
  · exact h p hm (.inr ⟨by omega, by omega⟩)
  · exact h p hm (.inl ⟨h', by omega⟩)
end Go.Proofs.Ythcimbocchoehaa
