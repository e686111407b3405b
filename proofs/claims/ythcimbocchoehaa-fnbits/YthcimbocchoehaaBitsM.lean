import Derived.Test.YthcimbocchoehaaPutM
import Derived.Test.YthcimbocchoehaaFreeM
import Derived.Test.YthcimbocchoehaaWalkL
import Derived.Test.YthcimbocchoehaaWalkJ
namespace Go.Proofs.Ythcimbocchoehaa
set_option linter.unusedVariables false

theorem put_good {zs : List Int} (hw : Wf zs) {n i : Nat} (hn : n ≤ 4096) (hl : zs.length = (n + 63) / 64) (hg : goodB zs n = true) (hi : i < n) (b : Bool) : goodB (putZ zs i b) n = true := by
  rw [goodB_iff _ n hn (by rw [putZ_len]; exact hl)]
  intro k h1 h2
  rw [putZ_len] at h2
  rw [putZ_bit zs hw i b (by omega) k h2, if_neg (by omega)]
  exact (goodB_iff zs n hn hl).1 hg k h1 h2

theorem put_bit {zs : List Int} (hw : Wf zs) {n i : Nat} (hn : n ≤ 4096) (hl : zs.length = (n + 63) / 64) (hg : goodB zs n = true) (hi : i < n) (b : Bool) (j : Nat) (hj : j < n) : bitAt (putZ zs i b) j = if j = i then b else bitAt zs j := putZ_bit zs hw i b (by omega) j (by omega)

theorem put_cnt {zs : List Int} (hw : Wf zs) {n i : Nat} (hn : n ≤ 4096) (hl : zs.length = (n + 63) / 64) (hg : goodB zs n = true) (hi : i < n) (b : Bool) : ∀ m, m ≤ n → cntTo (putZ zs i b) m + (if i < m then (bitAt zs i).toNat else 0) = cntTo zs m + (if i < m then b.toNat else 0)
  | 0, _ => by simp [cntTo]
  | m + 1, h => by
    have ih := put_cnt hw hn hl hg hi b m (by omega)
    rw [cntTo, cntTo, put_bit hw hn hl hg hi b m (by omega)]
    by_cases e : m = i
    · subst e
      simp only [Nat.lt_irrefl, if_false, Nat.add_zero, Nat.lt_succ_self, if_true] at ih ⊢
      omega
    · rw [if_neg e]
      by_cases h1 : i < m
      · rw [if_pos h1, if_pos h1] at ih
        rw [if_pos (by omega), if_pos (by omega)]
        omega
      · rw [if_neg h1, if_neg h1] at ih
        rw [if_neg (by omega), if_neg (by omega)]
        omega

theorem put_frees {zs : List Int} (hw : Wf zs) {n i : Nat} (hn : n ≤ 4096) (hl : zs.length = (n + 63) / 64) (hg : goodB zs n = true) (hi : i < n) (b : Bool) : ∀ m, m ≤ i → frees (putZ zs i b) m = frees zs m
  | 0, _ => rfl
  | m + 1, h => by
    have ih := put_frees hw hn hl hg hi b m (by omega)
    have hb := put_bit hw hn hl hg hi b m (by omega)
    rw [if_neg (by omega)] at hb
    cases h2 : bitAt zs m
    · rw [frees_off _ _ (by rw [hb]; exact h2), frees_off _ _ h2, ih]
    · rw [frees_on _ _ (by rw [hb]; exact h2), frees_on _ _ h2, ih]

theorem free_off {zs : List Int} (hw : Wf zs) {n i : Nat} (hn : n ≤ 4096) (hl : zs.length = (n + 63) / 64) (hg : goodB zs n = true) (hi : i < n) : freeB (putZ (putZ zs i true) i false) n ((frees zs i).length : Nat) = i := by
  have hw1 := putZ_wf zs hw i true
  have hl1 : (putZ zs i true).length = (n + 63) / 64 := by rw [putZ_len]; exact hl
  have hg1 := put_good hw hn hl hg hi true
  refine freeB_some _ n _ (i + 1) i (put_good hw1 hn hl1 hg1 hi false) (by omega) ?_
  rw [frees_off _ _ (by rw [put_bit hw1 hn hl1 hg1 hi false i hi, if_pos rfl]), put_frees hw1 hn hl1 hg1 hi false i (Nat.le_refl _), put_frees hw hn hl hg hi true i (Nat.le_refl _)]
  simp

theorem mem_frees (ys : List Int) (m : Nat) (x : Int) (h : x ∈ frees ys m) : ∃ j : Nat, j < m ∧ x = j ∧ bitAt ys j = false := by
  simp only [frees, List.mem_map, List.mem_filter, List.mem_range, Bool.not_eq_true'] at h
  obtain ⟨j, ⟨h1, h2⟩, rfl⟩ := h
  exact ⟨j, h1, rfl, h2⟩

theorem free_on {zs : List Int} (hw : Wf zs) {n i : Nat} (hn : n ≤ 4096) (hl : zs.length = (n + 63) / 64) (hg : goodB zs n = true) (hi : i < n) (k : Nat) : freeB (putZ zs i true) n k ≠ i := by
  unfold freeB
  rw [if_pos (by simp [put_good hw hn hl hg hi true]), Int.toNat_natCast, Int.toNat_natCast]
  cases h : (frees (putZ zs i true) n)[k]? with
  | none => simp
  | some x =>
    simp only [Option.getD_some]
    intro e
    obtain ⟨j, h1, h2, h3⟩ := mem_frees _ n x (List.mem_of_getElem? h)
    have : j = i := by omega
    subst this
    rw [put_bit hw hn hl hg hi true j h1, if_pos rfl] at h3
    cases h3

theorem scan_first (ys : List Int) (n i : Nat) (hg : goodB ys n = true) (hi : i < n) (ho : bitAt ys i = false) : scanB ys n i = i := by
  unfold scanB
  rw [if_pos (by simp [hg, hi]), Int.toNat_natCast, Int.toNat_natCast]
  have := scan_at ys n i 0 (by omega) (fun j hj => by omega) (by rw [Nat.add_zero, Nat.mod_eq_of_lt hi]; exact ho)
  rw [this, Nat.add_zero, Nat.mod_eq_of_lt hi]

theorem cnt_full (ys : List Int) : ∀ m, (∀ j, j < m → bitAt ys j = true) → cntTo ys m = m
  | 0, _ => rfl
  | m + 1, h => by
    rw [cntTo, cnt_full ys m (fun j hj => h j (by omega)), h m (by omega)]; rfl
theorem cnt_less (ys : List Int) : ∀ m j, j < m → bitAt ys j = false → cntTo ys m < m
  | m + 1, j, h, ho => by
    rw [cntTo]
    by_cases e : j = m
    · subst e
      rw [ho]
      have := cntTo_le ys j
      simp; omega
    · have := cnt_less ys m j (by omega) ho
      have h2 := Bool.toNat_le (bitAt ys m)
      omega

/-- a scan's answer: none just where all bits are on; else a free place -/
theorem scan_kind (ys : List Int) (n i : Nat) (hg : goodB ys n = true) (hi : i < n) :
    (scanB ys n i = -1 ∧ cntTo ys n = n) ∨ ∃ j : Nat, j < n ∧ scanB ys n i = j ∧ bitAt ys j = false ∧ cntTo ys n ≠ n := by
  unfold scanB
  rw [if_pos (by simp [hg, hi]), Int.toNat_natCast, Int.toNat_natCast]
  by_cases h : ∀ j, j < n → bitAt ys ((i + j) % n) = true
  · left
    refine ⟨scan_none ys n i h, cnt_full ys n fun p hp => ?_⟩
    have h1 := h ((p + (n - i)) % n) (Nat.mod_lt _ (by omega))
    rw [Nat.add_mod_mod, show i + (p + (n - i)) = p + n by omega, Nat.add_mod_right, Nat.mod_eq_of_lt hp] at h1
    exact h1
  · right
    have hex : ∃ j, j < n ∧ bitAt ys ((i + j) % n) = false ∧ ∀ j', j' < j → bitAt ys ((i + j') % n) = true := by
      have := Classical.not_forall.1 h
      obtain ⟨j, hj⟩ := this
      have hj1 : j < n := Classical.byContradiction fun hc => hj fun h => absurd h hc
      have hj2 : bitAt ys ((i + j) % n) = false := by
        cases hb : bitAt ys ((i + j) % n)
        · rfl
        · exact absurd (fun _ => hb) hj
      clear hj h
      induction j using Nat.strongRecOn with
      | _ j ih =>
        by_cases hm : ∃ j', j' < j ∧ bitAt ys ((i + j') % n) = false
        · obtain ⟨j', h1, h2⟩ := hm
          exact ih j' h1 (by omega) h2
        · refine ⟨j, hj1, hj2, fun j' h1 => ?_⟩
          cases hb : bitAt ys ((i + j') % n)
          · exact absurd ⟨j', h1, hb⟩ hm
          · rfl
    obtain ⟨j, h1, h2, h3⟩ := hex
    refine ⟨(i + j) % n, Nat.mod_lt _ (by omega), scan_at ys n i j h1 h3 h2, h2, ?_⟩
    have := cnt_less ys n _ (Nat.mod_lt _ (by omega)) h2
    omega

theorem has_eq (ys : List Int) (n : Nat) (j : Int) (hg : goodB ys n = true) (k : Nat) (hj : j = k) (hk : k < n) : hasB ys n j = bitAt ys k := by
  subst hj
  unfold hasB
  rw [hg, Int.toNat_natCast, show decide (0 ≤ (k : Int)) = true by simp, show decide ((k : Int) < (n : Int)) = true by simp; omega]
  rfl
theorem count_eq (ys : List Int) (n : Nat) (hg : goodB ys n = true) : countB ys n = cntTo ys n := by
  unfold countB; rw [hg]; rfl
end Go.Proofs.Ythcimbocchoehaa
