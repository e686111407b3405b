import Derived.Test.YthcimbocchoehaaWalkH
import Derived.Laws.BitsAllLaws
namespace Go.Proofs.Ythcimbocchoehaa

/-- two words with the same bits are one -/
theorem word_ext (y z : Int) (hy : 0 ≤ y) (hy' : y ≤ 18446744073709551615) (hz : 0 ≤ z) (hz' : z ≤ 18446744073709551615) (h : ∀ j, j < 64 → wbit y j = wbit z j) : y = z := by
  obtain ⟨a, rfl⟩ := Int.eq_ofNat_of_zero_le hy
  obtain ⟨b, rfl⟩ := Int.eq_ofNat_of_zero_le hz
  congr 1
  apply Nat.eq_of_testBit_eq
  intro i
  by_cases hi : i < 64
  · have := h i hi
    rwa [wbit_nat _ _ hy, wbit_nat _ _ hz] at this
  · have ha : a < 2 ^ 64 := by omega
    have hb : b < 2 ^ 64 := by omega
    have hp : 2 ^ 64 ≤ 2 ^ i := Nat.pow_le_pow_right (by decide) (by omega)
    rw [Nat.testBit_lt_two_pow (Nat.lt_of_lt_of_le ha hp), Nat.testBit_lt_two_pow (Nat.lt_of_lt_of_le hb hp)]

theorem words_ext (ys zs : List Int) (hy : Wf ys) (hz : Wf zs) (hl : ys.length = zs.length) (h : ∀ k, k < 64 * zs.length → bitAt ys k = bitAt zs k) : ys = zs := by
  apply List.ext_getElem?
  intro i
  by_cases hi : i < zs.length
  · have e : ys[i]?.getD 0 = zs[i]?.getD 0 := word_ext _ _ (hy i).1 (hy i).2 (hz i).1 (hz i).2 (fun j hj => by
      have := h (64 * i + j) (by omega)
      unfold bitAt at this
      rwa [show (64 * i + j) / 64 = i by omega, show (64 * i + j) % 64 = j by omega] at this)
    rw [getD_some ys i (by omega), getD_some zs i hi, e]
  · rw [List.getElem?_eq_none (by omega), List.getElem?_eq_none (by omega)]

/-- a word with bit r on, off -/
def wput (z : Int) (r : Nat) (on : Bool) : Int := if on then bits .or .u64 z (IntKind.u64.wrap (2 ^ r)) else bits .andNot .u64 z (IntKind.u64.wrap (2 ^ r))

theorem pow_lt (r : Nat) (h : r < 64) : (2 : Nat) ^ r < 18446744073709551616 := Nat.pow_lt_pow_right (by decide) h
theorem wrap_pow (r : Nat) (h : r < 64) : IntKind.u64.wrap (2 ^ r) = ((2 ^ r : Nat) : Int) := by
  have := pow_lt r h
  have e : (2 : Int) ^ r = ((2 ^ r : Nat) : Int) := by simp
  rw [IntKind.wrap_u64, e]
  generalize (2 : Nat) ^ r = p at *
  omega

theorem wput_on (z : Int) (r : Nat) (h : r < 64) (h0 : 0 ≤ z) (h1 : z ≤ 18446744073709551615) : wput z r true = ((z.toNat ||| 2 ^ r : Nat) : Int) := by
  obtain ⟨a, rfl⟩ := Int.eq_ofNat_of_zero_le h0
  unfold wput
  rw [if_pos rfl, wrap_pow r h, u64_or_nat a (2 ^ r) (by omega) (pow_lt r h), Int.toNat_natCast]
theorem wput_off (z : Int) (r : Nat) (h : r < 64) (h0 : 0 ≤ z) (h1 : z ≤ 18446744073709551615) : wput z r false = ((z.toNat &&& (18446744073709551615 - 2 ^ r) : Nat) : Int) := by
  obtain ⟨a, rfl⟩ := Int.eq_ofNat_of_zero_le h0
  unfold wput
  rw [if_neg (by decide), wrap_pow r h, u64_andNot_nat a (2 ^ r) (by omega) (pow_lt r h), Int.toNat_natCast]

theorem wput_wf (z : Int) (r : Nat) (on : Bool) (h : r < 64) (h0 : 0 ≤ z) (h1 : z ≤ 18446744073709551615) : 0 ≤ wput z r on ∧ wput z r on ≤ 18446744073709551615 := by
  cases on
  · rw [wput_off z r h h0 h1]
    have := Nat.and_le_left (n := z.toNat) (m := 18446744073709551615 - 2 ^ r)
    omega
  · rw [wput_on z r h h0 h1]
    have h2 : z.toNat ||| 2 ^ r < 2 ^ 64 := Nat.or_lt_two_pow (by omega) (by have := pow_lt r h; omega)
    omega

theorem wput_bit (z : Int) (r : Nat) (on : Bool) (h : r < 64) (h0 : 0 ≤ z) (h1 : z ≤ 18446744073709551615) (j : Nat) (hj : j < 64) : wbit (wput z r on) j = if j = r then on else wbit z j := by
  rw [wbit_nat _ _ (wput_wf z r on h h0 h1).1, wbit_nat _ _ h0]
  cases on
  · rw [wput_off z r h h0 h1, Int.toNat_natCast, Nat.testBit_and, show 18446744073709551615 - 2 ^ r = 2 ^ 64 - (2 ^ r + 1) by omega, Nat.testBit_two_pow_sub_succ (pow_lt r h), Nat.testBit_two_pow]
    by_cases e : j = r
    · subst e; simp
    · have : ¬ r = j := fun h => e h.symm
      simp [e, this, hj]
  · rw [wput_on z r h h0 h1, Int.toNat_natCast, Nat.testBit_or, Nat.testBit_two_pow]
    by_cases e : j = r
    · subst e; simp
    · have : ¬ r = j := fun h => e h.symm
      simp [e, this]

/-- BitsPut's words -/
def putZ (zs : List Int) (i : Nat) (on : Bool) : List Int := zs.set (i / 64) (wput (zs[i / 64]?.getD 0) (i % 64) on)
theorem putZ_len (zs : List Int) (i : Nat) (on : Bool) : (putZ zs i on).length = zs.length := by simp [putZ]
theorem putZ_wf (zs : List Int) (hw : Wf zs) (i : Nat) (on : Bool) : Wf (putZ zs i on) := by
  intro j
  unfold putZ
  rw [List.getElem?_set]
  split
  · split
    · exact wput_wf _ _ _ (by omega) (hw _).1 (hw _).2
    · simp
  · exact hw j
theorem putZ_bit (zs : List Int) (hw : Wf zs) (i : Nat) (on : Bool) (hi : i < 64 * zs.length) (j : Nat) (hj : j < 64 * zs.length) : bitAt (putZ zs i on) j = if j = i then on else bitAt zs j := by
  unfold bitAt putZ
  rw [List.getElem?_set]
  by_cases e : i / 64 = j / 64
  · rw [if_pos e, if_pos (by omega)]
    simp only [Option.getD_some]
    rw [wput_bit _ _ _ (by omega) (hw _).1 (hw _).2 _ (by omega), e]
    by_cases e2 : j = i
    · subst e2; simp
    · rw [if_neg (by omega), if_neg e2]
  · rw [if_neg e, if_neg (by intro h; subst h; exact e rfl)]

/-- the words of a list of truth values, k of them done -/
def WordsTo (q : List Bool) (ys : List Int) (k : Nat) : Prop := ys.length = (q.length + 63) / 64 ∧ Wf ys ∧ ∀ j, j < 64 * ys.length → bitAt ys j = (decide (j < k) && q[j]?.getD false)

theorem wordsTo_zero (q : List Bool) : WordsTo q (List.replicate ((q.length + 63) / 64) 0) 0 := by
  refine ⟨by simp, fun i => ?_, fun j hj => ?_⟩
  · rw [List.getElem?_replicate]; split <;> simp
  · unfold bitAt
    rw [List.getElem?_replicate]
    split <;> simp [wbit]
theorem wordsTo_off (q : List Bool) (ys : List Int) (k : Nat) (h : WordsTo q ys k) (hk : k < q.length) (hq : q[k]?.getD false = false) : WordsTo q ys (k + 1) := by
  refine ⟨h.1, h.2.1, fun j hj => ?_⟩
  rw [h.2.2 j hj]
  by_cases e : j = k
  · subst e; simp [hq]
  · rw [show decide (j < k + 1) = decide (j < k) from by simp; omega]
theorem wordsTo_on (q : List Bool) (ys : List Int) (k : Nat) (h : WordsTo q ys k) (hk : k < q.length) (hq : q[k]?.getD false = true) : WordsTo q (putZ ys k true) (k + 1) := by
  have hl := h.1
  refine ⟨by rw [putZ_len]; exact hl, putZ_wf ys h.2.1 k true, fun j hj => ?_⟩
  rw [putZ_len] at hj
  rw [putZ_bit ys h.2.1 k true (by omega) j hj]
  by_cases e : j = k
  · subst e; simp [hq]
  · rw [if_neg e, h.2.2 j hj, show decide (j < k + 1) = decide (j < k) from by simp; omega]

/-- spec's words are impl's -/
theorem words_put (zs : List Int) (hw : Wf zs) (n i : Nat) (on : Bool) (hn : n ≤ 4096) (hl : zs.length = (n + 63) / 64) (hg : goodB zs n = true) (hi : i < n) (ys : List Int) (h : WordsTo ((bitsOf zs n).set i on) ys n) : ys = putZ zs i on := by
  have hl2 := h.1
  rw [List.length_set, bitsOf_len] at hl2
  refine words_ext ys _ h.2.1 (putZ_wf zs hw i on) (by rw [putZ_len]; omega) fun j hj => ?_
  rw [putZ_len] at hj
  rw [h.2.2 j (by omega), putZ_bit zs hw i on (by omega) j hj, List.getElem?_set]
  by_cases e : j = i
  · subst e
    simp [hi, bitsOf_len]
  · rw [if_neg (fun h => e h.symm), if_neg e]
    by_cases hj2 : j < n
    · rw [bitsOf_get zs n j hj2]; simp [hj2]
    · rw [(goodB_iff zs n hn hl).1 hg j (by omega) hj]; simp [hj2]
end Go.Proofs.Ythcimbocchoehaa
