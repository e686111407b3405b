import Derived.Test.YtamfbplchblkbaaSpP
import Derived.Test.YtamfbplchblkbaaSpQ
namespace Go.Proofs.Ytamfbplchblkbaa
open Go.RowKit Go.Shelf
set_option linter.unusedVariables false

/-- the pages are all committed (b), or all not -/
def allBb (m : Nat → Option (Bool × List Int)) (p : Nat) (b : Bool) : Nat → Bool
  | 0 => true
  | k + 1 => allBb m p b k && ((m (p + k)).isSome == b)
theorem allBb_iff (m : Nat → Option (Bool × List Int)) (p : Nat) (b : Bool) : ∀ c, allBb m p b c = true ↔ allB m p c b
  | 0 => ⟨fun _ j hj => by omega, fun _ => rfl⟩
  | k + 1 => by
    have ih := allBb_iff m p b k
    simp only [allBb, Bool.and_eq_true, beq_iff_eq]
    constructor
    · rintro ⟨h1, h2⟩ j hj
      by_cases e : j = k
      · subst e; exact h2
      · exact ih.1 h1 j (by omega)
    · intro h
      exact ⟨ih.2 (fun j hj => h j (by omega)), h k (by omega)⟩

instance (nn : Nat) (p c : Int) : Decidable (okP nn p c) := by unfold okP; infer_instance

/-- what a page operation does, by the document -/
def pageM (n : Nat) (bud : Int) (m : Nat → Option (Bool × List Int)) (kd : Int) (p c : Nat) : (Nat → Option (Bool × List Int)) × Int :=
  if kd = 0 then
    if allBb m p false c = false then (m, 6) else if bud < (cntM m n : Int) + c then (m, 1) else (freshM m p c, 0)
  else if allBb m p true c = false then (m, 6)
  else if kd = 1 then (goneM m p c, 0)
  else if kd = 2 then (lockedM m p true c, 0) else (lockedM m p false c, 0)
/-- what an operation does, by the document: the pages behind it, the code, the bytes -/
def stepM (n : Nat) (bud : Int) (m : Nat → Option (Bool × List Int)) (kd p c : Int) (a : Nat) (len : Int) (ys : List Int) : (Nat → Option (Bool × List Int)) × Int × List Int :=
  if kd = 4 then (m, accC m a len, if accC m a len = 0 then loadB m a len.toNat else [])
  else if kd = 5 then (if accC m a (ys.length : Int) = 0 then storeM m a ys ys.length else m, accC m a (ys.length : Int), [])
  else if kd < 0 ∨ 5 < kd then (m, 6, [])
  else if okP n p c then ((pageM n bud m kd p.toNat c.toNat).1, (pageM n bud m kd p.toNat c.toNat).2, [])
  else (m, 6, [])

/-- an answer -/
def Ans (Q : Nat) (w w' : World) (e : Ending) (code : Int) (data : List Int) : Prop := ∃ v, e = .returned (.agg #[.int .i64 code, v]) ∧ w'.ownsRow w.heap.size 5 1 v data.length (Ns .u8 data) ∧ ∀ g, v.ownBlock = some g → ¬ IsPg Q w' g
theorem Ans.none (Q : Nat) (w w' : World) (code : Int) : Ans Q w w' (.returned (.agg #[.int .i64 code, .slice none 0 0])) code [] := ⟨_, rfl, ⟨rfl, .inl ⟨rfl, rfl⟩⟩, fun g h => by cases h⟩
theorem Sx.pgs {T Q n : Nat} {bud : Int} {m : Nat → Option (Bool × List Int)} {W : World} (h : Sx T Q n bud m W) {g : Nat} (hg : IsPg Q W g) : g < W.heap.size := by
  obtain ⟨k, hk⟩ := hg
  obtain ⟨c, h1, h2, _⟩ := h.row
  have e0 : c[k * 3 + 2]? = some (.slice (some ⟨g, 0, none⟩) 1024 1024) := by simpa [World.cell?, h1] using hk
  have hkn : k < n := by
    by_cases hl : k < n
    · exact hl
    · rw [Array.getElem?_eq_none (by omega)] at e0; cases e0
  exact h.pglt hkn hk

theorem sp_page (T Q nn : Nat) (bud : Int) (m : Nat → Option (Bool × List Int)) (kd : Int) (p c : Nat) (a : Nat) (n : Int) (d : Option Addr) (dl dc : Nat) (w : World) (hs : Sx T Q nn bud m w) (hnn : nn ≤ 4096) (hk : kd = 0 ∨ kd = 1 ∨ kd = 2 ∨ kd = 3) (h1 : 1 ≤ c) (h2 : p + c ≤ nn) :
    Calls Try.prog 23 #[.pointer (some ⟨T, 0, none⟩), opV kd p c a n d dl dc] w fun e w' => Ans Q w w' e (pageM nn bud m kd p c).2 [] ∧ Sx T Q nn bud (pageM nn bud m kd p c).1 w' ∧ Sf Q w w' := by
  have hQ := hs.ltQ
  rcases hk with rfl | rfl | rfl | rfl
  · refine (do_commit T Q nn bud m p c a n d dl dc w hs hnn h1 h2).mono ?_
    rintro e w' (⟨g1, rfl, hb⟩ | ⟨g1, g2, rfl, hb⟩ | ⟨g1, g2, rfl, s3, f3⟩)
    · have e0 : allBb m p false c = false := by cases h : allBb m p false c with | false => rfl | true => exact absurd ((allBb_iff m p false c).1 h) g1
      simp only [pageM, if_true, e0]
      exact ⟨Ans.none _ _ _ _, hs.below hb, Sf.ofBelow hb hQ⟩
    · have e0 : allBb m p false c = true := (allBb_iff m p false c).2 g1
      simp only [pageM, if_true, e0, if_pos g2, Bool.true_eq_false, if_false]
      exact ⟨Ans.none _ _ _ _, hs.below hb, Sf.ofBelow hb hQ⟩
    · have e0 : allBb m p false c = true := (allBb_iff m p false c).2 g1
      simp only [pageM, if_true, e0, if_neg (show ¬ bud < (cntM m nn : Int) + c by omega), Bool.true_eq_false, if_false]
      exact ⟨Ans.none _ _ _ _, s3, f3⟩
  · refine (do_drop T Q nn bud m p c a n d dl dc w hs hnn h1 h2).mono ?_
    rintro e w' (⟨g1, rfl, hb⟩ | ⟨g1, rfl, s3, f3⟩)
    · have e0 : allBb m p true c = false := by cases h : allBb m p true c with | false => rfl | true => exact absurd ((allBb_iff m p true c).1 h) g1
      simp only [pageM, e0, if_true, show ¬ ((1 : Int) = 0) by omega, if_false]
      exact ⟨Ans.none _ _ _ _, hs.below hb, Sf.ofBelow hb hQ⟩
    · have e0 : allBb m p true c = true := (allBb_iff m p true c).2 g1
      simp only [pageM, e0, if_true, show ¬ ((1 : Int) = 0) by omega, if_false, Bool.true_eq_false]
      exact ⟨Ans.none _ _ _ _, s3, f3⟩
  · refine (do_lock T Q nn bud m p c a n d dl dc w hs hnn h1 h2).mono ?_
    rintro e w' (⟨g1, rfl, hb⟩ | ⟨g1, rfl, s3, f3⟩)
    · have e0 : allBb m p true c = false := by cases h : allBb m p true c with | false => rfl | true => exact absurd ((allBb_iff m p true c).1 h) g1
      simp only [pageM, e0, if_true, show ¬ ((2 : Int) = 0) by omega, if_false]
      exact ⟨Ans.none _ _ _ _, hs.below hb, Sf.ofBelow hb hQ⟩
    · have e0 : allBb m p true c = true := (allBb_iff m p true c).2 g1
      simp only [pageM, e0, if_true, show ¬ ((2 : Int) = 0) by omega, show ¬ ((2 : Int) = 1) by omega, if_false, Bool.true_eq_false]
      exact ⟨Ans.none _ _ _ _, s3, f3⟩
  · refine (do_unlock T Q nn bud m p c a n d dl dc w hs hnn h1 h2).mono ?_
    rintro e w' (⟨g1, rfl, hb⟩ | ⟨g1, rfl, s3, f3⟩)
    · have e0 : allBb m p true c = false := by cases h : allBb m p true c with | false => rfl | true => exact absurd ((allBb_iff m p true c).1 h) g1
      simp only [pageM, e0, if_true, show ¬ ((3 : Int) = 0) by omega, if_false]
      exact ⟨Ans.none _ _ _ _, hs.below hb, Sf.ofBelow hb hQ⟩
    · have e0 : allBb m p true c = true := (allBb_iff m p true c).2 g1
      simp only [pageM, e0, show ¬ ((3 : Int) = 0) by omega, show ¬ ((3 : Int) = 1) by omega, show ¬ ((3 : Int) = 2) by omega, if_false, Bool.true_eq_false]
      exact ⟨Ans.none _ _ _ _, s3, f3⟩

/-- an operation of spec's space, whole -/
theorem sp_do (T Q nn : Nat) (bud : Int) (m : Nat → Option (Bool × List Int)) (kd p c : Int) (a : Nat) (n : Int) (d : Option Addr) (dl dc : Nat) (ys : List Int) (w : World) (hs : Sx T Q nn bud m w) (hd : Dt Q w d dl ys) (hnn : nn ≤ 4096) (ha : a < 18446744073709551616) :
    Calls Try.prog 23 #[.pointer (some ⟨T, 0, none⟩), opV kd p c a n d dl dc] w fun e w' => Ans Q w w' e (stepM nn bud m kd p c a n ys).2.1 (stepM nn bud m kd p c a n ys).2.2 ∧ Sx T Q nn bud (stepM nn bud m kd p c a n ys).1 w' ∧ Sf Q w w' := by
  have hQ := hs.ltQ
  unfold stepM
  by_cases h4 : kd = 4
  · subst h4
    simp only [if_true]
    refine (do_load T Q nn bud m p c a n d dl dc w hs hnn ha _ rfl).mono ?_
    rintro e w' ⟨v, rfl, ho, hb⟩
    refine ⟨⟨v, rfl, ?_, fun g hg hp => ?_⟩, hs.below hb, Sf.ofBelow hb hQ⟩
    · have e1 : (if accC m a n = 0 then loadB m a n.toNat else []).length = (if accC m a n = 0 then n.toNat else 0) := by split <;> simp [loadB]
      rw [e1]
      exact ho
    · have h1 := own_base ho g hg
      rcases (Sf.ofBelow hb hQ).pg g hp with h2 | h2
      · have := hs.pgs h2; omega
      · obtain ⟨j, hj⟩ := hp
        have : IsPg Q w g := ⟨j, by unfold World.cell? at hj ⊢; rw [hb.block Q hQ] at hj; exact hj⟩
        have := hs.pgs this
        omega
  · rw [if_neg h4]
    by_cases h5 : kd = 5
    · subst h5
      simp only [if_true]
      have e2 := hd.hlen
      subst e2
      refine (do_store T Q nn bud m p c a n d _ dc ys w hs hd hnn ha _ rfl).mono ?_
      rintro e w' ⟨rfl, s3, f3⟩
      exact ⟨Ans.none _ _ _ _, s3, f3⟩
    · rw [if_neg h5]
      by_cases h6 : kd < 0 ∨ 5 < kd
      · rw [if_pos h6]
        refine (do_none T kd p c a n d dl dc w h6).mono ?_
        rintro e w' ⟨rfl, hb⟩
        exact ⟨Ans.none _ _ _ _, hs.below hb, Sf.ofBelow hb hQ⟩
      · rw [if_neg h6]
        have hk : kd = 0 ∨ kd = 1 ∨ kd = 2 ∨ kd = 3 := by omega
        by_cases h7 : okP nn p c
        · rw [if_pos h7]
          obtain ⟨g1, g2, g3, g4⟩ := h7
          obtain ⟨p, rfl⟩ := Int.eq_ofNat_of_zero_le g2
          obtain ⟨c, rfl⟩ := Int.eq_ofNat_of_zero_le (show 0 ≤ c by omega)
          simp only [Int.toNat_natCast]
          exact sp_page T Q nn bud m kd p c a n d dl dc w hs hnn hk (by omega) (by omega)
        · rw [if_neg h7]
          refine (do_range T Q nn bud m kd p c a n d dl dc w hs hnn hk h7).mono ?_
          rintro e w' ⟨rfl, hb⟩
          exact ⟨Ans.none _ _ _ _, hs.below hb, Sf.ofBelow hb hQ⟩
end Go.Proofs.Ytamfbplchblkbaa
