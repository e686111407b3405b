import Derived.Test.YtnhkifinfnobfaaWaR
namespace Go.Proofs.Ytnhkifinfnobfaa
open Go.ChangeShapes Go.WideShapes Go.ChangeAt Go.RowKit
set_option linter.unusedVariables false

/-- a slice that stands for itself: nil, or a row -/
def Os (w : World) (a : Option Addr) (c : Nat) (zs : List Int) : Prop := (a = none ∧ c = 0 ∧ zs = []) ∨ ∃ g, a = some ⟨g, 0, none⟩ ∧ RowV w g 3 (Ns .i64 zs)
theorem Os.sl {w : World} {a : Option Addr} {c : Nat} {zs : List Int} (h : Os w a c zs) : Sl w a zs := by
  rcases h with ⟨rfl, _, rfl⟩ | h
  · exact .inl ⟨rfl, rfl⟩
  · exact .inr h
theorem Os.but {S : Nat → Prop} {w w' : World} {a : Option Addr} {c : Nat} {zs : List Int} (h : Os w a c zs) (hb : But S w w') (hS : ∀ g, a = some ⟨g, 0, none⟩ → ¬ S g) : Os w' a c zs := by
  rcases h with h | ⟨g, e, hr⟩
  · exact .inl h
  · exact .inr ⟨g, e, hr.but hb (hS g e)⟩
theorem Os.below {w w' : World} {a : Option Addr} {c : Nat} {zs : List Int} (h : Os w a c zs) (hb : Below w.heap.size w w') : Os w' a c zs := h.but (But.ofBelow (S := fun _ => False) hb) (fun _ _ => id)
theorem Os.lt {w : World} {a : Option Addr} {c : Nat} {zs : List Int} (h : Os w a c zs) : ∀ g, a = some ⟨g, 0, none⟩ → g < w.heap.size := by
  rintro g rfl
  rcases h with ⟨e, _⟩ | ⟨g', e, hr⟩
  · cases e
  · simp at e; subst e; exact hr.lt

theorem mark_sl (a : Option Addr) (len c : Nat) (zs : List Int) (k0 : Nat) (w : World) (hl : zs.length = len) (hlen : len ≤ 1048576) (hk : k0 ≤ 1000000000000) (h : Os w a c zs) :
    Calls Try.prog 18 #[.slice a len c, .int .i64 k0] w fun e w' => e = .returned (.int .i64 (k0 + len : Nat)) ∧ Os w' a c (rampIn k0 len) ∧ But (fun k => a = some ⟨k, 0, none⟩) w w' := by
  rcases h with ⟨rfl, rfl, rfl⟩ | ⟨g, rfl, hr⟩
  · obtain rfl : len = 0 := by simpa using hl.symm
    refine (markIn_nil k0 w hk).mono ?_
    rintro e w' ⟨rfl, rfl⟩
    exact ⟨rfl, .inl ⟨rfl, rfl, rfl⟩, But.refl _ _⟩
  · refine (markIn g len c zs k0 w hl hlen hk hr).mono ?_
    rintro e w' ⟨rfl, r, hg⟩
    exact ⟨rfl, .inr ⟨g, rfl, r⟩, But.ofGrown hg rfl⟩
theorem held_sl (a : Option Addr) (len c : Nat) (k0 : Nat) (w : World) (hlen : len ≤ 1048576) (hk : k0 ≤ 1000000000000) (h : Os w a c (rampIn k0 len)) :
    Calls Try.prog 19 #[.slice a len c, .int .i64 k0] w fun e w' => e = .returned (.int .i64 (k0 + len : Nat)) ∧ Below w.heap.size w w' := by
  rcases h with ⟨rfl, rfl, h0⟩ | ⟨g, rfl, hr⟩
  · obtain rfl : len = 0 := by have := rampIn_len k0 len; rw [h0] at this; simpa using this.symm
    refine (heldIn_nil k0 w hk).mono ?_
    rintro e w' ⟨rfl, rfl⟩
    exact ⟨rfl, Below.refl _ _⟩
  · refine (heldIn g len c k0 w hlen hk hr).mono ?_
    rintro e w' ⟨rfl, rfl⟩
    exact ⟨rfl, Below.refl _ _⟩

/-- what a push answers: places, row, limit, what leaves -/
def wpA (mix fifo : List Int) (lim x d : Int) : List Int × List Int × Int × Int :=
  if goodM mix fifo lim && decide (0 ≤ x) then ((wpM lim.toNat mix fifo x d).1, (wpM lim.toNat mix fifo x d).2.1, lim, (wpM lim.toNat mix fifo x d).2.2) else ([], [], 0, -1)
/-- two slices of blocks of their own, none below lo -/
def Ap (lo : Nat) (a1 a2 : Option Addr) : Prop := (∀ g, a1 = some ⟨g, 0, none⟩ → lo ≤ g ∧ a2 ≠ some ⟨g, 0, none⟩) ∧ (∀ g, a2 = some ⟨g, 0, none⟩ → lo ≤ g)

theorem good_lim {mix fifo : List Int} {lim : Int} (h : goodM mix fifo lim = true) : lim = (lim.toNat : Nat) := by
  unfold goodM at h
  simp only [Bool.and_eq_true, decide_eq_true_eq] at h
  omega

theorem push_any (am : Option Addr) (lm cm : Nat) (af : Option Addr) (lf cf : Nat) (lim : Int) (mix fifo : List Int) (x d : Int) (w : World) (h : Wt w am lm af lf mix fifo) :
    Calls Try.prog 9 #[wv am lm cm af lf cf lim, .int .i64 x, .int .i64 d] w fun e w' => ∃ a1 c1 a2 c2, e = .returned (.tuple #[wv a1 (wpA mix fifo lim x d).1.length c1 a2 (wpA mix fifo lim x d).2.1.length c2 (wpA mix fifo lim x d).2.2.1, .int .i64 (wpA mix fifo lim x d).2.2.2]) ∧ Os w' a1 c1 (wpA mix fifo lim x d).1 ∧ Os w' a2 c2 (wpA mix fifo lim x d).2.1 ∧ Ap w.heap.size a1 a2 ∧ Below w.heap.size w w' := by
  by_cases hg : (goodM mix fifo lim && decide (0 ≤ x)) = true
  · have e : wpA mix fifo lim x d = ((wpM lim.toNat mix fifo x d).1, (wpM lim.toNat mix fifo x d).2.1, lim, (wpM lim.toNat mix fifo x d).2.2) := by unfold wpA; rw [if_pos hg]
    rw [e]
    simp only [Bool.and_eq_true, decide_eq_true_eq] at hg
    have hl := good_lim hg.1
    have key : ∀ (e' : Ending) (w' : World), (∃ g1 g2, e' = .returned (.tuple #[wv (some ⟨g1, 0, none⟩) (wpM lim.toNat mix fifo x d).1.length (wpM lim.toNat mix fifo x d).1.length (some ⟨g2, 0, none⟩) (wpM lim.toNat mix fifo x d).2.1.length (wpM lim.toNat mix fifo x d).2.1.length (lim.toNat : Nat), .int .i64 (wpM lim.toNat mix fifo x d).2.2]) ∧ RowV w' g1 3 (Ns .i64 (wpM lim.toNat mix fifo x d).1) ∧ RowV w' g2 3 (Ns .i64 (wpM lim.toNat mix fifo x d).2.1) ∧ w.heap.size ≤ g1 ∧ g1 < g2 ∧ Below w.heap.size w w') → ∃ a1 c1 a2 c2, e' = .returned (.tuple #[wv a1 (wpM lim.toNat mix fifo x d).1.length c1 a2 (wpM lim.toNat mix fifo x d).2.1.length c2 lim, .int .i64 (wpM lim.toNat mix fifo x d).2.2]) ∧ Os w' a1 c1 (wpM lim.toNat mix fifo x d).1 ∧ Os w' a2 c2 (wpM lim.toNat mix fifo x d).2.1 ∧ Ap w.heap.size a1 a2 ∧ Below w.heap.size w w' := by
      rintro e' w' ⟨g1, g2, rfl, r1, r2, l1, l2, b⟩
      refine ⟨_, _, _, _, by rw [← hl], .inr ⟨g1, rfl, r1⟩, .inr ⟨g2, rfl, r2⟩, ⟨fun g e => ?_, fun g e => ?_⟩, b⟩
      · simp at e; subst e; exact ⟨l1, fun e => by cases e; omega⟩
      · simp at e; omega
    by_cases h0 : mix.length = 0
    · have := push_e am lm cm af lf cf lim.toNat mix fifo x d w h (by rw [← hl]; exact hg.1) hg.2 h0
      rw [← hl] at this
      refine this.mono (fun e' w' h' => key e' w' (by rw [← hl]; exact h'))
    · have := push_m am lm cm af lf cf lim.toNat mix fifo x d w h (by rw [← hl]; exact hg.1) hg.2 h0
      rw [← hl] at this
      refine this.mono (fun e' w' h' => key e' w' (by rw [← hl]; exact h'))
  · have e : wpA mix fifo lim x d = ([], [], 0, -1) := by unfold wpA; rw [if_neg hg]
    rw [e]
    refine (push_no am lm cm af lf cf lim mix fifo x d w h (by simpa using hg)).mono ?_
    rintro e' w' ⟨rfl, b⟩
    exact ⟨none, 0, none, 0, rfl, .inl ⟨rfl, rfl, rfl⟩, .inl ⟨rfl, rfl, rfl⟩, ⟨fun g e => by simp at e, fun g e => by simp at e⟩, b⟩

theorem spush_any (am : Option Addr) (lm cm : Nat) (af : Option Addr) (lf cf : Nat) (lim : Int) (mix fifo : List Int) (x d : Int) (w : World) (h : Wt w am lm af lf mix fifo) (hcf : af = none → cf = 0) :
    Calls Try.prog 11 #[wv am lm cm af lf cf lim, .int .i64 x, .int .i64 d] w fun e w' => ∃ a1 c1 a2 c2, e = .returned (.tuple #[wv a1 (wpA mix fifo lim x d).1.length c1 a2 (wpA mix fifo lim x d).2.1.length c2 (wpA mix fifo lim x d).2.2.1, .int .i64 (wpA mix fifo lim x d).2.2.2]) ∧ Wt w' a1 (wpA mix fifo lim x d).1.length a2 (wpA mix fifo lim x d).2.1.length (wpA mix fifo lim x d).1 (wpA mix fifo lim x d).2.1 ∧ (a1 = none → c1 = 0) ∧ (a2 = none → c2 = 0) ∧ Below w.heap.size w w' := by
  by_cases hg : (goodM mix fifo lim && decide (0 ≤ x)) = true
  · have e : wpA mix fifo lim x d = ((wpM lim.toNat mix fifo x d).1, (wpM lim.toNat mix fifo x d).2.1, lim, (wpM lim.toNat mix fifo x d).2.2) := by unfold wpA; rw [if_pos hg]
    rw [e]
    simp only [Bool.and_eq_true, decide_eq_true_eq] at hg
    have hl := good_lim hg.1
    have := spush_yes am lm cm af lf cf lim.toNat mix fifo x d w h hcf (by rw [← hl]; exact hg.1) hg.2
    rw [← hl] at this
    refine this.mono ?_
    rintro e' w' ⟨a1, c1, a2, c2, rfl, h1, h2, h3, h4, _⟩
    exact ⟨a1, c1, a2, c2, by rw [← hl], h1, h2, h3, h4⟩
  · have e : wpA mix fifo lim x d = ([], [], 0, -1) := by unfold wpA; rw [if_neg hg]
    rw [e]
    refine (spush_no am lm cm af lf cf lim mix fifo x d w h (by simpa using hg)).mono ?_
    rintro e' w' ⟨rfl, b⟩
    exact ⟨none, 0, none, 0, rfl, ⟨.inl ⟨rfl, rfl⟩, rfl, .inl ⟨rfl, rfl⟩, rfl⟩, fun _ => rfl, fun _ => rfl, b⟩
end Go.Proofs.Ytnhkifinfnobfaa
