import Derived.Test.YtnhkifinfnobfaaWaS
namespace Go.Proofs.Ytnhkifinfnobfaa
open Go.ChangeShapes Go.WideShapes Go.ChangeAt Go.RowKit
set_option linter.unusedVariables false

set_option maxHeartbeats 400000 in
theorem szI_in (a : Option Addr) (len cap : Nat) (l : Int) (w : World) (h0 : 0 ≤ l) (hl : l ≤ 1048576) (hlen : len ≤ maxLen) :
    Calls Try.prog 27 #[.slice a len cap, .int .i64 l] w fun e w' => e = .returned (.int .i64 (if (len : Int) ≤ l then l - len else -1)) ∧ w' = w := by
  have hb : len ≤ 9223372036854775807 := by unfold maxLen at hlen; omega
  clear hlen
  by_cases hc : (len : Int) ≤ l
  · rw [if_pos hc]
    have hc' : ¬ (l - (len : Int) < 0) := by omega
    go_enter Try.func27, Try.ntmps27
    go_wp2
    go_ret
    exact ⟨rfl, rfl⟩
  · rw [if_neg hc]
    have hc' : l - (len : Int) < 0 := by omega
    go_enter Try.func27, Try.ntmps27
    go_wp2
    go_ret
    exact ⟨rfl, rfl⟩

set_option maxHeartbeats 400000 in
theorem szW_in (am : Option Addr) (lm cm : Nat) (af : Option Addr) (lf cf : Nat) (lim : Int) (w : World) (hm : lm ≤ maxLen) (hf : lf ≤ maxLen) :
    Calls Try.prog 10 #[wv am lm cm af lf cf lim, .int .i64 1048576] w fun e w' => e = .returned (.int .i64 (if (lm : Int) + lf ≤ 1048576 then 1048576 - lm - lf else -1)) ∧ Below w.heap.size w w' := by
  unfold wv
  have HB := hid ((Below.refl _ w).alloc (Nat.le_refl _) (.cells #[.slice am lm cm, .slice af lf cf, .int .i64 lim] 33))
  have S1 := hid (fun W => szI_in am lm cm 1048576 W (by omega) (by omega) hm)
  by_cases h1 : (lm : Int) ≤ 1048576
  · rw [if_pos h1] at S1
    have S2 := hid (fun W => szI_in af lf cf (1048576 - lm) W (by omega) (by omega) hf)
    have t1 : ¬ ((1048576 : Int) - lm < 0) := by omega
    by_cases h2 : (lf : Int) ≤ 1048576 - lm
    · rw [if_pos h2] at S2
      rw [if_pos (by omega)]
      have t2 : ¬ ((1048576 : Int) - lm - lf < 0) := by omega
      go_enter Try.func10, Try.ntmps10
      go_wp2_with fail
      refine (S1.out _).mono ?_
      rintro e w1 ⟨rfl, rfl⟩
      go_wp2_with fail
      refine (S2.out _).mono ?_
      rintro e w2 ⟨rfl, rfl⟩
      go_wp2
      go_ret
      exact ⟨rfl, HB.out⟩
    · rw [if_neg h2] at S2
      rw [if_neg (by omega)]
      go_enter Try.func10, Try.ntmps10
      go_wp2_with fail
      refine (S1.out _).mono ?_
      rintro e w1 ⟨rfl, rfl⟩
      go_wp2_with fail
      refine (S2.out _).mono ?_
      rintro e w2 ⟨rfl, rfl⟩
      go_wp2
      go_ret
      exact ⟨rfl, HB.out⟩
  · rw [if_neg h1] at S1
    rw [if_neg (by omega)]
    go_enter Try.func10, Try.ntmps10
    go_wp2_with fail
    refine (S1.out _).mono ?_
    rintro e w1 ⟨rfl, rfl⟩
    go_wp2
    go_ret
    exact ⟨rfl, HB.out⟩

set_option maxHeartbeats 400000 in
theorem eqW_in (a1 : Option Addr) (c1 : Nat) (a2 : Option Addr) (c2 : Nat) (b1 : Option Addr) (d1 : Nat) (b2 : Option Addr) (d2 : Nat) (l1 l2 : Nat) (lim : Int) (M F : List Int) (w : World) (h : Wt w a1 l1 a2 l2 M F) (k : Wt w b1 l1 b2 l2 M F) (hm : l1 ≤ 1048576) (hf : l2 ≤ 1048576) :
    Calls Try.prog 13 #[wv a1 l1 c1 a2 l2 c2 lim, wv b1 l1 d1 b2 l2 d2 lim] w fun e w' => e = .returned (.bool true) ∧ Below w.heap.size w w' := by
  have T2 := hid (al_two w (.cells #[.slice a1 l1 c1, .slice a2 l2 c2, .int .i64 lim] 29) (.cells #[.slice b1 l1 d1, .slice b2 l2 d2, .int .i64 lim] 29))
  have E1 := hid (eqIn a1 b1 l1 c1 d1 M _ hm (by have := (h.m.below T2.out.2.2).cells; rwa [h.ml] at this) (by have := (k.m.below T2.out.2.2).cells; rwa [h.ml] at this))
  have E2 := hid (fun W (hW : Below w.heap.size w W) => eqIn a2 b2 l2 c2 d2 F W hf (by have := (h.f.below hW).cells; rwa [h.fl] at this) (by have := (k.f.below hW).cells; rwa [h.fl] at this))
  unfold wv
  clear h k
  have t : (lim != lim) = false := by simp
  go_enter Try.func13, Try.ntmps13
  go_wp2_with fail
  refine (E1.out).mono ?_
  rintro e w1 ⟨rfl, b1'⟩
  have B1 := hid (bl_trans T2.out.2.2 b1')
  have x0 := hid (below_at T2.out.1 b1')
  have x1 := hid (below_at T2.out.2.1 b1')
  clear b1' T2 E1
  have p1 : w1.cell? ⟨w.heap.size, 1, none⟩ = some (.slice a2 l2 c2) := by rw [cell_of_row _ _ _ _ _ _ x0.out]; rfl
  have q1 : w1.cell? ⟨w.heap.size + 1, 1, none⟩ = some (.slice b2 l2 d2) := by rw [cell_of_row _ _ _ _ _ _ x1.out]; rfl
  go_wp2_with fail
  refine (E2.out _ B1.out).mono ?_
  rintro e w2 ⟨rfl, b2'⟩
  clear p1 q1
  have B2 := hid (bl_trans B1.out b2')
  have p2 : w2.cell? ⟨w.heap.size, 2, none⟩ = some (.int .i64 lim) := by rw [cell_of_row _ _ _ _ _ _ (below_at x0.out b2')]; rfl
  have q2 : w2.cell? ⟨w.heap.size + 1, 2, none⟩ = some (.int .i64 lim) := by rw [cell_of_row _ _ _ _ _ _ (below_at x1.out b2')]; rfl
  clear b2'
  go_wp2
  go_ret
  exact ⟨rfl, B2.out⟩

set_option maxHeartbeats 400000 in
theorem markW_in (a1 : Option Addr) (c1 : Nat) (a2 : Option Addr) (c2 : Nat) (l1 l2 : Nat) (lim : Int) (M F : List Int) (w : World) (h1 : Os w a1 c1 M) (h2 : Os w a2 c2 F) (hne : ∀ g, a1 = some ⟨g, 0, none⟩ → a2 ≠ some ⟨g, 0, none⟩) (e1 : M.length = l1) (e2 : F.length = l2) (hm : l1 ≤ 1048576) (hf : l2 ≤ 1048576) :
    Calls Try.prog 14 #[wv a1 l1 c1 a2 l2 c2 lim, .int .i64 1] w fun e w' => e = .returned (.int .i64 (1 + l1 + l2 : Nat)) ∧ Os w' a1 c1 (rampIn 1 l1) ∧ Os w' a2 c2 (rampIn (1 + l1) l2) ∧ But (fun k => a1 = some ⟨k, 0, none⟩ ∨ a2 = some ⟨k, 0, none⟩) w w' := by
  have HB := hid ((Below.refl _ w).alloc (Nat.le_refl _) (.cells #[.slice a1 l1 c1, .slice a2 l2 c2, .int .i64 lim] 29))
  have hl := hid (al_last w (.cells #[.slice a1 l1 c1, .slice a2 l2 c2, .int .i64 lim] 29))
  have M1 := hid (mark_sl a1 l1 c1 M 1 _ e1 hm (by omega) (h1.below HB.out))
  have M2 := hid (fun W (hW : Os W a2 c2 F) => mark_sl a2 l2 c2 F (1 + l1) W e2 hf (by omega) hW)
  have H1 := hid h1
  have H2 := hid h2
  have HN := hid hne
  unfold wv
  clear h1 h2 hne
  go_enter Try.func14, Try.ntmps14
  go_wp2_with fail
  refine (M1.out).mono ?_
  rintro e w1 ⟨rfl, o1, b1⟩
  have O1 := hid o1
  have O2 := hid ((H2.out.below HB.out).but b1 (fun g e e' => HN.out g e' e))
  have x0 := hid (b1.at hl.out (fun e => by have := H1.out.lt _ e; omega))
  have Bt := hid ((But.ofBelow (S := fun k => a1 = some ⟨k, 0, none⟩ ∨ a2 = some ⟨k, 0, none⟩) HB.out).trans (b1.mono fun g h => .inl h))
  clear o1 b1 HB hl M1
  have p1 : w1.cell? ⟨w.heap.size, 1, none⟩ = some (.slice a2 l2 c2) := by rw [cell_of_row _ _ _ _ _ _ x0.out]; rfl
  go_wp2_with fail
  refine (M2.out _ O2.out).mono ?_
  rintro e w2 ⟨rfl, o2, b2⟩
  have R := hid (And.intro (O1.out.but b2 (fun g e e' => HN.out g e e')) (And.intro o2 (Bt.out.trans (b2.mono fun g h => .inr h))))
  clear o2 b2 p1
  go_wp2
  go_ret
  exact ⟨rfl, R.out.1, R.out.2.1, R.out.2.2⟩

set_option maxHeartbeats 400000 in
theorem heldW_in (a1 : Option Addr) (c1 : Nat) (a2 : Option Addr) (c2 : Nat) (l1 l2 : Nat) (lim : Int) (w : World) (h1 : Os w a1 c1 (rampIn 1 l1)) (h2 : Os w a2 c2 (rampIn (1 + l1) l2)) (hm : l1 ≤ 1048576) (hf : l2 ≤ 1048576) :
    Calls Try.prog 15 #[wv a1 l1 c1 a2 l2 c2 lim, .int .i64 1] w fun e w' => e = .returned (.int .i64 (1 + l1 + l2 : Nat)) ∧ Below w.heap.size w w' := by
  have HB := hid ((Below.refl _ w).alloc (Nat.le_refl _) (.cells #[.slice a1 l1 c1, .slice a2 l2 c2, .int .i64 lim] 29))
  have hl := hid (al_last w (.cells #[.slice a1 l1 c1, .slice a2 l2 c2, .int .i64 lim] 29))
  have M1 := hid (held_sl a1 l1 c1 1 _ hm (by omega) (h1.below HB.out))
  have M2 := hid (fun W (hW : Below w.heap.size w W) => held_sl a2 l2 c2 (1 + l1) W hf (by omega) (h2.below hW))
  unfold wv
  clear h1 h2
  go_enter Try.func15, Try.ntmps15
  go_wp2_with fail
  refine (M1.out).mono ?_
  rintro e w1 ⟨rfl, b1⟩
  have B1 := hid (bl_trans HB.out b1)
  have p1 : w1.cell? ⟨w.heap.size, 1, none⟩ = some (.slice a2 l2 c2) := by rw [cell_of_row _ _ _ _ _ _ (below_at hl.out b1)]; rfl
  clear b1 HB hl M1
  go_wp2_with fail
  refine (M2.out _ B1.out).mono ?_
  rintro e w2 ⟨rfl, b2⟩
  have B2 := hid (bl_trans B1.out b2)
  clear b2 p1
  go_wp2
  go_ret
  exact ⟨rfl, B2.out⟩
end Go.Proofs.Ytnhkifinfnobfaa
