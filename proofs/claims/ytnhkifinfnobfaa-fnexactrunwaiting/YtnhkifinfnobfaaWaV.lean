import Derived.Test.YtnhkifinfnobfaaWaU
namespace Go.Proofs.Ytnhkifinfnobfaa
open Go.ChangeShapes Go.WideShapes Go.ChangeAt Go.RowKit
set_option linter.unusedVariables false

theorem Sl.lts {w : World} {a : Option Addr} {zs : List Int} (h : Sl w a zs) : ∀ g, a = some ⟨g, 0, none⟩ → g < w.heap.size := by
  rintro g rfl
  rcases h with ⟨e, _⟩ | ⟨g', e, hr⟩
  · cases e
  · simp at e; subst e; exact hr.lt
theorem Os.ne {w : World} {a : Option Addr} {c b : Nat} {zs : List Int} {cs : Array Value} {t : TypeId} (h : Os w a c zs) (hb : w.heap[b]? = some (.cells cs t (0, 0))) (ht : 3 ≠ t) : a ≠ some ⟨b, 0, none⟩ := by
  rintro rfl
  rcases h with ⟨e, _⟩ | ⟨g', e, hr⟩
  · cases e
  · simp at e; subst e; exact hr.ne hb ht rfl
theorem Wt.but {S : Nat → Prop} {w w' : World} {am : Option Addr} {lm : Nat} {af : Option Addr} {lf : Nat} {mix fifo : List Int} (h : Wt w am lm af lf mix fifo) (hb : But S w w') (h1 : ∀ g, am = some ⟨g, 0, none⟩ → ¬ S g) (h2 : ∀ g, af = some ⟨g, 0, none⟩ → ¬ S g) : Wt w' am lm af lf mix fifo :=
  ⟨by rcases h.m with e | ⟨g, e, hr⟩
      · exact .inl e
      · exact .inr ⟨g, e, hr.but hb (h1 g e)⟩, h.ml, by
      rcases h.f with e | ⟨g, e, hr⟩
      · exact .inl e
      · exact .inr ⟨g, e, hr.but hb (h2 g e)⟩, h.fl⟩
theorem wpA_len (mix fifo : List Int) (lim x d : Int) : (wpA mix fifo lim x d).1.length ≤ 1048576 ∧ (wpA mix fifo lim x d).2.1.length ≤ 1048576 := by
  unfold wpA
  by_cases hg : (goodM mix fifo lim && decide (0 ≤ x)) = true
  · rw [if_pos hg]
    simp only [Bool.and_eq_true] at hg
    have hl := good_lim hg.1
    have hp := hg.1
    rw [hl] at hp
    obtain ⟨g1, g2, g3, g4⟩ := good_parts hp
    have hp2 : ∀ y, (pushF lim.toNat fifo y).1.length ≤ 34 := fun y => by
      unfold pushF
      split <;> simp <;> omega
    refine ⟨by rw [wpM_len]; omega, ?_⟩
    unfold wpM
    split
    · have := hp2 x; show (pushF lim.toNat fifo x).1.length ≤ 1048576; omega
    · split
      · show fifo.length ≤ 1048576; omega
      · have := hp2 (mix[md d mix.length]?.getD 0); show (pushF lim.toNat fifo (mix[md d mix.length]?.getD 0)).1.length ≤ 1048576; omega
  · rw [if_neg hg]; simp

set_option maxHeartbeats 2000000 in
theorem walk_no (am : Option Addr) (lm cm : Nat) (af : Option Addr) (lf cf : Nat) (lim x d : Int) (w : World) (hm : lm ≤ maxLen) (hf : lf ≤ maxLen) (h : ¬ ((lm : Int) + lf ≤ 1048576)) :
    Calls Try.prog 4 #[wv am lm cm af lf cf lim, .int .i64 x, .int .i64 d] w fun e w' => e = .returned (.bool true) ∧ Below w.heap.size w w' := by
  have SZ := hid (fun W => szW_in am lm cm af lf cf lim W hm hf)
  rw [if_neg h] at SZ
  unfold wv at SZ ⊢
  have B0 := hid ((Below.refl _ w).alloc (Nat.le_refl _) (.cells #[.slice am lm cm, .slice af lf cf, .int .i64 lim] 33))
  go_enter Try.func4, Try.ntmps4
  go_wp2_with fail
  refine (SZ.out _).mono ?_
  rintro e w1 ⟨rfl, b⟩
  have B1 := hid (bl_trans B0.out b)
  clear b
  go_wp2
  go_ret
  exact ⟨rfl, B1.out⟩

set_option maxHeartbeats 4000000 in
theorem walk_yes (am : Option Addr) (lm cm : Nat) (af : Option Addr) (lf cf : Nat) (lim x d : Int) (zm zf mix fifo : List Int) (w : World) (hm : IsRow .i64 w am lm cm zm) (hf : IsRow .i64 w af lf cf zf) (emix : mix = zm.take lm) (efifo : fifo = zf.take lf) (h : (lm : Int) + lf ≤ 1048576) (hml : lm ≤ maxLen) (hfl : lf ≤ maxLen) :
    Calls Try.prog 4 #[wv am lm cm af lf cf lim, .int .i64 x, .int .i64 d] w fun e w' => e = .returned (.bool true) ∧ Below w.heap.size w w' := by
  have SZ := hid (fun W => szW_in am lm cm af lf cf lim W hml hfl)
  rw [if_pos h] at SZ
  have TW := hid (fun W (hW : Below w.heap.size w W) => toW_in am lm cm af lf cf lim zm zf W (hm.below hW) (hf.below hW) (by omega) (by omega))
  have ML := hid hm.len
  have FL := hid hf.len
  rw [← emix] at ML
  rw [← efifo] at FL
  rw [← emix, ← efifo] at TW
  have SP := hid (fun W (t1 t2 : Option Addr) (q1 q2 : Nat) (hW : Wt W t1 lm t2 lf mix fifo) (hc : t2 = none → q2 = 0) => spush_any t1 lm q1 t2 lf q2 lim mix fifo x d W hW hc)
  have PU := hid (fun W (t1 t2 : Option Addr) (q1 q2 : Nat) (hW : Wt W t1 lm t2 lf mix fifo) => push_any t1 lm q1 t2 lf q2 lim mix fifo x d W hW)
  obtain ⟨hR1, hR2⟩ := wpA_len mix fifo lim x d
  generalize wpA mix fifo lim x d = R at *
  have EQ := hid (fun W (t1 : Option Addr) (q1 : Nat) (t2 : Option Addr) (q2 : Nat) (s1 : Option Addr) (v1 : Nat) (s2 : Option Addr) (v2 : Nat) (h : Wt W t1 R.1.length t2 R.2.1.length R.1 R.2.1) (k : Wt W s1 R.1.length s2 R.2.1.length R.1 R.2.1) => eqW_in t1 q1 t2 q2 s1 v1 s2 v2 R.1.length R.2.1.length R.2.2.1 R.1 R.2.1 W h k hR1 hR2)
  have EX := hid (fun W (t1 : Option Addr) (q1 : Nat) (t2 : Option Addr) (q2 : Nat) (s1 : Option Addr) (v1 : Nat) (s2 : Option Addr) (v2 : Nat) (h : Wt W t1 lm t2 lf mix fifo) (k : Wt W s1 lm s2 lf mix fifo) => eqW_in t1 q1 t2 q2 s1 v1 s2 v2 lm lf lim mix fifo W h k (by omega) (by omega))
  have MA := hid (fun W (t1 : Option Addr) (q1 : Nat) (t2 : Option Addr) (q2 : Nat) (h1 : Os W t1 q1 mix) (h2 : Os W t2 q2 fifo) (hne : ∀ g, t1 = some ⟨g, 0, none⟩ → t2 ≠ some ⟨g, 0, none⟩) => markW_in t1 q1 t2 q2 lm lf lim mix fifo W h1 h2 hne ML.out FL.out (by omega) (by omega))
  have MG := hid (fun W (t1 : Option Addr) (q1 : Nat) (t2 : Option Addr) (q2 : Nat) (h1 : Os W t1 q1 R.1) (h2 : Os W t2 q2 R.2.1) (hne : ∀ g, t1 = some ⟨g, 0, none⟩ → t2 ≠ some ⟨g, 0, none⟩) => markW_in t1 q1 t2 q2 R.1.length R.2.1.length R.2.2.1 R.1 R.2.1 W h1 h2 hne rfl rfl hR1 hR2)
  have HE := hid (fun W (t1 : Option Addr) (q1 : Nat) (t2 : Option Addr) (q2 : Nat) (h1 : Os W t1 q1 (rampIn 1 R.1.length)) (h2 : Os W t2 q2 (rampIn (1 + R.1.length) R.2.1.length)) => heldW_in t1 q1 t2 q2 R.1.length R.2.1.length R.2.2.1 W h1 h2 hR1 hR2)
  have B0 := hid ((Below.refl _ w).alloc (Nat.le_refl _) (.cells #[.slice am lm cm, .slice af lf cf, .int .i64 lim] 33))
  have box0 := hid (al_last w (.cells #[.slice am lm cm, .slice af lf cf, .int .i64 lim] 33))
  have t0 : ¬ ((1048576 : Int) - lm - lf < 0) := by omega
  have tz : (R.2.2.2 != R.2.2.2) = false := by simp
  unfold wv at SZ TW SP PU EQ EX MA MG HE ⊢
  clear hm hf emix efifo hml hfl
  go_enter Try.func4, Try.ntmps4
  go_wp2_with fail
  refine (SZ.out _).mono ?_
  rintro e w1 ⟨rfl, b⟩
  have box1 := hid (below_at box0.out b)
  have B1 := hid (bl_trans B0.out b)
  clear box0 B0
  clear b SZ
  have p0 : w1.cell? ⟨w.heap.size, 0, none⟩ = some (.slice am lm cm) := by rw [cell_of_row _ _ _ _ _ _ box1.out]; rfl
  have p1 : w1.cell? ⟨w.heap.size, 1, none⟩ = some (.slice af lf cf) := by rw [cell_of_row _ _ _ _ _ _ box1.out]; rfl
  have p2 : w1.cell? ⟨w.heap.size, 2, none⟩ = some (.int .i64 lim) := by rw [cell_of_row _ _ _ _ _ _ box1.out]; rfl
  go_wp2_with fail
  refine (TW.out _ B1.out).mono ?_
  rintro e w2 ⟨t1, t2, rfl, r1, r2, l1, l2, b⟩
  clear p0 p1 p2
  have box2 := hid (below_at box1.out b)
  have B2 := hid (bl_trans B1.out b)
  clear box1 B1
  have X := hid (show Wt w2 (some ⟨t1, 0, none⟩) lm (some ⟨t2, 0, none⟩) lf mix fifo from ⟨.inr ⟨t1, rfl, r1⟩, ML.out, .inr ⟨t2, rfl, r2⟩, FL.out⟩)
  clear r1 r2 l1 l2 b
  go_wp2_with fail
  refine (SP.out _ _ _ _ _ X.out (by simp)).mono ?_
  rintro e w3 ⟨a1, c1, a2, c2, rfl, hw, n1, n2, b⟩
  have box3 := hid (below_at box2.out b)
  have B3 := hid (bl_trans B2.out b)
  clear box2 B2
  have ww0 := hid (hw)
  have NW := hid (show (∀ g, a1 = some ⟨g, 0, none⟩ → g < w3.heap.size) ∧ (∀ g, a2 = some ⟨g, 0, none⟩ → g < w3.heap.size) from ⟨hw.m.lts, hw.f.lts⟩)
  have NS := hid (show w.heap.size ≤ w3.heap.size from B3.out.size)
  clear hw n1 n2 b X
  have AL := hid ((Below.refl _ w3).alloc (Nat.le_refl _) (.cells #[.slice a1 R.1.length c1, .slice a2 R.2.1.length c2, .int .i64 R.2.2.1] 29))
  have box4 := hid (below_at box3.out AL.out)
  have B4 := hid (bl_trans B3.out AL.out)
  have ww1 := hid (Wt.below ww0.out AL.out)
  clear box3 B3 ww0
  have b80 := hid (al_last w3 (.cells #[.slice a1 R.1.length c1, .slice a2 R.2.1.length c2, .int .i64 R.2.2.1] 29))
  clear AL
  have p0 : (w3.alloc (.cells #[.slice a1 R.1.length c1, .slice a2 R.2.1.length c2, .int .i64 R.2.2.1] 29)).cell? ⟨w.heap.size, 0, none⟩ = some (.slice am lm cm) := by rw [cell_of_row _ _ _ _ _ _ box4.out]; rfl
  have p1 : (w3.alloc (.cells #[.slice a1 R.1.length c1, .slice a2 R.2.1.length c2, .int .i64 R.2.2.1] 29)).cell? ⟨w.heap.size, 1, none⟩ = some (.slice af lf cf) := by rw [cell_of_row _ _ _ _ _ _ box4.out]; rfl
  have p2 : (w3.alloc (.cells #[.slice a1 R.1.length c1, .slice a2 R.2.1.length c2, .int .i64 R.2.2.1] 29)).cell? ⟨w.heap.size, 2, none⟩ = some (.int .i64 lim) := by rw [cell_of_row _ _ _ _ _ _ box4.out]; rfl
  go_wp2_with fail
  refine (TW.out _ B4.out).mono ?_
  rintro e w5 ⟨u1, u2, rfl, r1, r2, l1, l2, b⟩
  clear p0 p1 p2
  have box5 := hid (below_at box4.out b)
  have B5 := hid (bl_trans B4.out b)
  have ww2 := hid (Wt.below ww1.out b)
  have b81 := hid (below_at b80.out b)
  clear box4 B4 ww1 b80
  have x10 := hid (show Os w5 (some ⟨u1, 0, none⟩) lm mix from .inr ⟨u1, rfl, r1⟩)
  have x20 := hid (show Os w5 (some ⟨u2, 0, none⟩) lf fifo from .inr ⟨u2, rfl, r2⟩)
  have NX := hid (show w3.heap.size ≤ u1 ∧ u1 < u2 ∧ u2 < w5.heap.size from ⟨by rw [al_size] at l1; omega, l2, r2.lt⟩)
  clear r1 r2 l1 l2 b
  have AL := hid ((Below.refl _ w5).alloc (Nat.le_refl _) (.cells #[.slice (some ⟨u1, 0, none⟩) lm lm, .slice (some ⟨u2, 0, none⟩) lf lf, .int .i64 lim] 29))
  have box6 := hid (below_at box5.out AL.out)
  have B6 := hid (bl_trans B5.out AL.out)
  have ww3 := hid (Wt.below ww2.out AL.out)
  have b82 := hid (below_at b81.out AL.out)
  have x11 := hid (Os.below x10.out AL.out)
  have x21 := hid (Os.below x20.out AL.out)
  clear box5 B5 ww2 b81 x10 x20
  have b100 := hid (al_last w5 (.cells #[.slice (some ⟨u1, 0, none⟩) lm lm, .slice (some ⟨u2, 0, none⟩) lf lf, .int .i64 lim] 29))
  clear AL
  have X := hid (show Wt (w5.alloc (.cells #[.slice (some ⟨u1, 0, none⟩) lm lm, .slice (some ⟨u2, 0, none⟩) lf lf, .int .i64 lim] 29)) (some ⟨u1, 0, none⟩) lm (some ⟨u2, 0, none⟩) lf mix fifo from ⟨x11.out.sl, ML.out, x21.out.sl, FL.out⟩)
  go_wp2_with fail
  refine (PU.out _ _ _ _ _ X.out).mono ?_
  rintro e w7 ⟨e1, k1, e2, k2, rfl, o1, o2, ap, b⟩
  have box7 := hid (below_at box6.out b)
  have B7 := hid (bl_trans B6.out b)
  have ww4 := hid (Wt.below ww3.out b)
  have b83 := hid (below_at b82.out b)
  have x12 := hid (Os.below x11.out b)
  have x22 := hid (Os.below x21.out b)
  have b101 := hid (below_at b100.out b)
  clear box6 B6 ww3 b82 x11 x21 b100
  have g10 := hid (o1)
  have g20 := hid (o2)
  have NG := hid (show (∀ g, e1 = some ⟨g, 0, none⟩ → w5.heap.size ≤ g ∧ e2 ≠ some ⟨g, 0, none⟩) ∧ (∀ g, e2 = some ⟨g, 0, none⟩ → w5.heap.size ≤ g) from ⟨fun g h => ⟨by have := (ap.1 g h).1; rw [al_size] at this; omega, (ap.1 g h).2⟩, fun g h => by have := ap.2 g h; rw [al_size] at this; omega⟩)
  clear o1 o2 ap b X
  have AL := hid ((Below.refl _ w7).alloc (Nat.le_refl _) (.cells #[.slice e1 R.1.length k1, .slice e2 R.2.1.length k2, .int .i64 R.2.2.1] 29))
  have box8 := hid (below_at box7.out AL.out)
  have B8 := hid (bl_trans B7.out AL.out)
  have ww5 := hid (Wt.below ww4.out AL.out)
  have b84 := hid (below_at b83.out AL.out)
  have x13 := hid (Os.below x12.out AL.out)
  have x23 := hid (Os.below x22.out AL.out)
  have b102 := hid (below_at b101.out AL.out)
  have g11 := hid (Os.below g10.out AL.out)
  have g21 := hid (Os.below g20.out AL.out)
  clear box7 B7 ww4 b83 x12 x22 b101 g10 g20
  have b110 := hid (al_last w7 (.cells #[.slice e1 R.1.length k1, .slice e2 R.2.1.length k2, .int .i64 R.2.2.1] 29))
  clear AL
  have p0 : (w7.alloc (.cells #[.slice e1 R.1.length k1, .slice e2 R.2.1.length k2, .int .i64 R.2.2.1] 29)).cell? ⟨w7.heap.size, 0, none⟩ = some (.slice e1 R.1.length k1) := by rw [cell_of_row _ _ _ _ _ _ b110.out]; rfl
  have p1 : (w7.alloc (.cells #[.slice e1 R.1.length k1, .slice e2 R.2.1.length k2, .int .i64 R.2.2.1] 29)).cell? ⟨w7.heap.size, 1, none⟩ = some (.slice e2 R.2.1.length k2) := by rw [cell_of_row _ _ _ _ _ _ b110.out]; rfl
  have p2 : (w7.alloc (.cells #[.slice e1 R.1.length k1, .slice e2 R.2.1.length k2, .int .i64 R.2.2.1] 29)).cell? ⟨w7.heap.size, 2, none⟩ = some (.int .i64 R.2.2.1) := by rw [cell_of_row _ _ _ _ _ _ b110.out]; rfl
  have q0 : (w7.alloc (.cells #[.slice e1 R.1.length k1, .slice e2 R.2.1.length k2, .int .i64 R.2.2.1] 29)).cell? ⟨w3.heap.size, 0, none⟩ = some (.slice a1 R.1.length c1) := by rw [cell_of_row _ _ _ _ _ _ b84.out]; rfl
  have q1 : (w7.alloc (.cells #[.slice e1 R.1.length k1, .slice e2 R.2.1.length k2, .int .i64 R.2.2.1] 29)).cell? ⟨w3.heap.size, 1, none⟩ = some (.slice a2 R.2.1.length c2) := by rw [cell_of_row _ _ _ _ _ _ b84.out]; rfl
  have q2 : (w7.alloc (.cells #[.slice e1 R.1.length k1, .slice e2 R.2.1.length k2, .int .i64 R.2.2.1] 29)).cell? ⟨w3.heap.size, 2, none⟩ = some (.int .i64 R.2.2.1) := by rw [cell_of_row _ _ _ _ _ _ b84.out]; rfl
  have Y := hid (show Wt (w7.alloc (.cells #[.slice e1 R.1.length k1, .slice e2 R.2.1.length k2, .int .i64 R.2.2.1] 29)) e1 R.1.length e2 R.2.1.length R.1 R.2.1 from ⟨g11.out.sl, rfl, g21.out.sl, rfl⟩)
  go_wp2_with fail
  refine (EQ.out _ _ _ _ _ _ _ _ _ Y.out ww5.out).mono ?_
  rintro e w9 ⟨rfl, b⟩
  clear p0 p1 p2 q0 q1 q2
  have box9 := hid (below_at box8.out b)
  have B9 := hid (bl_trans B8.out b)
  have ww6 := hid (Wt.below ww5.out b)
  have b85 := hid (below_at b84.out b)
  have x14 := hid (Os.below x13.out b)
  have x24 := hid (Os.below x23.out b)
  have b103 := hid (below_at b102.out b)
  have g12 := hid (Os.below g11.out b)
  have g22 := hid (Os.below g21.out b)
  have b111 := hid (below_at b110.out b)
  clear box8 B8 ww5 b84 x13 x23 b102 g11 g21 b110
  clear b Y
  have DR := hid ((Below.refl w9.heap.size w9).drew)
  have box10 := hid (below_at box9.out DR.out)
  have B10 := hid (bl_trans B9.out DR.out)
  have ww7 := hid (Wt.below ww6.out DR.out)
  have b86 := hid (below_at b85.out DR.out)
  have x15 := hid (Os.below x14.out DR.out)
  have x25 := hid (Os.below x24.out DR.out)
  have b104 := hid (below_at b103.out DR.out)
  have g13 := hid (Os.below g12.out DR.out)
  have g23 := hid (Os.below g22.out DR.out)
  have b112 := hid (below_at b111.out DR.out)
  clear box9 B9 ww6 b85 x14 x24 b103 g12 g22 b111
  clear DR
  have p0 : w9.drew.cell? ⟨w.heap.size, 0, none⟩ = some (.slice am lm cm) := by rw [cell_of_row _ _ _ _ _ _ box10.out]; rfl
  have p1 : w9.drew.cell? ⟨w.heap.size, 1, none⟩ = some (.slice af lf cf) := by rw [cell_of_row _ _ _ _ _ _ box10.out]; rfl
  have p2 : w9.drew.cell? ⟨w.heap.size, 2, none⟩ = some (.int .i64 lim) := by rw [cell_of_row _ _ _ _ _ _ box10.out]; rfl
  have q0 : w9.drew.cell? ⟨w5.heap.size, 0, none⟩ = some (.slice (some ⟨u1, 0, none⟩) lm lm) := by rw [cell_of_row _ _ _ _ _ _ b104.out]; rfl
  have q1 : w9.drew.cell? ⟨w5.heap.size, 1, none⟩ = some (.slice (some ⟨u2, 0, none⟩) lf lf) := by rw [cell_of_row _ _ _ _ _ _ b104.out]; rfl
  have q2 : w9.drew.cell? ⟨w5.heap.size, 2, none⟩ = some (.int .i64 lim) := by rw [cell_of_row _ _ _ _ _ _ b104.out]; rfl
  go_wp2_with fail
  refine wp_region_held (S := fun W => W.cell? ⟨w.heap.size, 0, none⟩ = some (.slice am lm cm) ∧ W.cell? ⟨w.heap.size, 1, none⟩ = some (.slice af lf cf) ∧ W.cell? ⟨w.heap.size, 2, none⟩ = some (.int .i64 lim) ∧ W.cell? ⟨w5.heap.size, 0, none⟩ = some (.slice (some ⟨u1, 0, none⟩) lm lm) ∧ W.cell? ⟨w5.heap.size, 1, none⟩ = some (.slice (some ⟨u2, 0, none⟩) lf lf) ∧ W.cell? ⟨w5.heap.size, 2, none⟩ = some (.int .i64 lim)) (by kernel_rfl) ?_
  simp only [List.size_toArray, List.length_cons, List.length_nil, Nat.reduceAdd, Array.replicate_succ, Array.replicate_zero, List.push_toArray, List.nil_append, List.cons_append]
  have hS := (show _ ∧ _ ∧ _ ∧ _ ∧ _ ∧ _ from ⟨p0, p1, p2, q0, q1, q2⟩)
  refine wpAnyH_put (i := 0) (d := 49) (v := .agg #[.slice (some ⟨u1, 0, none⟩) lm lm, .slice (some ⟨u2, 0, none⟩) lf lf, .int .i64 lim]) rfl (by kernel_rfl) (by kernel_rfl) (by kernel_rfl) (by kernel_rfl) (fun _ _ _ h => h) (Or.inl ⟨by kernel_rfl, fun W hS => by obtain ⟨h1, h2, h3, h4, h5, h6⟩ := hS; go_simp⟩) hS ?_
  simp only [List.setIfInBounds_toArray, List.set_cons_zero, List.set_cons_succ]
  refine wpAnyH_put (i := 1) (d := 50) (v := .agg #[.slice am lm cm, .slice af lf cf, .int .i64 lim]) rfl (by kernel_rfl) (by kernel_rfl) (by kernel_rfl) (by kernel_rfl) (fun _ _ _ h => h) (Or.inl ⟨by kernel_rfl, fun W hS => by obtain ⟨h1, h2, h3, h4, h5, h6⟩ := hS; go_simp⟩) hS ?_
  simp only [List.setIfInBounds_toArray, List.set_cons_zero, List.set_cons_succ]
  refine wpAnyH_one (r := 2) (by kernel_rfl) ?_
  refine wpOp_do rfl (by kernel_rfl) (fun K' hK => ?_)
  go_simp
  refine (TW.out _ B10.out).mono ?_
  rintro e w10 ⟨v1, v2, rfl, r1, r2, l1, l2, b⟩
  have hS1 := (show _ ∧ _ ∧ _ ∧ _ ∧ _ ∧ _ from ⟨below_cell b hS.1, below_cell b hS.2.1, below_cell b hS.2.2.1, below_cell b hS.2.2.2.1, below_cell b hS.2.2.2.2.1, below_cell b hS.2.2.2.2.2⟩)
  have box11 := hid (below_at box10.out b)
  have B11 := hid (bl_trans B10.out b)
  have ww8 := hid (Wt.below ww7.out b)
  have b87 := hid (below_at b86.out b)
  have x16 := hid (Os.below x15.out b)
  have x26 := hid (Os.below x25.out b)
  have b105 := hid (below_at b104.out b)
  have g14 := hid (Os.below g13.out b)
  have g24 := hid (Os.below g23.out b)
  have b113 := hid (below_at b112.out b)
  clear box10 B10 ww7 b86 x15 x25 b104 g13 g23 b112
  have y10 := hid (show Os w10 (some ⟨v1, 0, none⟩) lm mix from .inr ⟨v1, rfl, r1⟩)
  have y20 := hid (show Os w10 (some ⟨v2, 0, none⟩) lf fifo from .inr ⟨v2, rfl, r2⟩)
  refine hK.out _ _ ⟨hS1, ?_⟩
  clear hS r1 r2 l1 l2 b
  have hS := hS1
  clear hS1
  clear hK K'
  refine wpAnyH_one (r := 3) (by kernel_rfl) ?_
  refine wpOp_do rfl (by kernel_rfl) (fun K' hK => ?_)
  go_simp
  have Y := hid (show Wt w10 (some ⟨u1, 0, none⟩) lm (some ⟨u2, 0, none⟩) lf mix fifo from ⟨x16.out.sl, ML.out, x26.out.sl, FL.out⟩)
  have Y2 := hid (show Wt w10 (some ⟨v1, 0, none⟩) lm (some ⟨v2, 0, none⟩) lf mix fifo from ⟨y10.out.sl, ML.out, y20.out.sl, FL.out⟩)
  refine (EX.out _ _ _ _ _ _ _ _ _ Y.out Y2.out).mono ?_
  rintro e w11 ⟨rfl, b⟩
  have hS1 := (show _ ∧ _ ∧ _ ∧ _ ∧ _ ∧ _ from ⟨below_cell b hS.1, below_cell b hS.2.1, below_cell b hS.2.2.1, below_cell b hS.2.2.2.1, below_cell b hS.2.2.2.2.1, below_cell b hS.2.2.2.2.2⟩)
  have box12 := hid (below_at box11.out b)
  have B12 := hid (bl_trans B11.out b)
  have ww9 := hid (Wt.below ww8.out b)
  have b88 := hid (below_at b87.out b)
  have x17 := hid (Os.below x16.out b)
  have x27 := hid (Os.below x26.out b)
  have b106 := hid (below_at b105.out b)
  have g15 := hid (Os.below g14.out b)
  have g25 := hid (Os.below g24.out b)
  have b114 := hid (below_at b113.out b)
  clear box11 B11 ww8 b87 x16 x26 b105 g14 g24 b113
  refine hK.out _ _ ⟨hS1, ?_⟩
  clear hS b Y Y2
  have hS := hS1
  clear hS1
  clear hK K'
  refine wpAnyH_put (i := 4) (d := 53) (v := .bool false) rfl (by kernel_rfl) (by kernel_rfl) (by kernel_rfl) (by kernel_rfl) (fun _ _ _ h => h) (Or.inl ⟨by kernel_rfl, fun _ _ => by kernel_rfl⟩) hS ?_
  simp only [List.setIfInBounds_toArray, List.set_cons_zero, List.set_cons_succ]
  refine wpAnyH_done (by kernel_rfl) ?_ _
  clear hS p0 p1 p2 q0 q1 q2
  have p0 : w11.cell? ⟨w5.heap.size, 0, none⟩ = some (.slice (some ⟨u1, 0, none⟩) lm lm) := by rw [cell_of_row _ _ _ _ _ _ b106.out]; rfl
  have p1 : w11.cell? ⟨w5.heap.size, 1, none⟩ = some (.slice (some ⟨u2, 0, none⟩) lf lf) := by rw [cell_of_row _ _ _ _ _ _ b106.out]; rfl
  have p2 : w11.cell? ⟨w5.heap.size, 2, none⟩ = some (.int .i64 lim) := by rw [cell_of_row _ _ _ _ _ _ b106.out]; rfl
  go_wp2_with fail
  refine (MA.out _ _ _ _ _ x17.out x27.out (fun g e e2 => by have := NX.out; cases e; cases e2; omega)).mono ?_
  rintro e w12 ⟨rfl, o1, o2, b⟩
  clear p0 p1 p2
  have box13 := hid (b.at box12.out (fun e => e.elim (fun e => x17.out.ne box12.out (by decide) e) (fun e => x27.out.ne box12.out (by decide) e)))
  have B13 := hid (B12.out.trans (b.below B12.out.size (fun g e2 => by have := NX.out; have := NS.out; rcases e2 with e2 | e2 <;> cases e2 <;> omega)))
  have ww10 := hid (Wt.but ww9.out b (fun g e e2 => by have := NX.out; have := NW.out.1 g e; rcases e2 with e2 | e2 <;> cases e2 <;> omega) (fun g e e2 => by have := NX.out; have := NW.out.2 g e; rcases e2 with e2 | e2 <;> cases e2 <;> omega))
  have b89 := hid (b.at b88.out (fun e => e.elim (fun e => x17.out.ne b88.out (by decide) e) (fun e => x27.out.ne b88.out (by decide) e)))
  have b107 := hid (b.at b106.out (fun e => e.elim (fun e => x17.out.ne b106.out (by decide) e) (fun e => x27.out.ne b106.out (by decide) e)))
  have g16 := hid (Os.but g15.out b (fun g e e2 => by have := NX.out; have := (NG.out.1 g e).1; rcases e2 with e2 | e2 <;> cases e2 <;> omega))
  have g26 := hid (Os.but g25.out b (fun g e e2 => by have := NX.out; have := NG.out.2 g e; rcases e2 with e2 | e2 <;> cases e2 <;> omega))
  have b115 := hid (b.at b114.out (fun e => e.elim (fun e => x17.out.ne b114.out (by decide) e) (fun e => x27.out.ne b114.out (by decide) e)))
  clear box12 B12 ww9 b88 b106 g15 g25 b114
  clear o1 o2 b x17 x27
  have tk : ¬ (((1 + lm + lf : Nat) : Int) < 0) := by omega
  have p0 : w12.cell? ⟨w7.heap.size, 0, none⟩ = some (.slice e1 R.1.length k1) := by rw [cell_of_row _ _ _ _ _ _ b115.out]; rfl
  have p1 : w12.cell? ⟨w7.heap.size, 1, none⟩ = some (.slice e2 R.2.1.length k2) := by rw [cell_of_row _ _ _ _ _ _ b115.out]; rfl
  have p2 : w12.cell? ⟨w7.heap.size, 2, none⟩ = some (.int .i64 R.2.2.1) := by rw [cell_of_row _ _ _ _ _ _ b115.out]; rfl
  have q0 : w12.cell? ⟨w3.heap.size, 0, none⟩ = some (.slice a1 R.1.length c1) := by rw [cell_of_row _ _ _ _ _ _ b89.out]; rfl
  have q1 : w12.cell? ⟨w3.heap.size, 1, none⟩ = some (.slice a2 R.2.1.length c2) := by rw [cell_of_row _ _ _ _ _ _ b89.out]; rfl
  have q2 : w12.cell? ⟨w3.heap.size, 2, none⟩ = some (.int .i64 R.2.2.1) := by rw [cell_of_row _ _ _ _ _ _ b89.out]; rfl
  have Y := hid (show Wt w12 e1 R.1.length e2 R.2.1.length R.1 R.2.1 from ⟨g16.out.sl, rfl, g26.out.sl, rfl⟩)
  go_wp2_with fail
  refine (EQ.out _ _ _ _ _ _ _ _ _ Y.out ww10.out).mono ?_
  rintro e w13 ⟨rfl, b⟩
  clear p0 p1 p2 q0 q1 q2
  have box14 := hid (below_at box13.out b)
  have B14 := hid (bl_trans B13.out b)
  have ww11 := hid (Wt.below ww10.out b)
  have b810 := hid (below_at b89.out b)
  have g17 := hid (Os.below g16.out b)
  have g27 := hid (Os.below g26.out b)
  have b116 := hid (below_at b115.out b)
  clear box13 B13 ww10 b89 g16 g26 b115
  clear b Y
  have p0 : w13.cell? ⟨w7.heap.size, 0, none⟩ = some (.slice e1 R.1.length k1) := by rw [cell_of_row _ _ _ _ _ _ b116.out]; rfl
  have p1 : w13.cell? ⟨w7.heap.size, 1, none⟩ = some (.slice e2 R.2.1.length k2) := by rw [cell_of_row _ _ _ _ _ _ b116.out]; rfl
  have p2 : w13.cell? ⟨w7.heap.size, 2, none⟩ = some (.int .i64 R.2.2.1) := by rw [cell_of_row _ _ _ _ _ _ b116.out]; rfl
  go_wp2_with fail
  refine (MG.out _ _ _ _ _ g17.out g27.out (fun g e => (NG.out.1 g e).2)).mono ?_
  rintro e w14 ⟨rfl, o1, o2, b⟩
  clear p0 p1 p2
  have box15 := hid (b.at box14.out (fun e => e.elim (fun e => g17.out.ne box14.out (by decide) e) (fun e => g27.out.ne box14.out (by decide) e)))
  have B15 := hid (B14.out.trans (b.below B14.out.size (fun g e2 => by have := NX.out; have := NS.out; exact e2.elim (fun e2 => by have := (NG.out.1 g e2).1; omega) (fun e2 => by have := NG.out.2 g e2; omega))))
  have ww12 := hid (Wt.but ww11.out b (fun g e e2 => by have := NX.out; have := NW.out.1 g e; exact e2.elim (fun e2 => by have := (NG.out.1 g e2).1; omega) (fun e2 => by have := NG.out.2 g e2; omega)) (fun g e e2 => by have := NX.out; have := NW.out.2 g e; exact e2.elim (fun e2 => by have := (NG.out.1 g e2).1; omega) (fun e2 => by have := NG.out.2 g e2; omega)))
  have b811 := hid (b.at b810.out (fun e => e.elim (fun e => g17.out.ne b810.out (by decide) e) (fun e => g27.out.ne b810.out (by decide) e)))
  have b117 := hid (b.at b116.out (fun e => e.elim (fun e => g17.out.ne b116.out (by decide) e) (fun e => g27.out.ne b116.out (by decide) e)))
  clear box14 B14 ww11 b810 b116
  clear g17 g27
  have g18 := hid (o1)
  have g28 := hid (o2)
  clear o1 o2 b
  have p0 : w14.cell? ⟨w7.heap.size, 0, none⟩ = some (.slice e1 R.1.length k1) := by rw [cell_of_row _ _ _ _ _ _ b117.out]; rfl
  have p1 : w14.cell? ⟨w7.heap.size, 1, none⟩ = some (.slice e2 R.2.1.length k2) := by rw [cell_of_row _ _ _ _ _ _ b117.out]; rfl
  have p2 : w14.cell? ⟨w7.heap.size, 2, none⟩ = some (.int .i64 R.2.2.1) := by rw [cell_of_row _ _ _ _ _ _ b117.out]; rfl
  go_wp2_with fail
  refine (HE.out _ _ _ _ _ g18.out g28.out).mono ?_
  rintro e w15 ⟨rfl, b⟩
  clear p0 p1 p2
  have box16 := hid (below_at box15.out b)
  have B16 := hid (bl_trans B15.out b)
  have ww13 := hid (Wt.below ww12.out b)
  have b812 := hid (below_at b811.out b)
  have b118 := hid (below_at b117.out b)
  have g19 := hid (Os.below g18.out b)
  have g29 := hid (Os.below g28.out b)
  clear box15 B15 ww12 b811 b117 g18 g28
  clear b
  have tl : ¬ (((1 + R.1.length + R.2.1.length : Nat) : Int) < 0) := by omega
  have te : (((1 + R.1.length + R.2.1.length : Nat) : Int) != ((1 + R.1.length + R.2.1.length : Nat) : Int)) = false := by simp
  have p0 : w15.cell? ⟨w.heap.size, 0, none⟩ = some (.slice am lm cm) := by rw [cell_of_row _ _ _ _ _ _ box16.out]; rfl
  have p1 : w15.cell? ⟨w.heap.size, 1, none⟩ = some (.slice af lf cf) := by rw [cell_of_row _ _ _ _ _ _ box16.out]; rfl
  have p2 : w15.cell? ⟨w.heap.size, 2, none⟩ = some (.int .i64 lim) := by rw [cell_of_row _ _ _ _ _ _ box16.out]; rfl
  go_wp2_with fail
  refine (TW.out _ B16.out).mono ?_
  rintro e w16 ⟨t1, t2, rfl, r1, r2, l1, l2, b⟩
  clear p0 p1 p2
  have box17 := hid (below_at box16.out b)
  have B17 := hid (bl_trans B16.out b)
  have ww14 := hid (Wt.below ww13.out b)
  have b813 := hid (below_at b812.out b)
  have b119 := hid (below_at b118.out b)
  have g110 := hid (Os.below g19.out b)
  have g210 := hid (Os.below g29.out b)
  clear box16 B16 ww13 b812 b118 g19 g29
  have X := hid (show Wt w16 (some ⟨t1, 0, none⟩) lm (some ⟨t2, 0, none⟩) lf mix fifo from ⟨.inr ⟨t1, rfl, r1⟩, ML.out, .inr ⟨t2, rfl, r2⟩, FL.out⟩)
  clear r1 r2 l1 l2 b
  go_wp2_with fail
  refine (PU.out _ _ _ _ _ X.out).mono ?_
  rintro e w17 ⟨h1, j1, h2, j2, rfl, o1, o2, ap, b⟩
  have box18 := hid (below_at box17.out b)
  have B18 := hid (bl_trans B17.out b)
  have ww15 := hid (Wt.below ww14.out b)
  have b814 := hid (below_at b813.out b)
  have b1110 := hid (below_at b119.out b)
  have g111 := hid (Os.below g110.out b)
  have g211 := hid (Os.below g210.out b)
  clear box17 B17 ww14 b813 b119 g110 g210
  have h10 := hid (o1)
  have h20 := hid (o2)
  clear o1 o2 ap b X
  have AL := hid ((Below.refl _ w17).alloc (Nat.le_refl _) (.cells #[.slice h1 R.1.length j1, .slice h2 R.2.1.length j2, .int .i64 R.2.2.1] 29))
  have box19 := hid (below_at box18.out AL.out)
  have B19 := hid (bl_trans B18.out AL.out)
  have ww16 := hid (Wt.below ww15.out AL.out)
  have b815 := hid (below_at b814.out AL.out)
  have b1111 := hid (below_at b1110.out AL.out)
  have g112 := hid (Os.below g111.out AL.out)
  have g212 := hid (Os.below g211.out AL.out)
  have h11 := hid (Os.below h10.out AL.out)
  have h21 := hid (Os.below h20.out AL.out)
  clear box18 B18 ww15 b814 b1110 g111 g211 h10 h20
  have b160 := hid (al_last w17 (.cells #[.slice h1 R.1.length j1, .slice h2 R.2.1.length j2, .int .i64 R.2.2.1] 29))
  clear AL
  have p0 : (w17.alloc (.cells #[.slice h1 R.1.length j1, .slice h2 R.2.1.length j2, .int .i64 R.2.2.1] 29)).cell? ⟨w17.heap.size, 0, none⟩ = some (.slice h1 R.1.length j1) := by rw [cell_of_row _ _ _ _ _ _ b160.out]; rfl
  have p1 : (w17.alloc (.cells #[.slice h1 R.1.length j1, .slice h2 R.2.1.length j2, .int .i64 R.2.2.1] 29)).cell? ⟨w17.heap.size, 1, none⟩ = some (.slice h2 R.2.1.length j2) := by rw [cell_of_row _ _ _ _ _ _ b160.out]; rfl
  have p2 : (w17.alloc (.cells #[.slice h1 R.1.length j1, .slice h2 R.2.1.length j2, .int .i64 R.2.2.1] 29)).cell? ⟨w17.heap.size, 2, none⟩ = some (.int .i64 R.2.2.1) := by rw [cell_of_row _ _ _ _ _ _ b160.out]; rfl
  have q0 : (w17.alloc (.cells #[.slice h1 R.1.length j1, .slice h2 R.2.1.length j2, .int .i64 R.2.2.1] 29)).cell? ⟨w3.heap.size, 0, none⟩ = some (.slice a1 R.1.length c1) := by rw [cell_of_row _ _ _ _ _ _ b815.out]; rfl
  have q1 : (w17.alloc (.cells #[.slice h1 R.1.length j1, .slice h2 R.2.1.length j2, .int .i64 R.2.2.1] 29)).cell? ⟨w3.heap.size, 1, none⟩ = some (.slice a2 R.2.1.length c2) := by rw [cell_of_row _ _ _ _ _ _ b815.out]; rfl
  have q2 : (w17.alloc (.cells #[.slice h1 R.1.length j1, .slice h2 R.2.1.length j2, .int .i64 R.2.2.1] 29)).cell? ⟨w3.heap.size, 2, none⟩ = some (.int .i64 R.2.2.1) := by rw [cell_of_row _ _ _ _ _ _ b815.out]; rfl
  have Y := hid (show Wt (w17.alloc (.cells #[.slice h1 R.1.length j1, .slice h2 R.2.1.length j2, .int .i64 R.2.2.1] 29)) h1 R.1.length h2 R.2.1.length R.1 R.2.1 from ⟨h11.out.sl, rfl, h21.out.sl, rfl⟩)
  go_wp2_with fail
  refine (EQ.out _ _ _ _ _ _ _ _ _ Y.out ww16.out).mono ?_
  rintro e w19 ⟨rfl, b⟩
  clear p0 p1 p2 q0 q1 q2
  have box20 := hid (below_at box19.out b)
  have B20 := hid (bl_trans B19.out b)
  have ww17 := hid (Wt.below ww16.out b)
  have b816 := hid (below_at b815.out b)
  have b1112 := hid (below_at b1111.out b)
  have g113 := hid (Os.below g112.out b)
  have g213 := hid (Os.below g212.out b)
  have h12 := hid (Os.below h11.out b)
  have h22 := hid (Os.below h21.out b)
  have b161 := hid (below_at b160.out b)
  clear box19 B19 ww16 b815 b1111 g112 g212 h11 h21 b160
  clear b Y
  have p0 : w19.cell? ⟨w7.heap.size, 0, none⟩ = some (.slice e1 R.1.length k1) := by rw [cell_of_row _ _ _ _ _ _ b1112.out]; rfl
  have p1 : w19.cell? ⟨w7.heap.size, 1, none⟩ = some (.slice e2 R.2.1.length k2) := by rw [cell_of_row _ _ _ _ _ _ b1112.out]; rfl
  have p2 : w19.cell? ⟨w7.heap.size, 2, none⟩ = some (.int .i64 R.2.2.1) := by rw [cell_of_row _ _ _ _ _ _ b1112.out]; rfl
  go_wp2_with fail
  refine (HE.out _ _ _ _ _ g113.out g213.out).mono ?_
  rintro e w20 ⟨rfl, b⟩
  clear p0 p1 p2
  have box21 := hid (below_at box20.out b)
  have B21 := hid (bl_trans B20.out b)
  have ww18 := hid (Wt.below ww17.out b)
  have b817 := hid (below_at b816.out b)
  have b1113 := hid (below_at b1112.out b)
  have g114 := hid (Os.below g113.out b)
  have g214 := hid (Os.below g213.out b)
  have h13 := hid (Os.below h12.out b)
  have h23 := hid (Os.below h22.out b)
  have b162 := hid (below_at b161.out b)
  clear box20 B20 ww17 b816 b1112 g113 g213 h12 h22 b161
  clear b
  go_wp2
  go_ret
  exact ⟨rfl, B21.out⟩
end Go.Proofs.Ytnhkifinfnobfaa
