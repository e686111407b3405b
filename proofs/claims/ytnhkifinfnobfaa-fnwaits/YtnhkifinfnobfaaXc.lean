import Derived.Test.YtnhkifinfnobfaaXb
namespace Go.Proofs.Ytnhkifinfnobfaa
open Go.ChangeShapes Go.WideShapes Go.ChangeAt Go.RowKit
set_option linter.unusedVariables false

/-- what a run answers -/
def rwA (mix lim : Int) (slots draws : List Int) : List Int := if okW mix lim slots then outsW lim.toNat mix.toNat slots draws else []
theorem rwA_len (mix lim : Int) (slots draws : List Int) : (rwA mix lim slots draws).length ≤ slots.length := by
  unfold rwA
  split
  · rw [outsW_len]; exact Nat.le_refl _
  · simp
theorem ok_parts {mix lim : Int} {slots : List Int} (h : okW mix lim slots = true) : (mix = (mix.toNat : Nat) ∧ mix.toNat ≤ 16) ∧ (lim = (lim.toNat : Nat) ∧ 1 ≤ lim.toNat ∧ lim.toNat ≤ 32) ∧ slots.length ≤ 2000 ∧ nb 0 slots = true := by
  unfold okW at h
  simp only [Bool.and_eq_true, decide_eq_true_eq] at h
  obtain ⟨a, b, c, d, e, f⟩ := h
  exact ⟨⟨by omega, by omega⟩, ⟨by omega, by omega, by omega⟩, e, f⟩
theorem Sl.but {S : Nat → Prop} {w w' : World} {a : Option Addr} {zs : List Int} (h : Sl w a zs) (hb : But S w w') (hS : ∀ g, a = some ⟨g, 0, none⟩ → ¬ S g) : Sl w' a zs := by
  rcases h with h | ⟨g, e, hr⟩
  · exact .inl h
  · exact .inr ⟨g, e, hr.but hb (hS g e)⟩

theorem run_any (mix lim : Int) (a2 : Option Addr) (l2 c2 : Nat) (a3 : Option Addr) (l3 c3 : Nat) (slots draws : List Int) (w : World) (hs : Sl w a2 slots) (e2 : slots.length = l2) (hd : Sl w a3 draws) (e3 : draws.length = l3) (hl2 : l2 ≤ 1048576) :
    Calls Try.prog 7 #[.int .i64 mix, .int .i64 lim, .slice a2 l2 c2, .slice a3 l3 c3] w fun e w' => ∃ a c, e = .returned (.tuple #[.slice a (rwA mix lim slots draws).length c, .bool (okW mix lim slots)]) ∧ Os w' a c (rwA mix lim slots draws) ∧ (∀ g, a = some ⟨g, 0, none⟩ → w.heap.size ≤ g) ∧ Below w.heap.size w w' := by
  cases hk : okW mix lim slots with
  | false =>
    have e : rwA mix lim slots draws = [] := by unfold rwA; rw [if_neg (by simp [hk])]
    rw [e]
    refine (run_no mix lim a2 l2 c2 a3 l3 c3 slots w hs e2 hl2 hk).mono ?_
    rintro e' w' ⟨rfl, b⟩
    exact ⟨none, 0, rfl, .inl ⟨rfl, rfl, rfl⟩, (fun g e => by cases e), b⟩
  | true =>
    obtain ⟨⟨m1, m2⟩, ⟨n1, n2, n3⟩, s1, s2⟩ := ok_parts hk
    have e : rwA mix lim slots draws = outsW lim.toNat mix.toNat slots draws := by unfold rwA; rw [if_pos hk]
    have el : (outsW lim.toNat mix.toNat slots draws).length = l2 := by rw [outsW_len, e2]
    rw [e, el]
    have key : ∀ (e' : Ending) (w' : World), (∃ L, e' = .returned (.tuple #[.slice (some ⟨L, 0, none⟩) l2 l2, .bool true]) ∧ RowV w' L 3 (Ns .i64 (outsW lim.toNat mix.toNat slots draws)) ∧ w.heap.size ≤ L ∧ Below w.heap.size w w') → ∃ a c, e' = .returned (.tuple #[.slice a l2 c, .bool true]) ∧ Os w' a c (outsW lim.toNat mix.toNat slots draws) ∧ (∀ g, a = some ⟨g, 0, none⟩ → w.heap.size ≤ g) ∧ Below w.heap.size w w' := by
      rintro e' w' ⟨L, rfl, r, l, b⟩
      exact ⟨some ⟨L, 0, none⟩, l2, rfl, .inr ⟨L, rfl, r⟩, fun g e => by cases e; exact l, b⟩
    by_cases h0 : mix.toNat = 0
    · have := run_e mix.toNat lim.toNat a2 l2 c2 a3 l3 c3 slots draws w hs e2 hd e3 m2 ⟨n2, n3⟩ (by omega) s2 h0
      rw [← m1, ← n1] at this
      exact this.mono key
    · have := run_m mix.toNat lim.toNat a2 l2 c2 a3 l3 c3 slots draws w hs e2 hd e3 m2 ⟨n2, n3⟩ (by omega) s2 h0
      rw [← m1, ← n1] at this
      exact this.mono key
theorem srun_any (mix lim : Int) (a2 : Option Addr) (l2 c2 : Nat) (a3 : Option Addr) (l3 c3 : Nat) (slots draws : List Int) (w : World) (hs : Sl w a2 slots) (e2 : slots.length = l2) (hd : Sl w a3 draws) (e3 : draws.length = l3) :
    Calls Try.prog 8 #[.int .i64 mix, .int .i64 lim, .slice a2 l2 c2, .slice a3 l3 c3] w fun e w' => ∃ a c, e = .returned (.tuple #[.slice a (rwA mix lim slots draws).length c, .bool (okW mix lim slots)]) ∧ Sl w' a (rwA mix lim slots draws) ∧ Below w.heap.size w w' := by
  cases hk : okW mix lim slots with
  | false =>
    have e : rwA mix lim slots draws = [] := by unfold rwA; rw [if_neg (by simp [hk])]
    rw [e]
    refine (srun_no mix lim a2 l2 c2 a3 l3 c3 slots w hs e2 hk).mono ?_
    rintro e' w' ⟨rfl, b⟩
    exact ⟨none, 0, rfl, .inl ⟨rfl, rfl⟩, b⟩
  | true =>
    obtain ⟨⟨m1, m2⟩, ⟨n1, n2, n3⟩, s1, s2⟩ := ok_parts hk
    have e : rwA mix lim slots draws = outsW lim.toNat mix.toNat slots draws := by unfold rwA; rw [if_pos hk]
    have el : (outsW lim.toNat mix.toNat slots draws).length = l2 := by rw [outsW_len, e2]
    rw [e, el]
    have := srun_yes mix.toNat lim.toNat a2 l2 c2 a3 l3 c3 slots draws w hs e2 hd e3 m2 ⟨n2, n3⟩ (by omega) s2
    rw [← m1, ← n1] at this
    exact this

theorem eq_sl (s1 : Option Addr) (q1 : Nat) (s2 : Option Addr) (q2 : Nat) (zs : List Int) (len : Nat) (W : World) (hl : zs.length = len) (hb : len ≤ 1048576) (h1 : Sl W s1 zs) (h2 : Sl W s2 zs) :
    Calls Try.prog 17 #[.slice s1 len q1, .slice s2 len q2] W fun e w' => e = .returned (.bool true) ∧ Below W.heap.size W w' :=
  eqIn s1 s2 len q1 q2 zs W hb (by have := h1.cells; rwa [hl] at this) (by have := h2.cells; rwa [hl] at this)

set_option maxHeartbeats 4000000 in
theorem walkR (mix lim : Int) (a2 : Option Addr) (l2 c2 : Nat) (z2 : List Int) (a3 : Option Addr) (l3 c3 : Nat) (z3 : List Int) (w : World) (w2 : IsRow .i64 w a2 l2 c2 z2) (w3 : IsRow .i64 w a3 l3 c3 z3) :
    Calls Try.prog 5 #[.int .i64 mix, .int .i64 lim, .slice a2 l2 c2, .slice a3 l3 c3] w fun e w' => e = .returned (.bool true) ∧ Below w.heap.size w w' := by
  by_cases hl2 : 1048576 < l2
  · have hl2' : (1048576 : Int) < (l2 : Int) := by omega
    clear w2 w3
    go_enter Try.func5, Try.ntmps5
    go_wp2
    go_ret
    exact ⟨rfl, Below.refl _ _⟩
  by_cases hl3 : 1048576 < l3
  · have hl2' : ¬ ((1048576 : Int) < (l2 : Int)) := by omega
    have hl3' : (1048576 : Int) < (l3 : Int) := by omega
    clear w2 w3
    go_enter Try.func5, Try.ntmps5
    go_wp2
    go_ret
    exact ⟨rfl, Below.refl _ _⟩
  have hl2' : ¬ ((1048576 : Int) < (l2 : Int)) := by omega
  have hl3' : ¬ ((1048576 : Int) < (l3 : Int)) := by omega
  have T2 := hid (fun W (hW : Below w.heap.size w W) => toIn a2 l2 c2 z2 W (w2.below hW) (by omega))
  have T3 := hid (fun W (hW : Below w.heap.size w W) => toIn a3 l3 c3 z3 W (w3.below hW) (by omega))
  have SE := w2.len
  have DE := w3.len
  generalize z2.take l2 = slots at *
  generalize z3.take l3 = draws at *
  have SP := hid (fun W (t2 t3 : Option Addr) (q2 q3 : Nat) (hs : Sl W t2 slots) (hd : Sl W t3 draws) => srun_any mix lim t2 l2 q2 t3 l3 q3 slots draws W hs SE hd DE)
  have PU := hid (fun W (t2 t3 : Option Addr) (q2 q3 : Nat) (hs : Sl W t2 slots) (hd : Sl W t3 draws) => run_any mix lim t2 l2 q2 t3 l3 q3 slots draws W hs SE hd DE (by omega))
  have hR : (rwA mix lim slots draws).length ≤ 1048576 := by have := rwA_len mix lim slots draws; omega
  generalize rwA mix lim slots draws = R at *
  generalize okW mix lim slots = ok at *
  have EQ := hid (fun W (s1 : Option Addr) (q1 : Nat) (s2 : Option Addr) (q2 : Nat) (h1 : Sl W s1 R) (h2 : Sl W s2 R) => eq_sl s1 q1 s2 q2 R R.length W rfl hR h1 h2)
  have E2 := hid (fun W (s1 : Option Addr) (q1 : Nat) (s2 : Option Addr) (q2 : Nat) (h1 : Sl W s1 slots) (h2 : Sl W s2 slots) => eq_sl s1 q1 s2 q2 slots l2 W SE (by omega) h1 h2)
  have E3 := hid (fun W (s1 : Option Addr) (q1 : Nat) (s2 : Option Addr) (q2 : Nat) (h1 : Sl W s1 draws) (h2 : Sl W s2 draws) => eq_sl s1 q1 s2 q2 draws l3 W DE (by omega) h1 h2)
  have M2 := hid (fun W (s1 : Option Addr) (q1 : Nat) (h1 : Os W s1 q1 slots) => mark_sl s1 l2 q1 slots 1 W SE (by omega) (by omega) h1)
  have M3 := hid (fun W (s1 : Option Addr) (q1 : Nat) (h1 : Os W s1 q1 draws) => mark_sl s1 l3 q1 draws (1 + l2) W DE (by omega) (by omega) h1)
  have MG := hid (fun W (s1 : Option Addr) (q1 : Nat) (h1 : Os W s1 q1 R) => mark_sl s1 R.length q1 R 1 W rfl hR (by omega) h1)
  have HE := hid (fun W (s1 : Option Addr) (q1 : Nat) (h1 : Os W s1 q1 (rampIn 1 R.length)) => held_sl s1 R.length q1 1 W hR (by omega) h1)
  have tb : (ok != ok) = false := by simp
  clear w2 w3 SE DE
  have B0 := hid (Below.refl w.heap.size w)
  go_enter Try.func5, Try.ntmps5
  go_wp2_with fail
  refine (T2.out _ B0.out).mono ?_
  rintro e w1 ⟨rfl, r, b⟩
  have B1 := hid (bl_trans B0.out b)
  clear B0
  have s0 := hid (show Os w1 (some ⟨w.heap.size, 0, none⟩) l2 slots from .inr ⟨_, rfl, r⟩)
  have Lw1 := hid (show w.heap.size < w1.heap.size from r.lt)
  clear r b
  go_wp2_with fail
  refine (T3.out _ B1.out).mono ?_
  rintro e w2 ⟨rfl, r, b⟩
  have B2 := hid (bl_trans B1.out b)
  have s1 := hid (Os.below s0.out b)
  clear B1 s0
  have d0 := hid (show Os w2 (some ⟨w1.heap.size, 0, none⟩) l3 draws from .inr ⟨_, rfl, r⟩)
  have Lw2 := hid (show w1.heap.size < w2.heap.size from r.lt)
  clear r b
  go_wp2_with fail
  refine (SP.out _ _ _ _ _ s1.out.sl d0.out.sl).mono ?_
  rintro e w3 ⟨a, c, rfl, hw, b⟩
  clear s1 d0
  have B3 := hid (bl_trans B2.out b)
  clear B2
  have ww0 := hid (hw)
  have NW := hid (hw.lts)
  have NS := hid (show w.heap.size ≤ w3.heap.size from B3.out.size)
  clear hw b
  go_wp2_with fail
  refine (T2.out _ B3.out).mono ?_
  rintro e w4 ⟨rfl, r, b⟩
  have B4 := hid (bl_trans B3.out b)
  have ww1 := hid (Sl.below ww0.out b)
  clear B3 ww0
  have x0 := hid (show Os w4 (some ⟨w3.heap.size, 0, none⟩) l2 slots from .inr ⟨_, rfl, r⟩)
  have Lw4 := hid (show w3.heap.size < w4.heap.size from r.lt)
  clear r b
  go_wp2_with fail
  refine (T3.out _ B4.out).mono ?_
  rintro e w5 ⟨rfl, r, b⟩
  have B5 := hid (bl_trans B4.out b)
  have ww2 := hid (Sl.below ww1.out b)
  have x1 := hid (Os.below x0.out b)
  clear B4 ww1 x0
  have y0 := hid (show Os w5 (some ⟨w4.heap.size, 0, none⟩) l3 draws from .inr ⟨_, rfl, r⟩)
  have Lw5 := hid (show w4.heap.size < w5.heap.size from r.lt)
  clear r b
  go_wp2_with fail
  refine (PU.out _ _ _ _ _ x1.out.sl y0.out.sl).mono ?_
  rintro e w6 ⟨e1, k1, rfl, o1, ap, b⟩
  have B6 := hid (bl_trans B5.out b)
  have ww3 := hid (Sl.below ww2.out b)
  have x2 := hid (Os.below x1.out b)
  have y1 := hid (Os.below y0.out b)
  clear B5 ww2 x1 y0
  have g0 := hid (o1)
  have NG := hid ap
  clear o1 ap b
  go_wp2_with fail
  refine (EQ.out _ _ _ _ _ g0.out.sl ww3.out).mono ?_
  rintro e w7 ⟨rfl, b⟩
  have B7 := hid (bl_trans B6.out b)
  have ww4 := hid (Sl.below ww3.out b)
  have x3 := hid (Os.below x2.out b)
  have y2 := hid (Os.below y1.out b)
  have g1 := hid (Os.below g0.out b)
  clear B6 ww3 x2 y1 g0
  clear b
  go_wp2_with fail
  refine (T2.out _ B7.out).mono ?_
  rintro e w8 ⟨rfl, r, b⟩
  have B8 := hid (bl_trans B7.out b)
  have ww5 := hid (Sl.below ww4.out b)
  have x4 := hid (Os.below x3.out b)
  have y3 := hid (Os.below y2.out b)
  have g2 := hid (Os.below g1.out b)
  clear B7 ww4 x3 y2 g1
  have t0 := hid (show Os w8 (some ⟨w7.heap.size, 0, none⟩) l2 slots from .inr ⟨_, rfl, r⟩)
  have Lw8 := hid (show w7.heap.size < w8.heap.size from r.lt)
  clear r b
  go_wp2_with fail
  refine (E2.out _ _ _ _ _ x4.out.sl t0.out.sl).mono ?_
  rintro e w9 ⟨rfl, b⟩
  clear t0
  have B9 := hid (bl_trans B8.out b)
  have ww6 := hid (Sl.below ww5.out b)
  have x5 := hid (Os.below x4.out b)
  have y4 := hid (Os.below y3.out b)
  have g3 := hid (Os.below g2.out b)
  clear B8 ww5 x4 y3 g2
  clear b
  go_wp2_with fail
  refine (T3.out _ B9.out).mono ?_
  rintro e w10 ⟨rfl, r, b⟩
  have B10 := hid (bl_trans B9.out b)
  have ww7 := hid (Sl.below ww6.out b)
  have x6 := hid (Os.below x5.out b)
  have y5 := hid (Os.below y4.out b)
  have g4 := hid (Os.below g3.out b)
  clear B9 ww6 x5 y4 g3
  have t1 := hid (show Os w10 (some ⟨w9.heap.size, 0, none⟩) l3 draws from .inr ⟨_, rfl, r⟩)
  have Lw10 := hid (show w9.heap.size < w10.heap.size from r.lt)
  clear r b
  go_wp2_with fail
  refine (E3.out _ _ _ _ _ y5.out.sl t1.out.sl).mono ?_
  rintro e w11 ⟨rfl, b⟩
  clear t1
  have B11 := hid (bl_trans B10.out b)
  have ww8 := hid (Sl.below ww7.out b)
  have x7 := hid (Os.below x6.out b)
  have y6 := hid (Os.below y5.out b)
  have g5 := hid (Os.below g4.out b)
  clear B10 ww7 x6 y5 g4
  clear b
  go_wp2_with fail
  refine (M2.out _ _ _ x7.out).mono ?_
  rintro e w12 ⟨rfl, o, b⟩
  clear x7 o
  have B12 := hid (B11.out.trans (b.below B11.out.size (fun g e => by cases e; have := NS.out; have := Lw4.out; have := Lw5.out; omega)))
  have ww9 := hid (Sl.but ww8.out b (fun g e e2 => by cases e2; have := NW.out _ e; have := NS.out; have := Lw4.out; have := Lw5.out; omega))
  have y7 := hid (Os.but y6.out b (fun g e e2 => by injection e with e; injection e with e; injection e2 with e2; injection e2 with e2; have := NS.out; have := Lw4.out; have := Lw5.out; omega))
  have g6 := hid (Os.but g5.out b (fun g e e2 => by cases e2; have := NG.out _ e; have := NS.out; have := Lw4.out; have := Lw5.out; omega))
  clear B11 ww8 y6 g5
  clear b
  go_wp2_with fail
  refine (M3.out _ _ _ y7.out).mono ?_
  rintro e w13 ⟨rfl, o, b⟩
  clear y7 o
  have B13 := hid (B12.out.trans (b.below B12.out.size (fun g e => by cases e; have := NS.out; have := Lw4.out; have := Lw5.out; omega)))
  have ww10 := hid (Sl.but ww9.out b (fun g e e2 => by cases e2; have := NW.out _ e; have := NS.out; have := Lw4.out; have := Lw5.out; omega))
  have g7 := hid (Os.but g6.out b (fun g e e2 => by cases e2; have := NG.out _ e; have := NS.out; have := Lw4.out; have := Lw5.out; omega))
  clear B12 ww9 g6
  clear b
  have tk : ¬ (((1 + l2 + l3 : Nat) : Int) < 0) := by omega
  go_wp2_with fail
  refine (EQ.out _ _ _ _ _ g7.out.sl ww10.out).mono ?_
  rintro e w14 ⟨rfl, b⟩
  have B14 := hid (bl_trans B13.out b)
  have ww11 := hid (Sl.below ww10.out b)
  have g8 := hid (Os.below g7.out b)
  clear B13 ww10 g7
  clear b
  go_wp2_with fail
  refine (MG.out _ _ _ g8.out).mono ?_
  rintro e w15 ⟨rfl, o, b⟩
  clear g8
  have B15 := hid (B14.out.trans (b.below B14.out.size (fun g e => by have := NG.out _ e; have := NS.out; have := Lw4.out; have := Lw5.out; omega)))
  have ww12 := hid (Sl.but ww11.out b (fun g e e2 => by have := NG.out _ e2; have := NW.out _ e; have := NS.out; have := Lw4.out; have := Lw5.out; omega))
  clear B14 ww11
  have g9 := hid (o)
  clear o b
  go_wp2_with fail
  refine (HE.out _ _ _ g9.out).mono ?_
  rintro e w16 ⟨rfl, b⟩
  have B16 := hid (bl_trans B15.out b)
  have ww13 := hid (Sl.below ww12.out b)
  have g10 := hid (Os.below g9.out b)
  clear B15 ww12 g9
  clear b
  have tl : ¬ (((1 + R.length : Nat) : Int) < 0) := by omega
  have te : (((1 + R.length : Nat) : Int) != ((1 + R.length : Nat) : Int)) = false := by simp
  go_wp2_with fail
  refine (T2.out _ B16.out).mono ?_
  rintro e w17 ⟨rfl, r, b⟩
  have B17 := hid (bl_trans B16.out b)
  have ww14 := hid (Sl.below ww13.out b)
  have g11 := hid (Os.below g10.out b)
  clear B16 ww13 g10
  have s2 := hid (show Os w17 (some ⟨w16.heap.size, 0, none⟩) l2 slots from .inr ⟨_, rfl, r⟩)
  have Lw17 := hid (show w16.heap.size < w17.heap.size from r.lt)
  clear r b
  go_wp2_with fail
  refine (T3.out _ B17.out).mono ?_
  rintro e w18 ⟨rfl, r, b⟩
  have B18 := hid (bl_trans B17.out b)
  have ww15 := hid (Sl.below ww14.out b)
  have g12 := hid (Os.below g11.out b)
  have s3 := hid (Os.below s2.out b)
  clear B17 ww14 g11 s2
  have d1 := hid (show Os w18 (some ⟨w17.heap.size, 0, none⟩) l3 draws from .inr ⟨_, rfl, r⟩)
  have Lw18 := hid (show w17.heap.size < w18.heap.size from r.lt)
  clear r b
  go_wp2_with fail
  refine (PU.out _ _ _ _ _ s3.out.sl d1.out.sl).mono ?_
  rintro e w19 ⟨h1, j1, rfl, o1, ap, b⟩
  clear s3 d1 ap
  have B19 := hid (bl_trans B18.out b)
  have ww16 := hid (Sl.below ww15.out b)
  have g13 := hid (Os.below g12.out b)
  clear B18 ww15 g12
  have h0 := hid (o1)
  clear o1 b
  go_wp2_with fail
  refine (EQ.out _ _ _ _ _ h0.out.sl ww16.out).mono ?_
  rintro e w20 ⟨rfl, b⟩
  have B20 := hid (bl_trans B19.out b)
  have ww17 := hid (Sl.below ww16.out b)
  have g14 := hid (Os.below g13.out b)
  have h1 := hid (Os.below h0.out b)
  clear B19 ww16 g13 h0
  clear b
  go_wp2_with fail
  refine (HE.out _ _ _ g14.out).mono ?_
  rintro e w21 ⟨rfl, b⟩
  have B21 := hid (bl_trans B20.out b)
  have ww18 := hid (Sl.below ww17.out b)
  have g15 := hid (Os.below g14.out b)
  have h2 := hid (Os.below h1.out b)
  clear B20 ww17 g14 h1
  clear b
  go_wp2
  go_ret
  exact ⟨rfl, B21.out⟩
end Go.Proofs.Ytnhkifinfnobfaa
