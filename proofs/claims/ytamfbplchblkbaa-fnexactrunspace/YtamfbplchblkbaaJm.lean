import Derived.Test.YtamfbplchblkbaaJl
namespace Go.Proofs.Ytamfbplchblkbaa
open Go.RowKit Go.Shelf Go.Maps
set_option linter.unusedVariables false

theorem bl_up {a b : Nat} {x W W' : World} (h : Below a x W) (k : Below b W W') (hab : a ≤ b) : Below a x W' :=
  ⟨k.os.trans h.os, k.tape.trans h.tape, k.output.trans h.output, Nat.le_trans h.size k.size, fun g hg => (k.block g (by omega)).trans (h.block g hg)⟩
theorem bt_below {a : Nat} {x W W' : World} {S : Nat → Prop} (h : Below a x W) (k : Bt S W W') (hS : ∀ g, S g → a ≤ g) (ha : a ≤ W.heap.size) : Below a x W' :=
  ⟨k.os.trans h.os, k.tape.trans h.tape, k.output.trans h.output, Nat.le_trans h.size k.size, fun g hg => (k.block g (by omega) (fun hs => by have := hS g hs; omega)).trans (h.block g hg)⟩
theorem InO.good {w : World} {A : Option Addr} {len : Nat} {ops : List Op9} (h : InO w A len ops) : ∀ o ∈ ops, Good o := fun o ho => by
  obtain ⟨k, hk⟩ := List.getElem?_of_mem ho
  obtain ⟨x, _, _, h1, h2, _, zs, h4, h5⟩ := h.at_ k o hk
  exact ⟨h1, h2, by rw [h5]; exact h4.len⟩
theorem totA_bound : ∀ (l : List An), (∀ x ∈ l, x.1.2.length ≤ 4096) → totA l ≤ l.length * 4096
  | [], _ => by simp [totA]
  | x :: r, h => by
    have h1 := h x (by simp)
    have h2 := totA_bound r (fun y hy => h y (by simp [hy]))
    simp only [totA, List.length_cons]
    omega

set_option maxRecDepth 20000 in
set_option maxHeartbeats 8000000 in
theorem walkS (nn bud : Int) (A : Option Addr) (len cap : Nat) (ops : List Op9) (w : World) (h : InO w A len ops) :
    Calls Try.prog 4 #[.int .i64 nn, .int .i64 bud, .slice A len cap] w fun e w' => e = .returned (.bool true) ∧ Below w.heap.size w w' := by
  have hgood := h.good
  have hlen := h.hl
  have SZ := hid (szOps A len cap ops w h)
  have TO := hid (fun W (hW : Below w.heap.size w W) (ht : len + tot ops ≤ 1048576) => toOps A len cap ops W (h.below hW) ht)
  obtain ⟨L1, L2, L3⟩ := ansR_len nn bud ops
  have RU := hid (fun F hF B G gs W (hc : Cp B W G len ops gs) => run_any F hF nn bud B G len len ops gs W hc hlen hgood)
  generalize okR nn bud len = ok at RU
  generalize (ansR nn bud ops).1 = rs at *
  generalize (ansR nn bud ops).2.1 = cm at *
  generalize (ansR nn bud ops).2.2 = os at *
  have EQ := hid (fun r1 r2 W (h1 : Rr W r1 ok rs cm os) (h2 : Rr W r2 ok rs cm os) => eqR r1 r2 ok rs cm os W h1 h2 (by omega) (fun r hr => by have := L2 r hr; omega) (by omega))
  have EO := hid (fun B1 B2 G1 G2 gs1 gs2 W (c1 : Cp B1 W G1 len ops gs1) (c2 : Cp B2 W G2 len ops gs2) (ht : len + tot ops ≤ 1048576) => eqOs B1 B2 G1 G2 len len len ops gs1 gs2 W c1 c2 hlen (by omega) (fun o ho => ⟨(hgood o ho).2.2, by have := tot_mem ho; omega⟩))
  have MO := hid (fun B G gs W (c : Cp B W G len ops gs) (ht : len + tot ops ≤ 1048576) => markOps B G len len ops gs W c hlen ht (fun o ho => (hgood o ho).2.2))
  have HL := hid (And.intro L1 (And.intro L2 L3))
  clear h hgood hlen L1 L2 L3
  go_enter Try.func4, Try.ntmps4
  go_wp2_with fail
  refine (SZ.out).mono ?_
  rintro e w1 ⟨r0, rfl, hr, b1⟩
  have B1 := hid b1
  clear b1 SZ
  by_cases h0 : r0 < 0
  · go_wp2
    go_ret
    exact ⟨rfl, B1.out⟩
  have ht : len + tot ops ≤ 1048576 := by rcases hr with h | h; exact absurd h h0; exact h
  have HT := hid ht
  clear hr ht
  go_wp2_with fail
  refine (TO.out _ B1.out HT.out).mono ?_
  rintro e w2 ⟨gs1, rfl, c1, b2⟩
  have B2 := hid (bl_trans B1.out b2)
  have C1 := hid c1
  clear c1 b2 B1 h0
  generalize w1.heap.size = G1 at *
  go_wp2_with fail
  refine (RU.out 7 (.inr rfl) _ _ _ _ C1.out).mono ?_
  rintro e w3 ⟨r8, rfl, l8, v8, o8, rfl, e8, q1, q2, q3, q4, b3⟩
  have rr8 : Rr w3 (.agg #[.bool ok, v8, .int .i64 cm, o8]) ok rs cm os := by rw [← e8]; exact rr_own q1 q2 q4
  have B3 := hid (bl_trans B2.out b3)
  obtain ⟨pa, pb, pc, rfl⟩ := own_sl q1
  obtain ⟨pd, pe, pf, rfl⟩ := own_sl q4
  have R8 := hid rr8
  clear q1 q2 q3 q4 e8 rr8 b3 B2 C1
  have A8 := hid (show Below w3.heap.size w3 (w3.alloc (.cells #[.bool ok, .slice pa pb pc, .int .i64 cm, .slice pd pe pf] 29)) from (Below.refl _ _).alloc (Nat.le_refl _) _)
  have X8 := hid (al_last w3 (.cells #[.bool ok, .slice pa pb pc, .int .i64 cm, .slice pd pe pf] 29))
  go_wp2_with fail
  have B4 := hid (bl_trans B3.out A8.out)
  have R8a := hid (R8.out.below A8.out)
  clear B3 R8 A8
  generalize w3.alloc _ = W3 at *
  generalize w3.heap.size = t8 at *
  have RX := hid (fun W (hW : Below W3.heap.size W3 W) => And.intro ((hW.block _ (lt_blk X8.out)).trans X8.out) (R8a.out.below hW))
  clear X8 R8a
  refine (TO.out _ B4.out HT.out).mono ?_
  rintro e w4 ⟨gs2, rfl, c2, b4⟩
  have BC4 := hid b4
  have BW4 := hid (bl_trans B4.out b4)
  have C4 := hid c2
  have NC := hid B4.out.size
  clear c2 b4 B4
  have S4 := hid (fun g (hg : g = W3.heap.size ∨ g ∈ gs2) => (show W3.heap.size ≤ g ∧ g < w4.heap.size by
    rcases hg with rfl | hg
    · obtain ⟨c, hc, _⟩ := C4.out.typ
      exact ⟨Nat.le_refl _, lt_blk hc⟩
    · obtain ⟨i, hi⟩ := List.getElem?_of_mem hg
      have hil := (List.getElem?_eq_some_iff.1 hi).1
      have := C4.out.hl
      obtain ⟨_, r, hb⟩ := C4.out.at_ i _ g (List.getElem?_eq_getElem (by omega)) hi
      exact ⟨hb, r.lt⟩))
  generalize hG2 : W3.heap.size = G2 at *
  go_wp2_with fail
  refine (RU.out 6 (.inl rfl) _ _ _ _ C4.out).mono ?_
  rintro e w5 ⟨r10, rfl, l, v, vo, rfl, e10, q1, q2, q3, q4, b5⟩
  obtain ⟨ua, ub, uc, rfl⟩ := own_sl q1
  obtain ⟨ud, ue, uf, rfl⟩ := own_sl q4
  have A5 : Below w5.heap.size w5 (w5.alloc (.cells #[.bool ok, .slice ua ub uc, .int .i64 cm, .slice ud ue uf] 29)) := (Below.refl _ _).alloc (Nat.le_refl _) _
  have k5 : ∀ {e : TypeId} {s : Nat} {u : Value} {n : Nat} {xs : List Value}, w5.ownsRow w4.heap.size e s u n xs → (w5.alloc (.cells #[.bool ok, .slice ua ub uc, .int .i64 cm, .slice ud ue uf] 29)).ownsRow w4.heap.size e s u n xs := fun hu => own_keep hu (fun g c _ hc => A5.block g (lt_blk hc))
  have X10 := hid (al_last w5 (.cells #[.bool ok, .slice ua ub uc, .int .i64 cm, .slice ud ue uf] 29))
  have O10 := hid (And.intro (k5 q1) (And.intro (fun x hx => k5 (q2 x hx)) (k5 q4)))
  have b5' := bl_trans b5 A5
  have BC5 := hid (bl_up BC4.out b5' (by have := BC4.out.size; omega))
  have BW5 := hid (bl_trans BW4.out b5')
  have C5 := hid (C4.out.below b5')
  have AP := hid q3
  have E10 := hid e10
  have T10 := hid (show w4.heap.size ≤ w5.heap.size from b5.size)
  have NB := hid BC4.out.size
  have hbd := HL.out
  have tot1 : totA l ≤ l.length * 4096 := totA_bound l (fun x hx => hbd.2.1 _ (by rw [← e10]; exact List.mem_map_of_mem hx))
  have hll : l.length ≤ 400 := by have := hbd.1; rw [← e10] at this; simpa using this
  have hdd : ∀ x ∈ l, x.1.2.length ≤ 1048576 := fun x hx => by have := hbd.2.1 x.1 (by rw [← e10]; exact List.mem_map_of_mem hx); omega
  have MR := hid (fun B W hB h1 h2 h4 => markR B ok cm l os (.slice ua ub uc) (.slice ud ue uf) W hB h1 h2 q3 h4 (by omega) hdd (by have := hbd.2.2; omega))
  have HR := hid (fun W h1 h2 => heldR ok cm l os.length (.slice ua ub uc) (.slice ud ue uf) W h1 h2 (by omega) hdd (by have := hbd.2.2; omega))
  obtain ⟨mk, hmk⟩ : ∃ mk, mkA 1 l l.length + os.length = mk := ⟨_, rfl⟩
  rw [hmk] at MR HR
  clear hmk
  clear q1 q2 q3 q4 e10 b5 b5' A5 k5 BC4 BW4 C4 hbd tot1 hll hdd
  have x8 := hid (RX.out _ BC5.out).1
  go_wp2_with (first | (refine wpList_load_row rfl 29 _ rfl _ rfl _ _ _ _ x8.out Try.underlying29 rfl (by kernel_rfl) ?_))
  clear x8
  have XX5 := X10
  have OO5 := O10
  have Z5 := hid (show w4.heap.size ≤ (w5.alloc (.cells #[.bool ok, .slice ua ub uc, .int .i64 cm, .slice ud ue uf] 29)).heap.size by rw [al_size]; have := T10.out; omega)
  clear X10 O10
  generalize w5.alloc _ = W5 at *
  generalize w5.heap.size = t10 at *
  refine (EQ.out _ _ _ (by rw [← E10.out]; exact rr_own OO5.out.1 OO5.out.2.1 OO5.out.2.2) (RX.out _ BC5.out).2).mono ?_
  rintro e w6 ⟨rfl, b6⟩
  have BC6 := hid (bl_up BC5.out b6 (by have := BC5.out.size; omega))
  have BW6 := hid (bl_trans BW5.out b6)
  have XX6 := hid ((b6.block _ (lt_blk XX5.out)).trans XX5.out)
  have Z6 := hid (Nat.le_trans Z5.out b6.size)
  have C6 := hid (C5.out.below b6)
  have OO6 := hid (And.intro (own_keep OO5.out.1 (fun g c _ hc => b6.block g (lt_blk hc))) (And.intro (fun x hx => own_keep (OO5.out.2.1 x hx) (fun g c _ hc => b6.block g (lt_blk hc))) (own_keep OO5.out.2.2 (fun g c _ hc => b6.block g (lt_blk hc)))))
  clear b6 BC5 BW5 XX5 Z5 C5 OO5
  go_wp2_with fail
  refine (TO.out _ BW6.out HT.out).mono ?_
  rintro e w7 ⟨gs3, rfl, c3, b7⟩
  have C3 := hid c3
  clear c3
  have BC7 := hid (bl_up BC6.out b7 (by have := BC6.out.size; omega))
  have BW7 := hid (bl_trans BW6.out b7)
  have XX7 := hid ((b7.block _ (lt_blk XX6.out)).trans XX6.out)
  have Z7 := hid (Nat.le_trans Z6.out b7.size)
  have C7 := hid (C6.out.below b7)
  have OO7 := hid (And.intro (own_keep OO6.out.1 (fun g c _ hc => b7.block g (lt_blk hc))) (And.intro (fun x hx => own_keep (OO6.out.2.1 x hx) (fun g c _ hc => b7.block g (lt_blk hc))) (own_keep OO6.out.2.2 (fun g c _ hc => b7.block g (lt_blk hc)))))
  clear b7 BC6 BW6 XX6 Z6 C6 OO6
  generalize w6.heap.size = G3 at *
  go_wp2_with fail
  refine (EO.out _ _ _ _ _ _ _ C7.out C3.out HT.out).mono ?_
  rintro e w8 ⟨rfl, b8⟩
  have BC8 := hid (bl_up BC7.out b8 (by have := BC7.out.size; omega))
  have BW8 := hid (bl_trans BW7.out b8)
  have XX8 := hid ((b8.block _ (lt_blk XX7.out)).trans XX7.out)
  have Z8 := hid (Nat.le_trans Z7.out b8.size)
  have C8 := hid (C7.out.below b8)
  have OO8 := hid (And.intro (own_keep OO7.out.1 (fun g c _ hc => b8.block g (lt_blk hc))) (And.intro (fun x hx => own_keep (OO7.out.2.1 x hx) (fun g c _ hc => b8.block g (lt_blk hc))) (own_keep OO7.out.2.2 (fun g c _ hc => b8.block g (lt_blk hc)))))
  clear b8 BC7 BW7 XX7 Z7 C7 OO7
  clear C3
  go_wp2_with fail
  refine (MO.out _ _ _ _ C8.out HT.out).mono ?_
  rintro e w9 ⟨r1, rfl, bt⟩
  have BC9 := hid (bt_below BC8.out bt (fun g hs => (S4.out g hs).1) (by rw [← hG2]; exact BC8.out.size))
  have BW9 := hid (bt_below BW8.out bt (fun g hs => Nat.le_trans NC.out (S4.out g hs).1) BW8.out.size)
  have XX9 := hid ((bt.block _ (lt_blk XX8.out) (fun hs => by have := (S4.out _ hs).2; have := T10.out; omega)).trans XX8.out)
  have nS : ∀ {e : TypeId} {s : Nat} {u : Value} {n : Nat} {xs : List Value}, w8.ownsRow w4.heap.size e s u n xs → w9.ownsRow w4.heap.size e s u n xs := fun hu => own_keep hu (fun g c hg hc => bt.block g (lt_blk hc) (fun hs => by have := (S4.out _ hs).2; have := (hu.lt g hg).1; omega))
  have OO9 := hid (And.intro (nS OO8.out.1) (And.intro (fun x hx => nS (OO8.out.2.1 x hx)) (nS OO8.out.2.2)))
  have Z9 := hid (Nat.le_trans Z8.out bt.size)
  clear BC8 BW8 XX8 OO8 Z8 C8 nS bt S4
  have x8 := hid (RX.out _ BC9.out).1
  have tn : decide ((r1 : Int) < 0) = false := decide_eq_false (by omega)
  have c80 : w9.cell? ⟨t8, 0, none⟩ = some (.bool ok) := by rw [cell_of_row _ _ _ _ _ _ x8.out]; rfl
  have c81 : w9.cell? ⟨t8, 1, none⟩ = some (.slice pa pb pc) := by rw [cell_of_row _ _ _ _ _ _ x8.out]; rfl
  have c82 : w9.cell? ⟨t8, 2, none⟩ = some (.int .i64 cm) := by rw [cell_of_row _ _ _ _ _ _ x8.out]; rfl
  have c83 : w9.cell? ⟨t8, 3, none⟩ = some (.slice pd pe pf) := by rw [cell_of_row _ _ _ _ _ _ x8.out]; rfl
  have c10 : w9.cell? ⟨t10, 0, none⟩ = some (.bool ok) := by rw [cell_of_row _ _ _ _ _ _ XX9.out]; rfl
  have c11 : w9.cell? ⟨t10, 1, none⟩ = some (.slice ua ub uc) := by rw [cell_of_row _ _ _ _ _ _ XX9.out]; rfl
  have c12 : w9.cell? ⟨t10, 2, none⟩ = some (.int .i64 cm) := by rw [cell_of_row _ _ _ _ _ _ XX9.out]; rfl
  have c13 : w9.cell? ⟨t10, 3, none⟩ = some (.slice ud ue uf) := by rw [cell_of_row _ _ _ _ _ _ XX9.out]; rfl
  clear x8
  go_wp2_with fail
  refine (EQ.out _ _ _ (by rw [← E10.out]; exact rr_own OO9.out.1 OO9.out.2.1 OO9.out.2.2) (RX.out _ BC9.out).2).mono ?_
  rintro e w10 ⟨rfl, b10⟩
  clear c80 c81 c82 c83 c10 c11 c12 c13
  have BC10 := hid (bl_up BC9.out b10 (by have := BC9.out.size; omega))
  have BW10 := hid (bl_trans BW9.out b10)
  have XX10 := hid ((b10.block _ (lt_blk XX9.out)).trans XX9.out)
  have Z10 := hid (Nat.le_trans Z9.out b10.size)
  have OO10 := hid (And.intro (own_keep OO9.out.1 (fun g c _ hc => b10.block g (lt_blk hc))) (And.intro (fun x hx => own_keep (OO9.out.2.1 x hx) (fun g c _ hc => b10.block g (lt_blk hc))) (own_keep OO9.out.2.2 (fun g c _ hc => b10.block g (lt_blk hc)))))
  clear b10 BC9 BW9 XX9 Z9 OO9
  go_wp2_with (first | (refine wpList_load_row rfl 29 _ rfl _ rfl _ _ _ _ XX10.out Try.underlying29 rfl (by kernel_rfl) ?_))
  refine (MR.out _ _ Z10.out OO10.out.1 OO10.out.2.1 OO10.out.2.2).mono ?_
  rintro e w11 ⟨rfl, ao, b11, bk⟩
  have AO := hid ao
  have BC11 := hid (bl_up BC10.out b11 (by have := NB.out; omega))
  have BW11 := hid (bl_up BW10.out b11 (Nat.le_trans (Nat.le_trans NC.out (by omega)) NB.out))
  have XX11 := hid ((bk _ _ _ XX10.out).trans XX10.out)
  have Z11 := hid (Nat.le_trans Z10.out b11.size)
  clear ao b11 bk BC10 BW10 XX10 OO10 Z10
  go_wp2_with (first | (refine wpList_load_row rfl 29 _ rfl _ rfl _ _ _ _ XX11.out Try.underlying29 rfl (by kernel_rfl) ?_))
  refine (HR.out _ AO.out.1 AO.out.2).mono ?_
  rintro e w12 ⟨rfl, b12⟩
  have AP := hid (And.intro (AO.out.1.below b12) (AO.out.2.below b12))
  clear AO
  have BC12 := hid (bl_up BC11.out b12 (by have := BC11.out.size; omega))
  have BW12 := hid (bl_trans BW11.out b12)
  have XX12 := hid ((b12.block _ (lt_blk XX11.out)).trans XX11.out)
  have Z12 := hid (Nat.le_trans Z11.out b12.size)
  clear b12 BC11 BW11 XX11 Z11
  have t1 : decide ((mk : Int) < 0) = false := decide_eq_false (by omega)
  have t2 : ((mk : Int) != (mk : Int)) = false := by simp
  go_wp2_with fail
  refine (TO.out _ BW12.out HT.out).mono ?_
  rintro e w13 ⟨gs4, rfl, c4, b13⟩
  have C13 := hid c4
  have AP13 := hid (And.intro (AP.out.1.below b13) (AP.out.2.below b13))
  clear AP c4
  have BC13 := hid (bl_up BC12.out b13 (by have := BC12.out.size; omega))
  have BW13 := hid (bl_trans BW12.out b13)
  have XX13 := hid ((b13.block _ (lt_blk XX12.out)).trans XX12.out)
  have Z13 := hid (Nat.le_trans Z12.out b13.size)
  clear b13 BC12 BW12 XX12 Z12
  generalize w12.heap.size = G4 at *
  go_wp2_with fail
  refine (RU.out 6 (.inl rfl) _ _ _ _ C13.out).mono ?_
  rintro e w14 ⟨r14, rfl, l14, v14, o14, rfl, e14, q1, q2, q3, q4, b14⟩
  have R14 := hid (show Rr w14 (.agg #[.bool ok, v14, .int .i64 cm, o14]) ok rs cm os by rw [← e14]; exact rr_own q1 q2 q4)
  obtain ⟨sa, sb, sc, rfl⟩ := own_sl q1
  obtain ⟨sd, se, sf, rfl⟩ := own_sl q4
  have A14 : Below w14.heap.size w14 (w14.alloc (.cells #[.bool ok, .slice sa sb sc, .int .i64 cm, .slice sd se sf] 29)) := (Below.refl _ _).alloc (Nat.le_refl _) _
  have b14' := bl_trans b14 A14
  have AP14 := hid (And.intro (AP13.out.1.below b14') (AP13.out.2.below b14'))
  have R14a := hid (R14.out.below A14)
  clear q1 q2 q3 q4 e14 R14 A14 b14 C13 AP13
  have BC14 := hid (bl_up BC13.out b14' (by have := BC13.out.size; omega))
  have BW14 := hid (bl_trans BW13.out b14')
  have XX14 := hid ((b14'.block _ (lt_blk XX13.out)).trans XX13.out)
  have Z14 := hid (Nat.le_trans Z13.out b14'.size)
  clear b14' BC13 BW13 XX13 Z13
  have x8 := hid (RX.out _ BC14.out).1
  go_wp2_with (first | (refine wpList_load_row rfl 29 _ rfl _ rfl _ _ _ _ x8.out Try.underlying29 rfl (by kernel_rfl) ?_))
  clear x8
  generalize w14.alloc _ = W14 at *
  refine (EQ.out _ _ _ R14a.out (RX.out _ BC14.out).2).mono ?_
  rintro e w15 ⟨rfl, b15⟩
  have AP15 := hid (And.intro (AP14.out.1.below b15) (AP14.out.2.below b15))
  clear AP14 R14a
  have BC15 := hid (bl_up BC14.out b15 (by have := BC14.out.size; omega))
  have BW15 := hid (bl_trans BW14.out b15)
  have XX15 := hid ((b15.block _ (lt_blk XX14.out)).trans XX14.out)
  have Z15 := hid (Nat.le_trans Z14.out b15.size)
  clear b15 BC14 BW14 XX14 Z14
  go_wp2_with (first | (refine wpList_load_row rfl 29 _ rfl _ rfl _ _ _ _ XX15.out Try.underlying29 rfl (by kernel_rfl) ?_))
  refine (HR.out _ AP15.out.1 AP15.out.2).mono ?_
  rintro e w16 ⟨rfl, b16⟩
  have BW16 := hid (bl_trans BW15.out b16)
  clear b16 AP15 BW15 BC15 XX15 Z15
  go_wp2
  go_ret
  exact ⟨rfl, BW16.out⟩
end Go.Proofs.Ytamfbplchblkbaa
#print axioms Go.Proofs.Ytamfbplchblkbaa.walkS
