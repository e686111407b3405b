import Derived.Test.YtcefihmnnndleaaDoorHrE
namespace Go.Proofs.YtcefihmnnndleaaDoor
open Go.ChangeShapes Go.WideShapes Go.ChangeAt Go.RowKit
set_option linter.unusedVariables false
set_option maxRecDepth 20000
set_option linter.unusedSimpArgs false

theorem al26 (w : World) (cs : Array Value) : (w.alloc (.cells cs 26)).heap[w.heap.size]? = some (.cells cs 26 (0, 0)) := al_last w (.cells cs 26)
theorem bl_al26 (w : World) (cs : Array Value) : Below w.heap.size w (w.alloc (.cells cs 26)) := (Below.refl _ w).alloc (Nat.le_refl _) _
theorem row_by {w : World} {a : Option Addr} {len cap : Nat} {zs : List Int} (h : IsRow .u8 w a len cap zs) : ∀ n ∈ zs.take len, 0 ≤ n ∧ n ≤ 255 := fun n hn => by
  rcases h with ⟨_, rfl, _, rfl⟩ | ⟨x, _, _, _, _, _, h6⟩
  · simp at hn
  · have := h6 n (List.mem_of_mem_take hn)
    have a1 : IntKind.u8.min = 0 := rfl
    have a2 : IntKind.u8.max = 255 := rfl
    simp only [Lit.wf, Bool.and_eq_true, decide_eq_true_eq] at this
    omega
/-- a box stays where another row is turned -/
theorem box_own {W W' : World} {B t : Nat} {cs : Array Value} {e : TypeId} {sz : Nat} {v : Value} {n : Nat} {xs : List Value} (h : W.heap[t]? = some (.cells cs 26 (0, 0))) (ho : W.ownsRow B e sz v n xs) (he : e ≠ 26) (g : W.grownBy W' v.ownBlock) : W'.heap[t]? = some (.cells cs 26 (0, 0)) :=
  (g.block t (lt_blk h) (fun e2 => by
    obtain ⟨c, hc⟩ := own_obj ho e2.symm
    rw [h] at hc
    simp at hc
    exact he hc.2.symm)).trans h
theorem box_ops {B t : Nat} {W W' : World} {s : RdS} {o b : Value} {ps : List Pv} {cs : Array Value} (h : W.heap[t]? = some (.cells cs 26 (0, 0))) (ho : Ow2 B W s o b ps) (g : Bt (fun r => o.ownBlock = some r ∨ ∃ x ∈ ps, x.2.ownBlock = some r) W W') : W'.heap[t]? = some (.cells cs 26 (0, 0)) :=
  (g.block t (lt_blk h) (fun hs => by
    rcases hs with e | ⟨x, hx, e⟩
    · obtain ⟨c, hc⟩ := own_obj ho.op e
      rw [h] at hc; simp at hc
    · obtain ⟨c, hc⟩ := own_obj (ho.dd x hx) e
      rw [h] at hc; simp at hc)).trans h

set_option maxHeartbeats 8000000 in
theorem walk (a : Option Addr) (len cap : Nat) (zs : List Int) (a0 a1 : Addr) (mx : Int) (w : World) (hrow : IsRow .u8 w a len cap zs) (hgl : Gl a0 a1 mx w) :
    Calls Tryd.prog 3 #[.slice a len cap] w fun e w' => e = .returned (.bool true) ∧ Below w.heap.size w w' := by
  by_cases hlen : 1048576 < len
  · clear hrow hgl
    have h1 : decide (((len : Nat) : Int) > 1048576) = true := decide_eq_true (by omega)
    go_enter Tryd.func3, Tryd.ntmps3
    go_wp2
    go_ret
    exact ⟨rfl, Below.refl _ _⟩
  have hle : len ≤ 1048576 := Nat.le_of_not_lt hlen
  obtain ⟨l, hbv, hll0⟩ := bytes_of (zs.take len) (row_by hrow)
  have hll : l.length = len := by rw [hll0]; exact hrow.len
  have SM := hid (readM_sm l)
  have TO : Hid (∀ W, Below w.heap.size w W → Calls Tryd.prog 5 #[.slice a len cap] W fun e w' => e = .returned (.slice (some ⟨W.heap.size, 0, none⟩) len len) ∧ RowV w' W.heap.size 5 (bv l) ∧ Below W.heap.size W w') := hid (fun W hW => by rw [← hbv]; exact toBy a len cap zs W (hrow.below hW) hle)
  have SP := hid (fun g W (h : RowV W g 5 (bv l)) => spec_any g len l W hll hle h)
  have IM := hid (fun g W (h : RowV W g 5 (bv l)) (hW : Below w.heap.size w W) => impl_any g len l a0 a1 mx W hll hle h (hgl.below hW))
  have EB := hid (fun g1 g2 W (h1 : RowV W g1 5 (bv l)) (h2 : RowV W g2 5 (bv l)) => eqBy (some ⟨g1, 0, none⟩) (some ⟨g2, 0, none⟩) len len len (zs.take len) W hle (slByR (hbv.symm ▸ h1) (by rw [← hll0]; exact hll)) (slByR (hbv.symm ▸ h2) (by rw [← hll0]; exact hll)))
  have MB := hid (fun g W (h : RowV W g 5 (bv l)) => markBy g len len (zs.take len) 1 W (by rw [← hll0]; exact hll) hle (by omega) (hbv.symm ▸ h))
  generalize readM l = s at SP IM SM
  have EC := hid (fun u1 u2 W (h1 : Zs W u1 s.cf.draws) (h2 : Zs W u2 s.cf.draws) => eqCf s.cf u1 u2 W h1 h2 (by have := SM.out.dr; omega))
  have EO := hid (fun u1 u2 W (h1 : Os W u1 s.ops) (h2 : Os W u2 s.ops) => eqOs u1 u2 s.ops W h1 h2 (by have := SM.out.op; omega) (fun o ho => by have := SM.out.dat o ho; omega))
  have EZ := hid (fun u1 u2 W (h1 : Zs W u1 s.bad) (h2 : Zs W u2 s.bad) => eqZ u1 u2 s.bad W h1 h2 (by have := SM.out.bad; omega))
  have MC := hid (fun B u W h hB => markCf B s.cf u 1 W h hB (by have := SM.out.dr; omega) (by omega))
  have HC := hid (fun u W h => heldCf s.cf u 1 s.cf.draws.length W h (by have := SM.out.dr; omega) (by omega))
  unfold ReadP cfC at SP IM
  unfold cfC at EC MC HC
  generalize s.cf.mix = x1 at SP IM EC MC HC
  generalize s.cf.fifo = x2 at SP IM EC MC HC
  generalize s.cf.large = x3 at SP IM EC MC HC
  generalize s.cf.budget = x4 at SP IM EC MC HC
  generalize s.cf.key = x5 at SP IM EC MC HC
  have hl0 : decide (((len : Nat) : Int) > 1048576) = false := decide_eq_false (by omega)
  clear hrow hgl hbv hll0 hll hlen hle
  go_enter Tryd.func3, Tryd.ntmps3
  go_wp2_with fail
  refine (TO.out _ (Below.refl _ _)).mono ?_
  rintro e w1 ⟨rfl, r1, b1⟩
  have R1 := hid r1
  have B1 := hid b1
  clear r1 b1 hl0
  go_wp2_with fail
  refine (SP.out _ _ R1.out).mono ?_
  rintro e w2 ⟨d1, o1, bb1, ps1, rfl, q, b2⟩
  have rr := q.rr
  obtain ⟨pa, pb, pc, rfl⟩ := zs_sl rr.d
  obtain ⟨pd, pe, pf, rfl⟩ := os_sl rr.o
  obtain ⟨pg, ph, pi, rfl⟩ := zs_sl rr.b
  have B2 := hid (bl_trans B1.out b2)
  have RR := hid rr
  clear q b2 rr B1 R1 SP
  have A := hid (bl_al26 w2 #[.int .i64 x1, .int .i64 x2, .int .i64 x3, .int .i64 x4, .int .u64 x5, .slice pa pb pc])
  have X := hid (al26 w2 #[.int .i64 x1, .int .i64 x2, .int .i64 x3, .int .i64 x4, .int .u64 x5, .slice pa pb pc])
  go_upto_region 4 with fail
  have BW2 := hid (bl_trans B2.out A.out)
  have R3 := hid (RR.out.below A.out)
  clear A B2 RR
  generalize w2.alloc _ = W2 at *
  generalize w2.heap.size = t3 at *
  have RX := hid (fun W (hW : Below W2.heap.size W2 W) => And.intro ((hW.block _ (lt_blk X.out)).trans X.out) (R3.out.below hW))
  clear X R3
  go_wp2_with fail
  refine (TO.out _ BW2.out).mono ?_
  rintro e w3 ⟨rfl, c3, b3⟩
  have BC3 := hid b3
  have BW3 := hid (bl_trans BW2.out b3)
  have C3 := hid c3
  have WG := hid BW2.out.size
  clear c3 b3 BW2
  generalize hG : W2.heap.size = G at *
  go_wp2_with fail
  refine (IM.out _ _ C3.out BW3.out).mono ?_
  rintro e w4 ⟨dv, ov, bd, ps, rfl, q, b4⟩
  have rr := q.rr
  obtain ⟨ua, ub, uc, rfl⟩ := zs_sl rr.d
  obtain ⟨ud, ue, uf, rfl⟩ := os_sl rr.o
  obtain ⟨ug, uh, ui, rfl⟩ := zs_sl rr.b
  clear rr
  have Q := hid q
  have B4 := hid b4
  have TL := hid b4.size
  clear q b4
  have A := hid (bl_al26 w4 #[.int .i64 x1, .int .i64 x2, .int .i64 x3, .int .i64 x4, .int .u64 x5, .slice ua ub uc])
  have X := hid (al26 w4 #[.int .i64 x1, .int .i64 x2, .int .i64 x3, .int .i64 x4, .int .u64 x5, .slice ua ub uc])
  go_upto_region 6 with fail
  have b5 := bl_trans B4.out A.out
  have X5 := X
  have RS5 := hid (Q.out.below A.out)
  have BC5 := hid (bl_up BC3.out b5 (by have := BC3.out.size; omega))
  have BW5 := hid (bl_trans BW3.out b5)
  have C5 := hid (C3.out.below b5 C3.out.lt)
  have GN := hid C3.out.lt
  have Z5 := hid b5.size
  have SZ := hid (fun (k : Nat) (h : w3.heap.size ≤ k) => show w.heap.size ≤ k from by have := GN.out; have := WG.out; omega)
  clear b5 A X Q B4 BC3 BW3 C3 TL
  generalize w4.alloc _ = w5 at *
  generalize w4.heap.size = t7 at *
  generalize w3.heap.size = N at *
  have y3 := hid (RX.out _ BC5.out).1
  go_wp2_with (first | (refine wpList_load_row rfl 26 _ rfl _ rfl _ _ _ _ X5.out Tryd.underlying26 rfl (by kernel_rfl) ?_) | (refine wpList_load_row rfl 26 _ rfl _ rfl _ _ _ _ y3.out Tryd.underlying26 rfl (by kernel_rfl) ?_))
  clear y3
  refine (EC.out _ _ _ RS5.out.rr.d (RX.out _ BC5.out).2.d).mono ?_
  rintro e w6 ⟨rfl, b⟩
  have BC6 := hid (bl_up BC5.out b (by have := BC5.out.size; omega))
  have BW6 := hid (bl_trans BW5.out b)
  have X6 := hid ((b.block _ (lt_blk X5.out)).trans X5.out)
  have Z6 := hid (Nat.le_trans Z5.out b.size)
  have C6 := hid (C5.out.below b C5.out.lt)
  have RS6 := hid (RS5.out.below b)
  clear b BC5 BW5 X5 Z5 C5 RS5
  go_wp2_with fail
  refine (EO.out _ _ _ RS6.out.rr.o (RX.out _ BC6.out).2.o).mono ?_
  rintro e w7 ⟨rfl, b⟩
  have BC7 := hid (bl_up BC6.out b (by have := BC6.out.size; omega))
  have BW7 := hid (bl_trans BW6.out b)
  have X7 := hid ((b.block _ (lt_blk X6.out)).trans X6.out)
  have Z7 := hid (Nat.le_trans Z6.out b.size)
  have C7 := hid (C6.out.below b C6.out.lt)
  have RS7 := hid (RS6.out.below b)
  clear b BC6 BW6 X6 Z6 C6 RS6
  go_wp2_with fail
  refine (EZ.out _ _ _ RS7.out.rr.b (RX.out _ BC7.out).2.b).mono ?_
  rintro e w8 ⟨rfl, b⟩
  have BC8 := hid (bl_up BC7.out b (by have := BC7.out.size; omega))
  have BW8 := hid (bl_trans BW7.out b)
  have X8 := hid ((b.block _ (lt_blk X7.out)).trans X7.out)
  have Z8 := hid (Nat.le_trans Z7.out b.size)
  have C8 := hid (C7.out.below b C7.out.lt)
  have RS8 := hid (RS7.out.below b)
  clear b BC7 BW7 X7 Z7 C7 RS7
  go_wp2_with fail
  refine (TO.out _ BW8.out).mono ?_
  rintro e w9 ⟨rfl, c, b⟩
  have CC := hid c
  clear c
  generalize hH : w8.heap.size = H at CC
  have BC9 := hid (bl_up BC8.out b (by have := BC8.out.size; omega))
  have BW9 := hid (bl_trans BW8.out b)
  have X9 := hid ((b.block _ (lt_blk X8.out)).trans X8.out)
  have Z9 := hid (Nat.le_trans Z8.out b.size)
  have C9 := hid (C8.out.below b C8.out.lt)
  have RS9 := hid (RS8.out.below b)
  clear b BC8 BW8 X8 Z8 C8 RS8
  clear hH
  go_wp2_with fail
  refine (EB.out _ _ _ C9.out CC.out).mono ?_
  rintro e w10 ⟨rfl, b⟩
  clear CC EB
  have BC10 := hid (bl_up BC9.out b (by have := BC9.out.size; omega))
  have BW10 := hid (bl_trans BW9.out b)
  have X10 := hid ((b.block _ (lt_blk X9.out)).trans X9.out)
  have Z10 := hid (Nat.le_trans Z9.out b.size)
  have C10 := hid (C9.out.below b C9.out.lt)
  have RS10 := hid (RS9.out.below b)
  clear b BC9 BW9 X9 Z9 C9 RS9
  go_wp2_with fail
  refine (MB.out _ _ C10.out).mono ?_
  rintro e w11 ⟨rfl, _, g⟩
  have b : Below G w10 w11 := gr_below g (fun k e => by cases e; exact Nat.le_refl _) (Nat.le_of_lt C10.out.lt)
  have BC11 := hid (bl_up BC10.out b (Nat.le_refl _))
  have BW11 := hid (bl_up BW10.out b WG.out)
  have X11 := hid ((g.block _ (lt_blk X10.out) (fun e => by cases e; obtain ⟨c, hc, _⟩ := C10.out; have hx := X10.out; rw [hc] at hx; simp at hx)).trans X10.out)
  have RS11 := hid (RS10.out.grownR g GN.out)
  have Z11 := hid (Nat.le_trans Z10.out g.size)
  clear b g MB BC10 BW10 X10 Z10 C10 RS10
  generalize 1 + len = r1 at *
  have tn : decide ((r1 : Int) < 0) = false := decide_eq_false (by omega)
  have y3 := hid (RX.out _ BC11.out).1
  have c30 : w11.cell? ⟨t3, 0, none⟩ = some (.int .i64 x1) := by rw [cell_of_row _ _ _ _ _ _ y3.out]; rfl
  have c31 : w11.cell? ⟨t3, 1, none⟩ = some (.int .i64 x2) := by rw [cell_of_row _ _ _ _ _ _ y3.out]; rfl
  have c32 : w11.cell? ⟨t3, 2, none⟩ = some (.int .i64 x3) := by rw [cell_of_row _ _ _ _ _ _ y3.out]; rfl
  have c33 : w11.cell? ⟨t3, 3, none⟩ = some (.int .i64 x4) := by rw [cell_of_row _ _ _ _ _ _ y3.out]; rfl
  have c34 : w11.cell? ⟨t3, 4, none⟩ = some (.int .u64 x5) := by rw [cell_of_row _ _ _ _ _ _ y3.out]; rfl
  have c35 : w11.cell? ⟨t3, 5, none⟩ = some (.slice pa pb pc) := by rw [cell_of_row _ _ _ _ _ _ y3.out]; rfl
  have c70 : w11.cell? ⟨t7, 0, none⟩ = some (.int .i64 x1) := by rw [cell_of_row _ _ _ _ _ _ X11.out]; rfl
  have c71 : w11.cell? ⟨t7, 1, none⟩ = some (.int .i64 x2) := by rw [cell_of_row _ _ _ _ _ _ X11.out]; rfl
  have c72 : w11.cell? ⟨t7, 2, none⟩ = some (.int .i64 x3) := by rw [cell_of_row _ _ _ _ _ _ X11.out]; rfl
  have c73 : w11.cell? ⟨t7, 3, none⟩ = some (.int .i64 x4) := by rw [cell_of_row _ _ _ _ _ _ X11.out]; rfl
  have c74 : w11.cell? ⟨t7, 4, none⟩ = some (.int .u64 x5) := by rw [cell_of_row _ _ _ _ _ _ X11.out]; rfl
  have c75 : w11.cell? ⟨t7, 5, none⟩ = some (.slice ua ub uc) := by rw [cell_of_row _ _ _ _ _ _ X11.out]; rfl
  clear y3
  go_wp2_with fail
  clear c30 c70 c31 c71 c32 c72 c33 c73 c34 c74 c35 c75 tn
  refine (EC.out _ _ _ RS11.out.rr.d (RX.out _ BC11.out).2.d).mono ?_
  rintro e w12 ⟨rfl, b⟩
  have BC12 := hid (bl_up BC11.out b (by have := BC11.out.size; omega))
  have BW12 := hid (bl_trans BW11.out b)
  have X12 := hid ((b.block _ (lt_blk X11.out)).trans X11.out)
  have Z12 := hid (Nat.le_trans Z11.out b.size)
  have RS12 := hid (RS11.out.below b)
  clear b BC11 BW11 X11 Z11 RS11
  go_wp2_with fail
  refine (EO.out _ _ _ RS12.out.rr.o (RX.out _ BC12.out).2.o).mono ?_
  rintro e w13 ⟨rfl, b⟩
  have BC13 := hid (bl_up BC12.out b (by have := BC12.out.size; omega))
  have BW13 := hid (bl_trans BW12.out b)
  have X13 := hid ((b.block _ (lt_blk X12.out)).trans X12.out)
  have Z13 := hid (Nat.le_trans Z12.out b.size)
  have RS13 := hid (RS12.out.below b)
  clear b BC12 BW12 X12 Z12 RS12
  go_wp2_with fail
  refine (EZ.out _ _ _ RS13.out.rr.b (RX.out _ BC13.out).2.b).mono ?_
  rintro e w14 ⟨rfl, b⟩
  have BC14 := hid (bl_up BC13.out b (by have := BC13.out.size; omega))
  have BW14 := hid (bl_trans BW13.out b)
  have X14 := hid ((b.block _ (lt_blk X13.out)).trans X13.out)
  have Z14 := hid (Nat.le_trans Z13.out b.size)
  have RS14 := hid (RS13.out.below b)
  clear b BC13 BW13 X13 Z13 RS13
  go_wp2_with (first | (refine wpList_load_row rfl 26 _ rfl _ rfl _ _ _ _ X14.out Tryd.underlying26 rfl (by kernel_rfl) ?_))
  refine (MC.out _ _ _ RS14.out.dt Z14.out).mono ?_
  rintro e w15 ⟨rfl, oz, g⟩
  have b : Below N w14 w15 := gr_below g (fun k e => (RS14.out.dt.lt k e).1) Z14.out
  have BC15 := hid (bl_up BC14.out b (Nat.le_of_lt GN.out))
  have BW15 := hid (bl_up BW14.out b (SZ.out _ (Nat.le_refl _)))
  have X15 := hid (box_own X14.out RS14.out.dt (by decide) g)
  have OW := hid (RS14.out.ow2 g)
  have AP := hid RS14.out.ap
  have PW := hid RS14.out.pw
  have PE := hid RS14.out.eq
  have Z15 := hid (Nat.le_trans Z14.out g.size)
  have DZ15 := hid oz
  clear b g oz MC BC14 BW14 X14 Z14 RS14
  have hpl : ps.length ≤ 20000 := by have := SM.out.op; rw [← PE.out] at this; simpa using this
  have hpd : ∀ x ∈ ps, x.1.data.length ≤ 40000 := fun x hx => SM.out.dat x.1 (by rw [← PE.out]; exact List.mem_map_of_mem hx)
  have hpt := totD_bound ps hpd
  have hdr := SM.out.dr
  have hbad := SM.out.bad
  have MV := hid (fun B W h1 h2 => markV B (1 + s.cf.draws.length) ps (.slice ud ue uf) W h1 h2 PW.out (by omega) (by omega) (fun x hx => by have := hpd x hx; omega))
  have HV := hid (fun W h1 => heldV (1 + s.cf.draws.length) ps (.slice ud ue uf) W h1 (by omega) (by omega) (fun x hx => by have := hpd x hx; omega))
  have hm2 : mkO (1 + s.cf.draws.length) ps ps.length ≤ 1000000000000 := by
    unfold mkO
    have := totD_le ps ps.length
    omega
  have MO := hid (fun B W h => markO B s.bad (mkO (1 + s.cf.draws.length) ps ps.length) (.slice ug uh ui) W h (by omega) hm2)
  have HO := hid (fun W h => heldO (mkO (1 + s.cf.draws.length) ps ps.length) s.bad.length (.slice ug uh ui) W h (by omega) hm2)
  clear hpl hpd hpt hdr hbad hm2 PE
  generalize mkO (1 + s.cf.draws.length) ps ps.length = m2 at *
  generalize 1 + s.cf.draws.length = k1 at *
  generalize s.cf.draws.length = n1 at *
  go_wp2_with fail
  refine (MV.out _ _ OW.out.op OW.out.dd).mono ?_
  rintro e w16 ⟨rfl, av, g⟩
  have b : Below N w15 w16 := bt_below g (fun k e => by rcases e with e | ⟨x, hx, e⟩; exact (OW.out.op.lt k e).1; exact ((OW.out.dd x hx).lt k e).1) Z15.out
  have BC16 := hid (bl_up BC15.out b (Nat.le_of_lt GN.out))
  have BW16 := hid (bl_up BW15.out b (SZ.out _ (Nat.le_refl _)))
  have X16 := hid (box_ops X15.out OW.out g)
  have Z16 := hid (Nat.le_trans Z15.out g.size)
  have ST := hid (OW.out.step DZ15.out g)
  have AV16 := hid av
  have OV : Hid (∀ r, (Value.slice ud ue uf).ownBlock = some r → r < w16.heap.size ∧ (Value.slice ug uh ui).ownBlock ≠ some r) := hid (fun r e => ⟨Nat.lt_of_lt_of_le (OW.out.op.lt r e).2 g.size, own_ap OW.out.op OW.out.bdo (by decide) e⟩)
  clear b g av MV OW DZ15 BC15 BW15 X15 Z15
  go_wp2_with fail
  refine (MO.out _ _ ST.out.2).mono ?_
  rintro e w17 ⟨rfl, oz, g⟩
  have b : Below N w16 w17 := gr_below g (fun k e => (ST.out.2.lt k e).1) Z16.out
  have BC17 := hid (bl_up BC16.out b (Nat.le_of_lt GN.out))
  have BW17 := hid (bl_up BW16.out b (SZ.out _ (Nat.le_refl _)))
  have X17 := hid (box_own X16.out ST.out.2 (by decide) g)
  have Z17 := hid (Nat.le_trans Z16.out g.size)
  have AV17 := hid (AV16.out.step OV.out ST.out.2 g)
  have DZ17 := hid (ST.out.1.grown g (fun r e => AP.out r e))
  have BZ17 := hid oz
  clear b g oz MO OV ST AP AV16 BC16 BW16 X16 Z16
  generalize m2 + s.bad.length = m3 at *
  have t1 : decide ((k1 : Int) < 0) = false := decide_eq_false (by omega)
  have t2 : decide ((m2 : Int) < 0) = false := decide_eq_false (by omega)
  have t3' : decide ((m3 : Int) < 0) = false := decide_eq_false (by omega)
  have t4 : ((m3 : Int) != (m3 : Int)) = false := by simp
  go_wp2_with (first | (refine wpList_load_row rfl 26 _ rfl _ rfl _ _ _ _ X17.out Tryd.underlying26 rfl (by kernel_rfl) ?_))
  refine (HC.out _ _ DZ17.out).mono ?_
  rintro e w18 ⟨rfl, b⟩
  have BC18 := hid (bl_up BC17.out b (by have := BC17.out.size; omega))
  have BW18 := hid (bl_trans BW17.out b)
  have X18 := hid ((b.block _ (lt_blk X17.out)).trans X17.out)
  have Z18 := hid (Nat.le_trans Z17.out b.size)
  have DZ18 := hid (DZ17.out.below b)
  have AV18 := hid (AV17.out.below b)
  have BZ18 := hid (BZ17.out.below b)
  clear b BC17 BW17 X17 Z17 DZ17 AV17 BZ17
  go_wp2_with fail
  refine (HV.out _ AV18.out).mono ?_
  rintro e w19 ⟨rfl, b⟩
  have BC19 := hid (bl_up BC18.out b (by have := BC18.out.size; omega))
  have BW19 := hid (bl_trans BW18.out b)
  have X19 := hid ((b.block _ (lt_blk X18.out)).trans X18.out)
  have Z19 := hid (Nat.le_trans Z18.out b.size)
  have DZ19 := hid (DZ18.out.below b)
  have AV19 := hid (AV18.out.below b)
  have BZ19 := hid (BZ18.out.below b)
  clear b BC18 BW18 X18 Z18 DZ18 AV18 BZ18
  go_wp2_with fail
  refine (HO.out _ BZ19.out).mono ?_
  rintro e w20 ⟨rfl, hw⟩
  have b : Below w19.heap.size w19 w20 := by rw [hw]; exact Below.refl _ _
  clear hw
  have BC20 := hid (bl_up BC19.out b (by have := BC19.out.size; omega))
  have BW20 := hid (bl_trans BW19.out b)
  have X20 := hid ((b.block _ (lt_blk X19.out)).trans X19.out)
  have Z20 := hid (Nat.le_trans Z19.out b.size)
  have DZ20 := hid (DZ19.out.below b)
  have AV20 := hid (AV19.out.below b)
  have BZ20 := hid (BZ19.out.below b)
  clear b BC19 BW19 X19 Z19 DZ19 AV19 BZ19
  go_wp2_with fail
  refine (TO.out _ BW20.out).mono ?_
  rintro e w21 ⟨rfl, c, b⟩
  have CC := hid c
  clear c
  generalize hH : w20.heap.size = H at CC
  have BC21 := hid (bl_up BC20.out b (by have := BC20.out.size; omega))
  have BW21 := hid (bl_trans BW20.out b)
  have X21 := hid ((b.block _ (lt_blk X20.out)).trans X20.out)
  have Z21 := hid (Nat.le_trans Z20.out b.size)
  have DZ21 := hid (DZ20.out.below b)
  have AV21 := hid (AV20.out.below b)
  have BZ21 := hid (BZ20.out.below b)
  clear b BC20 BW20 X20 Z20 DZ20 AV20 BZ20
  clear hH
  go_wp2_with fail
  refine (IM.out _ _ CC.out BW21.out).mono ?_
  rintro e w22 ⟨d9, o9, b9, ps9, rfl, q, b⟩
  have rr := q.rr
  obtain ⟨sa, sb, sc, rfl⟩ := zs_sl rr.d
  obtain ⟨sd, se, sf, rfl⟩ := os_sl rr.o
  obtain ⟨sg, sh, si, rfl⟩ := zs_sl rr.b
  clear CC q IM TO
  have RR := hid rr
  clear rr
  have BC22 := hid (bl_up BC21.out b (by have := BC21.out.size; omega))
  have BW22 := hid (bl_trans BW21.out b)
  have X22 := hid ((b.block _ (lt_blk X21.out)).trans X21.out)
  have Z22 := hid (Nat.le_trans Z21.out b.size)
  have DZ22 := hid (DZ21.out.below b)
  have AV22 := hid (AV21.out.below b)
  have BZ22 := hid (BZ21.out.below b)
  clear b BC21 BW21 X21 Z21 DZ21 AV21 BZ21
  have A := hid (bl_al26 w22 #[.int .i64 x1, .int .i64 x2, .int .i64 x3, .int .i64 x4, .int .u64 x5, .slice sa sb sc])
  have X := hid (al26 w22 #[.int .i64 x1, .int .i64 x2, .int .i64 x3, .int .i64 x4, .int .u64 x5, .slice sa sb sc])
  go_upto_region 31 with fail
  have b := A.out
  have R923 := hid (RR.out.below b)
  have X923 := X
  have BC23 := hid (bl_up BC22.out b (by have := BC22.out.size; omega))
  have BW23 := hid (bl_trans BW22.out b)
  have X23 := hid ((b.block _ (lt_blk X22.out)).trans X22.out)
  have Z23 := hid (Nat.le_trans Z22.out b.size)
  have DZ23 := hid (DZ22.out.below b)
  have AV23 := hid (AV22.out.below b)
  have BZ23 := hid (BZ22.out.below b)
  clear b BC22 BW22 X22 Z22 DZ22 AV22 BZ22
  clear A X RR
  generalize w22.alloc _ = w23 at *
  generalize w22.heap.size = t13 at *
  have y3 := hid (RX.out _ BC23.out).1
  go_wp2_with (first | (refine wpList_load_row rfl 26 _ rfl _ rfl _ _ _ _ X923.out Tryd.underlying26 rfl (by kernel_rfl) ?_) | (refine wpList_load_row rfl 26 _ rfl _ rfl _ _ _ _ y3.out Tryd.underlying26 rfl (by kernel_rfl) ?_))
  clear y3 X923
  refine (EC.out _ _ _ R923.out.d (RX.out _ BC23.out).2.d).mono ?_
  rintro e w24 ⟨rfl, b⟩
  have BC24 := hid (bl_up BC23.out b (by have := BC23.out.size; omega))
  have BW24 := hid (bl_trans BW23.out b)
  have X24 := hid ((b.block _ (lt_blk X23.out)).trans X23.out)
  have Z24 := hid (Nat.le_trans Z23.out b.size)
  have DZ24 := hid (DZ23.out.below b)
  have AV24 := hid (AV23.out.below b)
  have BZ24 := hid (BZ23.out.below b)
  have R924 := hid (R923.out.below b)
  clear b BC23 BW23 X23 Z23 DZ23 AV23 BZ23 R923
  go_wp2_with fail
  refine (EO.out _ _ _ R924.out.o (RX.out _ BC24.out).2.o).mono ?_
  rintro e w25 ⟨rfl, b⟩
  have BC25 := hid (bl_up BC24.out b (by have := BC24.out.size; omega))
  have BW25 := hid (bl_trans BW24.out b)
  have X25 := hid ((b.block _ (lt_blk X24.out)).trans X24.out)
  have Z25 := hid (Nat.le_trans Z24.out b.size)
  have DZ25 := hid (DZ24.out.below b)
  have AV25 := hid (AV24.out.below b)
  have BZ25 := hid (BZ24.out.below b)
  have R925 := hid (R924.out.below b)
  clear b BC24 BW24 X24 Z24 DZ24 AV24 BZ24 R924
  go_wp2_with fail
  refine (EZ.out _ _ _ R925.out.b (RX.out _ BC25.out).2.b).mono ?_
  rintro e w26 ⟨rfl, b⟩
  have BC26 := hid (bl_up BC25.out b (by have := BC25.out.size; omega))
  have BW26 := hid (bl_trans BW25.out b)
  have X26 := hid ((b.block _ (lt_blk X25.out)).trans X25.out)
  have Z26 := hid (Nat.le_trans Z25.out b.size)
  have DZ26 := hid (DZ25.out.below b)
  have AV26 := hid (AV25.out.below b)
  have BZ26 := hid (BZ25.out.below b)
  have R926 := hid (R925.out.below b)
  clear b BC25 BW25 X25 Z25 DZ25 AV25 BZ25 R925
  go_wp2_with (first | (refine wpList_load_row rfl 26 _ rfl _ rfl _ _ _ _ X26.out Tryd.underlying26 rfl (by kernel_rfl) ?_))
  refine (HC.out _ _ DZ26.out).mono ?_
  rintro e w27 ⟨rfl, b⟩
  have BC27 := hid (bl_up BC26.out b (by have := BC26.out.size; omega))
  have BW27 := hid (bl_trans BW26.out b)
  have X27 := hid ((b.block _ (lt_blk X26.out)).trans X26.out)
  have Z27 := hid (Nat.le_trans Z26.out b.size)
  have DZ27 := hid (DZ26.out.below b)
  have AV27 := hid (AV26.out.below b)
  have BZ27 := hid (BZ26.out.below b)
  have R927 := hid (R926.out.below b)
  clear b BC26 BW26 X26 Z26 DZ26 AV26 BZ26 R926
  go_wp2_with fail
  refine (HV.out _ AV27.out).mono ?_
  rintro e w28 ⟨rfl, b⟩
  have BC28 := hid (bl_up BC27.out b (by have := BC27.out.size; omega))
  have BW28 := hid (bl_trans BW27.out b)
  have X28 := hid ((b.block _ (lt_blk X27.out)).trans X27.out)
  have Z28 := hid (Nat.le_trans Z27.out b.size)
  have DZ28 := hid (DZ27.out.below b)
  have AV28 := hid (AV27.out.below b)
  have BZ28 := hid (BZ27.out.below b)
  have R928 := hid (R927.out.below b)
  clear b BC27 BW27 X27 Z27 DZ27 AV27 BZ27 R927
  go_wp2_with fail
  refine (HO.out _ BZ28.out).mono ?_
  rintro e w29 ⟨rfl, hw⟩
  have BWl := hid (show Below w.heap.size w w29 by rw [hw]; exact BW28.out)
  clear hw
  go_wp2
  go_ret
  exact ⟨rfl, BWl.out⟩
end Go.Proofs.YtcefihmnnndleaaDoor
#print axioms Go.Proofs.YtcefihmnnndleaaDoor.walk
