import Derived.Test.YtgandbaejlfppaaGreatDoorC1
import Derived.Test.YtgandbaejlfppaaGreatDoorN16
import Derived.Test.YtgandbaejlfppaaGreatDoorN18
import Derived.Deep.RegionWith
import Derived.Deep.RegionHeld
import Derived.Test.YtgandbaejlfppaaGreatDoorM00
import Derived.Test.YtgandbaejlfppaaGreatDoorL1
import Derived.Test.YtgandbaejlfppaaGreatDoorN36
import Derived.Test.YtgandbaejlfppaaGreatDoorN23
import Derived.Test.YtgandbaejlfppaaGreatDoorM03
namespace Go.Proofs.YtgandbaejlfppaaGreatDoor
open Go.RowKit Go.Shelf Go.Maps
set_option linter.unusedVariables false
set_option maxRecDepth 20000
set_option maxHeartbeats 4000000 in
theorem walk7 (RI : RunI) (CR : CRuns) (a : Option Addr) (len cap : Nat) (zs : List Int) (w : World) (h0 : IsRow .u8 w a len cap zs) (tb : Tb w) (hw : 0 < w.heap.size) :
    Calls Tryz.prog 3 #[.slice a len cap] w fun e w' => e = .returned (.bool true) ∧ Below w.heap.size w w' := by
  by_cases hl : 1048576 < len
  · go_enter Tryz.func3, Tryz.ntmps3
    go_wp2
    go_ret
    exact ⟨rfl, Below.refl _ _⟩
  · have RO := hid (roomy_any a len cap zs w h0 (by omega))
    have TB := hid tb
    have HW := hid hw
    have HRI := hid RI
    have HCR := hid @CR
    clear h0 tb hw RI CR
    go_enter Tryz.func3, Tryz.ntmps3
    go_wp2_with fail
    refine RO.out.mono ?_
    rintro e V1 ⟨c, k, B, hk, rfl, hcl, hB, ok, hm, hf, hla, hbu, b1⟩
    rw [cdC_cfg c hm hf hla hbu]
    have DK := hid (cdC_dok ok hcl hm hf hla)
    obtain ⟨sl, sb⟩ := ok.sl
    have SL := hid sl
    have SB := hid sb
    have B1 := hid b1
    have FI := hid (show 1 ≤ (⟨c.mi.toNat, c.fi.toNat, c.la.toNat, 283, c.ky, c.ds⟩ : Cf).fifo ∧ 1 ≤ (⟨c.mi.toNat, c.fi.toNat, c.la.toNat, 283, c.ky, c.ds⟩ : Cf).large ∧ (⟨c.mi.toNat, c.fi.toNat, c.la.toNat, 283, c.ky, c.ds⟩ : Cf).bud = 283 ∧ (⟨c.mi.toNat, c.fi.toNat, c.la.toNat, 283, c.ky, c.ds⟩ : Cf).ds = c.ds from ⟨by show 1 ≤ c.fi.toNat; omega, by show 1 ≤ c.la.toNat; omega, rfl, rfl⟩)
    generalize (⟨c.mi.toNat, c.fi.toNat, c.la.toNat, 283, c.ky, c.ds⟩ : Cf) = cf at DK FI ⊢
    rw [← FI.out.2.2.2] at SL
    have FJ := hid (And.intro FI.out.1 (And.intro FI.out.2.1 FI.out.2.2.1))
    clear FI
    generalize c.da = da at SL SB ⊢
    generalize c.dc = dc at ⊢
    clear ok hm hf hla hbu hcl sl sb b1 hB RO c
    unfold cfgV
    obtain ⟨A, hA, eA⟩ : ∃ A : Nat, A ≤ 1016 ∧ (k : Int) * 3 = (A : Int) := ⟨k * 3, by omega, by omega⟩
    have hc := coN_in9 hA
    have X1 := hid (al_last V1 (.cells #[.int .i64 (cf.mix : Nat), .int .i64 (cf.fifo : Nat), .int .i64 (cf.large : Nat), .int .i64 (cf.bud : Nat), .int .u64 cf.key, .slice da cf.ds.length dc] 26))
    have B2 := hid (bl_trans B1.out ((Below.refl V1.heap.size V1).alloc (Nat.le_refl _) (.cells #[.int .i64 (cf.mix : Nat), .int .i64 (cf.fifo : Nat), .int .i64 (cf.large : Nat), .int .i64 (cf.bud : Nat), .int .u64 cf.key, .slice da cf.ds.length dc] 26)))
    have LX := hid B1.out.size
    have S2 := hid (SL.out.below ((Below.refl V1.heap.size V1).alloc (Nat.le_refl _) (.cells #[.int .i64 (cf.mix : Nat), .int .i64 (cf.fifo : Nat), .int .i64 (cf.large : Nat), .int .i64 (cf.bud : Nat), .int .u64 cf.key, .slice da cf.ds.length dc] 26)))
    have P2 := hid (fun a (ha : da = some a) => Nat.lt_of_lt_of_le (SB.out a ha) ((Below.refl V1.heap.size V1).alloc (Nat.le_refl _) (.cells #[.int .i64 (cf.mix : Nat), .int .i64 (cf.fifo : Nat), .int .i64 (cf.large : Nat), .int .i64 (cf.bud : Nat), .int .u64 cf.key, .slice da cf.ds.length dc] 26)).size)
    clear SL SB B1
    go_wp2_with fail
    clear eA
    generalize V1.alloc (.cells #[.int .i64 (cf.mix : Nat), .int .i64 (cf.fifo : Nat), .int .i64 (cf.large : Nat), .int .i64 (cf.bud : Nat), .int .u64 cf.key, .slice da cf.ds.length dc] 26) = V2 at X1 B2 S2 P2 ⊢
    generalize V1.heap.size = X at X1 LX ⊢
    refine (sp_co A V2 hA).mono ?_
    rintro e V3 ⟨rfl, b3⟩
    have X2 := hid (below_at9 b3 X1.out)
    have B3 := hid (bl_trans B2.out b3)
    have S3 := hid (S2.out.below b3)
    have P3 := hid (fun a ha => Nat.lt_of_lt_of_le (P2.out a ha) b3.size)
    clear b3 X1 B2 S2 P2
    obtain ⟨cl, hcl⟩ : ∃ cl, coN A = cl := ⟨_, rfl⟩
    rw [hcl] at hc ⊢
    have hneg : ¬ ((cl : Nat) : Int) < 0 := by omega
    go_wp2_with fail
    refine (sp_usN cl V3 hc).mono ?_
    rintro e V4 ⟨rfl, b3⟩
    have X3 := hid (below_at9 b3 X2.out)
    have B4 := hid (bl_trans B3.out b3)
    have S4 := hid (S3.out.below b3)
    have P4 := hid (fun a ha => Nat.lt_of_lt_of_le (P3.out a ha) b3.size)
    clear b3 X2 B3 S3 P3 hneg
    have hus := szN_in hc
    have HCL := hid hcl
    obtain ⟨us, hus2, hus3⟩ : ∃ us, usN cl = us ∧ us ≤ 1016 := ⟨_, rfl, by omega⟩
    have HUS := hid hus2
    have HC12 := hid hc
    rw [hus2]
    clear hus hus2 hcl hc
    obtain ⟨i, hi, ei⟩ : ∃ i : Nat, i < 8 ∧ (k : Int) % 8 = (i : Int) := ⟨k % 8, by omega, by omega⟩
    obtain ⟨f, hfm, ef⟩ : ∃ f : Nat, f = us + i ∧ (us : Int) + (i : Int) = (f : Int) := ⟨us + i, rfl, by omega⟩
    have OI := hid (ois_new V4 [⟨⟨0, 0, 0, A, 0, []⟩, none, 0⟩, ⟨⟨5, 1, f, 1, 0, []⟩, none, 0⟩] (by intro q hq; simp at hq; rcases hq with rfl | rfl <;> simp <;> omega) (by intro q hq; simp at hq; rcases hq with rfl | rfl <;> (intro i hi; simp at hi)))
    have bO := (Below.refl V4.heap.size V4).alloc (Nat.le_refl _) (.cells (flatO6 [⟨⟨0, 0, 0, A, 0, []⟩, none, 0⟩, ⟨⟨5, 1, f, 1, 0, []⟩, none, 0⟩]).toArray 42)
    have RUN := hid (HRI.out cf da dc _ 2 _ _ DK.out FJ.out.2.1 (TB.out.below (bl_trans B4.out bO)) (S4.out.below bO) (fun a ha => Nat.lt_of_lt_of_le (P4.out a ha) bO.size) (by have := HW.out; have := B4.out.size; have := bO.size; omega) OI.out (by intro q hq; simp at hq; rcases hq with rfl | rfl <;> simp) (by simp))
    have BO := hid bO
    have HF := hid hfm
    clear OI bO hfm
    go_wp2_with (refine wpList_load_row rfl 26 _ rfl _ rfl _ _ _ _ X3.out Tryz.underlying26 rfl (by kernel_rfl) ?_)
    refine RUN.out.mono ?_
    rintro e V5 ⟨l, va, m0, m1, m2, m3, m4, m5, m6, m7, rfl, one, hl, row, dat, b5⟩
    obtain ⟨q, hq, r1, r2⟩ := HCR.out cf FJ.out.2.2 FJ.out.1 hA i hi
    rw [HCL.out, HUS.out, ← HF.out] at r1 r2
    have hl2 := hl.trans r1
    obtain ⟨old, hold⟩ : ∃ old, (can cf q)[i]?.getD 0 = old := ⟨_, rfl⟩
    rw [hold] at hl2 r2
    have HOLD := hid hold
    clear hold
    obtain ⟨G, gc, hva, hG, hG2, hcs⟩ := ans_at row hl2 (by simp)
    obtain rfl : va = .slice (some ⟨G, 0, none⟩) 2 gc := hva
    obtain ⟨v0, -, -, a01, -, -⟩ := hcs 0 _ rfl
    obtain ⟨v1, hv1, a10, -, -, a13⟩ := hcs 1 _ rfl
    obtain ⟨D, dcp, rfl, hD, d0, hD2⟩ := one_byte (dat _ hv1)
    have X4 := hid (below_at9 (bl_trans BO.out b5) X3.out)
    have B5 := hid (bl_trans B4.out (bl_trans BO.out b5))
    have S5 := hid (S4.out.below (bl_trans BO.out b5))
    have P5 := hid (fun a ha => Nat.lt_of_lt_of_le (P4.out a ha) (bl_trans BO.out b5).size)
    have R2 := hid r2
    have A01 := hid a01
    have A10 := hid a10
    have A13 := hid a13
    have D0 := hid d0
    have ONE := hid one
    have HQ := hid hq
    clear X3 B4 S4 P4 RUN BO hl hl2 hcs hv1 row dat b5 r1 r2 a01 a10 a13 d0 one hG hG2 hD hD2 hq
    obtain ⟨nb, bn⟩ := box_new V5 #[.bool false, .slice none 0 0, .int .i64 0, .slice none 0 0, .slice none 0 0, .slice none 0 0, .slice none 0 0, .slice none 0 0, .slice none 0 0, .int .i64 0] #[.bool true, .slice (some ⟨G, 0, none⟩) 2 gc, m0, m1, m2, m3, m4, m5, m6, m7] 39
    have NB := hid nb
    have X5 := hid (below_at9 bn X4.out)
    have B6 := hid (bl_trans B5.out bn)
    have S6 := hid (S5.out.below bn)
    have P6 := hid (fun a ha => Nat.lt_of_lt_of_le (P5.out a ha) bn.size)
    have C01 := hid (below_cell bn A01.out)
    have C10 := hid (below_cell bn A10.out)
    have C13 := hid (below_cell bn A13.out)
    have E0 := hid (below_cell bn D0.out)
    have OA := hid (show (#[.bool true, .slice (some ⟨G, 0, none⟩) 2 gc, m0, m1, m2, m3, m4, m5, m6, m7] : Array Value).all (·.oneCell') = true from by
      have h := ONE.out
      simp only [List.mem_cons, List.not_mem_nil, or_false, forall_eq_or_imp, forall_eq] at h
      obtain ⟨h9, h0, h1, h2, h3, h4, h5, h6, h7⟩ := h
      rw [← Array.all_toList]
      simp only [List.all_cons, List.all_nil, Bool.and_true, Bool.and_eq_true]
      exact ⟨rfl, h9, h0, h1, h2, h3, h4, h5, h6, h7⟩)
    clear nb bn X4 B5 S5 P5 A01 A10 A13 D0 ONE
    go_wp2_with (refine wpList_store_row rfl 39 _ _ rfl _ _ rfl rfl 39 _ (al_last V5 _) (by kernel_rfl) rfl OA.out ?_; generalize (V5.alloc (.cells #[.bool false, .slice none 0 0, .int .i64 0, .slice none 0 0, .slice none 0 0, .slice none 0 0, .slice none 0 0, .slice none 0 0, .slice none 0 0, .int .i64 0] 39)).setRow V5.heap.size #[.bool true, .slice (some ⟨G, 0, none⟩) 2 gc, m0, m1, m2, m3, m4, m5, m6, m7] = V6 at NB X5 B6 S6 P6 C01 C10 C13 E0 ⊢; generalize V5.heap.size = E at NB ⊢; obtain ⟨n0, n1⟩ := box01 NB.out; have c10 := C10.out; have c13 := C13.out; have e0 := E0.out)
    have c01 := C01.out
    have xk := cell4 X5.out
    clear c10 c13 e0 n0 ef
    have CN := hid (fun V => spec_any cf.key (q : Nat) V DK.out.key0 DK.out.key1 (by omega) (by have := HQ.out; omega))
    have HS0 := hid (show Below V6.heap.size V6 V6.drew from (Below.refl _ _).drew)
    have et : (k : Int).tmod 8 = (i : Int) := by rw [Int.tmod_eq_emod_of_nonneg (by omega)]; exact ei
    go_cut [92] (fun s wx => s = .bool false ∧ Hid (Below V6.heap.size V6 wx))
    case first =>
      refine wp_region_held (S := fun W9 => Below V6.heap.size V6 W9) (by kernel_rfl) ?_
      simp only [List.size_toArray, List.length_cons, List.length_nil, Nat.reduceAdd, Array.replicate_succ, Array.replicate_zero, List.push_toArray, List.nil_append, List.cons_append]
      have hS := HS0.out
      refine pk 0 75 (.int .u8 old) hS ?_
      simp only [lz, l0, ls]
      refine pk 2 77 (.pointer (some ⟨X, 4, none⟩)) hS ?_
      simp only [lz, l0, ls]
      refine pf 3 78 (.int .u64 cf.key) rfl hS (fun W hW => by have q9 := below_cell hW xk; go_simp) ?_
      simp only [lz, l0, ls]
      refine pk 4 79 (.pointer (some ⟨E, 1, none⟩)) hS ?_
      simp only [lz, l0, ls]
      refine pf 5 80 (.slice (some ⟨G, 0, none⟩) 2 gc) rfl hS (fun W hW => by have q9 := below_cell hW n1; go_simp) ?_
      simp only [lz, l0, ls]
      refine pz 6 81 (.pointer (some ⟨G, 0, none⟩)) hS ?_
      simp only [lz, l0, ls]
      refine pk 7 82 (.pointer (some ⟨G, 1, none⟩)) hS ?_
      simp only [lz, l0, ls]
      refine pf 8 83 (.int .u64 (q : Nat)) rfl hS (fun W hW => by have q9 := below_cell hW c01; go_simp) ?_
      simp only [lz, l0, ls]
      refine pk 10 85 (.int .i64 (k : Nat)) hS ?_
      simp only [lz, l0, ls]
      refine pf 11 86 (.int .i64 (i : Nat)) rfl hS (fun W hW => by first | (go_simp; done) | (go_simp; simp only [et]; done) | (go_simp; exact et)) ?_
      simp only [lz, l0, ls]
      refine pk 12 87 (.int .i64 (k : Nat)) hS ?_
      simp only [lz, l0, ls]
      refine pf 13 88 (.int .i64 (i : Nat)) rfl hS (fun W hW => by first | (go_simp; done) | (go_simp; simp only [et]; done) | (go_simp; exact et)) ?_
      simp only [lz, l0, ls]
      refine pf 14 89 (.int .i64 ((i : Int) + 1)) rfl hS (fun W hW => by go_simp; exact wrap64D _ (by omega) (by omega)) ?_
      simp only [lz, l0, ls]
      refine wpAnyH_ready (rs := [1, 9]) (by kernel_rfl) (by simp) ?_
      refine AllReadyH.cons rfl (fun K hK => ?_) (AllReadyH.cons rfl (fun K hK => ?_) AllReadyH.nil)
      · go_simp
        have bA := HS0.out.alloc HS0.out.size (.cells #[.int .u8 old] 5)
        have ya := one_new V6.drew (.int .u8 old) 5 V6.heap.size rfl 0 _ rfl
        rw [Addr.add_mid, Nat.zero_add] at ya
        refine hK.out _ _ bA (fun hS => ?_)
        clear hK K
        simp only [lz, l0, ls]
        refine po 9 fun K' hK => ?_
        go_simp
        refine (CN.out _).mono ?_
        rintro e Vb ⟨v8, rfl, o8, b8⟩
        obtain ⟨g8, cp8, rfl, hc8, y8⟩ := eight o8 i hi
        rw [show (cRow (cx cf.key (q : Int)))[i]?.getD 0 = old from HOLD.out] at y8
        replace ya := below_cell b8 ya
        refine hK.out _ _ ⟨bl_trans bA b8, ?_⟩
        simp only [lz, l0, ls]
        clear hK K'
        replace hS := bl_trans bA b8
        refine pf 15 90 (.slice (some ⟨g8, i, none⟩) 1 (cp8 - i)) rfl hS (fun W hW => by go_simp; rw [if_pos (by omega), if_neg (by omega)]) ?_
        simp only [lz, l0, ls]
        refine po 16 fun K' hK => ?_
        go_simp
        refine (sameB1 ⟨V6.heap.size, 0, none⟩ ⟨g8, i, none⟩ 1 (cp8 - i) old _ ya y8).mono ?_
        rintro e Vc ⟨rfl, rfl⟩
        refine hK.out _ _ ⟨hS, ?_⟩
        simp only [lz, l0, ls]
        refine pk 17 92 (.bool false) hS ?_
        simp only [lz, l0, ls]
        refine wpAnyH_done (by kernel_rfl) ?_ _
        go_wp2
        go_meet
        case rel => exact ⟨rfl, hid hS⟩
      · skip
        go_simp
        refine (CN.out _).mono ?_
        rintro e Vb ⟨v8, rfl, o8, b8⟩
        obtain ⟨g8, cp8, rfl, hc8, y8⟩ := eight o8 i hi
        rw [show (cRow (cx cf.key (q : Int)))[i]?.getD 0 = old from HOLD.out] at y8
        have bB : Below V6.heap.size V6 Vb := bl_trans HS0.out b8
        refine hK.out _ _ bB (fun hS => ?_)
        clear hK K
        simp only [lz, l0, ls]
        refine pf 15 90 (.slice (some ⟨g8, i, none⟩) 1 (cp8 - i)) rfl hS (fun W hW => by go_simp; rw [if_pos (by omega), if_neg (by omega)]) ?_
        simp only [lz, l0, ls]
        refine po 1 fun K' hK => ?_
        go_simp
        have ya := one_new Vb (.int .u8 old) 5 Vb.heap.size rfl 0 _ rfl
        rw [Addr.add_mid, Nat.zero_add] at ya
        replace y8 := below_cell ((Below.refl Vb.heap.size Vb).alloc (Nat.le_refl _) (.cells #[.int .u8 old] 5)) y8
        refine hK.out _ _ ⟨bB.alloc bB.size _, ?_⟩
        simp only [lz, l0, ls]
        clear hK K'
        replace hS := bB.alloc bB.size (.cells #[.int .u8 old] 5)
        refine po 16 fun K' hK => ?_
        go_simp
        refine (sameB1 ⟨Vb.heap.size, 0, none⟩ ⟨g8, i, none⟩ 1 (cp8 - i) old _ ya y8).mono ?_
        rintro e Vc ⟨rfl, rfl⟩
        refine hK.out _ _ ⟨hS, ?_⟩
        simp only [lz, l0, ls]
        refine pk 17 92 (.bool false) hS ?_
        simp only [lz, l0, ls]
        refine wpAnyH_done (by kernel_rfl) ?_ _
        go_wp2
        go_meet
        case rel => exact ⟨rfl, hid hS⟩
    case rest =>
      obtain ⟨rfl, HB7⟩ := hcut
      have X6 := hid (below_at9 HB7.out X5.out)
      have B7 := hid (bl_trans B6.out HB7.out)
      have S7 := hid (S6.out.below HB7.out)
      have P7 := hid (fun a ha => Nat.lt_of_lt_of_le (P6.out a ha) HB7.out.size)
      clear X5 B6 S6 P6 NB C01 C10 C13 E0 n1 c01 xk CN HS0 et HB7
      have hold := cb_in cf q i hi
      rw [HOLD.out] at hold
      obtain ⟨y, hy1, hy2, hy3, hy4⟩ : ∃ y : Int, y = (old + 1 + (k : Int) % 200) % 256 ∧ 0 ≤ y ∧ y ≤ 255 ∧ y ≠ old := ⟨_, rfl, by omega, by omega, by omega⟩
      have R9 := hid (R2.out y hy4)
      have HY := hid (And.intro hy1 (And.intro hy2 (And.intro hy3 hold)))
      clear hy1 hy2 hy3 hy4 hold R2 HOLD HQ ei
      go_wp2_with (first | (refine wpList_load_row rfl 26 _ rfl _ rfl _ _ _ _ X6.out Tryz.underlying26 rfl (by kernel_rfl) ?_))
      rw [← HY.out.1]
      obtain ⟨b8, oi8⟩ := ois8 wc A f y old HY.out.2 (by omega) (by have := HF.out; omega)
      have RUN := hid (HRI.out cf da dc _ 8 _ _ DK.out FJ.out.2.1 (TB.out.below (bl_trans B7.out b8)) (S7.out.below b8) (fun a ha => Nat.lt_of_lt_of_le (P7.out a ha) b8.size) (by have := HW.out; have := B7.out.size; have := b8.size; omega) oi8 (ops8_ok A f y old wc.heap.size HY.out.2) (by show 8 ≤ 300; omega))
      have B8 := hid (bl_trans B7.out b8)
      clear oi8 b8 X6 S7 P7 B7
      refine RUN.out.mono ?_
      rintro e V8 ⟨l, va, m0, m1, m2, m3, m4, m5, m6, m7, rfl, one, hl, row, dat, b5⟩
      have hl2 := hl.trans R9.out
      obtain ⟨G2, gc2, hva, hG, hG2, hcs⟩ := ans_at row hl2 (by simp)
      obtain rfl : va = .slice (some ⟨G2, 0, none⟩) 8 gc2 := hva
      have CS := hid (show ∀ j, j < 8 → V8.cell? ⟨G2, j * 4, none⟩ = some (.int .i64 (([0, 0, 5, 5, 0, 0, 0, 4] : List Int)[j]?.getD 0)) from fun j hj => by
        have : j = 0 ∨ j = 1 ∨ j = 2 ∨ j = 3 ∨ j = 4 ∨ j = 5 ∨ j = 6 ∨ j = 7 := by omega
        rcases this with rfl | rfl | rfl | rfl | rfl | rfl | rfl | rfl
        · obtain ⟨v, -, h1, -⟩ := hcs 0 _ rfl; exact h1
        · obtain ⟨v, -, h1, -⟩ := hcs 1 _ rfl; exact h1
        · obtain ⟨v, -, h1, -⟩ := hcs 2 _ rfl; exact h1
        · obtain ⟨v, -, h1, -⟩ := hcs 3 _ rfl; exact h1
        · obtain ⟨v, -, h1, -⟩ := hcs 4 _ rfl; exact h1
        · obtain ⟨v, -, h1, -⟩ := hcs 5 _ rfl; exact h1
        · obtain ⟨v, -, h1, -⟩ := hcs 6 _ rfl; exact h1
        · obtain ⟨v, -, h1, -⟩ := hcs 7 _ rfl; exact h1)
      obtain ⟨v4, -, -, -, z4, -⟩ := hcs 4 _ rfl
      obtain ⟨nb, bn⟩ := box_new V8 #[.bool false, .slice none 0 0, .int .i64 0, .slice none 0 0, .slice none 0 0, .slice none 0 0, .slice none 0 0, .slice none 0 0, .slice none 0 0, .int .i64 0] #[.bool true, .slice (some ⟨G2, 0, none⟩) 8 gc2, m0, m1, m2, m3, m4, m5, m6, m7] 39
      have bc := (Below.refl ((V8.alloc (.cells #[.bool false, .slice none 0 0, .int .i64 0, .slice none 0 0, .slice none 0 0, .slice none 0 0, .slice none 0 0, .slice none 0 0, .slice none 0 0, .int .i64 0] 39)).setRow V8.heap.size #[.bool true, .slice (some ⟨G2, 0, none⟩) 8 gc2, m0, m1, m2, m3, m4, m5, m6, m7]).heap.size ((V8.alloc (.cells #[.bool false, .slice none 0 0, .int .i64 0, .slice none 0 0, .slice none 0 0, .slice none 0 0, .slice none 0 0, .slice none 0 0, .slice none 0 0, .int .i64 0] 39)).setRow V8.heap.size #[.bool true, .slice (some ⟨G2, 0, none⟩) 8 gc2, m0, m1, m2, m3, m4, m5, m6, m7])).alloc (Nat.le_refl _) (.cells #[.int .i64 0, .int .i64 0, .int .i64 5, .int .i64 5, .int .i64 0, .int .i64 0, .int .i64 0, .int .i64 4] 3)
      have NB := hid (below_at9 bc nb)
      have B9 := hid (bl_trans B8.out (bl_trans b5 (bl_trans bn bc)))
      have CT := hid (fun j hj => below_cell (bl_trans bn bc) (CS.out j hj))
      have Z4 := hid (below_cell (bl_trans bn bc) z4)
      have CK := hid (show ∀ j, j < 8 → (((V8.alloc (.cells #[.bool false, .slice none 0 0, .int .i64 0, .slice none 0 0, .slice none 0 0, .slice none 0 0, .slice none 0 0, .slice none 0 0, .slice none 0 0, .int .i64 0] 39)).setRow V8.heap.size #[.bool true, .slice (some ⟨G2, 0, none⟩) 8 gc2, m0, m1, m2, m3, m4, m5, m6, m7]).alloc (.cells #[.int .i64 0, .int .i64 0, .int .i64 5, .int .i64 5, .int .i64 0, .int .i64 0, .int .i64 0, .int .i64 4] 3)).cell? ⟨((V8.alloc (.cells #[.bool false, .slice none 0 0, .int .i64 0, .slice none 0 0, .slice none 0 0, .slice none 0 0, .slice none 0 0, .slice none 0 0, .slice none 0 0, .int .i64 0] 39)).setRow V8.heap.size #[.bool true, .slice (some ⟨G2, 0, none⟩) 8 gc2, m0, m1, m2, m3, m4, m5, m6, m7]).heap.size, j, none⟩ = some (.int .i64 (([0, 0, 5, 5, 0, 0, 0, 4] : List Int)[j]?.getD 0)) from fun j hj => by
        rw [cell_of_row _ _ _ _ _ _ (al_last ((V8.alloc (.cells #[.bool false, .slice none 0 0, .int .i64 0, .slice none 0 0, .slice none 0 0, .slice none 0 0, .slice none 0 0, .slice none 0 0, .slice none 0 0, .int .i64 0] 39)).setRow V8.heap.size #[.bool true, .slice (some ⟨G2, 0, none⟩) 8 gc2, m0, m1, m2, m3, m4, m5, m6, m7]) (.cells #[.int .i64 0, .int .i64 0, .int .i64 5, .int .i64 5, .int .i64 0, .int .i64 0, .int .i64 0, .int .i64 4] 3))]
        have : j = 0 ∨ j = 1 ∨ j = 2 ∨ j = 3 ∨ j = 4 ∨ j = 5 ∨ j = 6 ∨ j = 7 := by omega
        rcases this with rfl | rfl | rfl | rfl | rfl | rfl | rfl | rfl <;> rfl)
      have OA := hid (show (#[.bool true, .slice (some ⟨G2, 0, none⟩) 8 gc2, m0, m1, m2, m3, m4, m5, m6, m7] : Array Value).all (·.oneCell') = true from by
        have h := one
        simp only [List.mem_cons, List.not_mem_nil, or_false, forall_eq_or_imp, forall_eq] at h
        obtain ⟨h9, h0, h1, h2, h3, h4, h5, h6, h7⟩ := h
        rw [← Array.all_toList]
        simp only [List.all_cons, List.all_nil, Bool.and_true, Bool.and_eq_true]
        exact ⟨rfl, h9, h0, h1, h2, h3, h4, h5, h6, h7⟩)
      clear hcs row dat hl hl2 hG hG2 CS nb bn bc b5 one z4 B8 RUN R9
      go_upto_region 18 with (refine wpList_store_row rfl 39 _ _ rfl _ _ rfl rfl 39 _ (al_last V8 _) (by kernel_rfl) rfl OA.out ?_)
      have eS : ((V8.alloc (.cells #[.bool false, .slice none 0 0, .int .i64 0, .slice none 0 0, .slice none 0 0, .slice none 0 0, .slice none 0 0, .slice none 0 0, .slice none 0 0, .int .i64 0] 39)).setRow V8.heap.size #[.bool true, .slice (some ⟨G2, 0, none⟩) 8 gc2, m0, m1, m2, m3, m4, m5, m6, m7]).heap.size = V8.heap.size + 1 := by
        rw [← al_size V8 (.cells #[.bool false, .slice none 0 0, .int .i64 0, .slice none 0 0, .slice none 0 0, .slice none 0 0, .slice none 0 0, .slice none 0 0, .slice none 0 0, .int .i64 0] 39)]
        simp [World.setRow]
      rw [eS] at CK
      clear eS OA
      generalize ((V8.alloc (.cells #[.bool false, .slice none 0 0, .int .i64 0, .slice none 0 0, .slice none 0 0, .slice none 0 0, .slice none 0 0, .slice none 0 0, .slice none 0 0, .int .i64 0] 39)).setRow V8.heap.size #[.bool true, .slice (some ⟨G2, 0, none⟩) 8 gc2, m0, m1, m2, m3, m4, m5, m6, m7]).alloc (.cells #[.int .i64 0, .int .i64 0, .int .i64 5, .int .i64 5, .int .i64 0, .int .i64 0, .int .i64 0, .int .i64 4] 3) = Va at NB B9 CT Z4 CK ⊢
      generalize V8.heap.size + 1 = Gc at CK ⊢
      generalize V8.heap.size = E2 at NB ⊢
      obtain ⟨n0, n1⟩ := box01 NB.out
      go_wp2_with fail
      go_loopw [130] (fun i wr => ∃ j : Nat, j ≤ 8 ∧ i = .int .i64 j ∧ wr = Va) (fun i _ => 8 - (intOf i).toNat)
      case atStart => exact ⟨0, by omega, rfl, rfl⟩
      case round =>
        obtain ⟨j, hj, rfl, rfl⟩ := hrel
        by_cases hlt : j < 8
        · have k1 := CK.out j hlt
          have k2 := CT.out j hlt
          generalize ([0, 0, 5, 5, 0, 0, 0, 4] : List Int)[j]?.getD 0 = x at k1 k2
          go_wp2
          go_roundw
          case rel => exact ⟨j + 1, by omega, by go_num, by trivial⟩
          case measure => simp [intOf]; omega
        · obtain rfl : j = 8 := by omega
          go_upto_region 26 with fail
          have z4 : World.cell? _ ⟨G2, 18, none⟩ = some (Value.int .i64 (us : Nat)) := Z4.out
          have UC := hid (fun V => sp_usN cl V HC12.out)
          rw [HUS.out] at UC
          go_region_with (first | (go_at_call 7; refine (UC.out _).mono ?_; rintro e Vq ⟨rfl, bu⟩; have q1 := below_cell bu n1; have q2 := below_cell bu z4))
          all_goals (
            go_wp2
            go_ret
            exact ⟨by first | rfl | (simp [Act.put]; done), bl_trans B9.out.drew bu⟩)
end Go.Proofs.YtgandbaejlfppaaGreatDoor
namespace Go.Proofs.YtgandbaejlfppaaGreatDoor.fnCorrupt
open Go.ChangeShapes Go.WideShapes Go.ChangeAt Go.RowKit
set_option linter.unusedVariables false
set_option maxRecDepth 100000
theorem laid_met (os : Os) : laidMet Tryz.prog Rows.fnCorruptRow.laid ((laidWorld os).forCall (fun _ _ => 0) ⟨#[], #[.slice none 0 0], []⟩).memory :=
  laidMet_of_run' 8 (by kernel_rfl) (by kernel_rfl)
theorem reads (os : Os) {H : Type} (enc : TypeId × Value → H) : ∃ ds places, DataW.whole enc Tryz.prog ((laidWorld os).forCall (fun _ _ => 0) ⟨#[], #[.slice none 0 0], []⟩).memory Tryz.f3.params.toList Rows.fnCorruptSpec.vars false (#[.slice none 0 0] : Array Value).toList 8 = some (ds, [szD], places) :=
  ⟨[.nil], MemPlace.row ⟨0, 0, none⟩ 12, by kernel_rfl⟩
theorem plain (f : FuncId) (fn : Func) (hf : Tryz.pinned.checked.prog.funcNamed "loop.example/s01868/laws.FnCorrupt" = some f) (hfn : Tryz.pinned.checked.prog.funcs[f]? = some fn) :
    true = Tryz.pinned.checked.prog.looks [] ∧ ∀ (j : Nat) t, fn.params[j]? = some t → Tryz.pinned.checked.prog.wantsStandIn t = false := by
  obtain rfl : f = 3 := Option.some.inj ((show Tryz.prog.funcNamed "loop.example/s01868/laws.FnCorrupt" = some 3 by kernel_rfl).symm.trans hf) |>.symm
  obtain rfl : fn = Tryz.f3 := (Option.some.inj (Tryz.func3.symm.trans hfn)).symm
  refine ⟨by kernel_rfl, fun j t ht => ?_⟩
  rw [Tryz.params3] at ht
  have hm : t ∈ ([22] : List TypeId) := by simpa using Array.mem_of_getElem? ht
  have hall : (([22] : List TypeId).all fun u => !Tryz.prog.wantsStandIn u) = true := by kernel_rfl
  exact (show Tryz.prog.wantsStandIn t = false by simpa using List.all_eq_true.1 hall t hm)
end Go.Proofs.YtgandbaejlfppaaGreatDoor.fnCorrupt
