import Derived.Test.YtgandbaejlfppaaGreatDoorR1
import Derived.Test.YtgandbaejlfppaaGreatDoorN16
import Derived.Test.YtgandbaejlfppaaGreatDoorN18
import Derived.Test.YtgandbaejlfppaaGreatDoorM15
import Derived.Deep.RegionWith
import Derived.Deep.RegionHeld
import Derived.Test.YtgandbaejlfppaaGreatDoorM00
import Derived.Test.YtgandbaejlfppaaGreatDoorL1
namespace Go.Proofs.YtgandbaejlfppaaGreatDoor
open Go.RowKit Go.Shelf Go.Maps
set_option linter.unusedVariables false
set_option maxRecDepth 20000
theorem coN_in9 {a : Nat} (h : a ≤ 1016) : coN a < 12 := (co_c h).2.1
theorem below_at9 {w w' : World} (h : Below w.heap.size w w') {g : Nat} {o : Obj} (hg : w.heap[g]? = some o) : w'.heap[g]? = some o := by rw [h.block g (lt_blk hg)]; exact hg
theorem sp_szN9 (c : Nat) (W : World) (hc : c < 12) : Calls Tryz.prog 11 #[.int .i64 c] W fun e W' => e = .returned (.int .i64 (szN c : Nat)) ∧ Below W.heap.size W W' := by
  refine (sp_SlotSize (c : Int) W).mono ?_
  rintro e W' ⟨rfl, b⟩
  exact ⟨ret_int (sz_c hc), b⟩
theorem box014 {W : World} {E : Nat} {x y m0 m1 m2 m3 m4 m5 m6 m7 : Value} {t : TypeId} {f : Nat × Nat} (h : W.heap[E]? = some (.cells #[x, y, m0, m1, m2, m3, m4, m5, m6, m7] t f)) : W.cell? ⟨E, 0, none⟩ = some x ∧ W.cell? ⟨E, 1, none⟩ = some y ∧ W.cell? ⟨E, 4, none⟩ = some m2 := by
  simp [World.cell?, h]
def DecR : Prop := ∀ (c s j : Nat) (v : Value), c < 12 → s < 6 → j < slN c → Dec ((adr c s j : Nat) : Int) v → v = pl 3 (c : Nat) (s : Nat) (j : Nat) 0 0
set_option maxHeartbeats 4000000 in
theorem walk8 (RR : RunR) (RT : RetR) (DE : DecR) (a : Option Addr) (len cap : Nat) (zs : List Int) (w : World) (h0 : IsRow .u8 w a len cap zs) (tb : Tb w) (hw : 0 < w.heap.size) :
    Calls Tryz.prog 4 #[.slice a len cap] w fun e w' => e = .returned (.bool true) ∧ Below w.heap.size w w' := by
  by_cases hl : 1048576 < len
  · go_enter Tryz.func4, Tryz.ntmps4
    go_wp2
    go_ret
    exact ⟨rfl, Below.refl _ _⟩
  · have RO := hid (roomy_any a len cap zs w h0 (by omega))
    have TB := hid tb
    have HW := hid hw
    have HRR := hid RR
    have HRT := hid @RT
    have HDE := hid DE
    clear h0 tb hw RR RT DE
    go_enter Tryz.func4, Tryz.ntmps4
    go_wp2_with fail
    refine RO.out.mono ?_
    rintro e V1 ⟨c, k, B, hk, rfl, hcl, hB, ok, hm, hf, hla, hbu, b1⟩
    have D0 := hid (show Rx w B V1.heap.size c (V1.alloc (.cells #[.int .i64 c.mi, .int .i64 c.fi, .int .i64 c.la, .int .i64 c.bu, .int .u64 c.ky, .slice c.da c.ds.length c.dc] 26)) from Rx.first b1 hB ok)
    have HC := hid (And.intro hcl (And.intro hla hbu))
    clear b1 hB ok RO hcl hla hbu
    unfold cdC
    go_upto_region 4 with fail
    generalize V1.alloc (.cells #[.int .i64 c.mi, .int .i64 c.fi, .int .i64 c.la, .int .i64 c.bu, .int .u64 c.ky, .slice c.da c.ds.length c.dc] 26) = V2 at D0 ⊢
    generalize V1.heap.size = X at D0 ⊢
    obtain ⟨m4, hm4, et⟩ : ∃ m4 : Int, (0 ≤ m4 ∧ m4 ≤ 3) ∧ c.mi.tmod 4 = m4 := ⟨c.mi % 4, by omega, by rw [Int.tmod_eq_emod_of_nonneg hm.1]⟩
    obtain ⟨z0, z1, zf⟩ := D0.out.cells
    have zf0 := zf 0
    have zf1 := zf 1
    clear zf
    have D1 := hid (D0.out.upd 0 (.int .i64 m4) { c with mi := m4 } rfl ⟨D0.out.ok.k0, D0.out.ok.k1, D0.out.ok.dw, D0.out.ok.d⟩)
    go_upto_region 5 with fail
    clear z0 z1 zf0 zf1 et D0
    generalize V2.setCell ⟨X, 0, none⟩ (.int .i64 m4) = V3 at D1 ⊢
    obtain ⟨f6, hf6, et⟩ : ∃ f6 : Int, (0 ≤ f6 ∧ f6 ≤ 5) ∧ c.fi.tmod 6 = f6 := ⟨c.fi % 6, by omega, by rw [Int.tmod_eq_emod_of_nonneg (by omega)]⟩
    obtain ⟨f7, hf7, e7⟩ : ∃ f7 : Int, (1 ≤ f7 ∧ f7 ≤ 6) ∧ f6 + 1 = f7 := ⟨f6 + 1, by omega, rfl⟩
    obtain ⟨z0, z1, zf⟩ := D1.out.cells
    have zf1 := zf 1
    clear zf z0
    dsimp only at z1
    have D2 := hid (D1.out.upd 1 (.int .i64 f7) { c with mi := m4, fi := f7 } rfl ⟨D1.out.ok.k0, D1.out.ok.k1, D1.out.ok.dw, D1.out.ok.d⟩)
    go_upto_region 6 with fail
    clear z1 zf1 et e7 hf6 D1
    generalize V3.setCell ⟨X, 1, none⟩ (.int .i64 f7) = V4 at D2 ⊢
    have hcl := HC.out.1
    have hla := HC.out.2.1
    have hbu := HC.out.2.2
    have hm9 : 0 ≤ m4 ∧ m4 ≤ 16 := by omega
    have hf9 : 1 ≤ f7 ∧ f7 ≤ 32 := by omega
    have DK := hid (cdC_dok D2.out.ok hcl hm9 hf9 hla)
    obtain ⟨sl, sb⟩ := D2.out.ok.sl
    have SL := hid sl
    have SB := hid sb
    have B4 := hid D2.out.bel
    have e9 := cdC_cfg { c with mi := m4, fi := f7 } hm9 hf9 hla hbu
    unfold cfgV at e9
    injection e9 with e9
    have X1 : ∀ cf : Cf, cf = ⟨m4.toNat, f7.toNat, c.la.toNat, 283, c.ky, c.ds⟩ → V4.heap[X]? = some (.cells #[.int .i64 (cf.mix : Nat), .int .i64 (cf.fifo : Nat), .int .i64 (cf.large : Nat), .int .i64 (cf.bud : Nat), .int .u64 cf.key, .slice c.da cf.ds.length c.dc] 26 (0, 0)) := fun cf h => by
      subst h
      have := D2.out.cb
      rw [e9] at this
      exact this
    obtain ⟨cf, hcf⟩ : ∃ cf : Cf, cf = ⟨m4.toNat, f7.toNat, c.la.toNat, 283, c.ky, c.ds⟩ := ⟨_, rfl⟩
    have HX := hid (X1 cf hcf)
    have FI := hid (show 1 ≤ cf.fifo ∧ cf.fifo ≤ 6 ∧ cf.mix ≤ 3 ∧ 1 ≤ cf.large ∧ cf.bud = 283 from by
      rw [hcf]
      exact ⟨by show 1 ≤ f7.toNat; omega, by show f7.toNat ≤ 6; omega, by show m4.toNat ≤ 3; omega, by show 1 ≤ c.la.toNat; omega, rfl⟩)
    dsimp only at DK SL SB
    rw [← hcf] at DK
    rw [show c.ds = cf.ds by rw [hcf]] at SL
    generalize c.da = da at SL SB HX ⊢
    generalize c.dc = dc at HX ⊢
    clear X1 e9 sl sb hcf hm9 hf9 hcl hla hbu D2 HC hf7 hm4 hm hf
    obtain ⟨r, hr, et⟩ : ∃ r : Nat, r < 20 ∧ (k : Int).tmod 20 = (r : Int) := ⟨k % 20, by omega, by rw [Int.tmod_eq_emod_of_nonneg (by omega)]; omega⟩
    obtain ⟨r5, hr5, e5⟩ : ∃ r5 : Nat, r5 ≤ 950 ∧ (r : Int) * 50 = (r5 : Int) := ⟨r * 50, by omega, by omega⟩
    obtain ⟨A, hA, e6⟩ : ∃ A : Nat, A ≤ 1016 ∧ (r5 : Int) + 1 = (A : Int) := ⟨r5 + 1, by omega, by omega⟩
    go_wp2_with fail
    clear et e5 e6 hr5 hr
    refine (sp_co A V4 hA).mono ?_
    rintro e V5 ⟨rfl, b5⟩
    have HX5 := hid (below_at9 b5 HX.out)
    have B5 := hid (bl_trans B4.out b5)
    have S5 := hid (SL.out.below b5)
    have P5 := hid (fun a ha => Nat.lt_of_lt_of_le (SB.out a ha) b5.size)
    clear b5 HX B4 SL SB
    have hc := coN_in9 hA
    have hnn := szN_in hc
    obtain ⟨cl, hcl⟩ : ∃ cl, coN A = cl := ⟨_, rfl⟩
    have HCL := hid hcl
    rw [hcl] at hc hnn ⊢
    clear hcl
    have SZ := hid (fun V => sp_szN9 cl V hc)
    obtain ⟨nn, hn1⟩ : ∃ nn, szN cl = nn := ⟨_, rfl⟩
    have HNN := hid hn1
    rw [hn1] at hnn SZ
    clear hn1
    obtain ⟨hn16, hn1024⟩ : 16 ≤ nn ∧ nn ≤ 1024 := ⟨hnn.1, hnn.2.1⟩
    have HC12 := hid hc
    clear hnn hc
    obtain ⟨z, hz, ez⟩ : ∃ z : Nat, z < nn ∧ (k : Int).tmod (nn : Int) = (z : Int) := ⟨k % nn, Nat.mod_lt _ (by omega), by rw [Int.tmod_eq_emod_of_nonneg (by omega)]; exact (Int.natCast_emod k nn).symm⟩
    obtain ⟨hx1, hx255⟩ := or1 hk
    obtain ⟨x, hx⟩ : ∃ x, bits BinOp.or IntKind.u8 (k : Int) 1 = x := ⟨_, rfl⟩
    rw [hx] at hx1 hx255
    have hz0 : (nn : Int) ≠ 0 := by omega
    go_wp2_with fail
    refine (SZ.out _).mono ?_
    rintro e V6 ⟨rfl, b6⟩
    have F0 := hid (Fo.first V6 (V6.alloc (.cells #[.int .u8 x] 5)) A z x V6.heap.size ((Below.refl _ _).alloc (Nat.le_refl _) _) (al_last V6 _))
    have HX6 := hid (below_at9 b6 HX5.out)
    have B6 := hid (bl_trans B5.out b6)
    have S6 := hid (S5.out.below b6)
    have P6 := hid (fun a ha => Nat.lt_of_lt_of_le (P5.out a ha) b6.size)
    clear b6 HX5 B5 S5 P5 SZ
    rw [al_size] at F0
    go_upto_region 9 with fail
    obtain ⟨U0, hU0⟩ : ∃ U0, (V6.alloc (.cells #[.int .u8 x] 5)).alloc (.cells (flatO6 (opsI A z x V6.heap.size 0)).toArray 42) = U0 := ⟨_, rfl⟩
    rw [hU0] at F0
    obtain ⟨sv, hsv⟩ : ∃ sv, Value.slice (some ⟨V6.heap.size + 1, 0, none⟩) 4 4 = sv := ⟨_, rfl⟩
    rw [hsv] at F0 ⊢
    refine Eq.mp (congrArg _ hU0.symm) ?_
    clear hU0 hsv hz0 ez hx
    obtain ⟨H, hH⟩ : ∃ H, V6.heap.size = H := ⟨_, rfl⟩
    rw [hH] at F0
    clear hH
    go_wp2_with fail
    go_loopw [7, 8] (fun v i wr => ∃ n : Nat, n ≤ 120 ∧ i = .int .i64 n ∧ Hid (Fo V6 A z x H n v wr)) (fun _ i _ => 120 - (intOf i).toNat)
    case atStart => exact ⟨0, Nat.zero_le _, rfl, F0⟩
    case round =>
      clear F0
      obtain ⟨n, hn, rfl, FN⟩ := hrel
      obtain ⟨g, gc, rfl, o9⟩ := FN.out.sl
      by_cases hlt : n < 120
      · obtain ⟨v', w', happ, hd⟩ := FN.out.app (by omega)
        have F1 := hid hd
        clear hd o9 FN
        obtain ⟨L, hL, R, hR, eR⟩ : ∃ L : Nat, 4 + 2 * n = L ∧ ∃ R : Nat, 5 + 2 * n = R ∧ (L : Int) + 1 = (R : Int) := ⟨_, rfl, _, rfl, by omega⟩
        have hLb : L ≤ 300 := by omega
        rw [hL] at happ ⊢
        rw [hR] at happ
        clear hL hR
        have HAP := hid (show (Builtin.append_ #[43, 43] 43 #[.slice (some ⟨g, 0, none⟩) L gc, .slice (some ⟨wr.heap.size, 0, none⟩) 2 2]).run Tryz.prog (wr.alloc (.cells #[.int .i64 0, .int .i64 0, .int .u64 0, .int .u64 (A : Nat), .int .u64 0, .slice none 0 0, .int .i64 3, .int .i64 (R : Nat), .int .u64 0, .int .u64 0, .int .u64 0, .slice none 0 0] 42)) = .ok v' w' from happ)
        clear happ
        go_wp2_with (at_builtin; refine wpList_appT 43 rfl (.tmp 63) (.tmp 69) (by with_reducible rfl) rfl rfl rfl HAP.out ?_)
        go_roundw
        case rel => exact ⟨n + 1, by omega, by go_num, F1⟩
        case measure => simp [intOf]; omega
      · obtain rfl : n = 120 := by omega
        clear hlt hn
        replace FN : Hid (Fo V6 A z x H 120 (.slice (some ⟨g, 0, none⟩) 244 gc) wr) := FN
        have hsz : z < szN (coN A) := by rw [HCL.out, HNN.out]; exact hz
        obtain ⟨j, Hst, an, hj, erun, hlen, hall, ⟨b1, hb1, hb1a⟩, hst⟩ := HRT.out cf FI.out.2.2.2.2 FI.out.2.2.1 FI.out.1 FI.out.2.1 hA hsz (show x ≠ 0 by omega) 120
        rw [HCL.out] at hj hall hb1a hst
        have RUN := hid (HRR.out cf da dc (some ⟨g, 0, none⟩) gc (opsI A z x H 120) wr DK.out FI.out.2.2.2.1 (TB.out.below (bl_trans B6.out FN.out.bel)) (S6.out.below FN.out.bel) (fun a ha => Nat.lt_of_lt_of_le (P6.out a ha) FN.out.bel.size) (by have := HW.out; have := B6.out.size; have := FN.out.bel.size; omega) (FN.out.ois (by omega) (by omega) o9) (opsI_ok A z x H 120 ⟨by omega, hx255⟩) (by rw [opsI_len]; omega))
        rw [opsI_len, opsI_o, erun] at RUN
        dsimp only at RUN
        have HXw := hid (below_at9 FN.out.bel HX6.out)
        have BW := hid (bl_trans B6.out FN.out.bel)
        have OK9 := hid o9
        have HJ := hid hj
        have HAL := hid hall
        have HB1 := hid hb1
        have HST := hid hst
        have HLN := hid hlen
        obtain ⟨p, hp⟩ : ∃ p, adr cl 0 j = p := ⟨_, rfl⟩
        have hpb : p < 191488 := by have := adr_in HC12.out (show 0 < 6 by omega) hj; omega
        rw [hp] at hb1a HAL
        have HP := hid hp
        clear o9 hj hall hst hlen hp hb1 HX6 B6 S6 P6 FN hsz erun
        go_wp2_with (refine wpList_load_row rfl 26 _ rfl _ rfl _ _ _ _ HXw.out Tryz.underlying26 rfl (by kernel_rfl) ?_)
        refine RUN.out.mono ?_
        rintro e V7 ⟨l, va, m0, m1, m2, m3, m4, m5, m6, m7, rfl, one, hl, row, srow, hone, b7⟩
        obtain ⟨G, gcc, hva, hG, hcs⟩ := ans_rg row hl hone (by rw [HLN.out]; omega)
        rw [HLN.out] at hva
        obtain rfl : va = .slice (some ⟨G, 0, none⟩) 244 gcc := hva
        have hs0 : Hst.st cl 0 j ≠ 0 := by have := HST.out; omega
        obtain ⟨t0, ht0⟩ := I1_mem HC12.out (show 0 < 6 by omega) HJ.out hs0
        have ht1 := (List.getElem?_eq_some_iff.1 ht0).1
        obtain ⟨sg, sc, rfl, hsg, hss⟩ := slots_at srow (by omega)
        obtain ⟨ns, hns⟩ : ∃ ns, (I1 Hst 12).length = ns := ⟨_, rfl⟩
        rw [hns] at ht1 one
        rw [hns]
        have hns2 : ns ≤ 4608 := by have := I1_len Hst 12 (by omega); omega
        obtain ⟨nb, bn⟩ := box_new V7 #[.bool false, .slice none 0 0, .int .i64 0, .slice none 0 0, .slice none 0 0, .slice none 0 0, .slice none 0 0, .slice none 0 0, .slice none 0 0, .int .i64 0] #[.bool true, .slice (some ⟨G, 0, none⟩) 244 gcc, m0, m1, .slice (some ⟨sg, 0, none⟩) ns sc, m3, m4, m5, m6, m7] 39
        have NB := hid nb
        have BN := hid bn
        have B7 := hid (bl_trans BW.out b7)
        have AN := hid (fun (W : World) (hW : Below V7.heap.size V7 W) (i : Nat) (b : An4) (hb : an[i]? = some b) => show ∃ v : Value, v.oneCell' = true ∧ W.rangeAt G (i * 4) [.int .i64 b.code, .int .u64 (b.addr : Nat), .int .i64 (b.size : Nat), v] from by
          obtain ⟨v, h1, h2⟩ := hcs i b hb
          exact ⟨v, h1, fun t u hu => below_cell hW (h2 t u hu)⟩)
        have SS := hid (fun (W : World) (hW : Below V7.heap.size V7 W) (i : Nat) (t : Nat × Nat × Nat) (ht : (I1 Hst 12)[i]? = some t) => show W.rangeAt sg (i * 5) (inC Hst t) from fun q u hu => below_cell hW (hss i t ht q u hu))
        have KD := hid (fun (W : World) (hW : Below V7.heap.size V7 W) (i : Nat) (q : Oin) (hq : (opsI A z x H 120)[i]? = some q) => show W.cell? ⟨g, i * 6, none⟩ = some (.int .i64 q.o.kd) from below_cell (bl_trans b7 hW) (OK9.out.2 i q hq 0 (.int .i64 q.o.kd) rfl))
        have OA := hid (show (#[.bool true, .slice (some ⟨G, 0, none⟩) 244 gcc, m0, m1, .slice (some ⟨sg, 0, none⟩) ns sc, m3, m4, m5, m6, m7] : Array Value).all (·.oneCell') = true from by
          have h := one
          simp only [List.mem_cons, List.not_mem_nil, or_false, forall_eq_or_imp, forall_eq] at h
          obtain ⟨h9, h0, h1, h2, h3, h4, h5, h6, h7⟩ := h
          rw [← Array.all_toList]
          simp only [List.all_cons, List.all_nil, Bool.and_true, Bool.and_eq_true]
          exact ⟨rfl, h9, h0, h1, h2, h3, h4, h5, h6, h7⟩)
        have HT := hid (And.intro ht0 ht1)
        have HNS := hid hns
        obtain ⟨v1, hv1, rg1⟩ := AN.out _ bn 1 b1 HB1.out
        have C5 := hid (rg1 1 (.int .u64 (b1.addr : Nat)) rfl)
        rw [hb1a] at C5
        clear nb bn b7 hcs hss one hl row srow hone hG hsg ht0 ht1 hns hs0 rg1 hv1 v1 RUN HXw BW OK9 hb1a
        go_wp2_with (refine wpList_store_row rfl 39 _ _ rfl _ _ rfl rfl 39 _ (al_last V7 _) (by kernel_rfl) rfl OA.out ?_; generalize (V7.alloc (.cells #[.bool false, .slice none 0 0, .int .i64 0, .slice none 0 0, .slice none 0 0, .slice none 0 0, .slice none 0 0, .slice none 0 0, .slice none 0 0, .int .i64 0] 39)).setRow V7.heap.size #[.bool true, .slice (some ⟨G, 0, none⟩) 244 gcc, m0, m1, .slice (some ⟨sg, 0, none⟩) ns sc, m3, m4, m5, m6, m7] = V8 at NB BN C5 ⊢; generalize V7.heap.size = E at NB ⊢; obtain ⟨n0, n1, n4⟩ := box014 NB.out; have c5 := C5.out)
        have N4 := hid n4
        clear n0 n1 n4 c5 C5 OA
        go_loopw [93] (fun i wx => ∃ n : Nat, n ≤ 244 ∧ i = .int .i64 n ∧ Hid (Below V8.heap.size V8 wx)) (fun i _ => 244 - (intOf i).toNat)
        case atStart => exact ⟨0, Nat.zero_le _, rfl, hid (Below.refl _ _)⟩
        case round =>
          obtain ⟨n, hn, rfl, HB⟩ := hrel
          by_cases hlt : n < 244
          · obtain ⟨b, hb⟩ : ∃ b, an[n]? = some b := ⟨_, List.getElem?_eq_getElem (by rw [HLN.out]; omega)⟩
            obtain ⟨hc0, hca⟩ := HAL.out n b hb
            obtain ⟨v, ov, rg⟩ := AN.out wr (bl_trans BN.out HB.out) n b hb
            rw [hc0] at rg
            obtain ⟨q, hq⟩ : ∃ q, (opsI A z x H 120)[n]? = some q := ⟨_, List.getElem?_eq_getElem (by rw [opsI_len]; omega)⟩
            have hkd := opsI_kd A z x H 120 n q hq
            obtain ⟨nb, bn⟩ := box_new wr #[.int .i64 0, .int .u64 0, .int .i64 0, .slice none 0 0] #[.int .i64 0, .int .u64 (b.addr : Nat), .int .i64 (b.size : Nat), v] 45
            have kc := KD.out _ (bl_trans (bl_trans BN.out HB.out) bn) n q hq
            have RG := hid rg
            have OV := hid (show (#[.int .i64 0, .int .u64 (b.addr : Nat), .int .i64 (b.size : Nat), v] : Array Value).all (·.oneCell') = true from by
              rw [← Array.all_toList]
              simp only [List.all_cons, List.all_nil, Bool.and_true, Bool.and_eq_true]
              exact ⟨rfl, rfl, rfl, ov⟩)
            have NA := hid nb
            have BA := hid (bl_trans HB.out bn)
            have KC := hid kc
            have HQ := hid hkd
            have HA9 := hid hca
            clear nb bn rg ov kc hkd hca hq hc0 hb HB
            generalize b.addr = ba at *
            generalize b.size = bs at *
            generalize q.o.kd = kd at *
            go_upto_region 21 with (first | (refine wpList_load_mid rfl 45 _ rfl _ _ rfl _ _ RG.out Tryz.underlying45 rfl (by kernel_rfl) ?_) | (refine wpList_store_row rfl 45 _ _ rfl _ _ rfl rfl 45 _ (al_last wr _) (by kernel_rfl) rfl OV.out ?_))
            generalize (wr.alloc (.cells #[.int .i64 0, .int .u64 0, .int .i64 0, .slice none 0 0] 45)).setRow wr.heap.size #[.int .i64 0, .int .u64 (ba : Nat), .int .i64 (bs : Nat), v] = U at NA BA KC ⊢
            generalize wr.heap.size = Z at NA ⊢
            rw [show ∀ (a : Act) (v : Value), a.put none v = a from fun _ _ => rfl]
            go_cut [118] (fun s w' => s = .bool false ∧ w' = U)
            case first =>
              have u0 : U.cell? ⟨Z, 0, none⟩ = some (.int .i64 0) := by simp [World.cell?, NA.out]
              have u1 : U.cell? ⟨Z, 1, none⟩ = some (.int .u64 (ba : Nat)) := by simp [World.cell?, NA.out]
              have hw : ¬ 3 < n ∨ (3 < n ∧ n % 2 ≠ 0) ∨ (3 < n ∧ n % 2 = 0) := by omega
              rcases hw with hw | ⟨hw, hw2⟩ | ⟨hw, hw2⟩
              · have hw' : ¬ 3 < (n : Int) := by omega
                go_wp2
                go_meet
                case rel => exact ⟨rfl, rfl⟩
              · have hw' : 3 < (n : Int) := by omega
                have kc := KC.out
                have := HQ.out hw
                rw [if_neg hw2] at this
                rw [this] at kc
                clear this
                go_wp2
                go_meet
                case rel => exact ⟨rfl, rfl⟩
              · have hw' : 3 < (n : Int) := by omega
                have kc := KC.out
                have := HQ.out hw
                rw [if_pos hw2] at this
                rw [this] at kc
                clear this
                have hne := HA9.out hw hw2
                have hne' : ((ba : Int) == (p : Int)) = false := by simp; omega
                clear hne
                go_wp2
                go_meet
                case rel => exact ⟨rfl, rfl⟩
            case rest =>
              obtain ⟨rfl, rfl⟩ := hcut
              go_wp2
              go_roundw
              case rel => exact ⟨n + 1, by omega, by go_num, BA⟩
              case measure => simp [intOf]; omega
          · obtain rfl : n = 244 := by omega
            clear hlt hn
            have DC := hid (im_Decode (p : Nat) (by omega) (by omega) wr (TB.out.below (bl_trans B7.out (bl_trans BN.out HB.out))))
            go_wp2_with fail
            refine DC.out.mono ?_
            rintro e V9 ⟨⟨dv, hdv, rfl⟩, b9⟩
            obtain rfl := HDE.out cl 0 j dv HC12.out (by omega) HJ.out (by rw [HP.out]; exact hdv)
            unfold pl
            rw [show (((0 : Nat) : Nat) : Int) = 0 from rfl]
            have NP := hid (al_last V9 (.cells #[.int .i64 3, .int .i64 (cl : Nat), .int .i64 0, .int .i64 (j : Nat), .int .i64 0, .int .i64 0] 50))
            have bn := (Below.refl V9.heap.size V9).alloc (Nat.le_refl _) (.cells #[.int .i64 3, .int .i64 (cl : Nat), .int .i64 0, .int .i64 (j : Nat), .int .i64 0, .int .i64 0] 50)
            have B9 := hid (bl_trans (bl_trans BN.out HB.out) (bl_trans b9 bn))
            have n4 := below_cell (bl_trans HB.out (bl_trans b9 bn)) N4.out
            clear bn b9 hdv DC
            go_upto_region 25 with fail
            generalize V9.alloc (.cells #[.int .i64 3, .int .i64 (cl : Nat), .int .i64 0, .int .i64 (j : Nat), .int .i64 0, .int .i64 0] 50) = U at NP B9 n4 ⊢
            generalize V9.heap.size = Z at NP ⊢
            have hns3 : (ns : Int) ≤ 9223372036854775807 := by omega
            go_wp2_with fail
            clear n4
            have HTU := hid (Below.refl U.heap.size U)
            go_loopw [126] (fun i wx => ∃ n : Nat, n ≤ t0 ∧ i = .int .i64 n ∧ Hid (Below U.heap.size U wx)) (fun i _ => t0 + 1 - (intOf i).toNat)
            case atStart => exact ⟨0, Nat.zero_le _, rfl, HTU⟩
            case round =>
              clear HTU HB
              obtain ⟨n, hn, rfl, HB⟩ := hrel
              have hlt : n < ns := by have := HT.out.2; omega
              obtain ⟨⟨tc, ts, tj⟩, ht⟩ : ∃ t, (I1 Hst 12)[n]? = some t := ⟨_, List.getElem?_eq_getElem (by rw [HNS.out]; omega)⟩
              have rg := SS.out wr (bl_trans B9.out HB.out) n _ ht
              unfold inC at rg
              dsimp only at rg
              have HTT := hid ht
              clear ht
              have HS1 := hid (show (tc, ts, tj) = (cl, 0, j) → Hst.st tc ts tj = 2 ∨ Hst.st tc ts tj = 3 ∨ Hst.st tc ts tj = 4 from fun e => by
                injection e with e1 e2
                injection e2 with e2 e3
                rw [e1, e2, e3]
                exact HST.out)
              generalize Hst.st tc ts tj = sv9 at rg HS1
              generalize Hst.rq tc ts tj = rq9 at rg
              have RG := hid rg
              have NS := hid (al_last wr (.cells #[.int .i64 (tc : Nat), .int .i64 (ts : Nat), .int .i64 (tj : Nat), .int .i64 sv9, .int .i64 rq9] 53))
              have BS := hid (HB.out.alloc HB.out.size (.cells #[.int .i64 (tc : Nat), .int .i64 (ts : Nat), .int .i64 (tj : Nat), .int .i64 sv9, .int .i64 rq9] 53))
              clear rg HB
              go_upto_region 28 with (refine wpList_load_mid rfl 53 _ rfl _ _ rfl _ _ RG.out Tryz.underlying53 rfl (by kernel_rfl) ?_)
              generalize wr.alloc (.cells #[.int .i64 (tc : Nat), .int .i64 (ts : Nat), .int .i64 (tj : Nat), .int .i64 sv9, .int .i64 rq9] 53) = Y at NS BS ⊢
              generalize wr.heap.size = Z2 at NS ⊢
              have NP2 := hid (show Y.heap[Z]? = _ from (BS.out.block Z (lt_blk NP.out)).trans NP.out)
              go_cut [148] (fun s w' => s = .bool (decide ((tc, ts, tj) = (cl, 0, j))) ∧ w' = Y)
              case first =>
                have u0 : Y.cell? ⟨Z2, 0, none⟩ = some (.int .i64 (tc : Nat)) := by simp [World.cell?, NS.out]
                have u1 : Y.cell? ⟨Z2, 1, none⟩ = some (.int .i64 (ts : Nat)) := by simp [World.cell?, NS.out]
                have u2 : Y.cell? ⟨Z2, 2, none⟩ = some (.int .i64 (tj : Nat)) := by simp [World.cell?, NS.out]
                have p1 : Y.cell? ⟨Z, 1, none⟩ = some (.int .i64 (cl : Nat)) := by simp [World.cell?, NP2.out]
                have p2 : Y.cell? ⟨Z, 2, none⟩ = some (.int .i64 0) := by simp [World.cell?, NP2.out]
                have p3 : Y.cell? ⟨Z, 3, none⟩ = some (.int .i64 (j : Nat)) := by simp [World.cell?, NP2.out]
                have hw : tc ≠ cl ∨ (tc = cl ∧ ts ≠ 0) ∨ (tc = cl ∧ ts = 0 ∧ tj ≠ j) ∨ (tc = cl ∧ ts = 0 ∧ tj = j) := by omega
                rcases hw with hw | ⟨rfl, hw⟩ | ⟨rfl, rfl, hw⟩ | ⟨rfl, rfl, rfl⟩
                · have hw' : ((tc : Int) == (cl : Int)) = false := by simp; omega
                  have e9 : decide ((tc, ts, tj) = (cl, 0, j)) = false := decide_eq_false (fun e => hw (by injection e))
                  have E9 := hid e9
                  clear hw e9
                  go_wp2
                  go_meet
                  case rel => exact ⟨congrArg Value.bool E9.out.symm, rfl⟩
                · have hw' : ((ts : Int) == 0) = false := by simp; omega
                  have e9 : decide ((tc, ts, tj) = (tc, 0, j)) = false := decide_eq_false (fun e => hw (by injection e with _ e; injection e))
                  have E9 := hid e9
                  clear hw e9
                  go_wp2
                  go_meet
                  case rel => exact ⟨congrArg Value.bool E9.out.symm, rfl⟩
                · have hw' : ((tj : Int) == (j : Int)) = false := by simp; omega
                  have e9 : decide ((tc, 0, tj) = (tc, 0, j)) = false := decide_eq_false (fun e => hw (by injection e with _ e; injection e))
                  have E9 := hid e9
                  clear hw e9
                  go_wp2
                  go_meet
                  case rel => exact ⟨congrArg Value.bool E9.out.symm, rfl⟩
                · have e9 : decide ((tc, 0, tj) = (tc, 0, tj)) = true := decide_eq_true rfl
                  have E9 := hid e9
                  clear e9
                  go_wp2
                  go_meet
                  case rel => exact ⟨congrArg Value.bool E9.out.symm, rfl⟩
              case rest =>
                obtain ⟨rfl, rfl⟩ := hcut
                have u3 : wc.cell? ⟨Z2, 3, none⟩ = some (.int .i64 sv9) := by simp [World.cell?, NS.out]
                by_cases e : (tc, ts, tj) = (cl, 0, j)
                · have e9 : decide ((tc, ts, tj) = (cl, 0, j)) = true := decide_eq_true e
                  have BF := hid (bl_trans B7.out (bl_trans B9.out BS.out))
                  rcases HS1.out e with rfl | rfl | rfl
                  all_goals (clear e HTT HS1; rw [e9]; clear e9)
                  · go_wp2
                    go_ret
                    exact ⟨rfl, BF.out⟩
                  · go_wp2
                    go_ret
                    exact ⟨rfl, BF.out⟩
                  · go_wp2
                    go_ret
                    exact ⟨rfl, BF.out⟩
                · have hne : n ≠ t0 := fun e1 => by
                    have h1 := HTT.out
                    rw [e1, HT.out.1] at h1
                    injection h1 with h1
                    exact e h1.symm
                  have e9 : decide ((tc, ts, tj) = (cl, 0, j)) = false := decide_eq_false e
                  rw [e9]
                  clear e e9 u3
                  go_wp2
                  go_roundw
                  case rel => exact ⟨n + 1, by omega, by go_num, BS⟩
                  case measure => simp [intOf]; omega
end Go.Proofs.YtgandbaejlfppaaGreatDoor
namespace Go.Proofs.YtgandbaejlfppaaGreatDoor.fnRetired
open Go.ChangeShapes Go.WideShapes Go.ChangeAt Go.RowKit
set_option linter.unusedVariables false
set_option maxRecDepth 100000
theorem laid_met (os : Os) : laidMet Tryz.prog Rows.fnRetiredRow.laid ((laidWorld os).forCall (fun _ _ => 0) ⟨#[], #[.slice none 0 0], []⟩).memory :=
  laidMet_of_run' 8 (by kernel_rfl) (by kernel_rfl)
theorem reads (os : Os) {H : Type} (enc : TypeId × Value → H) : ∃ ds places, DataW.whole enc Tryz.prog ((laidWorld os).forCall (fun _ _ => 0) ⟨#[], #[.slice none 0 0], []⟩).memory Tryz.f4.params.toList Rows.fnRetiredSpec.vars false (#[.slice none 0 0] : Array Value).toList 8 = some (ds, [szD], places) :=
  ⟨[.nil], MemPlace.row ⟨0, 0, none⟩ 12, by kernel_rfl⟩
theorem plain (f : FuncId) (fn : Func) (hf : Tryz.pinned.checked.prog.funcNamed "loop.example/s01868/laws.FnRetired" = some f) (hfn : Tryz.pinned.checked.prog.funcs[f]? = some fn) :
    true = Tryz.pinned.checked.prog.looks [] ∧ ∀ (j : Nat) t, fn.params[j]? = some t → Tryz.pinned.checked.prog.wantsStandIn t = false := by
  obtain rfl : f = 4 := Option.some.inj ((show Tryz.prog.funcNamed "loop.example/s01868/laws.FnRetired" = some 4 by kernel_rfl).symm.trans hf) |>.symm
  obtain rfl : fn = Tryz.f4 := (Option.some.inj (Tryz.func4.symm.trans hfn)).symm
  refine ⟨by kernel_rfl, fun j t ht => ?_⟩
  rw [Tryz.params4] at ht
  have hm : t ∈ ([22] : List TypeId) := by simpa using Array.mem_of_getElem? ht
  have hall : (([22] : List TypeId).all fun u => !Tryz.prog.wantsStandIn u) = true := by kernel_rfl
  exact (show Tryz.prog.wantsStandIn t = false by simpa using List.all_eq_true.1 hall t hm)
end Go.Proofs.YtgandbaejlfppaaGreatDoor.fnRetired
