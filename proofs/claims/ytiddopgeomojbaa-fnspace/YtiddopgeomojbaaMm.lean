import Derived.Test.YtiddopgeomojbaaMl
namespace Go.Proofs.Ytiddopgeomojbaa
open Go.RowKit Go.Shelf Go.Maps
set_option linter.unusedVariables false

def slLen : Value → Nat
  | .slice _ l _ => l
  | _ => 0
/-- what the draws of a run may be -/
def Drawn (w : World) (e : Ending) (w' : World) : Prop :=
  ∃ (nn : Nat) (bud : Int) (ops : List Op9) (d : Option Addr) (cap : Nat), nn ≤ 4097 ∧ e = .returned (.tuple #[.int .i64 nn, .int .i64 bud, .slice d ops.length cap]) ∧ ops.length ≤ 401 ∧ ∃ R, Dr (R + 1) (.slice d ops.length cap) ops w' ∧ Below w.heap.size w w' ∧ w.heap.size ≤ R
theorem results_three {P : Program} {fn : Func} {p q r : Tmp} (h : fn.results = #[.tmp p, .tmp q, .tmp r]) (tmps : Array Value) (w : World) : (results fn tmps).run P w = .ok (.tuple #[tmps.getD p undef, tmps.getD q undef, tmps.getD r undef]) w := by
  simp [results, h]

set_option maxRecDepth 20000 in
set_option maxHeartbeats 2000000 in
theorem draw_any (a : Option Addr) (len cap : Nat) (zs : List Int) (w : World) (h0 : IsRow .u8 w a len cap zs) (hlen : len ≤ 1048576) :
    Calls Try.prog 5 #[.slice a len cap] w fun e w' => Drawn w e w' := by
  obtain ⟨i0, hi0, hz0, hz1, hz2⟩ := info_parts Try.info34
  have N := hid (fun R W h => next_any w a len cap zs h0 hlen R W h)
  have R0 := hid (show Rd w a len cap w.heap.size (w.alloc (.cells #[.slice a len cap, .int .i64 0] 49)) from ⟨⟨0, Nat.zero_le _, al_last _ _⟩, (Below.refl _ w).alloc (Nat.le_refl _) _, Nat.le_refl _⟩)
  have LR := hid (show w.heap.size < (w.alloc (.cells #[.slice a len cap, .int .i64 0] 49)).heap.size by rw [al_size]; omega)
  have IR := hid h0
  clear h0
  go_enter Try.func5, Try.ntmps5
  go_wp2_with fail
  generalize w.heap.size = R at R0 ⊢
  refine (N.out _ _ R0.out).mono ?_
  rintro e W1 ⟨⟨k, hk, rfl⟩, r1, bx⟩
  clear bx
  have R1 := hid r1
  clear r1 R0
  go_wp2_with fail
  refine (N.out _ _ R1.out).mono ?_
  rintro e W2 ⟨⟨k2, hk2, rfl⟩, r2, bx⟩
  clear bx
  have R2 := hid r2
  clear r2 R1
  go_upto_if 26 with fail
  go_cut [7] (fun s w' => ∃ nn : Nat, nn ≤ 4097 ∧ s = .int .i64 nn ∧ w' = W2)
  case first =>
    by_cases h1 : 250 ≤ k
    · go_wp2
      go_meet
      case rel => exact ⟨4095 + k % 3, by omega, int_cast (by omega), rfl⟩
    · go_wp2
      go_meet
      case rel => exact ⟨k % 9 + 1, by omega, int_cast (by omega), rfl⟩
  case rest =>
    obtain ⟨nn, hnn, rfl, rfl⟩ := hcut
    go_upto_if 31 with fail
    go_cut [8] (fun s w' => ∃ bud : Int, s = .int .i64 bud ∧ w' = wc)
    case first =>
      by_cases h1 : k = 249
      · subst h1
        go_wp2
        go_meet
        case rel => exact ⟨_, rfl, rfl⟩
      · have h1' : ((k : Int) == 249) = false := by simp; omega
        go_wp2
        go_meet
        case rel => exact ⟨_, rfl, rfl⟩
    case rest =>
      obtain ⟨bud, rfl, rfl⟩ := hcut
      go_wp2_with fail
      refine (N.out _ _ R2.out).mono ?_
      rintro e W3 ⟨⟨n0, hn0, rfl⟩, r3, bx⟩
      have R3 := hid r3
      clear r3 R2
      go_wp2
      rw [show (n0 : Int) % 40 = ((n0 % 40 : Nat) : Int) by omega]
      obtain ⟨n, hn⟩ : ∃ n, n = n0 % 40 := ⟨_, rfl⟩
      rw [← hn]
      have hn40 : n < 40 := by omega
      clear hn
      have D0 := hid (show Dr (R + 1) (.slice none 0 0) [] W3 from ⟨⟨rfl, .inl ⟨rfl, rfl⟩⟩, fun o ho => by cases ho⟩)
      go_loopw [9, 11] (fun v i wr => ∃ (j : Nat) (ops : List Op9), j ≤ n ∧ i = .int .i64 j ∧ ops.length = j ∧ Hid (Dr (R + 1) v ops wr) ∧ Hid (Rd w a len cap R wr)) (fun _ i _ => n - (intOf i).toNat)
      case atStart => exact ⟨0, [], Nat.zero_le _, rfl, rfl, D0, R3⟩
      case round =>
        obtain ⟨j, ops, hj, rfl, hol, HD, HR⟩ := hrel
        clear D0 R3
        by_cases hlt : j < n
        · go_wp2_with fail
          refine (N.out _ _ HR.out).mono ?_
          rintro e W4 ⟨⟨c, hc, rfl⟩, r4, g4⟩
          have R4 := hid r4
          have G4 := hid g4
          clear r4 g4
          go_wp2_with fail
          go_cut [13] (fun s w' => ∃ X o, s = .pointer (some ⟨X, 0, none⟩) ∧ Hid (Ob w a len cap R wr X o w'))
          case first =>
            obtain ⟨ix, hix, t1⟩ : ∃ ix : Nat, ix < 10 ∧ (c : Int).tmod 10 = (ix : Int) := ⟨c % 10, by omega, by rw [Int.tmod_eq_emod_of_nonneg (by omega)]; omega⟩
            obtain ⟨k9, hk9, t2⟩ : ∃ k9 : Nat, k9 < 9 ∧ (k : Int).tmod 9 = (k9 : Int) := ⟨k % 9, by omega, by rw [Int.tmod_eq_emod_of_nonneg (by omega)]; omega⟩
            obtain ⟨q1, hq1, t3⟩ : ∃ q1 : Nat, q1 ≤ 1 ∧ (c : Int).tdiv 240 = (q1 : Int) := ⟨c / 240, by omega, by rw [Int.tdiv_eq_ediv_of_nonneg (by omega)]; omega⟩
            obtain ⟨q2, hq2, t4⟩ : ∃ q2 : Nat, q2 ≤ 25 ∧ (c : Int).tdiv 10 = (q2 : Int) := ⟨c / 10, by omega, by rw [Int.tdiv_eq_ediv_of_nonneg (by omega)]; omega⟩
            obtain ⟨q3, hq3, t5⟩ : ∃ q3 : Nat, q3 < 4 ∧ (q2 : Int).tmod 4 = (q3 : Int) := ⟨q2 % 4, by omega, by rw [Int.tmod_eq_emod_of_nonneg (by omega)]; omega⟩
            obtain ⟨kd, hkd⟩ : ∃ kd : Int, (#[.int .i64 0, .int .i64 0, .int .i64 1, .int .i64 2, .int .i64 3, .int .i64 4, .int .i64 4, .int .i64 5, .int .i64 5, .int .i64 5] : Array Value)[ix]? = some (.int .i64 kd) := by
              have : ix = 0 ∨ ix = 1 ∨ ix = 2 ∨ ix = 3 ∨ ix = 4 ∨ ix = 5 ∨ ix = 6 ∨ ix = 7 ∨ ix = 8 ∨ ix = 9 := by omega
              rcases this with rfl | rfl | rfl | rfl | rfl | rfl | rfl | rfl | rfl | rfl <;> exact ⟨_, rfl⟩
            have M := hid (show Md w a len cap R wr W4.drew from ⟨R4.out.drew, ⟨G4.out.os, G4.out.tape, G4.out.output, G4.out.size, G4.out.block⟩, by obtain ⟨_, _, h⟩ := HR.out.box; exact lt_blk h⟩)
            refine wp_region_drew (by kernel_rfl) ?_
            generalize W4.drew = V0 at M ⊢
            simp only [List.size_toArray, List.length_cons, List.length_nil, Nat.reduceAdd, Array.replicate_succ, Array.replicate_zero, List.push_toArray, List.nil_append, List.cons_append]
            refine wpAny_put (i := 1) (d := 43) (v := .int .i64 (c : Nat)) rfl (by kernel_rfl) (by kernel_rfl) (by kernel_rfl) (by kernel_rfl) (fun _ _ _ h => h) (Or.inl ⟨by kernel_rfl, fun _ => by kernel_rfl⟩) ?_
            simp only [List.setIfInBounds_toArray, List.set_cons_zero, List.set_cons_succ]
            refine wpAny_put (i := 2) (d := 44) (v := .int .i64 (ix : Nat)) rfl (by kernel_rfl) (by kernel_rfl) (by kernel_rfl) (by kernel_rfl) (fun _ _ _ h => h) (Or.inl ⟨by kernel_rfl, fun V => by first | (go_simp; done) | (go_simp; simp only [t1]; done) | (go_simp; exact wrap64 _ (by omega) (by omega)) | (go_simp; simp only [t1]; exact wrap64 _ (by omega) (by omega))⟩) ?_
            simp only [List.setIfInBounds_toArray, List.set_cons_zero, List.set_cons_succ]
            refine wpAny_put (i := 5) (d := 47) (v := .pointer (some ⟨R, 0, none⟩)) rfl (by kernel_rfl) (by kernel_rfl) (by kernel_rfl) (by kernel_rfl) (fun _ _ _ h => h) (Or.inl ⟨by kernel_rfl, fun _ => by kernel_rfl⟩) ?_
            simp only [List.setIfInBounds_toArray, List.set_cons_zero, List.set_cons_succ]
            refine wpAny_put (i := 7) (d := 49) (v := .int .i64 (k : Nat)) rfl (by kernel_rfl) (by kernel_rfl) (by kernel_rfl) (by kernel_rfl) (fun _ _ _ h => h) (Or.inl ⟨by kernel_rfl, fun _ => by kernel_rfl⟩) ?_
            simp only [List.setIfInBounds_toArray, List.set_cons_zero, List.set_cons_succ]
            refine wpAny_put (i := 8) (d := 50) (v := .int .i64 (k9 : Nat)) rfl (by kernel_rfl) (by kernel_rfl) (by kernel_rfl) (by kernel_rfl) (fun _ _ _ h => h) (Or.inl ⟨by kernel_rfl, fun V => by first | (go_simp; done) | (go_simp; simp only [t2]; done) | (go_simp; exact wrap64 _ (by omega) (by omega)) | (go_simp; simp only [t2]; exact wrap64 _ (by omega) (by omega))⟩) ?_
            simp only [List.setIfInBounds_toArray, List.set_cons_zero, List.set_cons_succ]
            refine wpAny_put (i := 9) (d := 51) (v := .int .i64 ((k9 : Int) + 2)) rfl (by kernel_rfl) (by kernel_rfl) (by kernel_rfl) (by kernel_rfl) (fun _ _ _ h => h) (Or.inl ⟨by kernel_rfl, fun V => by first | (go_simp; done) | (go_simp; simp only [t2]; done) | (go_simp; exact wrap64 _ (by omega) (by omega)) | (go_simp; simp only [t2]; exact wrap64 _ (by omega) (by omega))⟩) ?_
            simp only [List.setIfInBounds_toArray, List.set_cons_zero, List.set_cons_succ]
            refine wpAny_put (i := 11) (d := 53) (v := .int .i64 (c : Nat)) rfl (by kernel_rfl) (by kernel_rfl) (by kernel_rfl) (by kernel_rfl) (fun _ _ _ h => h) (Or.inl ⟨by kernel_rfl, fun _ => by kernel_rfl⟩) ?_
            simp only [List.setIfInBounds_toArray, List.set_cons_zero, List.set_cons_succ]
            refine wpAny_put (i := 12) (d := 54) (v := .int .i64 (q1 : Nat)) rfl (by kernel_rfl) (by kernel_rfl) (by kernel_rfl) (by kernel_rfl) (fun _ _ _ h => h) (Or.inl ⟨by kernel_rfl, fun V => by first | (go_simp; done) | (go_simp; simp only [t3]; done) | (go_simp; exact wrap64 _ (by omega) (by omega)) | (go_simp; simp only [t3]; exact wrap64 _ (by omega) (by omega))⟩) ?_
            simp only [List.setIfInBounds_toArray, List.set_cons_zero, List.set_cons_succ]
            refine wpAny_put (i := 14) (d := 56) (v := .int .i64 (c : Nat)) rfl (by kernel_rfl) (by kernel_rfl) (by kernel_rfl) (by kernel_rfl) (fun _ _ _ h => h) (Or.inl ⟨by kernel_rfl, fun _ => by kernel_rfl⟩) ?_
            simp only [List.setIfInBounds_toArray, List.set_cons_zero, List.set_cons_succ]
            refine wpAny_put (i := 15) (d := 57) (v := .int .i64 (q2 : Nat)) rfl (by kernel_rfl) (by kernel_rfl) (by kernel_rfl) (by kernel_rfl) (fun _ _ _ h => h) (Or.inl ⟨by kernel_rfl, fun V => by first | (go_simp; done) | (go_simp; simp only [t4]; done) | (go_simp; exact wrap64 _ (by omega) (by omega)) | (go_simp; simp only [t4]; exact wrap64 _ (by omega) (by omega))⟩) ?_
            simp only [List.setIfInBounds_toArray, List.set_cons_zero, List.set_cons_succ]
            refine wpAny_put (i := 16) (d := 58) (v := .int .i64 (q3 : Nat)) rfl (by kernel_rfl) (by kernel_rfl) (by kernel_rfl) (by kernel_rfl) (fun _ _ _ h => h) (Or.inl ⟨by kernel_rfl, fun V => by first | (go_simp; done) | (go_simp; simp only [t5]; done) | (go_simp; exact wrap64 _ (by omega) (by omega)) | (go_simp; simp only [t5]; exact wrap64 _ (by omega) (by omega))⟩) ?_
            simp only [List.setIfInBounds_toArray, List.set_cons_zero, List.set_cons_succ]
            refine wpAny_ready (rs := [0, 6, 18]) (by kernel_rfl) (by simp) ?_
            refine AllReady.cons rfl (fun K hK => ?_) ?_
            · go_simp
              have M2 := hid (M.out.alloc (.cells #[.int .i64 0, .int .i64 0, .int .i64 1, .int .i64 2, .int .i64 3, .int .i64 4, .int .i64 4, .int .i64 5, .int .i64 5, .int .i64 5] 3))
              have HT := hid (al_last V0 (.cells #[.int .i64 0, .int .i64 0, .int .i64 1, .int .i64 2, .int .i64 3, .int .i64 4, .int .i64 4, .int .i64 5, .int .i64 5, .int .i64 5] 3))
              have Tn := hid M.out.g.size
              refine hK _ _ ?_
              clear hK K
              simp only [List.setIfInBounds_toArray, List.set_cons_zero]
              generalize V0.alloc (.cells #[.int .i64 0, .int .i64 0, .int .i64 1, .int .i64 2, .int .i64 3, .int .i64 4, .int .i64 4, .int .i64 5, .int .i64 5, .int .i64 5] 3) = V1 at M2 HT ⊢
              generalize V0.heap.size = b at HT Tn ⊢
              clear M
              have M := M2
              clear M2
              refine wpAny_of_held (S := fun V => Hid (V.heap[b]? = some (.cells #[.int .i64 0, .int .i64 0, .int .i64 1, .int .i64 2, .int .i64 3, .int .i64 4, .int .i64 4, .int .i64 5, .int .i64 5, .int .i64 5] 3))) _ _ _ _ ?_
              have hS := HT
              refine wpAnyH_put (i := 3) (d := 45) (v := .pointer (some ⟨b, ix, none⟩)) rfl (by kernel_rfl) (by kernel_rfl) (by kernel_rfl) (by kernel_rfl) (fun _ _ _ h => h) (Or.inl ⟨by kernel_rfl, fun V hV => by first | (go_simp; done) | (go_simp; omega)⟩) hS ?_
              simp only [List.setIfInBounds_toArray, List.set_cons_zero, List.set_cons_succ]
              refine wpAnyH_put (i := 4) (d := 46) (v := .int .i64 kd) rfl (by kernel_rfl) (by kernel_rfl) (by kernel_rfl) (by kernel_rfl) (fun _ _ _ h => h) (Or.inl ⟨by kernel_rfl, fun V hV => by have hc := cell_tbl hV.out hkd; go_simp⟩) hS ?_
              simp only [List.setIfInBounds_toArray, List.set_cons_zero, List.set_cons_succ]
              refine wpAnyH_ready (rs := [6, 18]) (by kernel_rfl) (by simp) ?_
              refine AllReadyH.cons rfl (fun K hK => ?_) ?_
              · go_simp
                refine (N.out _ _ M.out.rd).mono ?_
                rintro e V2 ⟨⟨c2, hc2, rfl⟩, rd2, g2⟩
                have M2 := hid (M.out.next rd2 g2)
                have T2 := hid (M.out.keep g2 Tn.out HT.out)
                obtain ⟨r, hr, t6⟩ : ∃ r : Nat, r ≤ 255 ∧ (c2 : Int).tmod ((k9 : Int) + 2) = (r : Int) := rem_nat c2 k9 hc2
                refine hK.out _ _ (T2) (fun hS => ?_)
                clear hK K rd2 g2
                simp only [List.setIfInBounds_toArray, List.set_cons_zero, List.set_cons_succ]
                clear M HT
                have M := M2
                clear M2
                have HT := T2
                clear T2
                refine wpAnyH_put (i := 10) (d := 52) (v := .int .i64 (r : Nat)) rfl (by kernel_rfl) (by kernel_rfl) (by kernel_rfl) (by kernel_rfl) (fun _ _ _ h => h) (Or.inl ⟨by kernel_rfl, fun V hV => by first | (go_simp; done) | (go_simp; omega) | (go_simp; simp only [t6]; done) | (go_simp; exact wrap64 _ (by omega) (by omega)) | (go_simp; simp only [t6]; exact wrap64 _ (by omega) (by omega))⟩) hS ?_
                simp only [List.setIfInBounds_toArray, List.set_cons_zero, List.set_cons_succ]
                refine wpAnyH_put (i := 13) (d := 55) (v := .int .i64 ((r : Int) - q1)) rfl (by kernel_rfl) (by kernel_rfl) (by kernel_rfl) (by kernel_rfl) (fun _ _ _ h => h) (Or.inl ⟨by kernel_rfl, fun V hV => by first | (go_simp; done) | (go_simp; omega) | (go_simp; simp only [t6]; done) | (go_simp; exact wrap64 _ (by omega) (by omega)) | (go_simp; simp only [t6]; exact wrap64 _ (by omega) (by omega))⟩) hS ?_
                simp only [List.setIfInBounds_toArray, List.set_cons_zero, List.set_cons_succ]
                refine wpAnyH_put (i := 17) (d := 59) (v := .agg #[.int .i64 kd, .int .i64 ((r : Int) - q1), .int .i64 (q3 : Nat), .int .u64 0, .int .i64 0, .slice none 0 0]) rfl (by kernel_rfl) (by kernel_rfl) (by kernel_rfl) (by kernel_rfl) (fun _ _ _ h => h) (Or.inl ⟨by kernel_rfl, fun V hV => by first | kernel_rfl | (go_simp; done)⟩) hS ?_
                simp only [List.setIfInBounds_toArray, List.set_cons_zero, List.set_cons_succ]
                refine wpAnyH_ready (rs := [18]) (by kernel_rfl) (by simp) ?_
                refine AllReadyH.cons rfl (fun K hK => ?_) AllReadyH.nil
                go_simp
                have M2 := hid (M.out.alloc (.cells #[.int .i64 0, .int .i64 0, .int .i64 0, .int .u64 0, .int .i64 0, .slice none 0 0] 34))
                have X2 := hid (al_last V2 (.cells #[.int .i64 0, .int .i64 0, .int .i64 0, .int .u64 0, .int .i64 0, .slice none 0 0] 34))
                have Xn := hid M.out.g.size
                have T2 := hid ((al_old V2 (.cells #[.int .i64 0, .int .i64 0, .int .i64 0, .int .u64 0, .int .i64 0, .slice none 0 0] 34) b (lt_blk HT.out)).trans HT.out)
                refine hK.out _ _ (T2) (fun hS => ?_)
                clear hK K
                simp only [List.setIfInBounds_toArray, List.set_cons_zero, List.set_cons_succ]
                generalize V2.alloc (.cells #[.int .i64 0, .int .i64 0, .int .i64 0, .int .u64 0, .int .i64 0, .slice none 0 0] 34) = V3 at M2 X2 T2 hS ⊢
                generalize V2.heap.size = X at X2 Xn ⊢
                clear M HT
                have M := M2
                clear M2
                have HX := X2
                clear X2
                have HT := T2
                clear T2
                obtain ⟨c0, c1, c2', c3, c4, c5, g0, g1, g2, g3, g4, g5⟩ := six_cells HX.out
                have O9 := hid (M.out.box Xn.out HX.out (.int .i64 kd) (.int .i64 ((r : Int) - q1)) (.int .i64 (q3 : Nat)) (.int .u64 0) (.int .i64 0) (.slice none 0 0))
                have S9 := hid (set6_other HT.out HX.out (.int .i64 kd) (.int .i64 ((r : Int) - q1)) (.int .i64 (q3 : Nat)) (.int .u64 0) (.int .i64 0) (.slice none 0 0))
                refine wpAnyH_one (r := 19) (by kernel_rfl) ?_
                refine wpOp_do rfl (by kernel_rfl) (fun K hK => ?_)
                go_simp
                refine hK.out _ _ ⟨S9, ?_⟩
                clear hK K c0 c1 c2' c3 c4 c5 g0 g1 g2 g3 g4 g5
                refine wpAnyH_done (by kernel_rfl) ?_ _
                go_wp2
                go_meet
                case rel => exact ⟨X, ⟨kd, (r : Int) - q1, (q3 : Nat), 0, 0, none, 0, 0, []⟩, rfl, hid (O9.out.ob kd ((r : Int) - q1) (q3 : Nat) (by omega))⟩
              refine AllReadyH.cons rfl (fun K hK => ?_) AllReadyH.nil
              go_simp
              have M2 := hid (M.out.alloc (.cells #[.int .i64 0, .int .i64 0, .int .i64 0, .int .u64 0, .int .i64 0, .slice none 0 0] 34))
              have X2 := hid (al_last V1 (.cells #[.int .i64 0, .int .i64 0, .int .i64 0, .int .u64 0, .int .i64 0, .slice none 0 0] 34))
              have Xn := hid M.out.g.size
              have T2 := hid ((al_old V1 (.cells #[.int .i64 0, .int .i64 0, .int .i64 0, .int .u64 0, .int .i64 0, .slice none 0 0] 34) b (lt_blk HT.out)).trans HT.out)
              refine hK.out _ _ (T2) (fun hS => ?_)
              clear hK K
              simp only [List.setIfInBounds_toArray, List.set_cons_zero, List.set_cons_succ]
              generalize V1.alloc (.cells #[.int .i64 0, .int .i64 0, .int .i64 0, .int .u64 0, .int .i64 0, .slice none 0 0] 34) = V5 at M2 X2 T2 hS ⊢
              generalize V1.heap.size = X at X2 Xn ⊢
              clear M HT
              have M := M2
              clear M2
              have HX := X2
              clear X2
              have HT := T2
              clear T2
              refine wpAnyH_ready (rs := [6]) (by kernel_rfl) (by simp) ?_
              refine AllReadyH.cons rfl (fun K hK => ?_) AllReadyH.nil
              go_simp
              refine (N.out _ _ M.out.rd).mono ?_
              rintro e V6 ⟨⟨c2, hc2, rfl⟩, rd2, g2⟩
              have M2 := hid (M.out.next rd2 g2)
              have X2 := hid (M.out.keep g2 Xn.out HX.out)
              have T2 := hid (M.out.keep g2 Tn.out HT.out)
              obtain ⟨r, hr, t6⟩ : ∃ r : Nat, r ≤ 255 ∧ (c2 : Int).tmod ((k9 : Int) + 2) = (r : Int) := rem_nat c2 k9 hc2
              refine hK.out _ _ (T2) (fun hS => ?_)
              clear hK K rd2 g2
              simp only [List.setIfInBounds_toArray, List.set_cons_zero, List.set_cons_succ]
              clear M HX HT
              have M := M2
              clear M2
              have HX := X2
              clear X2
              have HT := T2
              clear T2
              refine wpAnyH_put (i := 10) (d := 52) (v := .int .i64 (r : Nat)) rfl (by kernel_rfl) (by kernel_rfl) (by kernel_rfl) (by kernel_rfl) (fun _ _ _ h => h) (Or.inl ⟨by kernel_rfl, fun V hV => by first | (go_simp; done) | (go_simp; omega) | (go_simp; simp only [t6]; done) | (go_simp; exact wrap64 _ (by omega) (by omega)) | (go_simp; simp only [t6]; exact wrap64 _ (by omega) (by omega))⟩) hS ?_
              simp only [List.setIfInBounds_toArray, List.set_cons_zero, List.set_cons_succ]
              refine wpAnyH_put (i := 13) (d := 55) (v := .int .i64 ((r : Int) - q1)) rfl (by kernel_rfl) (by kernel_rfl) (by kernel_rfl) (by kernel_rfl) (fun _ _ _ h => h) (Or.inl ⟨by kernel_rfl, fun V hV => by first | (go_simp; done) | (go_simp; omega) | (go_simp; simp only [t6]; done) | (go_simp; exact wrap64 _ (by omega) (by omega)) | (go_simp; simp only [t6]; exact wrap64 _ (by omega) (by omega))⟩) hS ?_
              simp only [List.setIfInBounds_toArray, List.set_cons_zero, List.set_cons_succ]
              refine wpAnyH_put (i := 17) (d := 59) (v := .agg #[.int .i64 kd, .int .i64 ((r : Int) - q1), .int .i64 (q3 : Nat), .int .u64 0, .int .i64 0, .slice none 0 0]) rfl (by kernel_rfl) (by kernel_rfl) (by kernel_rfl) (by kernel_rfl) (fun _ _ _ h => h) (Or.inl ⟨by kernel_rfl, fun V hV => by first | kernel_rfl | (go_simp; done)⟩) hS ?_
              simp only [List.setIfInBounds_toArray, List.set_cons_zero, List.set_cons_succ]
              obtain ⟨c0, c1, c2', c3, c4, c5, g0, g1, g2, g3, g4, g5⟩ := six_cells HX.out
              have O9 := hid (M.out.box Xn.out HX.out (.int .i64 kd) (.int .i64 ((r : Int) - q1)) (.int .i64 (q3 : Nat)) (.int .u64 0) (.int .i64 0) (.slice none 0 0))
              have S9 := hid (set6_other HT.out HX.out (.int .i64 kd) (.int .i64 ((r : Int) - q1)) (.int .i64 (q3 : Nat)) (.int .u64 0) (.int .i64 0) (.slice none 0 0))
              refine wpAnyH_one (r := 19) (by kernel_rfl) ?_
              refine wpOp_do rfl (by kernel_rfl) (fun K hK => ?_)
              go_simp
              refine hK.out _ _ ⟨S9, ?_⟩
              clear hK K c0 c1 c2' c3 c4 c5 g0 g1 g2 g3 g4 g5
              refine wpAnyH_done (by kernel_rfl) ?_ _
              go_wp2
              go_meet
              case rel => exact ⟨X, ⟨kd, (r : Int) - q1, (q3 : Nat), 0, 0, none, 0, 0, []⟩, rfl, hid (O9.out.ob kd ((r : Int) - q1) (q3 : Nat) (by omega))⟩
            refine AllReady.cons rfl (fun K hK => ?_) ?_
            · go_simp
              refine (N.out _ _ M.out.rd).mono ?_
              rintro e V8 ⟨⟨c2, hc2, rfl⟩, rd2, g2⟩
              have M2 := hid (M.out.next rd2 g2)
              obtain ⟨r, hr, t6⟩ : ∃ r : Nat, r ≤ 255 ∧ (c2 : Int).tmod ((k9 : Int) + 2) = (r : Int) := rem_nat c2 k9 hc2
              refine hK _ _ ?_
              clear hK K rd2 g2
              simp only [List.setIfInBounds_toArray, List.set_cons_zero, List.set_cons_succ]
              clear M
              have M := M2
              clear M2
              refine wpAny_put (i := 10) (d := 52) (v := .int .i64 (r : Nat)) rfl (by kernel_rfl) (by kernel_rfl) (by kernel_rfl) (by kernel_rfl) (fun _ _ _ h => h) (Or.inl ⟨by kernel_rfl, fun V => by first | (go_simp; done) | (go_simp; omega) | (go_simp; simp only [t6]; done) | (go_simp; exact wrap64 _ (by omega) (by omega)) | (go_simp; simp only [t6]; exact wrap64 _ (by omega) (by omega))⟩) ?_
              simp only [List.setIfInBounds_toArray, List.set_cons_zero, List.set_cons_succ]
              refine wpAny_put (i := 13) (d := 55) (v := .int .i64 ((r : Int) - q1)) rfl (by kernel_rfl) (by kernel_rfl) (by kernel_rfl) (by kernel_rfl) (fun _ _ _ h => h) (Or.inl ⟨by kernel_rfl, fun V => by first | (go_simp; done) | (go_simp; omega) | (go_simp; simp only [t6]; done) | (go_simp; exact wrap64 _ (by omega) (by omega)) | (go_simp; simp only [t6]; exact wrap64 _ (by omega) (by omega))⟩) ?_
              simp only [List.setIfInBounds_toArray, List.set_cons_zero, List.set_cons_succ]
              refine wpAny_ready (rs := [0, 18]) (by kernel_rfl) (by simp) ?_
              refine AllReady.cons rfl (fun K hK => ?_) ?_
              · go_simp
                have M2 := hid (M.out.alloc (.cells #[.int .i64 0, .int .i64 0, .int .i64 1, .int .i64 2, .int .i64 3, .int .i64 4, .int .i64 4, .int .i64 5, .int .i64 5, .int .i64 5] 3))
                have HT := hid (al_last V8 (.cells #[.int .i64 0, .int .i64 0, .int .i64 1, .int .i64 2, .int .i64 3, .int .i64 4, .int .i64 4, .int .i64 5, .int .i64 5, .int .i64 5] 3))
                have Tn := hid M.out.g.size
                refine hK _ _ ?_
                clear hK K
                simp only [List.setIfInBounds_toArray, List.set_cons_zero]
                generalize V8.alloc (.cells #[.int .i64 0, .int .i64 0, .int .i64 1, .int .i64 2, .int .i64 3, .int .i64 4, .int .i64 4, .int .i64 5, .int .i64 5, .int .i64 5] 3) = V9 at M2 HT ⊢
                generalize V8.heap.size = b at HT Tn ⊢
                clear M
                have M := M2
                clear M2
                refine wpAny_of_held (S := fun V => Hid (V.heap[b]? = some (.cells #[.int .i64 0, .int .i64 0, .int .i64 1, .int .i64 2, .int .i64 3, .int .i64 4, .int .i64 4, .int .i64 5, .int .i64 5, .int .i64 5] 3))) _ _ _ _ ?_
                have hS := HT
                refine wpAnyH_put (i := 3) (d := 45) (v := .pointer (some ⟨b, ix, none⟩)) rfl (by kernel_rfl) (by kernel_rfl) (by kernel_rfl) (by kernel_rfl) (fun _ _ _ h => h) (Or.inl ⟨by kernel_rfl, fun V hV => by first | (go_simp; done) | (go_simp; omega)⟩) hS ?_
                simp only [List.setIfInBounds_toArray, List.set_cons_zero, List.set_cons_succ]
                refine wpAnyH_put (i := 4) (d := 46) (v := .int .i64 kd) rfl (by kernel_rfl) (by kernel_rfl) (by kernel_rfl) (by kernel_rfl) (fun _ _ _ h => h) (Or.inl ⟨by kernel_rfl, fun V hV => by have hc := cell_tbl hV.out hkd; go_simp⟩) hS ?_
                simp only [List.setIfInBounds_toArray, List.set_cons_zero, List.set_cons_succ]
                refine wpAnyH_put (i := 17) (d := 59) (v := .agg #[.int .i64 kd, .int .i64 ((r : Int) - q1), .int .i64 (q3 : Nat), .int .u64 0, .int .i64 0, .slice none 0 0]) rfl (by kernel_rfl) (by kernel_rfl) (by kernel_rfl) (by kernel_rfl) (fun _ _ _ h => h) (Or.inl ⟨by kernel_rfl, fun V hV => by first | kernel_rfl | (go_simp; done)⟩) hS ?_
                simp only [List.setIfInBounds_toArray, List.set_cons_zero, List.set_cons_succ]
                refine wpAnyH_ready (rs := [18]) (by kernel_rfl) (by simp) ?_
                refine AllReadyH.cons rfl (fun K hK => ?_) AllReadyH.nil
                go_simp
                have M2 := hid (M.out.alloc (.cells #[.int .i64 0, .int .i64 0, .int .i64 0, .int .u64 0, .int .i64 0, .slice none 0 0] 34))
                have X2 := hid (al_last V9 (.cells #[.int .i64 0, .int .i64 0, .int .i64 0, .int .u64 0, .int .i64 0, .slice none 0 0] 34))
                have Xn := hid M.out.g.size
                have T2 := hid ((al_old V9 (.cells #[.int .i64 0, .int .i64 0, .int .i64 0, .int .u64 0, .int .i64 0, .slice none 0 0] 34) b (lt_blk HT.out)).trans HT.out)
                refine hK.out _ _ (T2) (fun hS => ?_)
                clear hK K
                simp only [List.setIfInBounds_toArray, List.set_cons_zero, List.set_cons_succ]
                generalize V9.alloc (.cells #[.int .i64 0, .int .i64 0, .int .i64 0, .int .u64 0, .int .i64 0, .slice none 0 0] 34) = V10 at M2 X2 T2 hS ⊢
                generalize V9.heap.size = X at X2 Xn ⊢
                clear M HT
                have M := M2
                clear M2
                have HX := X2
                clear X2
                have HT := T2
                clear T2
                obtain ⟨c0, c1, c2', c3, c4, c5, g0, g1, g2, g3, g4, g5⟩ := six_cells HX.out
                have O9 := hid (M.out.box Xn.out HX.out (.int .i64 kd) (.int .i64 ((r : Int) - q1)) (.int .i64 (q3 : Nat)) (.int .u64 0) (.int .i64 0) (.slice none 0 0))
                have S9 := hid (set6_other HT.out HX.out (.int .i64 kd) (.int .i64 ((r : Int) - q1)) (.int .i64 (q3 : Nat)) (.int .u64 0) (.int .i64 0) (.slice none 0 0))
                refine wpAnyH_one (r := 19) (by kernel_rfl) ?_
                refine wpOp_do rfl (by kernel_rfl) (fun K hK => ?_)
                go_simp
                refine hK.out _ _ ⟨S9, ?_⟩
                clear hK K c0 c1 c2' c3 c4 c5 g0 g1 g2 g3 g4 g5
                refine wpAnyH_done (by kernel_rfl) ?_ _
                go_wp2
                go_meet
                case rel => exact ⟨X, ⟨kd, (r : Int) - q1, (q3 : Nat), 0, 0, none, 0, 0, []⟩, rfl, hid (O9.out.ob kd ((r : Int) - q1) (q3 : Nat) (by omega))⟩
              refine AllReady.cons rfl (fun K hK => ?_) AllReady.nil
              go_simp
              have M2 := hid (M.out.alloc (.cells #[.int .i64 0, .int .i64 0, .int .i64 0, .int .u64 0, .int .i64 0, .slice none 0 0] 34))
              have X2 := hid (al_last V8 (.cells #[.int .i64 0, .int .i64 0, .int .i64 0, .int .u64 0, .int .i64 0, .slice none 0 0] 34))
              have Xn := hid M.out.g.size
              refine hK _ _ ?_
              clear hK K
              simp only [List.setIfInBounds_toArray, List.set_cons_zero, List.set_cons_succ]
              generalize V8.alloc (.cells #[.int .i64 0, .int .i64 0, .int .i64 0, .int .u64 0, .int .i64 0, .slice none 0 0] 34) = V12 at M2 X2 ⊢
              generalize V8.heap.size = X at X2 Xn ⊢
              clear M
              have M := M2
              clear M2
              have HX := X2
              clear X2
              refine wpAny_ready (rs := [0]) (by kernel_rfl) (by simp) ?_
              refine AllReady.cons rfl (fun K hK => ?_) AllReady.nil
              go_simp
              have M2 := hid (M.out.alloc (.cells #[.int .i64 0, .int .i64 0, .int .i64 1, .int .i64 2, .int .i64 3, .int .i64 4, .int .i64 4, .int .i64 5, .int .i64 5, .int .i64 5] 3))
              have HT := hid (al_last V12 (.cells #[.int .i64 0, .int .i64 0, .int .i64 1, .int .i64 2, .int .i64 3, .int .i64 4, .int .i64 4, .int .i64 5, .int .i64 5, .int .i64 5] 3))
              have Tn := hid M.out.g.size
              have X2 := hid ((al_old V12 (.cells #[.int .i64 0, .int .i64 0, .int .i64 1, .int .i64 2, .int .i64 3, .int .i64 4, .int .i64 4, .int .i64 5, .int .i64 5, .int .i64 5] 3) X (lt_blk HX.out)).trans HX.out)
              refine hK _ _ ?_
              clear hK K
              simp only [List.setIfInBounds_toArray, List.set_cons_zero]
              generalize V12.alloc (.cells #[.int .i64 0, .int .i64 0, .int .i64 1, .int .i64 2, .int .i64 3, .int .i64 4, .int .i64 4, .int .i64 5, .int .i64 5, .int .i64 5] 3) = V13 at M2 HT X2 ⊢
              generalize V12.heap.size = b at HT Tn ⊢
              clear M HX
              have M := M2
              clear M2
              have HX := X2
              clear X2
              refine wpAny_of_held (S := fun V => Hid (V.heap[b]? = some (.cells #[.int .i64 0, .int .i64 0, .int .i64 1, .int .i64 2, .int .i64 3, .int .i64 4, .int .i64 4, .int .i64 5, .int .i64 5, .int .i64 5] 3))) _ _ _ _ ?_
              have hS := HT
              refine wpAnyH_put (i := 3) (d := 45) (v := .pointer (some ⟨b, ix, none⟩)) rfl (by kernel_rfl) (by kernel_rfl) (by kernel_rfl) (by kernel_rfl) (fun _ _ _ h => h) (Or.inl ⟨by kernel_rfl, fun V hV => by first | (go_simp; done) | (go_simp; omega)⟩) hS ?_
              simp only [List.setIfInBounds_toArray, List.set_cons_zero, List.set_cons_succ]
              refine wpAnyH_put (i := 4) (d := 46) (v := .int .i64 kd) rfl (by kernel_rfl) (by kernel_rfl) (by kernel_rfl) (by kernel_rfl) (fun _ _ _ h => h) (Or.inl ⟨by kernel_rfl, fun V hV => by have hc := cell_tbl hV.out hkd; go_simp⟩) hS ?_
              simp only [List.setIfInBounds_toArray, List.set_cons_zero, List.set_cons_succ]
              refine wpAnyH_put (i := 17) (d := 59) (v := .agg #[.int .i64 kd, .int .i64 ((r : Int) - q1), .int .i64 (q3 : Nat), .int .u64 0, .int .i64 0, .slice none 0 0]) rfl (by kernel_rfl) (by kernel_rfl) (by kernel_rfl) (by kernel_rfl) (fun _ _ _ h => h) (Or.inl ⟨by kernel_rfl, fun V hV => by first | kernel_rfl | (go_simp; done)⟩) hS ?_
              simp only [List.setIfInBounds_toArray, List.set_cons_zero, List.set_cons_succ]
              obtain ⟨c0, c1, c2', c3, c4, c5, g0, g1, g2, g3, g4, g5⟩ := six_cells HX.out
              have O9 := hid (M.out.box Xn.out HX.out (.int .i64 kd) (.int .i64 ((r : Int) - q1)) (.int .i64 (q3 : Nat)) (.int .u64 0) (.int .i64 0) (.slice none 0 0))
              have S9 := hid (set6_other HT.out HX.out (.int .i64 kd) (.int .i64 ((r : Int) - q1)) (.int .i64 (q3 : Nat)) (.int .u64 0) (.int .i64 0) (.slice none 0 0))
              refine wpAnyH_one (r := 19) (by kernel_rfl) ?_
              refine wpOp_do rfl (by kernel_rfl) (fun K hK => ?_)
              go_simp
              refine hK.out _ _ ⟨S9, ?_⟩
              clear hK K c0 c1 c2' c3 c4 c5 g0 g1 g2 g3 g4 g5
              refine wpAnyH_done (by kernel_rfl) ?_ _
              go_wp2
              go_meet
              case rel => exact ⟨X, ⟨kd, (r : Int) - q1, (q3 : Nat), 0, 0, none, 0, 0, []⟩, rfl, hid (O9.out.ob kd ((r : Int) - q1) (q3 : Nat) (by omega))⟩
            refine AllReady.cons rfl (fun K hK => ?_) AllReady.nil
            go_simp
            have M2 := hid (M.out.alloc (.cells #[.int .i64 0, .int .i64 0, .int .i64 0, .int .u64 0, .int .i64 0, .slice none 0 0] 34))
            have X2 := hid (al_last V0 (.cells #[.int .i64 0, .int .i64 0, .int .i64 0, .int .u64 0, .int .i64 0, .slice none 0 0] 34))
            have Xn := hid M.out.g.size
            refine hK _ _ ?_
            clear hK K
            simp only [List.setIfInBounds_toArray, List.set_cons_zero, List.set_cons_succ]
            generalize V0.alloc (.cells #[.int .i64 0, .int .i64 0, .int .i64 0, .int .u64 0, .int .i64 0, .slice none 0 0] 34) = V15 at M2 X2 ⊢
            generalize V0.heap.size = X at X2 Xn ⊢
            clear M
            have M := M2
            clear M2
            have HX := X2
            clear X2
            refine wpAny_ready (rs := [0, 6]) (by kernel_rfl) (by simp) ?_
            refine AllReady.cons rfl (fun K hK => ?_) ?_
            · go_simp
              have M2 := hid (M.out.alloc (.cells #[.int .i64 0, .int .i64 0, .int .i64 1, .int .i64 2, .int .i64 3, .int .i64 4, .int .i64 4, .int .i64 5, .int .i64 5, .int .i64 5] 3))
              have HT := hid (al_last V15 (.cells #[.int .i64 0, .int .i64 0, .int .i64 1, .int .i64 2, .int .i64 3, .int .i64 4, .int .i64 4, .int .i64 5, .int .i64 5, .int .i64 5] 3))
              have Tn := hid M.out.g.size
              have X2 := hid ((al_old V15 (.cells #[.int .i64 0, .int .i64 0, .int .i64 1, .int .i64 2, .int .i64 3, .int .i64 4, .int .i64 4, .int .i64 5, .int .i64 5, .int .i64 5] 3) X (lt_blk HX.out)).trans HX.out)
              refine hK _ _ ?_
              clear hK K
              simp only [List.setIfInBounds_toArray, List.set_cons_zero]
              generalize V15.alloc (.cells #[.int .i64 0, .int .i64 0, .int .i64 1, .int .i64 2, .int .i64 3, .int .i64 4, .int .i64 4, .int .i64 5, .int .i64 5, .int .i64 5] 3) = V16 at M2 HT X2 ⊢
              generalize V15.heap.size = b at HT Tn ⊢
              clear M HX
              have M := M2
              clear M2
              have HX := X2
              clear X2
              refine wpAny_of_held (S := fun V => Hid (V.heap[b]? = some (.cells #[.int .i64 0, .int .i64 0, .int .i64 1, .int .i64 2, .int .i64 3, .int .i64 4, .int .i64 4, .int .i64 5, .int .i64 5, .int .i64 5] 3))) _ _ _ _ ?_
              have hS := HT
              refine wpAnyH_put (i := 3) (d := 45) (v := .pointer (some ⟨b, ix, none⟩)) rfl (by kernel_rfl) (by kernel_rfl) (by kernel_rfl) (by kernel_rfl) (fun _ _ _ h => h) (Or.inl ⟨by kernel_rfl, fun V hV => by first | (go_simp; done) | (go_simp; omega)⟩) hS ?_
              simp only [List.setIfInBounds_toArray, List.set_cons_zero, List.set_cons_succ]
              refine wpAnyH_put (i := 4) (d := 46) (v := .int .i64 kd) rfl (by kernel_rfl) (by kernel_rfl) (by kernel_rfl) (by kernel_rfl) (fun _ _ _ h => h) (Or.inl ⟨by kernel_rfl, fun V hV => by have hc := cell_tbl hV.out hkd; go_simp⟩) hS ?_
              simp only [List.setIfInBounds_toArray, List.set_cons_zero, List.set_cons_succ]
              refine wpAnyH_ready (rs := [6]) (by kernel_rfl) (by simp) ?_
              refine AllReadyH.cons rfl (fun K hK => ?_) AllReadyH.nil
              go_simp
              refine (N.out _ _ M.out.rd).mono ?_
              rintro e V17 ⟨⟨c2, hc2, rfl⟩, rd2, g2⟩
              have M2 := hid (M.out.next rd2 g2)
              have X2 := hid (M.out.keep g2 Xn.out HX.out)
              have T2 := hid (M.out.keep g2 Tn.out HT.out)
              obtain ⟨r, hr, t6⟩ : ∃ r : Nat, r ≤ 255 ∧ (c2 : Int).tmod ((k9 : Int) + 2) = (r : Int) := rem_nat c2 k9 hc2
              refine hK.out _ _ (T2) (fun hS => ?_)
              clear hK K rd2 g2
              simp only [List.setIfInBounds_toArray, List.set_cons_zero, List.set_cons_succ]
              clear M HX HT
              have M := M2
              clear M2
              have HX := X2
              clear X2
              have HT := T2
              clear T2
              refine wpAnyH_put (i := 10) (d := 52) (v := .int .i64 (r : Nat)) rfl (by kernel_rfl) (by kernel_rfl) (by kernel_rfl) (by kernel_rfl) (fun _ _ _ h => h) (Or.inl ⟨by kernel_rfl, fun V hV => by first | (go_simp; done) | (go_simp; omega) | (go_simp; simp only [t6]; done) | (go_simp; exact wrap64 _ (by omega) (by omega)) | (go_simp; simp only [t6]; exact wrap64 _ (by omega) (by omega))⟩) hS ?_
              simp only [List.setIfInBounds_toArray, List.set_cons_zero, List.set_cons_succ]
              refine wpAnyH_put (i := 13) (d := 55) (v := .int .i64 ((r : Int) - q1)) rfl (by kernel_rfl) (by kernel_rfl) (by kernel_rfl) (by kernel_rfl) (fun _ _ _ h => h) (Or.inl ⟨by kernel_rfl, fun V hV => by first | (go_simp; done) | (go_simp; omega) | (go_simp; simp only [t6]; done) | (go_simp; exact wrap64 _ (by omega) (by omega)) | (go_simp; simp only [t6]; exact wrap64 _ (by omega) (by omega))⟩) hS ?_
              simp only [List.setIfInBounds_toArray, List.set_cons_zero, List.set_cons_succ]
              refine wpAnyH_put (i := 17) (d := 59) (v := .agg #[.int .i64 kd, .int .i64 ((r : Int) - q1), .int .i64 (q3 : Nat), .int .u64 0, .int .i64 0, .slice none 0 0]) rfl (by kernel_rfl) (by kernel_rfl) (by kernel_rfl) (by kernel_rfl) (fun _ _ _ h => h) (Or.inl ⟨by kernel_rfl, fun V hV => by first | kernel_rfl | (go_simp; done)⟩) hS ?_
              simp only [List.setIfInBounds_toArray, List.set_cons_zero, List.set_cons_succ]
              obtain ⟨c0, c1, c2', c3, c4, c5, g0, g1, g2, g3, g4, g5⟩ := six_cells HX.out
              have O9 := hid (M.out.box Xn.out HX.out (.int .i64 kd) (.int .i64 ((r : Int) - q1)) (.int .i64 (q3 : Nat)) (.int .u64 0) (.int .i64 0) (.slice none 0 0))
              have S9 := hid (set6_other HT.out HX.out (.int .i64 kd) (.int .i64 ((r : Int) - q1)) (.int .i64 (q3 : Nat)) (.int .u64 0) (.int .i64 0) (.slice none 0 0))
              refine wpAnyH_one (r := 19) (by kernel_rfl) ?_
              refine wpOp_do rfl (by kernel_rfl) (fun K hK => ?_)
              go_simp
              refine hK.out _ _ ⟨S9, ?_⟩
              clear hK K c0 c1 c2' c3 c4 c5 g0 g1 g2 g3 g4 g5
              refine wpAnyH_done (by kernel_rfl) ?_ _
              go_wp2
              go_meet
              case rel => exact ⟨X, ⟨kd, (r : Int) - q1, (q3 : Nat), 0, 0, none, 0, 0, []⟩, rfl, hid (O9.out.ob kd ((r : Int) - q1) (q3 : Nat) (by omega))⟩
            refine AllReady.cons rfl (fun K hK => ?_) AllReady.nil
            go_simp
            refine (N.out _ _ M.out.rd).mono ?_
            rintro e V19 ⟨⟨c2, hc2, rfl⟩, rd2, g2⟩
            have M2 := hid (M.out.next rd2 g2)
            have X2 := hid (M.out.keep g2 Xn.out HX.out)
            obtain ⟨r, hr, t6⟩ : ∃ r : Nat, r ≤ 255 ∧ (c2 : Int).tmod ((k9 : Int) + 2) = (r : Int) := rem_nat c2 k9 hc2
            refine hK _ _ ?_
            clear hK K rd2 g2
            simp only [List.setIfInBounds_toArray, List.set_cons_zero, List.set_cons_succ]
            clear M HX
            have M := M2
            clear M2
            have HX := X2
            clear X2
            refine wpAny_put (i := 10) (d := 52) (v := .int .i64 (r : Nat)) rfl (by kernel_rfl) (by kernel_rfl) (by kernel_rfl) (by kernel_rfl) (fun _ _ _ h => h) (Or.inl ⟨by kernel_rfl, fun V => by first | (go_simp; done) | (go_simp; omega) | (go_simp; simp only [t6]; done) | (go_simp; exact wrap64 _ (by omega) (by omega)) | (go_simp; simp only [t6]; exact wrap64 _ (by omega) (by omega))⟩) ?_
            simp only [List.setIfInBounds_toArray, List.set_cons_zero, List.set_cons_succ]
            refine wpAny_put (i := 13) (d := 55) (v := .int .i64 ((r : Int) - q1)) rfl (by kernel_rfl) (by kernel_rfl) (by kernel_rfl) (by kernel_rfl) (fun _ _ _ h => h) (Or.inl ⟨by kernel_rfl, fun V => by first | (go_simp; done) | (go_simp; omega) | (go_simp; simp only [t6]; done) | (go_simp; exact wrap64 _ (by omega) (by omega)) | (go_simp; simp only [t6]; exact wrap64 _ (by omega) (by omega))⟩) ?_
            simp only [List.setIfInBounds_toArray, List.set_cons_zero, List.set_cons_succ]
            refine wpAny_ready (rs := [0]) (by kernel_rfl) (by simp) ?_
            refine AllReady.cons rfl (fun K hK => ?_) AllReady.nil
            go_simp
            have M2 := hid (M.out.alloc (.cells #[.int .i64 0, .int .i64 0, .int .i64 1, .int .i64 2, .int .i64 3, .int .i64 4, .int .i64 4, .int .i64 5, .int .i64 5, .int .i64 5] 3))
            have HT := hid (al_last V19 (.cells #[.int .i64 0, .int .i64 0, .int .i64 1, .int .i64 2, .int .i64 3, .int .i64 4, .int .i64 4, .int .i64 5, .int .i64 5, .int .i64 5] 3))
            have Tn := hid M.out.g.size
            have X2 := hid ((al_old V19 (.cells #[.int .i64 0, .int .i64 0, .int .i64 1, .int .i64 2, .int .i64 3, .int .i64 4, .int .i64 4, .int .i64 5, .int .i64 5, .int .i64 5] 3) X (lt_blk HX.out)).trans HX.out)
            refine hK _ _ ?_
            clear hK K
            simp only [List.setIfInBounds_toArray, List.set_cons_zero]
            generalize V19.alloc (.cells #[.int .i64 0, .int .i64 0, .int .i64 1, .int .i64 2, .int .i64 3, .int .i64 4, .int .i64 4, .int .i64 5, .int .i64 5, .int .i64 5] 3) = V20 at M2 HT X2 ⊢
            generalize V19.heap.size = b at HT Tn ⊢
            clear M HX
            have M := M2
            clear M2
            have HX := X2
            clear X2
            refine wpAny_of_held (S := fun V => Hid (V.heap[b]? = some (.cells #[.int .i64 0, .int .i64 0, .int .i64 1, .int .i64 2, .int .i64 3, .int .i64 4, .int .i64 4, .int .i64 5, .int .i64 5, .int .i64 5] 3))) _ _ _ _ ?_
            have hS := HT
            refine wpAnyH_put (i := 3) (d := 45) (v := .pointer (some ⟨b, ix, none⟩)) rfl (by kernel_rfl) (by kernel_rfl) (by kernel_rfl) (by kernel_rfl) (fun _ _ _ h => h) (Or.inl ⟨by kernel_rfl, fun V hV => by first | (go_simp; done) | (go_simp; omega)⟩) hS ?_
            simp only [List.setIfInBounds_toArray, List.set_cons_zero, List.set_cons_succ]
            refine wpAnyH_put (i := 4) (d := 46) (v := .int .i64 kd) rfl (by kernel_rfl) (by kernel_rfl) (by kernel_rfl) (by kernel_rfl) (fun _ _ _ h => h) (Or.inl ⟨by kernel_rfl, fun V hV => by have hc := cell_tbl hV.out hkd; go_simp⟩) hS ?_
            simp only [List.setIfInBounds_toArray, List.set_cons_zero, List.set_cons_succ]
            refine wpAnyH_put (i := 17) (d := 59) (v := .agg #[.int .i64 kd, .int .i64 ((r : Int) - q1), .int .i64 (q3 : Nat), .int .u64 0, .int .i64 0, .slice none 0 0]) rfl (by kernel_rfl) (by kernel_rfl) (by kernel_rfl) (by kernel_rfl) (fun _ _ _ h => h) (Or.inl ⟨by kernel_rfl, fun V hV => by first | kernel_rfl | (go_simp; done)⟩) hS ?_
            simp only [List.setIfInBounds_toArray, List.set_cons_zero, List.set_cons_succ]
            obtain ⟨c0, c1, c2', c3, c4, c5, g0, g1, g2, g3, g4, g5⟩ := six_cells HX.out
            have O9 := hid (M.out.box Xn.out HX.out (.int .i64 kd) (.int .i64 ((r : Int) - q1)) (.int .i64 (q3 : Nat)) (.int .u64 0) (.int .i64 0) (.slice none 0 0))
            have S9 := hid (set6_other HT.out HX.out (.int .i64 kd) (.int .i64 ((r : Int) - q1)) (.int .i64 (q3 : Nat)) (.int .u64 0) (.int .i64 0) (.slice none 0 0))
            refine wpAnyH_one (r := 19) (by kernel_rfl) ?_
            refine wpOp_do rfl (by kernel_rfl) (fun K hK => ?_)
            go_simp
            refine hK.out _ _ ⟨S9, ?_⟩
            clear hK K c0 c1 c2' c3 c4 c5 g0 g1 g2 g3 g4 g5
            refine wpAnyH_done (by kernel_rfl) ?_ _
            go_wp2
            go_meet
            case rel => exact ⟨X, ⟨kd, (r : Int) - q1, (q3 : Nat), 0, 0, none, 0, 0, []⟩, rfl, hid (O9.out.ob kd ((r : Int) - q1) (q3 : Nat) (by omega))⟩
          case rest =>
            obtain ⟨X, o, rfl, OB⟩ := hcut
            clear R4 G4
            go_upto_if 62 with fail
            go_cut [60] (fun _ w' => ∃ o, Hid (Ob w a len cap R wr X o w'))
            case first =>
              by_cases h4 : 4 < c % 10
              · have h4' : (4 : Int) < (c : Int) % 10 := by omega
                obtain ⟨c0, c1, c2, c3, c4, c5, f0, f1, f2, f3, f4, f5⟩ := OB.out.cells
                have O2 := hid ((OB.out.setP 0 (by omega)).setC 0)
                clear OB
                go_wp2_with fail
                have hk' : (k : Int).tmod 9 = ((k % 9 : Nat) : Int) := by rw [Int.tmod_eq_emod_of_nonneg (by omega)]; omega
                obtain ⟨k9, hk9, t2⟩ : ∃ k9 : Nat, k9 < 9 ∧ (k : Int).tmod 9 = (k9 : Int) := ⟨k % 9, by omega, hk'⟩
                clear hk'
                refine wp_region_drew (by kernel_rfl) ?_
                have O3 := hid O2.out.drew
                clear c0 c1 c2 c3 c4 c5 f0 f1 f2 f3 f4 f5 O2
                generalize World.drew _ = V0 at O3 ⊢
                simp only [List.size_toArray, List.length_cons, List.length_nil, Nat.reduceAdd, Array.replicate_succ, Array.replicate_zero, List.push_toArray, List.nil_append, List.cons_append]
                refine wpAny_put (i := 0) (d := 65) (v := .pointer (some ⟨R, 0, none⟩)) rfl (by kernel_rfl) (by kernel_rfl) (by kernel_rfl) (by kernel_rfl) (fun _ _ _ h => h) (Or.inl ⟨by kernel_rfl, fun V => by kernel_rfl⟩) ?_
                simp only [List.setIfInBounds_toArray, List.set_cons_zero, List.set_cons_succ]
                refine wpAny_put (i := 2) (d := 67) (v := .int .i64 (k : Nat)) rfl (by kernel_rfl) (by kernel_rfl) (by kernel_rfl) (by kernel_rfl) (fun _ _ _ h => h) (Or.inl ⟨by kernel_rfl, fun V => by kernel_rfl⟩) ?_
                simp only [List.setIfInBounds_toArray, List.set_cons_zero, List.set_cons_succ]
                refine wpAny_put (i := 3) (d := 68) (v := .int .i64 (k9 : Nat)) rfl (by kernel_rfl) (by kernel_rfl) (by kernel_rfl) (by kernel_rfl) (fun _ _ _ h => h) (Or.inl ⟨by kernel_rfl, fun V => by first | (go_simp; done) | (go_simp; omega) | (go_simp; simp only [t2]; done) | (go_simp; exact wrap64 _ (by omega) (by omega)) | (go_simp; simp only [t2]; exact wrap64 _ (by omega) (by omega)) | (go_simp; exact wrapU _ (by omega) (by omega)) | (go_simp; simp only [t2]; exact wrapU _ (by omega) (by omega))⟩) ?_
                simp only [List.setIfInBounds_toArray, List.set_cons_zero, List.set_cons_succ]
                refine wpAny_put (i := 4) (d := 69) (v := .int .i64 ((k9 : Int) + 1)) rfl (by kernel_rfl) (by kernel_rfl) (by kernel_rfl) (by kernel_rfl) (fun _ _ _ h => h) (Or.inl ⟨by kernel_rfl, fun V => by first | (go_simp; done) | (go_simp; omega) | (go_simp; simp only [t2]; done) | (go_simp; exact wrap64 _ (by omega) (by omega)) | (go_simp; simp only [t2]; exact wrap64 _ (by omega) (by omega)) | (go_simp; exact wrapU _ (by omega) (by omega)) | (go_simp; simp only [t2]; exact wrapU _ (by omega) (by omega))⟩) ?_
                simp only [List.setIfInBounds_toArray, List.set_cons_zero, List.set_cons_succ]
                refine wpAny_put (i := 8) (d := 73) (v := .pointer (some ⟨R, 0, none⟩)) rfl (by kernel_rfl) (by kernel_rfl) (by kernel_rfl) (by kernel_rfl) (fun _ _ _ h => h) (Or.inl ⟨by kernel_rfl, fun V => by kernel_rfl⟩) ?_
                simp only [List.setIfInBounds_toArray, List.set_cons_zero, List.set_cons_succ]
                refine wpAny_one (r := 1) (by kernel_rfl) ?_
                refine wpOp_do rfl (by kernel_rfl) (fun K hK => ?_)
                go_simp
                refine (N.out _ _ O3.out.rd).mono ?_
                rintro e V1 ⟨⟨x1, hx1, rfl⟩, rd1, g1⟩
                have O4 := hid (O3.out.next rd1 g1)
                refine hK.out _ _ ?_
                clear hK K rd1 g1 O3
                obtain ⟨r, hr, t6⟩ : ∃ r : Nat, r ≤ 255 ∧ (x1 : Int).tmod ((k9 : Int) + 1) = (r : Int) := rem_nat1 x1 k9 hx1
                simp only [List.setIfInBounds_toArray, List.set_cons_zero, List.set_cons_succ]
                refine wpAny_put (i := 5) (d := 70) (v := .int .i64 (r : Nat)) rfl (by kernel_rfl) (by kernel_rfl) (by kernel_rfl) (by kernel_rfl) (fun _ _ _ h => h) (Or.inl ⟨by kernel_rfl, fun V => by first | (go_simp; done) | (go_simp; omega) | (go_simp; simp only [t6]; done) | (go_simp; exact wrap64 _ (by omega) (by omega)) | (go_simp; simp only [t6]; exact wrap64 _ (by omega) (by omega)) | (go_simp; exact wrapU _ (by omega) (by omega)) | (go_simp; simp only [t6]; exact wrapU _ (by omega) (by omega))⟩) ?_
                simp only [List.setIfInBounds_toArray, List.set_cons_zero, List.set_cons_succ]
                refine wpAny_put (i := 6) (d := 71) (v := .int .u64 (r : Nat)) rfl (by kernel_rfl) (by kernel_rfl) (by kernel_rfl) (by kernel_rfl) (fun _ _ _ h => h) (Or.inl ⟨by kernel_rfl, fun V => by first | (go_simp; done) | (go_simp; omega) | (go_simp; simp only [t6]; done) | (go_simp; exact wrap64 _ (by omega) (by omega)) | (go_simp; simp only [t6]; exact wrap64 _ (by omega) (by omega)) | (go_simp; exact wrapU _ (by omega) (by omega)) | (go_simp; simp only [t6]; exact wrapU _ (by omega) (by omega))⟩) ?_
                simp only [List.setIfInBounds_toArray, List.set_cons_zero, List.set_cons_succ]
                refine wpAny_put (i := 7) (d := 72) (v := .int .u64 ((r : Int) * 1024)) rfl (by kernel_rfl) (by kernel_rfl) (by kernel_rfl) (by kernel_rfl) (fun _ _ _ h => h) (Or.inl ⟨by kernel_rfl, fun V => by first | (go_simp; done) | (go_simp; omega) | (go_simp; simp only [t6]; done) | (go_simp; exact wrap64 _ (by omega) (by omega)) | (go_simp; simp only [t6]; exact wrap64 _ (by omega) (by omega)) | (go_simp; exact wrapU _ (by omega) (by omega)) | (go_simp; simp only [t6]; exact wrapU _ (by omega) (by omega))⟩) ?_
                simp only [List.setIfInBounds_toArray, List.set_cons_zero, List.set_cons_succ]
                refine wpAny_one (r := 9) (by kernel_rfl) ?_
                refine wpOp_do rfl (by kernel_rfl) (fun K hK => ?_)
                go_simp
                refine (N.out _ _ O4.out.rd).mono ?_
                rintro e V2 ⟨⟨x2, hx2, rfl⟩, rd2, g2⟩
                have O5 := hid (O4.out.next rd2 g2)
                refine hK.out _ _ ?_
                clear hK K rd2 g2 O4
                simp only [List.setIfInBounds_toArray, List.set_cons_zero, List.set_cons_succ]
                refine wpAny_put (i := 10) (d := 75) (v := .int .i64 ((x2 : Int) * 8)) rfl (by kernel_rfl) (by kernel_rfl) (by kernel_rfl) (by kernel_rfl) (fun _ _ _ h => h) (Or.inl ⟨by kernel_rfl, fun V => by first | (go_simp; done) | (go_simp; omega) | (go_simp; simp only [t6]; done) | (go_simp; exact wrap64 _ (by omega) (by omega)) | (go_simp; simp only [t6]; exact wrap64 _ (by omega) (by omega)) | (go_simp; exact wrapU _ (by omega) (by omega)) | (go_simp; simp only [t6]; exact wrapU _ (by omega) (by omega))⟩) ?_
                simp only [List.setIfInBounds_toArray, List.set_cons_zero, List.set_cons_succ]
                refine wpAny_put (i := 11) (d := 76) (v := .int .u64 ((x2 : Int) * 8)) rfl (by kernel_rfl) (by kernel_rfl) (by kernel_rfl) (by kernel_rfl) (fun _ _ _ h => h) (Or.inl ⟨by kernel_rfl, fun V => by first | (go_simp; done) | (go_simp; omega) | (go_simp; simp only [t6]; done) | (go_simp; exact wrap64 _ (by omega) (by omega)) | (go_simp; simp only [t6]; exact wrap64 _ (by omega) (by omega)) | (go_simp; exact wrapU _ (by omega) (by omega)) | (go_simp; simp only [t6]; exact wrapU _ (by omega) (by omega))⟩) ?_
                simp only [List.setIfInBounds_toArray, List.set_cons_zero, List.set_cons_succ]
                refine wpAny_put (i := 12) (d := 77) (v := .int .u64 ((r * 1024 + x2 * 8 : Nat) : Int)) rfl (by kernel_rfl) (by kernel_rfl) (by kernel_rfl) (by kernel_rfl) (fun _ _ _ h => h) (Or.inl ⟨by kernel_rfl, fun V => by first | (go_simp; done) | (go_simp; omega) | (go_simp; rw [wrapU _ (by omega) (by omega)]; done) | (go_simp; rw [wrapU _ (by omega) (by omega)]; omega)⟩) ?_
                simp only [List.setIfInBounds_toArray, List.set_cons_zero, List.set_cons_succ]
                refine wpAny_put (i := 13) (d := 78) (v := .pointer (some ⟨X, 3, none⟩)) rfl (by kernel_rfl) (by kernel_rfl) (by kernel_rfl) (by kernel_rfl) (fun _ _ _ h => h) (Or.inl ⟨by kernel_rfl, fun V => by first | kernel_rfl | (go_simp; done)⟩) ?_
                simp only [List.setIfInBounds_toArray, List.set_cons_zero, List.set_cons_succ]
                obtain ⟨c0, c1, c2, c3, c4, c5, f0, f1, f2, f3, f4, f5⟩ := O5.out.cells
                have O6 := hid (O5.out.setA (r * 1024 + x2 * 8) (by omega))
                generalize r * 1024 + x2 * 8 = ad at O6 ⊢
                refine wpAny_one (r := 14) (by kernel_rfl) ?_
                refine wpOp_do rfl (by kernel_rfl) (fun K hK => ?_)
                go_simp
                refine hK.out _ _ ?_
                clear hK K c0 c1 c2 c3 c4 c5 f0 f1 f2 f3 f4 f5 O5
                refine wpAny_done (by kernel_rfl) ?_ _
                generalize V2.setCell _ _ = V3 at O6 ⊢
                go_wp2_with fail
                refine (N.out _ _ O6.out.rd).mono ?_
                rintro e V4 ⟨⟨x3, hx3, rfl⟩, rd4, g4⟩
                have O7 := hid (O6.out.next rd4 g4)
                clear rd4 g4 O6
                obtain ⟨c0, c1, c2, c3, c4, c5, f0, f1, f2, f3, f4, f5⟩ := O7.out.cells
                have O8 := hid (O7.out.setN ((x3 : Int) % 12))
                go_upto_if 84 with fail
                clear c0 c1 c2 c3 c4 c5 f0 f1 f2 f3 f4 f5 O7
                generalize V4.setCell _ _ = V5 at O8 ⊢
                go_cut [83] (fun _ w' => ∃ (o : Op9) (ln : Nat), ln ≤ 3300 ∧ o.n = (ln : Int) ∧ Hid (Ob w a len cap R wr X o w'))
                case first =>
                  by_cases h200 : 200 ≤ c
                  · obtain ⟨c0, c1, c2, c3, c4, c5, f0, f1, f2, f3, f4, f5⟩ := O8.out.cells
                    have O9 := hid (O8.out.setN ((x3 : Int) % 12 * 300))
                    dsimp only at c4
                    go_wp2
                    go_meet
                    case rel => exact ⟨_, x3 % 12 * 300, by omega, by dsimp only; omega, O9⟩
                  · go_wp2
                    go_meet
                    case rel => exact ⟨_, x3 % 12, by omega, by dsimp only; omega, O8⟩
                case rest =>
                  obtain ⟨o2, ln, hln, hon, OC⟩ := hcut
                  clear O8
                  by_cases h6 : 6 < c % 10
                  · have h6' : (6 : Int) < (c : Int) % 10 := by omega
                    obtain ⟨c0, c1, c2, c3, c4, c5, f0, f1, f2, f3, f4, f5⟩ := OC.out.cells
                    rw [hon] at c4
                    have BY := hid (fun n hn => bytes_any w a len cap zs IR.out hlen R n hn wc OC.out.rd)
                    go_wp2_with fail
                    rw [show (ln : Int) % 40 = ((ln % 40 : Nat) : Int) by omega]
                    refine (BY.out (ln % 40) (by omega)).mono ?_
                    rintro e V6 ⟨v, ys, rfl, hys, ho6, rd6, g6⟩
                    obtain ⟨dd, dl, dc, rfl⟩ := own_sl ho6
                    obtain rfl := own_len ho6
                    have O10 := hid (OC.out.next rd6 g6)
                    have OD := hid ((O10.out.setD dd _ dc ys (own_down (by have := OC.out.g.size; omega) ho6)).setN 0)
                    obtain ⟨c0, c1, c2, c3, c4, c5, f0, f1, f2, f3, f4, f5⟩ := O10.out.cells
                    clear rd6 g6 ho6 hys OC O10 BY
                    go_wp2
                    go_meet
                    case rel => exact ⟨_, OD⟩
                  · have h6' : ¬ ((6 : Int) < (c : Int) % 10) := by omega
                    go_wp2
                    go_meet
                    case rel => exact ⟨o2, OC⟩
              · have h4' : ¬ ((4 : Int) < (c : Int) % 10) := by omega
                go_wp2
                go_meet
                case rel => exact ⟨o, OB⟩
            case rest =>
              obtain ⟨o, OB⟩ := hcut
              go_upto_if 100 with fail
              go_cut [99] (fun _ w' => ∃ o, Hid (Ob w a len cap R wr X o w'))
              case first =>
                by_cases h5 : c = 255
                · obtain ⟨c0, c1, c2, c3, c4, c5, f0, f1, f2, f3, f4, f5⟩ := OB.out.cells
                  have O2 := hid (OB.out.setKd 6)
                  subst h5
                  clear OB
                  go_wp2
                  go_meet
                  case rel => exact ⟨_, O2⟩
                · have h5' : ((c : Int) == 255) = false := by simp; omega
                  go_wp2
                  go_meet
                  case rel => exact ⟨_, OB⟩
              case rest =>
                obtain ⟨o, OB⟩ := hcut
                obtain ⟨va, vb, vc, rfl⟩ := own_sl HD.out.row
                have D1 := hid (HD.out.ob OB.out)
                obtain ⟨c0, c1, c2, c3, c4, c5, f0, f1, f2, f3, f4, f5⟩ := OB.out.cells
                clear f0 f1 f2 f3 f4 f5
                have O8 := hid (D1.out.row.alloc (.cells #[.int .i64 o.kd, .int .i64 o.p, .int .i64 o.c, .int .u64 o.a, .int .i64 o.n, .slice o.d o.dl o.dc] 34))
                have HL := hid hol
                go_wp2_with (at_builtin; refine wpList_append_own _ rfl _ _ 23 rfl (R + 1) 34 i0 _ 6 64 Try.underlying23 hi0 hz0 hz1 hz2 rfl (by omega) _ _ _ rfl O8.out _ 1 1 [.int .i64 o.kd, .int .i64 o.p, .int .i64 o.c, .int .u64 o.a, .int .i64 o.n, .slice o.d o.dl o.dc] rfl rfl ?hc ?h1c ?b1 ?b2 ?b3 ?_)
                case hc => exact row_new wc _ 34
                case h1c => intro x hx; simp at hx; rcases hx with rfl | rfl | rfl | rfl | rfl | rfl <;> rfl
                case b1 => have := HL.out; unfold maxLen; omega
                case b2 => have := HL.out; omega
                case b3 => have := OB.out.rn; have := OB.out.g.size; rw [al_size]; omega
                intro v1 w9 ho9 hg9 _
                have D9 := hid (D1.out.next OB.out.rd OB.out.odR (by rw [HL.out]; exact ho9) hg9)
                clear ho9 hg9 O8 c0 c1 c2 c3 c4 c5 D1 OB
                go_wp2
                go_roundw
                case rel => exact ⟨j + 1, ops ++ [o], by omega, by go_num, by rw [List.length_append, HL.out]; rfl, hid D9.out.1, hid D9.out.2⟩
                case measure => simp [intOf]; omega
        · obtain rfl : j = n := by omega
          obtain ⟨va, vb, vc, rfl⟩ := own_sl HD.out.row
          obtain rfl := own_len HD.out.row
          have HL := hid hol
          clear hol
          by_cases h248 : k = 248
          · have h248' : ((k : Int) == 248) = true := by simp; omega
            go_wp2
            try simp only [h248']
            clear h248' h248
            go_loopw [9] (fun v wq => ∃ (qs : List Op9) (d : Option Addr) (cp : Nat), v = .slice d qs.length cp ∧ qs.length ≤ 401 ∧ Hid (Dr (R + 1) (.slice d qs.length cp) qs wq) ∧ Hid (Rd w a len cap R wq)) (fun v _ => 401 - slLen v)
            case atStart => exact ⟨ops, va, vc, rfl, by have := HL.out; omega, HD, HR⟩
            case round =>
              obtain ⟨qs, d, cp, rfl, hq, HD2, HR2⟩ := hrel
              clear HD HR
              obtain ⟨lq, hlq⟩ : ∃ lq, lq = qs.length := ⟨_, rfl⟩
              have HQ := hid hlq
              by_cases hmore : qs.length < 400 + j % 2
              · have hm' : (lq : Int) < 400 + (j : Int) % 2 := by omega
                have O8 := hid (HD2.out.row.alloc (.cells #[.int .i64 4, .int .i64 0, .int .i64 0, .int .u64 0, .int .i64 0, .slice none 0 0] 34))
                have LB := hid (show R < wr.heap.size by obtain ⟨_, _, h⟩ := HR2.out.box; exact lt_blk h)
                rw [← hlq] at O8 ⊢
                have hl401 : lq ≤ 401 := by omega
                clear hlq
                go_wp2_with (at_builtin; refine wpList_append_own _ rfl _ _ 23 rfl (R + 1) 34 i0 _ 6 64 Try.underlying23 hi0 hz0 hz1 hz2 rfl (by omega) _ _ _ rfl O8.out _ 1 1 [.int .i64 4, .int .i64 0, .int .i64 0, .int .u64 0, .int .i64 0, .slice none 0 0] rfl rfl ?hc ?h1c ?b1 ?b2 ?b3 ?_)
                case hc => exact row_new wr _ 34
                case h1c => intro x hx; simp at hx; rcases hx with rfl | rfl | rfl | rfl | rfl | rfl <;> rfl
                case b1 => unfold maxLen; omega
                case b2 => omega
                case b3 => have := LB.out; rw [al_size]; omega
                intro v1 w9 ho9 hg9 _
                obtain ⟨d1, l1, cp1, rfl⟩ := own_sl ho9
                obtain rfl := own_len ho9
                have D9 := hid (HD2.out.next (o := ⟨4, 0, 0, 0, 0, none, 0, 0, []⟩) HR2.out ⟨by show (0 : Nat) < 18446744073709551616; omega, by show (0 : Int) ≤ 9223372036854775807; omega, ⟨rfl, .inl ⟨rfl, rfl⟩⟩⟩ (by rw [← HQ.out]; exact ho9) (by rw [← HQ.out]; exact hg9))
                clear ho9 hg9 O8 HD2 HR2
                go_wp2
                go_roundw
                case rel =>
                  have e9 : (qs ++ [(⟨4, 0, 0, 0, 0, none, 0, 0, []⟩ : Op9)]).length = lq + 1 := by rw [List.length_append, ← HQ.out]; rfl
                  refine ⟨qs ++ [⟨4, 0, 0, 0, 0, none, 0, 0, []⟩], d1, cp1, by rw [e9], by omega, hid (by rw [e9]; exact D9.out.1), hid D9.out.2⟩
                case measure => simp [slLen]; omega
              · have hm' : ¬ ((lq : Int) < 400 + (j : Int) % 2) := by omega
                rw [← hlq] at HD2 ⊢
                clear hlq
                go_wp2
                refine bodyPost_ret (results_three (by rfl) _ _) (by rfl) ?_
                exact ⟨nn, bud, qs, _, cp, hnn, by rw [← HQ.out]; rfl, hq, R, by rw [← HQ.out]; exact HD2.out, HR2.out.bel, HR2.out.new⟩
          · have h248' : ((k : Int) == 248) = false := by simp; omega
            go_wp2
            refine bodyPost_ret (results_three (by rfl) _ _) (by rfl) ?_
            exact ⟨nn, bud, ops, _, vc, hnn, rfl, by have := HL.out; omega, R, HD.out, HR.out.bel, HR.out.new⟩
end Go.Proofs.Ytiddopgeomojbaa
