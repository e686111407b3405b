import Derived.Test.YtamfbplchblkbaaSpN
namespace Go.Proofs.Ytamfbplchblkbaa
open Go.RowKit Go.Shelf
set_option linter.unusedVariables false

theorem lockedM_at (m : Nat → Option (Bool × List Int)) (p : Nat) (v : Bool) : ∀ k j, p + k ≤ j → lockedM m p v k j = m j
  | 0, j, _ => rfl
  | k + 1, j, h => by
    simp only [lockedM]
    rw [updM_other _ _ _ _ (by omega)]
    exact lockedM_at m p v k j (by omega)

set_option maxHeartbeats 4000000 in
theorem do_drop (T Q nn : Nat) (bud : Int) (m : Nat → Option (Bool × List Int)) (p c : Nat) (a : Nat) (n : Int) (d : Option Addr) (dl dc : Nat) (w : World) (hs : Sx T Q nn bud m w) (hnn : nn ≤ 4096) (h1 : 1 ≤ c) (h2 : p + c ≤ nn) :
    Calls Try.prog 23 #[.pointer (some ⟨T, 0, none⟩), opV 1 p c a n d dl dc] w fun e w' =>
      (¬ allB m p c true ∧ e = .returned (.agg #[.int .i64 6, .slice none 0 0]) ∧ Below w.heap.size w w') ∨
      (allB m p c true ∧ e = .returned (.agg #[.int .i64 0, .slice none 0 0]) ∧ Sx T Q nn bud (goneM m p c) w' ∧ Sf Q w w') := by
  have HS := hid hs
  clear hs
  unfold opV
  obtain ⟨P, hP⟩ : ∃ P : Int, P = (p : Int) := ⟨_, rfl⟩
  obtain ⟨C, hC⟩ : ∃ C : Int, C = (c : Int) := ⟨_, rfl⟩
  rw [← hP, ← hC]
  have hp0 : 0 ≤ P := by omega
  have hc1 : 1 ≤ C := by omega
  have hpc : P + C ≤ (nn : Int) := by omega
  have HP := hid hP
  have HC := hid hC
  clear hP hC
  have D0 := hid (Dw.first w #[.int .i64 1, .int .i64 P, .int .i64 C, .int .u64 a, .int .i64 n, .slice d dl dc] Q HS.out.ltQ)
  have hb0 : Below w.heap.size w ((w.alloc (.cells #[.int .i64 1, .int .i64 P, .int .i64 C, .int .u64 a, .int .i64 n, .slice d dl dc] 34)).alloc (.cells #[.int .i64 0, .slice none 0 0] 36)) := ((Below.refl _ _).alloc (Nat.le_refl _) _).alloc (by rw [al_size]; omega) _
  have S0 := hid (HS.out.below hb0)
  have B0 := hid hb0
  have HQ := hid HS.out.ltQ
  clear hb0 HS
  have t1 : decide (C < 1) = false := decide_eq_false (by omega)
  have t2 : decide (P < 0) = false := decide_eq_false (by omega)
  have t3 : decide ((nn : Int) < C) = false := decide_eq_false (by omega)
  have t4 : decide ((nn : Int) - C < P) = false := decide_eq_false (by omega)
  go_enter Try.func23, Try.ntmps23
  go_wp2
  generalize World.alloc _ _ = V at D0 S0 B0 ⊢
  generalize hOe : w.heap.size + 1 = Rb at D0 ⊢
  generalize hOo : w.heap.size = Ob at D0 ⊢
  have k1 : V.cell? ⟨Ob, 1, none⟩ = some (.int .i64 P) := by simp [World.cell?, D0.out.o]
  have k2 : V.cell? ⟨Ob, 2, none⟩ = some (.int .i64 C) := by simp [World.cell?, D0.out.o]
  have k3 := S0.out.c.1
  go_quiet (fail)
  have D1 := hid (D0.out.below S0.out.ltQ (drewN_below V nq))
  have B1 := hid (bl_trans B0.out (drewN_below V nq))
  have S1 := hid (S0.out.below (drewN_below V nq))
  clear D0 S0 B0 k1 k2 k3 t1 t2 t3 t4
  generalize V.drewN nq = V1 at D1 B1 S1 ⊢
  have k1 : V1.cell? ⟨Ob, 1, none⟩ = some (.int .i64 P) := by simp [World.cell?, D1.out.o]
  go_wp2
  go_loopw [5] (fun i wr => ∃ k : Nat, k ≤ c ∧ i = .int .i64 (P + (k : Int)) ∧ Hid ((∀ j, j < k → (m (p + j)).isSome = true) ∧ Dw w #[.int .i64 1, .int .i64 P, .int .i64 C, .int .u64 a, .int .i64 n, .slice d dl dc] Q Ob Rb wr ∧ Sx T Q nn bud m wr ∧ Below w.heap.size w wr)) (fun i _ => (P + C - intOf i).toNat)
  case atStart => exact ⟨0, Nat.zero_le _, by go_num, fun j hj => by omega, D1.out, S1.out, B1.out⟩
  case round =>
    obtain ⟨k, hk, rfl, HJ⟩ := hrel
    have k0 : wr.cell? ⟨Ob, 0, none⟩ = some (.int .i64 1) := by simp [World.cell?, HJ.out.2.1.o]
    have k1 : wr.cell? ⟨Ob, 1, none⟩ = some (.int .i64 P) := by simp [World.cell?, HJ.out.2.1.o]
    have k2 : wr.cell? ⟨Ob, 2, none⟩ = some (.int .i64 C) := by simp [World.cell?, HJ.out.2.1.o]
    by_cases hlt : k < c
    · have hlt' : (k : Int) < C := by rw [HC.out]; omega
      have tn : (P + (k : Int)).toNat = p + k := by rw [HP.out]; omega
      obtain ⟨op, pp, l, cc, d1, d2, d3, e4⟩ := HJ.out.2.2.1.three (p + k) (by omega)
      have k3 := HJ.out.2.2.1.c.1
      generalize hon : (m (p + k)).isSome = on at *
      cases on
      · go_wp2
        go_quiet (fail)
        have D2 := hid (HJ.out.2.1.below HJ.out.2.2.1.ltQ (drewN_below wr nq))
        have B2 := hid (bl_trans HJ.out.2.2.2 (drewN_below wr nq))
        have HBad := hid (show ¬ allB m p c true from fun h => by have := h k hlt; rw [hon] at this; cases this)
        clear HJ k0 k1 k2 k3 d1 d2 d3 e4 hon
        generalize wr.drewN nq = V2 at D2 B2 ⊢
        go_wp2_with (refine wpList_store_row rfl 36 _ _ rfl _ _ rfl rfl 36 _ D2.out.r (by kernel_rfl) rfl (by simp [Value.oneCell']) ?_)
        refine bodyPost_ret (results_cell_row (by rfl) _ _ Rb 36 _ (0, 0) _ (by rfl) (setRow_at D2.out.r _) Try.underlying36 rfl (by kernel_rfl)) (by rfl) ?_
        exact .inl ⟨HBad.out, rfl, B2.out.grown (grown_setRow V2 Rb _) B2.out.size (fun r hr => by simp at hr; omega)⟩
      · go_wp2
        go_quiet (fail)
        have HN := hid (show (∀ j, j < k + 1 → (m (p + j)).isSome = true) ∧ Dw w #[.int .i64 1, .int .i64 P, .int .i64 C, .int .u64 a, .int .i64 n, .slice d dl dc] Q Ob Rb (wr.drewN nq) ∧ Sx T Q nn bud m (wr.drewN nq) ∧ Below w.heap.size w (wr.drewN nq) from
          ⟨fun j hj => by
            by_cases e : j = k
            · subst e; exact hon
            · exact HJ.out.1 j (by omega), HJ.out.2.1.below HJ.out.2.2.1.ltQ (drewN_below wr nq), HJ.out.2.2.1.below (drewN_below wr nq), bl_trans HJ.out.2.2.2 (drewN_below wr nq)⟩)
        clear HJ k0 k1 k2 k3 d1 d2 d3 e4 hon
        generalize wr.drewN nq = V2 at HN ⊢
        go_wp2
        go_roundw
        case rel => exact ⟨k + 1, by omega, by go_num, HN.out⟩
        case measure => simp [intOf]; omega
    · have hkc : k = c := by omega
      subst hkc
      have hlt' : ¬ (k : Int) < C := by rw [HC.out]; omega
      have HA := hid (show allB m p k true from HJ.out.1)
      go_wp2_with fail
      rw [HP.out, HC.out]
      refine (sp_drop2 T Q nn bud m p k wr HJ.out.2.2.1 hnn h2).mono ?_
      rintro e w3 ⟨rfl, s3, f3⟩
      have D3 := hid (HJ.out.2.1.kind HJ.out.2.2.1 f3)
      have S3 := hid s3
      clear s3 f3 HJ k0 k1 k2
      go_wp2_with (refine wpList_store_row rfl 36 _ _ rfl _ _ rfl rfl 36 _ D3.out.r (by kernel_rfl) rfl (by simp [Value.oneCell']) ?_)
      refine bodyPost_ret (results_cell_row (by rfl) _ _ Rb 36 _ (0, 0) _ (by rfl) (setRow_at D3.out.r _) Try.underlying36 rfl (by kernel_rfl)) (by rfl) ?_
      exact .inr ⟨HA.out, rfl, D3.out.sx S3.out _, D3.out.done HQ.out _⟩


set_option maxHeartbeats 4000000 in
theorem do_lock (T Q nn : Nat) (bud : Int) (m : Nat → Option (Bool × List Int)) (p c : Nat) (a : Nat) (n : Int) (d : Option Addr) (dl dc : Nat) (w : World) (hs : Sx T Q nn bud m w) (hnn : nn ≤ 4096) (h1 : 1 ≤ c) (h2 : p + c ≤ nn) :
    Calls Try.prog 23 #[.pointer (some ⟨T, 0, none⟩), opV 2 p c a n d dl dc] w fun e w' =>
      (¬ allB m p c true ∧ e = .returned (.agg #[.int .i64 6, .slice none 0 0]) ∧ Below w.heap.size w w') ∨
      (allB m p c true ∧ e = .returned (.agg #[.int .i64 0, .slice none 0 0]) ∧ Sx T Q nn bud (lockedM m p true c) w' ∧ Sf Q w w') := by
  have HS := hid hs
  clear hs
  unfold opV
  obtain ⟨P, hP⟩ : ∃ P : Int, P = (p : Int) := ⟨_, rfl⟩
  obtain ⟨C, hC⟩ : ∃ C : Int, C = (c : Int) := ⟨_, rfl⟩
  rw [← hP, ← hC]
  have hp0 : 0 ≤ P := by omega
  have hc1 : 1 ≤ C := by omega
  have hpc : P + C ≤ (nn : Int) := by omega
  have HP := hid hP
  have HC := hid hC
  clear hP hC
  have D0 := hid (Dw.first w #[.int .i64 2, .int .i64 P, .int .i64 C, .int .u64 a, .int .i64 n, .slice d dl dc] Q HS.out.ltQ)
  have hb0 : Below w.heap.size w ((w.alloc (.cells #[.int .i64 2, .int .i64 P, .int .i64 C, .int .u64 a, .int .i64 n, .slice d dl dc] 34)).alloc (.cells #[.int .i64 0, .slice none 0 0] 36)) := ((Below.refl _ _).alloc (Nat.le_refl _) _).alloc (by rw [al_size]; omega) _
  have S0 := hid (HS.out.below hb0)
  have B0 := hid hb0
  have HQ := hid HS.out.ltQ
  clear hb0 HS
  have t1 : decide (C < 1) = false := decide_eq_false (by omega)
  have t2 : decide (P < 0) = false := decide_eq_false (by omega)
  have t3 : decide ((nn : Int) < C) = false := decide_eq_false (by omega)
  have t4 : decide ((nn : Int) - C < P) = false := decide_eq_false (by omega)
  go_enter Try.func23, Try.ntmps23
  go_wp2
  generalize World.alloc _ _ = V at D0 S0 B0 ⊢
  generalize hOe : w.heap.size + 1 = Rb at D0 ⊢
  generalize hOo : w.heap.size = Ob at D0 ⊢
  have k1 : V.cell? ⟨Ob, 1, none⟩ = some (.int .i64 P) := by simp [World.cell?, D0.out.o]
  have k2 : V.cell? ⟨Ob, 2, none⟩ = some (.int .i64 C) := by simp [World.cell?, D0.out.o]
  have k3 := S0.out.c.1
  go_quiet (fail)
  have D1 := hid (D0.out.below S0.out.ltQ (drewN_below V nq))
  have B1 := hid (bl_trans B0.out (drewN_below V nq))
  have S1 := hid (S0.out.below (drewN_below V nq))
  clear D0 S0 B0 k1 k2 k3 t1 t2 t3 t4
  generalize V.drewN nq = V1 at D1 B1 S1 ⊢
  have k1 : V1.cell? ⟨Ob, 1, none⟩ = some (.int .i64 P) := by simp [World.cell?, D1.out.o]
  go_wp2
  go_loopw [5] (fun i wr => ∃ k : Nat, k ≤ c ∧ i = .int .i64 (P + (k : Int)) ∧ Hid ((∀ j, j < k → (m (p + j)).isSome = true) ∧ Dw w #[.int .i64 2, .int .i64 P, .int .i64 C, .int .u64 a, .int .i64 n, .slice d dl dc] Q Ob Rb wr ∧ Sx T Q nn bud m wr ∧ Below w.heap.size w wr)) (fun i _ => (P + C - intOf i).toNat)
  case atStart => exact ⟨0, Nat.zero_le _, by go_num, fun j hj => by omega, D1.out, S1.out, B1.out⟩
  case round =>
    obtain ⟨k, hk, rfl, HJ⟩ := hrel
    have k0 : wr.cell? ⟨Ob, 0, none⟩ = some (.int .i64 2) := by simp [World.cell?, HJ.out.2.1.o]
    have k1 : wr.cell? ⟨Ob, 1, none⟩ = some (.int .i64 P) := by simp [World.cell?, HJ.out.2.1.o]
    have k2 : wr.cell? ⟨Ob, 2, none⟩ = some (.int .i64 C) := by simp [World.cell?, HJ.out.2.1.o]
    by_cases hlt : k < c
    · have hlt' : (k : Int) < C := by rw [HC.out]; omega
      have tn : (P + (k : Int)).toNat = p + k := by rw [HP.out]; omega
      obtain ⟨op, pp, l, cc, d1, d2, d3, e4⟩ := HJ.out.2.2.1.three (p + k) (by omega)
      have k3 := HJ.out.2.2.1.c.1
      generalize hon : (m (p + k)).isSome = on at *
      cases on
      · go_wp2
        go_quiet (fail)
        have D2 := hid (HJ.out.2.1.below HJ.out.2.2.1.ltQ (drewN_below wr nq))
        have B2 := hid (bl_trans HJ.out.2.2.2 (drewN_below wr nq))
        have HBad := hid (show ¬ allB m p c true from fun h => by have := h k hlt; rw [hon] at this; cases this)
        clear HJ k0 k1 k2 k3 d1 d2 d3 e4 hon
        generalize wr.drewN nq = V2 at D2 B2 ⊢
        go_wp2_with (refine wpList_store_row rfl 36 _ _ rfl _ _ rfl rfl 36 _ D2.out.r (by kernel_rfl) rfl (by simp [Value.oneCell']) ?_)
        refine bodyPost_ret (results_cell_row (by rfl) _ _ Rb 36 _ (0, 0) _ (by rfl) (setRow_at D2.out.r _) Try.underlying36 rfl (by kernel_rfl)) (by rfl) ?_
        exact .inl ⟨HBad.out, rfl, B2.out.grown (grown_setRow V2 Rb _) B2.out.size (fun r hr => by simp at hr; omega)⟩
      · go_wp2
        go_quiet (fail)
        have HN := hid (show (∀ j, j < k + 1 → (m (p + j)).isSome = true) ∧ Dw w #[.int .i64 2, .int .i64 P, .int .i64 C, .int .u64 a, .int .i64 n, .slice d dl dc] Q Ob Rb (wr.drewN nq) ∧ Sx T Q nn bud m (wr.drewN nq) ∧ Below w.heap.size w (wr.drewN nq) from
          ⟨fun j hj => by
            by_cases e : j = k
            · subst e; exact hon
            · exact HJ.out.1 j (by omega), HJ.out.2.1.below HJ.out.2.2.1.ltQ (drewN_below wr nq), HJ.out.2.2.1.below (drewN_below wr nq), bl_trans HJ.out.2.2.2 (drewN_below wr nq)⟩)
        clear HJ k0 k1 k2 k3 d1 d2 d3 e4 hon
        generalize wr.drewN nq = V2 at HN ⊢
        go_wp2
        go_roundw
        case rel => exact ⟨k + 1, by omega, by go_num, HN.out⟩
        case measure => simp [intOf]; omega
    · have hkc : k = c := by omega
      subst hkc
      have hlt' : ¬ (k : Int) < C := by rw [HC.out]; omega
      have HA := hid (show allB m p k true from HJ.out.1)
      have OPA := hid (show Sx T Q nn bud (lockedM m p true 0) wr ∧ Dw w #[.int .i64 2, .int .i64 P, .int .i64 C, .int .u64 a, .int .i64 n, .slice d dl dc] Q Ob Rb wr from ⟨HJ.out.2.2.1, HJ.out.2.1⟩)
      clear HJ D1 B1 S1
      go_wp2
      obtain ⟨wo, rfl⟩ : ∃ wo : World, wo = wr := ⟨_, rfl⟩
      clear k0 k1 k2
      go_loopw [6] (fun i wr => ∃ j : Nat, j ≤ k ∧ i = .int .i64 (P + (j : Int)) ∧ Hid (Sx T Q nn bud (lockedM m p true j) wr ∧ Dw w #[.int .i64 2, .int .i64 P, .int .i64 C, .int .u64 a, .int .i64 n, .slice d dl dc] Q Ob Rb wr)) (fun i _ => (P + C - intOf i).toNat)
      case atStart => exact ⟨0, Nat.zero_le _, by go_num, OPA.out⟩
      case round =>
        obtain ⟨j, hj, rfl, HJ⟩ := hrel
        have k0 : wr.cell? ⟨Ob, 0, none⟩ = some (.int .i64 2) := by simp [World.cell?, HJ.out.2.o]
        have k1 : wr.cell? ⟨Ob, 1, none⟩ = some (.int .i64 P) := by simp [World.cell?, HJ.out.2.o]
        have k2 : wr.cell? ⟨Ob, 2, none⟩ = some (.int .i64 C) := by simp [World.cell?, HJ.out.2.o]
        by_cases hjt : j < k
        · have hjt' : (j : Int) < C := by rw [HC.out]; omega
          have tn : (P + (j : Int)).toNat = p + j := by rw [HP.out]; omega
          have tl : P + (j : Int) < (nn : Int) := by rw [HP.out]; omega
          have hsome := HA.out j hjt
          have hat := lockedM_at m p true j (p + j) (Nat.le_refl _)
          cases hm : m (p + j) with
          | none => rw [hm] at hsome; cases hsome
          | some q =>
            obtain ⟨l0, xs0⟩ := q
            rw [hm] at hat
            have HX := hid (show Sx T Q nn bud (updM (lockedM m p true j) (p + j) (some (true, xs0))) (wr.setCell ⟨Q, (p + j) * 3 + 1, none⟩ (.bool false)) ∧ Sf Q wr (wr.setCell ⟨Q, (p + j) * 3 + 1, none⟩ (.bool false)) from HJ.out.1.lock1 (p + j) (by omega) hat true)
            have HE := hid (show lockedM m p true (j + 1) = updM (lockedM m p true j) (p + j) (some (true, xs0)) by simp only [lockedM, hat]; rfl)
            have HN := hid (show Sx T Q nn bud (lockedM m p true (j + 1)) (wr.setCell ⟨Q, (p + j) * 3 + 1, none⟩ (.bool false)).drew ∧ Dw w #[.int .i64 2, .int .i64 P, .int .i64 C, .int .u64 a, .int .i64 n, .slice d dl dc] Q Ob Rb (wr.setCell ⟨Q, (p + j) * 3 + 1, none⟩ (.bool false)).drew from by
              rw [HE.out]
              have d9 := HJ.out.2.kind HJ.out.1 HX.out.2
              exact ⟨HX.out.1.drew, d9.below HX.out.1.ltQ (Below.refl _ _).drew⟩)
            obtain ⟨opp, pp, l, cc, d1, d2, d3, e4⟩ := HJ.out.1.three (p + j) (by omega)
            obtain ⟨c9, g1, g2, _⟩ := HJ.out.1.row
            have f2 : wr.frozen? ⟨Q, (p + j) * 3 + 1, none⟩ = false := by simp [World.frozen?, g1]
            have q0 : wr.drew.cell? ⟨T, 0, none⟩ = some (.slice (some ⟨Q, 0, none⟩) nn nn) ∧ wr.drew.cell? ⟨Ob, 0, none⟩ = some (.int .i64 2) := ⟨HJ.out.1.c.1, k0⟩
            have q9 : (wr.setCell ⟨Q, (p + j) * 3 + 1, none⟩ (.bool false)).drew.cell? ⟨T, 0, none⟩ = some (.slice (some ⟨Q, 0, none⟩) nn nn) ∧ (wr.setCell ⟨Q, (p + j) * 3 + 1, none⟩ (.bool false)).drew.cell? ⟨Ob, 0, none⟩ = some (.int .i64 2) := ⟨HN.out.1.c.1, by simp [World.cell?, HN.out.2.o]⟩
            clear HX HJ d1 d3 e4 g1 g2 hat hm hsome
            go_wp2
            refine wp_region_held (S := fun W' => W'.cell? ⟨T, 0, none⟩ = some (.slice (some ⟨Q, 0, none⟩) nn nn) ∧ W'.cell? ⟨Ob, 0, none⟩ = some (.int .i64 2)) (by kernel_rfl) ?_
            simp only [List.size_toArray, List.length_cons, List.length_nil, Nat.reduceAdd, Array.replicate_succ, Array.replicate_zero, List.push_toArray, List.nil_append, List.cons_append]
            have hS := q0
            refine wpAnyH_put (i := 0) (d := 100) (v := .pointer (some ⟨T, 0, none⟩)) rfl (by kernel_rfl) (by kernel_rfl) (by kernel_rfl) (by kernel_rfl) (fun _ _ _ h => h) (Or.inl ⟨by kernel_rfl, fun _ _ => by kernel_rfl⟩) hS ?_
            simp only [List.setIfInBounds_toArray, List.set_cons_zero, List.set_cons_succ]
            refine wpAnyH_put (i := 1) (d := 101) (v := .pointer (some ⟨T, 0, none⟩)) rfl (by kernel_rfl) (by kernel_rfl) (by kernel_rfl) (by kernel_rfl) (fun _ _ _ h => h) (Or.inl ⟨by kernel_rfl, fun _ _ => by kernel_rfl⟩) hS ?_
            simp only [List.setIfInBounds_toArray, List.set_cons_zero, List.set_cons_succ]
            refine wpAnyH_put (i := 2) (d := 102) (v := .pointer (some ⟨T, 0, none⟩)) rfl (by kernel_rfl) (by kernel_rfl) (by kernel_rfl) (by kernel_rfl) (fun _ _ _ h => h) (Or.inl ⟨by kernel_rfl, fun _ _ => by kernel_rfl⟩) hS ?_
            simp only [List.setIfInBounds_toArray, List.set_cons_zero, List.set_cons_succ]
            refine wpAnyH_put (i := 3) (d := 103) (v := .slice (some ⟨Q, 0, none⟩) nn nn) rfl (by kernel_rfl) (by kernel_rfl) (by kernel_rfl) (by kernel_rfl) (fun _ _ _ h => h) (Or.inl ⟨by kernel_rfl, fun W hS => by obtain ⟨h1, h2⟩ := hS; go_simp⟩) hS ?_
            simp only [List.setIfInBounds_toArray, List.set_cons_zero, List.set_cons_succ]
            refine wpAnyH_put (i := 4) (d := 104) (v := .int .i64 (P + (j : Int))) rfl (by kernel_rfl) (by kernel_rfl) (by kernel_rfl) (by kernel_rfl) (fun _ _ _ h => h) (Or.inl ⟨by kernel_rfl, fun _ _ => by kernel_rfl⟩) hS ?_
            simp only [List.setIfInBounds_toArray, List.set_cons_zero, List.set_cons_succ]
            refine wpAnyH_put (i := 5) (d := 105) (v := .pointer (some ⟨Ob, 0, none⟩)) rfl (by kernel_rfl) (by kernel_rfl) (by kernel_rfl) (by kernel_rfl) (fun _ _ _ h => h) (Or.inl ⟨by kernel_rfl, fun _ _ => by kernel_rfl⟩) hS ?_
            simp only [List.setIfInBounds_toArray, List.set_cons_zero, List.set_cons_succ]
            refine wpAnyH_put (i := 6) (d := 106) (v := .int .i64 2) rfl (by kernel_rfl) (by kernel_rfl) (by kernel_rfl) (by kernel_rfl) (fun _ _ _ h => h) (Or.inl ⟨by kernel_rfl, fun W hS => by obtain ⟨h1, h2⟩ := hS; go_simp⟩) hS ?_
            simp only [List.setIfInBounds_toArray, List.set_cons_zero, List.set_cons_succ]
            refine wpAnyH_put (i := 7) (d := 107) (v := .bool false) rfl (by kernel_rfl) (by kernel_rfl) (by kernel_rfl) (by kernel_rfl) (fun _ _ _ h => h) (Or.inl ⟨by kernel_rfl, fun _ _ => by kernel_rfl⟩) hS ?_
            simp only [List.setIfInBounds_toArray, List.set_cons_zero, List.set_cons_succ]
            refine wpAnyH_put (i := 8) (d := 108) (v := .pointer (some ⟨Q, (p + j) * 3, none⟩)) rfl (by kernel_rfl) (by kernel_rfl) (by kernel_rfl) (by kernel_rfl) (fun _ _ _ h => h) (Or.inl ⟨by kernel_rfl, fun W _ => by first | (go_simp; done) | (go_simp; omega)⟩) hS ?_
            simp only [List.setIfInBounds_toArray, List.set_cons_zero, List.set_cons_succ]
            refine wpAnyH_put (i := 9) (d := 109) (v := .pointer (some ⟨Q, (p + j) * 3 + 1, none⟩)) rfl (by kernel_rfl) (by kernel_rfl) (by kernel_rfl) (by kernel_rfl) (fun _ _ _ h => h) (Or.inl ⟨by kernel_rfl, fun _ _ => by kernel_rfl⟩) hS ?_
            simp only [List.setIfInBounds_toArray, List.set_cons_zero, List.set_cons_succ]
            refine wpAnyH_one (r := 10) (by kernel_rfl) ?_
            refine wpOp_do rfl (by kernel_rfl) (fun K' hK => ?_)
            go_simp
            refine hK.out _ _ ⟨q9, ?_⟩
            clear hK K'
            refine wpAnyH_done (by kernel_rfl) ?_ _
            clear q0 q9 k0 k1 k2 d2 f2
            go_wp2
            go_roundw
            case rel => exact ⟨j + 1, by omega, by go_num, HN.out⟩
            case measure => simp [intOf]; omega
        · have hjk : j = k := by omega
          subst hjk
          have hjt' : ¬ (j : Int) < C := by rw [HC.out]; omega
          have D3 := hid HJ.out.2
          have S3 := hid HJ.out.1
          clear HJ
          go_wp2_with (refine wpList_store_row rfl 36 _ _ rfl _ _ rfl rfl 36 _ D3.out.r (by kernel_rfl) rfl (by simp [Value.oneCell']) ?_)
          refine bodyPost_ret (results_cell_row (by rfl) _ _ Rb 36 _ (0, 0) _ (by rfl) (setRow_at D3.out.r _) Try.underlying36 rfl (by kernel_rfl)) (by rfl) ?_
          exact .inr ⟨HA.out, rfl, D3.out.sx S3.out _, D3.out.done HQ.out _⟩


end Go.Proofs.Ytamfbplchblkbaa
