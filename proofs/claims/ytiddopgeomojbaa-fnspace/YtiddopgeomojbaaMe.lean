import Derived.Test.YtiddopgeomojbaaMd
namespace Go.Proofs.Ytiddopgeomojbaa
open Go.RowKit Go.Shelf
set_option linter.unusedVariables false

theorem lockedM_at (m : Nat → Option (Bool × List Int)) (p : Nat) (v : Bool) : ∀ k j, p + k ≤ j → lockedM m p v k j = m j
  | 0, j, _ => rfl
  | k + 1, j, h => by
    simp only [lockedM]
    rw [updM_other _ _ _ _ (by omega)]
    exact lockedM_at m p v k j (by omega)

set_option maxHeartbeats 4000000 in
theorem do_drop (T Q nn : Nat) (bud : Int) (m : Nat → Option (Bool × List Int)) (p c : Nat) (a : Nat) (n : Int) (d : Option Addr) (dl dc : Nat) (w : World) (hs : Sx T Q nn bud m w) (hnn : nn ≤ 4096) (h1 : 1 ≤ c) (h2 : p + c ≤ nn) :
    Calls Try.prog 23 #[.pointer (some ⟨T, 0, none⟩), opV 1 p c a n d dl dc] w fun e w' =>
      (¬ allB m p c true ∧ e = .returned (.agg #[.int .i64 6, .slice none 0 0]) ∧ Below w.heap.size w w') ∨
      (allB m p c true ∧ e = .returned (.agg #[.int .i64 0, .slice none 0 0]) ∧ Sx T Q nn bud (goneM m p c) w' ∧ Sf Q w w') := by
  have HS := hid hs
  clear hs
  unfold opV
  obtain ⟨P, hP⟩ : ∃ P : Int, P = (p : Int) := ⟨_, rfl⟩
  obtain ⟨C, hC⟩ : ∃ C : Int, C = (c : Int) := ⟨_, rfl⟩
  rw [← hP, ← hC]
  have hp0 : 0 ≤ P := by omega
  have hc1 : 1 ≤ C := by omega
  have hpc : P + C ≤ (nn : Int) := by omega
  have HP := hid hP
  have HC := hid hC
  clear hP hC
  have D0 := hid (Dw.first w #[.int .i64 1, .int .i64 P, .int .i64 C, .int .u64 a, .int .i64 n, .slice d dl dc] Q HS.out.ltQ)
  have hb0 : Below w.heap.size w ((w.alloc (.cells #[.int .i64 1, .int .i64 P, .int .i64 C, .int .u64 a, .int .i64 n, .slice d dl dc] 34)).alloc (.cells #[.int .i64 0, .slice none 0 0] 36)) := ((Below.refl _ _).alloc (Nat.le_refl _) _).alloc (by rw [al_size]; omega) _
  have S0 := hid (HS.out.below hb0)
  have B0 := hid hb0
  have HQ := hid HS.out.ltQ
  clear hb0 HS
  have t1 : decide (C < 1) = false := decide_eq_false (by omega)
  have t2 : decide (P < 0) = false := decide_eq_false (by omega)
  have t3 : decide ((nn : Int) < C) = false := decide_eq_false (by omega)
  have t4 : decide ((nn : Int) - C < P) = false := decide_eq_false (by omega)
  go_enter Try.func23, Try.ntmps23
  go_wp2
  generalize World.alloc _ _ = V at D0 S0 B0 ⊢
  generalize hOe : w.heap.size + 1 = Rb at D0 ⊢
  generalize hOo : w.heap.size = Ob at D0 ⊢
  have k1 : V.cell? ⟨Ob, 1, none⟩ = some (.int .i64 P) := by simp [World.cell?, D0.out.o]
  have k2 : V.cell? ⟨Ob, 2, none⟩ = some (.int .i64 C) := by simp [World.cell?, D0.out.o]
  have k3 := S0.out.c.1
  go_quiet (fail)
  have D1 := hid (D0.out.below S0.out.ltQ (drewN_below V nq))
  have B1 := hid (bl_trans B0.out (drewN_below V nq))
  have S1 := hid (S0.out.below (drewN_below V nq))
  clear D0 S0 B0 k1 k2 k3 t1 t2 t3 t4
  generalize V.drewN nq = V1 at D1 B1 S1 ⊢
  have k1 : V1.cell? ⟨Ob, 1, none⟩ = some (.int .i64 P) := by simp [World.cell?, D1.out.o]
  go_wp2
  go_loopw [5] (fun i wr => ∃ k : Nat, k ≤ c ∧ i = .int .i64 (P + (k : Int)) ∧ Hid ((∀ j, j < k → (m (p + j)).isSome = true) ∧ Dw w #[.int .i64 1, .int .i64 P, .int .i64 C, .int .u64 a, .int .i64 n, .slice d dl dc] Q Ob Rb wr ∧ Sx T Q nn bud m wr ∧ Below w.heap.size w wr)) (fun i _ => (P + C - intOf i).toNat)
  case atStart => exact ⟨0, Nat.zero_le _, by go_num, fun j hj => by omega, D1.out, S1.out, B1.out⟩
  case round =>
    obtain ⟨k, hk, rfl, HJ⟩ := hrel
    have k0 : wr.cell? ⟨Ob, 0, none⟩ = some (.int .i64 1) := by simp [World.cell?, HJ.out.2.1.o]
    have k1 : wr.cell? ⟨Ob, 1, none⟩ = some (.int .i64 P) := by simp [World.cell?, HJ.out.2.1.o]
    have k2 : wr.cell? ⟨Ob, 2, none⟩ = some (.int .i64 C) := by simp [World.cell?, HJ.out.2.1.o]
    by_cases hlt : k < c
    · have hlt' : (k : Int) < C := by rw [HC.out]; omega
      have tn : (P + (k : Int)).toNat = p + k := by rw [HP.out]; omega
      obtain ⟨op, pp, l, cc, d1, d2, d3, e4⟩ := HJ.out.2.2.1.three (p + k) (by omega)
      have k3 := HJ.out.2.2.1.c.1
      generalize hon : (m (p + k)).isSome = on at *
      cases on
      · go_wp2
        go_quiet (fail)
        have D2 := hid (HJ.out.2.1.below HJ.out.2.2.1.ltQ (drewN_below wr nq))
        have B2 := hid (bl_trans HJ.out.2.2.2 (drewN_below wr nq))
        have HBad := hid (show ¬ allB m p c true from fun h => by have := h k hlt; rw [hon] at this; cases this)
        clear HJ k0 k1 k2 k3 d1 d2 d3 e4 hon
        generalize wr.drewN nq = V2 at D2 B2 ⊢
        go_wp2_with (refine wpList_store_row rfl 36 _ _ rfl _ _ rfl rfl 36 _ D2.out.r (by kernel_rfl) rfl (by simp [Value.oneCell']) ?_)
        refine bodyPost_ret (results_cell_row (by rfl) _ _ Rb 36 _ (0, 0) _ (by rfl) (setRow_at D2.out.r _) Try.underlying36 rfl (by kernel_rfl)) (by rfl) ?_
        exact .inl ⟨HBad.out, rfl, B2.out.grown (grown_setRow V2 Rb _) B2.out.size (fun r hr => by simp at hr; omega)⟩
      · go_wp2
        go_quiet (fail)
        have HN := hid (show (∀ j, j < k + 1 → (m (p + j)).isSome = true) ∧ Dw w #[.int .i64 1, .int .i64 P, .int .i64 C, .int .u64 a, .int .i64 n, .slice d dl dc] Q Ob Rb (wr.drewN nq) ∧ Sx T Q nn bud m (wr.drewN nq) ∧ Below w.heap.size w (wr.drewN nq) from
          ⟨fun j hj => by
            by_cases e : j = k
            · subst e; exact hon
            · exact HJ.out.1 j (by omega), HJ.out.2.1.below HJ.out.2.2.1.ltQ (drewN_below wr nq), HJ.out.2.2.1.below (drewN_below wr nq), bl_trans HJ.out.2.2.2 (drewN_below wr nq)⟩)
        clear HJ k0 k1 k2 k3 d1 d2 d3 e4 hon
        generalize wr.drewN nq = V2 at HN ⊢
        go_wp2
        go_roundw
        case rel => exact ⟨k + 1, by omega, by go_num, HN.out⟩
        case measure => simp [intOf]; omega
    · have hkc : k = c := by omega
      subst hkc
      have hlt' : ¬ (k : Int) < C := by rw [HC.out]; omega
      have HA := hid (show allB m p k true from HJ.out.1)
      go_wp2_with fail
      rw [HP.out, HC.out]
      refine (sp_drop2 T Q nn bud m p k wr HJ.out.2.2.1 hnn h2).mono ?_
      rintro e w3 ⟨rfl, s3, f3⟩
      have D3 := hid (HJ.out.2.1.kind HJ.out.2.2.1 f3)
      have S3 := hid s3
      clear s3 f3 HJ k0 k1 k2
      go_wp2_with (refine wpList_store_row rfl 36 _ _ rfl _ _ rfl rfl 36 _ D3.out.r (by kernel_rfl) rfl (by simp [Value.oneCell']) ?_)
      refine bodyPost_ret (results_cell_row (by rfl) _ _ Rb 36 _ (0, 0) _ (by rfl) (setRow_at D3.out.r _) Try.underlying36 rfl (by kernel_rfl)) (by rfl) ?_
      exact .inr ⟨HA.out, rfl, D3.out.sx S3.out _, D3.out.done HQ.out _⟩


set_option maxHeartbeats 4000000 in
theorem do_lock (T Q nn : Nat) (bud : Int) (m : Nat → Option (Bool × List Int)) (p c : Nat) (a : Nat) (n : Int) (d : Option Addr) (dl dc : Nat) (w : World) (hs : Sx T Q nn bud m w) (hnn : nn ≤ 4096) (h1 : 1 ≤ c) (h2 : p + c ≤ nn) :
    Calls Try.prog 23 #[.pointer (some ⟨T, 0, none⟩), opV 2 p c a n d dl dc] w fun e w' =>
      (¬ allB m p c true ∧ e = .returned (.agg #[.int .i64 6, .slice none 0 0]) ∧ Below w.heap.size w w') ∨
      (allB m p c true ∧ e = .returned (.agg #[.int .i64 0, .slice none 0 0]) ∧ Sx T Q nn bud (lockedM m p true c) w' ∧ Sf Q w w') := by
  have HS := hid hs
  clear hs
  unfold opV
  obtain ⟨P, hP⟩ : ∃ P : Int, P = (p : Int) := ⟨_, rfl⟩
  obtain ⟨C, hC⟩ : ∃ C : Int, C = (c : Int) := ⟨_, rfl⟩
  rw [← hP, ← hC]
  have hp0 : 0 ≤ P := by omega
  have hc1 : 1 ≤ C := by omega
  have hpc : P + C ≤ (nn : Int) := by omega
  have HP := hid hP
  have HC := hid hC
  clear hP hC
  have D0 := hid (Dw.first w #[.int .i64 2, .int .i64 P, .int .i64 C, .int .u64 a, .int .i64 n, .slice d dl dc] Q HS.out.ltQ)
  have hb0 : Below w.heap.size w ((w.alloc (.cells #[.int .i64 2, .int .i64 P, .int .i64 C, .int .u64 a, .int .i64 n, .slice d dl dc] 34)).alloc (.cells #[.int .i64 0, .slice none 0 0] 36)) := ((Below.refl _ _).alloc (Nat.le_refl _) _).alloc (by rw [al_size]; omega) _
  have S0 := hid (HS.out.below hb0)
  have B0 := hid hb0
  have HQ := hid HS.out.ltQ
  clear hb0 HS
  have t1 : decide (C < 1) = false := decide_eq_false (by omega)
  have t2 : decide (P < 0) = false := decide_eq_false (by omega)
  have t3 : decide ((nn : Int) < C) = false := decide_eq_false (by omega)
  have t4 : decide ((nn : Int) - C < P) = false := decide_eq_false (by omega)
  go_enter Try.func23, Try.ntmps23
  go_wp2
  generalize World.alloc _ _ = V at D0 S0 B0 ⊢
  generalize hOe : w.heap.size + 1 = Rb at D0 ⊢
  generalize hOo : w.heap.size = Ob at D0 ⊢
  have k1 : V.cell? ⟨Ob, 1, none⟩ = some (.int .i64 P) := by simp [World.cell?, D0.out.o]
  have k2 : V.cell? ⟨Ob, 2, none⟩ = some (.int .i64 C) := by simp [World.cell?, D0.out.o]
  have k3 := S0.out.c.1
  go_quiet (fail)
  have D1 := hid (D0.out.below S0.out.ltQ (drewN_below V nq))
  have B1 := hid (bl_trans B0.out (drewN_below V nq))
  have S1 := hid (S0.out.below (drewN_below V nq))
  clear D0 S0 B0 k1 k2 k3 t1 t2 t3 t4
  generalize V.drewN nq = V1 at D1 B1 S1 ⊢
  have k1 : V1.cell? ⟨Ob, 1, none⟩ = some (.int .i64 P) := by simp [World.cell?, D1.out.o]
  go_wp2
  go_loopw [5] (fun i wr => ∃ k : Nat, k ≤ c ∧ i = .int .i64 (P + (k : Int)) ∧ Hid ((∀ j, j < k → (m (p + j)).isSome = true) ∧ Dw w #[.int .i64 2, .int .i64 P, .int .i64 C, .int .u64 a, .int .i64 n, .slice d dl dc] Q Ob Rb wr ∧ Sx T Q nn bud m wr ∧ Below w.heap.size w wr)) (fun i _ => (P + C - intOf i).toNat)
  case atStart => exact ⟨0, Nat.zero_le _, by go_num, fun j hj => by omega, D1.out, S1.out, B1.out⟩
  case round =>
    obtain ⟨k, hk, rfl, HJ⟩ := hrel
    have k0 : wr.cell? ⟨Ob, 0, none⟩ = some (.int .i64 2) := by simp [World.cell?, HJ.out.2.1.o]
    have k1 : wr.cell? ⟨Ob, 1, none⟩ = some (.int .i64 P) := by simp [World.cell?, HJ.out.2.1.o]
    have k2 : wr.cell? ⟨Ob, 2, none⟩ = some (.int .i64 C) := by simp [World.cell?, HJ.out.2.1.o]
    by_cases hlt : k < c
    · have hlt' : (k : Int) < C := by rw [HC.out]; omega
      have tn : (P + (k : Int)).toNat = p + k := by rw [HP.out]; omega
      obtain ⟨op, pp, l, cc, d1, d2, d3, e4⟩ := HJ.out.2.2.1.three (p + k) (by omega)
      have k3 := HJ.out.2.2.1.c.1
      generalize hon : (m (p + k)).isSome = on at *
      cases on
      · go_wp2
        go_quiet (fail)
        have D2 := hid (HJ.out.2.1.below HJ.out.2.2.1.ltQ (drewN_below wr nq))
        have B2 := hid (bl_trans HJ.out.2.2.2 (drewN_below wr nq))
        have HBad := hid (show ¬ allB m p c true from fun h => by have := h k hlt; rw [hon] at this; cases this)
        clear HJ k0 k1 k2 k3 d1 d2 d3 e4 hon
        generalize wr.drewN nq = V2 at D2 B2 ⊢
        go_wp2_with (refine wpList_store_row rfl 36 _ _ rfl _ _ rfl rfl 36 _ D2.out.r (by kernel_rfl) rfl (by simp [Value.oneCell']) ?_)
        refine bodyPost_ret (results_cell_row (by rfl) _ _ Rb 36 _ (0, 0) _ (by rfl) (setRow_at D2.out.r _) Try.underlying36 rfl (by kernel_rfl)) (by rfl) ?_
        exact .inl ⟨HBad.out, rfl, B2.out.grown (grown_setRow V2 Rb _) B2.out.size (fun r hr => by simp at hr; omega)⟩
      · go_wp2
        go_quiet (fail)
        have HN := hid (show (∀ j, j < k + 1 → (m (p + j)).isSome = true) ∧ Dw w #[.int .i64 2, .int .i64 P, .int .i64 C, .int .u64 a, .int .i64 n, .slice d dl dc] Q Ob Rb (wr.drewN nq) ∧ Sx T Q nn bud m (wr.drewN nq) ∧ Below w.heap.size w (wr.drewN nq) from
          ⟨fun j hj => by
            by_cases e : j = k
            · subst e; exact hon
            · exact HJ.out.1 j (by omega), HJ.out.2.1.below HJ.out.2.2.1.ltQ (drewN_below wr nq), HJ.out.2.2.1.below (drewN_below wr nq), bl_trans HJ.out.2.2.2 (drewN_below wr nq)⟩)
        clear HJ k0 k1 k2 k3 d1 d2 d3 e4 hon
        generalize wr.drewN nq = V2 at HN ⊢
        go_wp2
        go_roundw
        case rel => exact ⟨k + 1, by omega, by go_num, HN.out⟩
        case measure => simp [intOf]; omega
    · have hkc : k = c := by omega
      subst hkc
      have hlt' : ¬ (k : Int) < C := by rw [HC.out]; omega
      have HA := hid (show allB m p k true from HJ.out.1)
      have OPA := hid (show Sx T Q nn bud (lockedM m p true 0) wr ∧ Dw w #[.int .i64 2, .int .i64 P, .int .i64 C, .int .u64 a, .int .i64 n, .slice d dl dc] Q Ob Rb wr from ⟨HJ.out.2.2.1, HJ.out.2.1⟩)
      clear HJ D1 B1 S1
      go_wp2
      obtain ⟨wo, rfl⟩ : ∃ wo : World, wo = wr := ⟨_, rfl⟩
      clear k0 k1 k2
      go_loopw [6] (fun i wr => ∃ j : Nat, j ≤ k ∧ i = .int .i64 (P + (j : Int)) ∧ Hid (Sx T Q nn bud (lockedM m p true j) wr ∧ Dw w #[.int .i64 2, .int .i64 P, .int .i64 C, .int .u64 a, .int .i64 n, .slice d dl dc] Q Ob Rb wr)) (fun i _ => (P + C - intOf i).toNat)
      case atStart => exact ⟨0, Nat.zero_le _, by go_num, OPA.out⟩
      case round =>
        obtain ⟨j, hj, rfl, HJ⟩ := hrel
        have k0 : wr.cell? ⟨Ob, 0, none⟩ = some (.int .i64 2) := by simp [World.cell?, HJ.out.2.o]
        have k1 : wr.cell? ⟨Ob, 1, none⟩ = some (.int .i64 P) := by simp [World.cell?, HJ.out.2.o]
        have k2 : wr.cell? ⟨Ob, 2, none⟩ = some (.int .i64 C) := by simp [World.cell?, HJ.out.2.o]
        by_cases hjt : j < k
        · have hjt' : (j : Int) < C := by rw [HC.out]; omega
          have tn : (P + (j : Int)).toNat = p + j := by rw [HP.out]; omega
          have tl : P + (j : Int) < (nn : Int) := by rw [HP.out]; omega
          have hsome := HA.out j hjt
          have hat := lockedM_at m p true j (p + j) (Nat.le_refl _)
          cases hm : m (p + j) with
          | none => rw [hm] at hsome; cases hsome
          | some q =>
            obtain ⟨l0, xs0⟩ := q
            rw [hm] at hat
            have HX := hid (show Sx T Q nn bud (updM (lockedM m p true j) (p + j) (some (true, xs0))) (wr.setCell ⟨Q, (p + j) * 3 + 1, none⟩ (.bool false)) ∧ Sf Q wr (wr.setCell ⟨Q, (p + j) * 3 + 1, none⟩ (.bool false)) from HJ.out.1.lock1 (p + j) (by omega) hat true)
            have HE := hid (show lockedM m p true (j + 1) = updM (lockedM m p true j) (p + j) (some (true, xs0)) by simp only [lockedM, hat]; rfl)
            have HN := hid (show Sx T Q nn bud (lockedM m p true (j + 1)) (wr.setCell ⟨Q, (p + j) * 3 + 1, none⟩ (.bool false)).drew ∧ Dw w #[.int .i64 2, .int .i64 P, .int .i64 C, .int .u64 a, .int .i64 n, .slice d dl dc] Q Ob Rb (wr.setCell ⟨Q, (p + j) * 3 + 1, none⟩ (.bool false)).drew from by
              rw [HE.out]
              have d9 := HJ.out.2.kind HJ.out.1 HX.out.2
              exact ⟨HX.out.1.drew, d9.below HX.out.1.ltQ (Below.refl _ _).drew⟩)
            obtain ⟨opp, pp, l, cc, d1, d2, d3, e4⟩ := HJ.out.1.three (p + j) (by omega)
            obtain ⟨c9, g1, g2, _⟩ := HJ.out.1.row
            have f2 : wr.frozen? ⟨Q, (p + j) * 3 + 1, none⟩ = false := by simp [World.frozen?, g1]
            have q0 : wr.drew.cell? ⟨T, 0, none⟩ = some (.slice (some ⟨Q, 0, none⟩) nn nn) ∧ wr.drew.cell? ⟨Ob, 0, none⟩ = some (.int .i64 2) := ⟨HJ.out.1.c.1, k0⟩
            have q9 : (wr.setCell ⟨Q, (p + j) * 3 + 1, none⟩ (.bool false)).drew.cell? ⟨T, 0, none⟩ = some (.slice (some ⟨Q, 0, none⟩) nn nn) ∧ (wr.setCell ⟨Q, (p + j) * 3 + 1, none⟩ (.bool false)).drew.cell? ⟨Ob, 0, none⟩ = some (.int .i64 2) := ⟨HN.out.1.c.1, by simp [World.cell?, HN.out.2.o]⟩
            clear HX HJ d1 d3 e4 g1 g2 hat hm hsome
            go_wp2
            refine wp_region_held (S := fun W' => W'.cell? ⟨T, 0, none⟩ = some (.slice (some ⟨Q, 0, none⟩) nn nn) ∧ W'.cell? ⟨Ob, 0, none⟩ = some (.int .i64 2)) (by kernel_rfl) ?_
            simp only [List.size_toArray, List.length_cons, List.length_nil, Nat.reduceAdd, Array.replicate_succ, Array.replicate_zero, List.push_toArray, List.nil_append, List.cons_append]
            have hS := q0
            refine wpAnyH_put (i := 0) (d := 100) (v := .pointer (some ⟨T, 0, none⟩)) rfl (by kernel_rfl) (by kernel_rfl) (by kernel_rfl) (by kernel_rfl) (fun _ _ _ h => h) (Or.inl ⟨by kernel_rfl, fun _ _ => by kernel_rfl⟩) hS ?_
            simp only [List.setIfInBounds_toArray, List.set_cons_zero, List.set_cons_succ]
            refine wpAnyH_put (i := 1) (d := 101) (v := .pointer (some ⟨T, 0, none⟩)) rfl (by kernel_rfl) (by kernel_rfl) (by kernel_rfl) (by kernel_rfl) (fun _ _ _ h => h) (Or.inl ⟨by kernel_rfl, fun _ _ => by kernel_rfl⟩) hS ?_
            simp only [List.setIfInBounds_toArray, List.set_cons_zero, List.set_cons_succ]
            refine wpAnyH_put (i := 2) (d := 102) (v := .pointer (some ⟨T, 0, none⟩)) rfl (by kernel_rfl) (by kernel_rfl) (by kernel_rfl) (by kernel_rfl) (fun _ _ _ h => h) (Or.inl ⟨by kernel_rfl, fun _ _ => by kernel_rfl⟩) hS ?_
            simp only [List.setIfInBounds_toArray, List.set_cons_zero, List.set_cons_succ]
            refine wpAnyH_put (i := 3) (d := 103) (v := .slice (some ⟨Q, 0, none⟩) nn nn) rfl (by kernel_rfl) (by kernel_rfl) (by kernel_rfl) (by kernel_rfl) (fun _ _ _ h => h) (Or.inl ⟨by kernel_rfl, fun W hS => by obtain ⟨h1, h2⟩ := hS; go_simp⟩) hS ?_
            simp only [List.setIfInBounds_toArray, List.set_cons_zero, List.set_cons_succ]
            refine wpAnyH_put (i := 4) (d := 104) (v := .int .i64 (P + (j : Int))) rfl (by kernel_rfl) (by kernel_rfl) (by kernel_rfl) (by kernel_rfl) (fun _ _ _ h => h) (Or.inl ⟨by kernel_rfl, fun _ _ => by kernel_rfl⟩) hS ?_
            simp only [List.setIfInBounds_toArray, List.set_cons_zero, List.set_cons_succ]
            refine wpAnyH_put (i := 5) (d := 105) (v := .pointer (some ⟨Ob, 0, none⟩)) rfl (by kernel_rfl) (by kernel_rfl) (by kernel_rfl) (by kernel_rfl) (fun _ _ _ h => h) (Or.inl ⟨by kernel_rfl, fun _ _ => by kernel_rfl⟩) hS ?_
            simp only [List.setIfInBounds_toArray, List.set_cons_zero, List.set_cons_succ]
            refine wpAnyH_put (i := 6) (d := 106) (v := .int .i64 2) rfl (by kernel_rfl) (by kernel_rfl) (by kernel_rfl) (by kernel_rfl) (fun _ _ _ h => h) (Or.inl ⟨by kernel_rfl, fun W hS => by obtain ⟨h1, h2⟩ := hS; go_simp⟩) hS ?_
            simp only [List.setIfInBounds_toArray, List.set_cons_zero, List.set_cons_succ]
            refine wpAnyH_put (i := 7) (d := 107) (v := .bool false) rfl (by kernel_rfl) (by kernel_rfl) (by kernel_rfl) (by kernel_rfl) (fun _ _ _ h => h) (Or.inl ⟨by kernel_rfl, fun _ _ => by kernel_rfl⟩) hS ?_
            simp only [List.setIfInBounds_toArray, List.set_cons_zero, List.set_cons_succ]
            refine wpAnyH_put (i := 8) (d := 108) (v := .pointer (some ⟨Q, (p + j) * 3, none⟩)) rfl (by kernel_rfl) (by kernel_rfl) (by kernel_rfl) (by kernel_rfl) (fun _ _ _ h => h) (Or.inl ⟨by kernel_rfl, fun W _ => by first | (go_simp; done) | (go_simp; omega)⟩) hS ?_
            simp only [List.setIfInBounds_toArray, List.set_cons_zero, List.set_cons_succ]
            refine wpAnyH_put (i := 9) (d := 109) (v := .pointer (some ⟨Q, (p + j) * 3 + 1, none⟩)) rfl (by kernel_rfl) (by kernel_rfl) (by kernel_rfl) (by kernel_rfl) (fun _ _ _ h => h) (Or.inl ⟨by kernel_rfl, fun _ _ => by kernel_rfl⟩) hS ?_
            simp only [List.setIfInBounds_toArray, List.set_cons_zero, List.set_cons_succ]
            refine wpAnyH_one (r := 10) (by kernel_rfl) ?_
            refine wpOp_do rfl (by kernel_rfl) (fun K' hK => ?_)
            go_simp
            refine hK.out _ _ ⟨q9, ?_⟩
            clear hK K'
            refine wpAnyH_done (by kernel_rfl) ?_ _
            clear q0 q9 k0 k1 k2 d2 f2
            go_wp2
            go_roundw
            case rel => exact ⟨j + 1, by omega, by go_num, HN.out⟩
            case measure => simp [intOf]; omega
        · have hjk : j = k := by omega
          subst hjk
          have hjt' : ¬ (j : Int) < C := by rw [HC.out]; omega
          have D3 := hid HJ.out.2
          have S3 := hid HJ.out.1
          clear HJ
          go_wp2_with (refine wpList_store_row rfl 36 _ _ rfl _ _ rfl rfl 36 _ D3.out.r (by kernel_rfl) rfl (by simp [Value.oneCell']) ?_)
          refine bodyPost_ret (results_cell_row (by rfl) _ _ Rb 36 _ (0, 0) _ (by rfl) (setRow_at D3.out.r _) Try.underlying36 rfl (by kernel_rfl)) (by rfl) ?_
          exact .inr ⟨HA.out, rfl, D3.out.sx S3.out _, D3.out.done HQ.out _⟩


end Go.Proofs.Ytiddopgeomojbaa

namespace Go.Proofs.Ytiddopgeomojbaa
open Go.RowKit Go.Shelf
set_option linter.unusedVariables false

set_option maxHeartbeats 4000000 in
theorem do_unlock (T Q nn : Nat) (bud : Int) (m : Nat → Option (Bool × List Int)) (p c : Nat) (a : Nat) (n : Int) (d : Option Addr) (dl dc : Nat) (w : World) (hs : Sx T Q nn bud m w) (hnn : nn ≤ 4096) (h1 : 1 ≤ c) (h2 : p + c ≤ nn) :
    Calls Try.prog 23 #[.pointer (some ⟨T, 0, none⟩), opV 3 p c a n d dl dc] w fun e w' =>
      (¬ allB m p c true ∧ e = .returned (.agg #[.int .i64 6, .slice none 0 0]) ∧ Below w.heap.size w w') ∨
      (allB m p c true ∧ e = .returned (.agg #[.int .i64 0, .slice none 0 0]) ∧ Sx T Q nn bud (lockedM m p false c) w' ∧ Sf Q w w') := by
  have HS := hid hs
  clear hs
  unfold opV
  obtain ⟨P, hP⟩ : ∃ P : Int, P = (p : Int) := ⟨_, rfl⟩
  obtain ⟨C, hC⟩ : ∃ C : Int, C = (c : Int) := ⟨_, rfl⟩
  rw [← hP, ← hC]
  have hp0 : 0 ≤ P := by omega
  have hc1 : 1 ≤ C := by omega
  have hpc : P + C ≤ (nn : Int) := by omega
  have HP := hid hP
  have HC := hid hC
  clear hP hC
  have D0 := hid (Dw.first w #[.int .i64 3, .int .i64 P, .int .i64 C, .int .u64 a, .int .i64 n, .slice d dl dc] Q HS.out.ltQ)
  have hb0 : Below w.heap.size w ((w.alloc (.cells #[.int .i64 3, .int .i64 P, .int .i64 C, .int .u64 a, .int .i64 n, .slice d dl dc] 34)).alloc (.cells #[.int .i64 0, .slice none 0 0] 36)) := ((Below.refl _ _).alloc (Nat.le_refl _) _).alloc (by rw [al_size]; omega) _
  have S0 := hid (HS.out.below hb0)
  have B0 := hid hb0
  have HQ := hid HS.out.ltQ
  clear hb0 HS
  have t1 : decide (C < 1) = false := decide_eq_false (by omega)
  have t2 : decide (P < 0) = false := decide_eq_false (by omega)
  have t3 : decide ((nn : Int) < C) = false := decide_eq_false (by omega)
  have t4 : decide ((nn : Int) - C < P) = false := decide_eq_false (by omega)
  go_enter Try.func23, Try.ntmps23
  go_wp2
  generalize World.alloc _ _ = V at D0 S0 B0 ⊢
  generalize hOe : w.heap.size + 1 = Rb at D0 ⊢
  generalize hOo : w.heap.size = Ob at D0 ⊢
  have k1 : V.cell? ⟨Ob, 1, none⟩ = some (.int .i64 P) := by simp [World.cell?, D0.out.o]
  have k2 : V.cell? ⟨Ob, 2, none⟩ = some (.int .i64 C) := by simp [World.cell?, D0.out.o]
  have k3 := S0.out.c.1
  go_quiet (fail)
  have D1 := hid (D0.out.below S0.out.ltQ (drewN_below V nq))
  have B1 := hid (bl_trans B0.out (drewN_below V nq))
  have S1 := hid (S0.out.below (drewN_below V nq))
  clear D0 S0 B0 k1 k2 k3 t1 t2 t3 t4
  generalize V.drewN nq = V1 at D1 B1 S1 ⊢
  have k1 : V1.cell? ⟨Ob, 1, none⟩ = some (.int .i64 P) := by simp [World.cell?, D1.out.o]
  go_wp2
  go_loopw [5] (fun i wr => ∃ k : Nat, k ≤ c ∧ i = .int .i64 (P + (k : Int)) ∧ Hid ((∀ j, j < k → (m (p + j)).isSome = true) ∧ Dw w #[.int .i64 3, .int .i64 P, .int .i64 C, .int .u64 a, .int .i64 n, .slice d dl dc] Q Ob Rb wr ∧ Sx T Q nn bud m wr ∧ Below w.heap.size w wr)) (fun i _ => (P + C - intOf i).toNat)
  case atStart => exact ⟨0, Nat.zero_le _, by go_num, fun j hj => by omega, D1.out, S1.out, B1.out⟩
  case round =>
    obtain ⟨k, hk, rfl, HJ⟩ := hrel
    have k0 : wr.cell? ⟨Ob, 0, none⟩ = some (.int .i64 3) := by simp [World.cell?, HJ.out.2.1.o]
    have k1 : wr.cell? ⟨Ob, 1, none⟩ = some (.int .i64 P) := by simp [World.cell?, HJ.out.2.1.o]
    have k2 : wr.cell? ⟨Ob, 2, none⟩ = some (.int .i64 C) := by simp [World.cell?, HJ.out.2.1.o]
    by_cases hlt : k < c
    · have hlt' : (k : Int) < C := by rw [HC.out]; omega
      have tn : (P + (k : Int)).toNat = p + k := by rw [HP.out]; omega
      obtain ⟨op, pp, l, cc, d1, d2, d3, e4⟩ := HJ.out.2.2.1.three (p + k) (by omega)
      have k3 := HJ.out.2.2.1.c.1
      generalize hon : (m (p + k)).isSome = on at *
      cases on
      · go_wp2
        go_quiet (fail)
        have D2 := hid (HJ.out.2.1.below HJ.out.2.2.1.ltQ (drewN_below wr nq))
        have B2 := hid (bl_trans HJ.out.2.2.2 (drewN_below wr nq))
        have HBad := hid (show ¬ allB m p c true from fun h => by have := h k hlt; rw [hon] at this; cases this)
        clear HJ k0 k1 k2 k3 d1 d2 d3 e4 hon
        generalize wr.drewN nq = V2 at D2 B2 ⊢
        go_wp2_with (refine wpList_store_row rfl 36 _ _ rfl _ _ rfl rfl 36 _ D2.out.r (by kernel_rfl) rfl (by simp [Value.oneCell']) ?_)
        refine bodyPost_ret (results_cell_row (by rfl) _ _ Rb 36 _ (0, 0) _ (by rfl) (setRow_at D2.out.r _) Try.underlying36 rfl (by kernel_rfl)) (by rfl) ?_
        exact .inl ⟨HBad.out, rfl, B2.out.grown (grown_setRow V2 Rb _) B2.out.size (fun r hr => by simp at hr; omega)⟩
      · go_wp2
        go_quiet (fail)
        have HN := hid (show (∀ j, j < k + 1 → (m (p + j)).isSome = true) ∧ Dw w #[.int .i64 3, .int .i64 P, .int .i64 C, .int .u64 a, .int .i64 n, .slice d dl dc] Q Ob Rb (wr.drewN nq) ∧ Sx T Q nn bud m (wr.drewN nq) ∧ Below w.heap.size w (wr.drewN nq) from
          ⟨fun j hj => by
            by_cases e : j = k
            · subst e; exact hon
            · exact HJ.out.1 j (by omega), HJ.out.2.1.below HJ.out.2.2.1.ltQ (drewN_below wr nq), HJ.out.2.2.1.below (drewN_below wr nq), bl_trans HJ.out.2.2.2 (drewN_below wr nq)⟩)
        clear HJ k0 k1 k2 k3 d1 d2 d3 e4 hon
        generalize wr.drewN nq = V2 at HN ⊢
        go_wp2
        go_roundw
        case rel => exact ⟨k + 1, by omega, by go_num, HN.out⟩
        case measure => simp [intOf]; omega
    · have hkc : k = c := by omega
      subst hkc
      have hlt' : ¬ (k : Int) < C := by rw [HC.out]; omega
      have HA := hid (show allB m p k true from HJ.out.1)
      have OPA := hid (show Sx T Q nn bud (lockedM m p false 0) wr ∧ Dw w #[.int .i64 3, .int .i64 P, .int .i64 C, .int .u64 a, .int .i64 n, .slice d dl dc] Q Ob Rb wr from ⟨HJ.out.2.2.1, HJ.out.2.1⟩)
      clear HJ D1 B1 S1
      go_wp2
      obtain ⟨wo, rfl⟩ : ∃ wo : World, wo = wr := ⟨_, rfl⟩
      clear k0 k1 k2
      go_loopw [6] (fun i wr => ∃ j : Nat, j ≤ k ∧ i = .int .i64 (P + (j : Int)) ∧ Hid (Sx T Q nn bud (lockedM m p false j) wr ∧ Dw w #[.int .i64 3, .int .i64 P, .int .i64 C, .int .u64 a, .int .i64 n, .slice d dl dc] Q Ob Rb wr)) (fun i _ => (P + C - intOf i).toNat)
      case atStart => exact ⟨0, Nat.zero_le _, by go_num, OPA.out⟩
      case round =>
        obtain ⟨j, hj, rfl, HJ⟩ := hrel
        have k0 : wr.cell? ⟨Ob, 0, none⟩ = some (.int .i64 3) := by simp [World.cell?, HJ.out.2.o]
        have k1 : wr.cell? ⟨Ob, 1, none⟩ = some (.int .i64 P) := by simp [World.cell?, HJ.out.2.o]
        have k2 : wr.cell? ⟨Ob, 2, none⟩ = some (.int .i64 C) := by simp [World.cell?, HJ.out.2.o]
        by_cases hjt : j < k
        · have hjt' : (j : Int) < C := by rw [HC.out]; omega
          have tn : (P + (j : Int)).toNat = p + j := by rw [HP.out]; omega
          have tl : P + (j : Int) < (nn : Int) := by rw [HP.out]; omega
          have hsome := HA.out j hjt
          have hat := lockedM_at m p false j (p + j) (Nat.le_refl _)
          cases hm : m (p + j) with
          | none => rw [hm] at hsome; cases hsome
          | some q =>
            obtain ⟨l0, xs0⟩ := q
            rw [hm] at hat
            have HX := hid (show Sx T Q nn bud (updM (lockedM m p false j) (p + j) (some (false, xs0))) (wr.setCell ⟨Q, (p + j) * 3 + 1, none⟩ (.bool true)) ∧ Sf Q wr (wr.setCell ⟨Q, (p + j) * 3 + 1, none⟩ (.bool true)) from HJ.out.1.lock1 (p + j) (by omega) hat false)
            have HE := hid (show lockedM m p false (j + 1) = updM (lockedM m p false j) (p + j) (some (false, xs0)) by simp only [lockedM, hat]; rfl)
            have HN := hid (show Sx T Q nn bud (lockedM m p false (j + 1)) (wr.setCell ⟨Q, (p + j) * 3 + 1, none⟩ (.bool true)).drew ∧ Dw w #[.int .i64 3, .int .i64 P, .int .i64 C, .int .u64 a, .int .i64 n, .slice d dl dc] Q Ob Rb (wr.setCell ⟨Q, (p + j) * 3 + 1, none⟩ (.bool true)).drew from by
              rw [HE.out]
              have d9 := HJ.out.2.kind HJ.out.1 HX.out.2
              exact ⟨HX.out.1.drew, d9.below HX.out.1.ltQ (Below.refl _ _).drew⟩)
            obtain ⟨opp, pp, l, cc, d1, d2, d3, e4⟩ := HJ.out.1.three (p + j) (by omega)
            obtain ⟨c9, g1, g2, _⟩ := HJ.out.1.row
            have f2 : wr.frozen? ⟨Q, (p + j) * 3 + 1, none⟩ = false := by simp [World.frozen?, g1]
            have q0 : wr.drew.cell? ⟨T, 0, none⟩ = some (.slice (some ⟨Q, 0, none⟩) nn nn) ∧ wr.drew.cell? ⟨Ob, 0, none⟩ = some (.int .i64 3) := ⟨HJ.out.1.c.1, k0⟩
            have q9 : (wr.setCell ⟨Q, (p + j) * 3 + 1, none⟩ (.bool true)).drew.cell? ⟨T, 0, none⟩ = some (.slice (some ⟨Q, 0, none⟩) nn nn) ∧ (wr.setCell ⟨Q, (p + j) * 3 + 1, none⟩ (.bool true)).drew.cell? ⟨Ob, 0, none⟩ = some (.int .i64 3) := ⟨HN.out.1.c.1, by simp [World.cell?, HN.out.2.o]⟩
            clear HX HJ d1 d3 e4 g1 g2 hat hm hsome
            go_wp2
            refine wp_region_held (S := fun W' => W'.cell? ⟨T, 0, none⟩ = some (.slice (some ⟨Q, 0, none⟩) nn nn) ∧ W'.cell? ⟨Ob, 0, none⟩ = some (.int .i64 3)) (by kernel_rfl) ?_
            simp only [List.size_toArray, List.length_cons, List.length_nil, Nat.reduceAdd, Array.replicate_succ, Array.replicate_zero, List.push_toArray, List.nil_append, List.cons_append]
            have hS := q0
            refine wpAnyH_put (i := 0) (d := 100) (v := .pointer (some ⟨T, 0, none⟩)) rfl (by kernel_rfl) (by kernel_rfl) (by kernel_rfl) (by kernel_rfl) (fun _ _ _ h => h) (Or.inl ⟨by kernel_rfl, fun _ _ => by kernel_rfl⟩) hS ?_
            simp only [List.setIfInBounds_toArray, List.set_cons_zero, List.set_cons_succ]
            refine wpAnyH_put (i := 1) (d := 101) (v := .pointer (some ⟨T, 0, none⟩)) rfl (by kernel_rfl) (by kernel_rfl) (by kernel_rfl) (by kernel_rfl) (fun _ _ _ h => h) (Or.inl ⟨by kernel_rfl, fun _ _ => by kernel_rfl⟩) hS ?_
            simp only [List.setIfInBounds_toArray, List.set_cons_zero, List.set_cons_succ]
            refine wpAnyH_put (i := 2) (d := 102) (v := .pointer (some ⟨T, 0, none⟩)) rfl (by kernel_rfl) (by kernel_rfl) (by kernel_rfl) (by kernel_rfl) (fun _ _ _ h => h) (Or.inl ⟨by kernel_rfl, fun _ _ => by kernel_rfl⟩) hS ?_
            simp only [List.setIfInBounds_toArray, List.set_cons_zero, List.set_cons_succ]
            refine wpAnyH_put (i := 3) (d := 103) (v := .slice (some ⟨Q, 0, none⟩) nn nn) rfl (by kernel_rfl) (by kernel_rfl) (by kernel_rfl) (by kernel_rfl) (fun _ _ _ h => h) (Or.inl ⟨by kernel_rfl, fun W hS => by obtain ⟨h1, h2⟩ := hS; go_simp⟩) hS ?_
            simp only [List.setIfInBounds_toArray, List.set_cons_zero, List.set_cons_succ]
            refine wpAnyH_put (i := 4) (d := 104) (v := .int .i64 (P + (j : Int))) rfl (by kernel_rfl) (by kernel_rfl) (by kernel_rfl) (by kernel_rfl) (fun _ _ _ h => h) (Or.inl ⟨by kernel_rfl, fun _ _ => by kernel_rfl⟩) hS ?_
            simp only [List.setIfInBounds_toArray, List.set_cons_zero, List.set_cons_succ]
            refine wpAnyH_put (i := 5) (d := 105) (v := .pointer (some ⟨Ob, 0, none⟩)) rfl (by kernel_rfl) (by kernel_rfl) (by kernel_rfl) (by kernel_rfl) (fun _ _ _ h => h) (Or.inl ⟨by kernel_rfl, fun _ _ => by kernel_rfl⟩) hS ?_
            simp only [List.setIfInBounds_toArray, List.set_cons_zero, List.set_cons_succ]
            refine wpAnyH_put (i := 6) (d := 106) (v := .int .i64 3) rfl (by kernel_rfl) (by kernel_rfl) (by kernel_rfl) (by kernel_rfl) (fun _ _ _ h => h) (Or.inl ⟨by kernel_rfl, fun W hS => by obtain ⟨h1, h2⟩ := hS; go_simp⟩) hS ?_
            simp only [List.setIfInBounds_toArray, List.set_cons_zero, List.set_cons_succ]
            refine wpAnyH_put (i := 7) (d := 107) (v := .bool true) rfl (by kernel_rfl) (by kernel_rfl) (by kernel_rfl) (by kernel_rfl) (fun _ _ _ h => h) (Or.inl ⟨by kernel_rfl, fun _ _ => by kernel_rfl⟩) hS ?_
            simp only [List.setIfInBounds_toArray, List.set_cons_zero, List.set_cons_succ]
            refine wpAnyH_put (i := 8) (d := 108) (v := .pointer (some ⟨Q, (p + j) * 3, none⟩)) rfl (by kernel_rfl) (by kernel_rfl) (by kernel_rfl) (by kernel_rfl) (fun _ _ _ h => h) (Or.inl ⟨by kernel_rfl, fun W _ => by first | (go_simp; done) | (go_simp; omega)⟩) hS ?_
            simp only [List.setIfInBounds_toArray, List.set_cons_zero, List.set_cons_succ]
            refine wpAnyH_put (i := 9) (d := 109) (v := .pointer (some ⟨Q, (p + j) * 3 + 1, none⟩)) rfl (by kernel_rfl) (by kernel_rfl) (by kernel_rfl) (by kernel_rfl) (fun _ _ _ h => h) (Or.inl ⟨by kernel_rfl, fun _ _ => by kernel_rfl⟩) hS ?_
            simp only [List.setIfInBounds_toArray, List.set_cons_zero, List.set_cons_succ]
            refine wpAnyH_one (r := 10) (by kernel_rfl) ?_
            refine wpOp_do rfl (by kernel_rfl) (fun K' hK => ?_)
            go_simp
            refine hK.out _ _ ⟨q9, ?_⟩
            clear hK K'
            refine wpAnyH_done (by kernel_rfl) ?_ _
            clear q0 q9 k0 k1 k2 d2 f2
            go_wp2
            go_roundw
            case rel => exact ⟨j + 1, by omega, by go_num, HN.out⟩
            case measure => simp [intOf]; omega
        · have hjk : j = k := by omega
          subst hjk
          have hjt' : ¬ (j : Int) < C := by rw [HC.out]; omega
          have D3 := hid HJ.out.2
          have S3 := hid HJ.out.1
          clear HJ
          go_wp2_with (refine wpList_store_row rfl 36 _ _ rfl _ _ rfl rfl 36 _ D3.out.r (by kernel_rfl) rfl (by simp [Value.oneCell']) ?_)
          refine bodyPost_ret (results_cell_row (by rfl) _ _ Rb 36 _ (0, 0) _ (by rfl) (setRow_at D3.out.r _) Try.underlying36 rfl (by kernel_rfl)) (by rfl) ?_
          exact .inr ⟨HA.out, rfl, D3.out.sx S3.out _, D3.out.done HQ.out _⟩


end Go.Proofs.Ytiddopgeomojbaa

namespace Go.Proofs.Ytiddopgeomojbaa
open Go.RowKit Go.Shelf
set_option linter.unusedVariables false

theorem Try.info92 : (Try.prog.info? 92).map (fun i => (i.zero, i.size, i.bytes)) = some (some (.agg #[.bool false, .bool false, .slice none 0 0]), 3, 32) := by kernel_rfl
theorem made_at (z : Array Value) (n i : Nat) (hi : i < n) : (madeCells z n)[i]? = some (z[i % z.size]!) := by
  simp [madeCells, hi]

theorem Sx.made (w : World) (n : Nat) (bud : Int) : Sx (w.heap.size + 1) w.heap.size n bud (fun _ => none) ((w.alloc (.cells (madeCells #[.bool false, .bool false, .slice none 0 0] (n * 3)) 92)).alloc (.cells #[.slice (some ⟨w.heap.size, 0, none⟩) n n, .int .i64 bud] 89)) := by
  refine ⟨by rw [← al_size w (.cells (madeCells #[.bool false, .bool false, .slice none 0 0] (n * 3)) 92)]; exact al_last _ _, ⟨_, by rw [al_old _ _ _ (by rw [al_size]; omega)]; exact al_last _ _, size_madeCells _ _, fun k hk => ?_, fun j k g hj hk h1 _ => ?_⟩, fun _ _ => rfl⟩
  · have e0 : k * 3 % 3 = 0 := by omega
    have e1 : (k * 3 + 1) % 3 = 1 := by omega
    have e2 : (k * 3 + 2) % 3 = 2 := by omega
    refine ⟨?_, ?_, ?_⟩
    · rw [made_at _ _ _ (by omega)]; show some ((#[Value.bool false, .bool false, .slice none 0 0] : Array Value)[k * 3 % 3]!) = _; rw [e0]; rfl
    · rw [made_at _ _ _ (by omega)]; show some ((#[Value.bool false, .bool false, .slice none 0 0] : Array Value)[(k * 3 + 1) % 3]!) = _; rw [e1]; rfl
    · rw [made_at _ _ _ (by omega)]; show some ((#[Value.bool false, .bool false, .slice none 0 0] : Array Value)[(k * 3 + 2) % 3]!) = _; rw [e2]; rfl
  · have e2 : (j * 3 + 2) % 3 = 2 := by omega
    rw [made_at _ _ _ (by omega)] at h1
    have h2 : some ((#[Value.bool false, .bool false, .slice none 0 0] : Array Value)[(j * 3 + 2) % 3]!) = some (Value.slice (some ⟨g, 0, none⟩) 1024 1024) := h1
    rw [e2] at h2
    cases h2

set_option maxHeartbeats 1000000 in
theorem sp_new (n : Nat) (bud : Int) (w : World) (hn : n ≤ 4096) :
    Calls Try.prog 22 #[.int .i64 n, .int .i64 bud] w fun e w' => ∃ T Q, e = .returned (.pointer (some ⟨T, 0, none⟩)) ∧ Sx T Q n bud (fun _ => none) w' ∧ Below w.heap.size w w' ∧ w.heap.size ≤ T ∧ w.heap.size ≤ Q := by
  obtain ⟨i0, hi, hz0, hz1, hz2⟩ := info_parts Try.info92
  have hmk : (Instr.makeSlice 87 (.int .i64 n) (.int .i64 n)).run Try.prog w = .ok (.slice (some ⟨w.heap.size, 0, none⟩) n n) (w.alloc (.cells (madeCells #[.bool false, .bool false, .slice none 0 0] (n * 3)) 92)) := by
    have := run_make (P := Try.prog) w 87 92 i0 _ Try.underlying87 hi hz0 .i64 .i64 n n (by omega) (Int.le_refl _) (by rw [hz2]; omega) (by omega)
    rw [hz1] at this
    simpa [Value.cells] using this
  have HX := hid (Sx.made w n bud)
  have HB : Hid (Below w.heap.size w ((w.alloc (.cells (madeCells #[.bool false, .bool false, .slice none 0 0] (n * 3)) 92)).alloc (.cells #[.slice (some ⟨w.heap.size, 0, none⟩) n n, .int .i64 bud] 89))) := hid (((Below.refl _ _).alloc (Nat.le_refl _) _).alloc (by rw [al_size]; omega) _)
  generalize madeCells #[.bool false, .bool false, .slice none 0 0] (n * 3) = mk at *
  go_enter Try.func22, Try.ntmps22
  go_wp2
  go_ret
  exact ⟨_, _, rfl, HX.out, HB.out, by omega, by omega⟩
end Go.Proofs.Ytiddopgeomojbaa

namespace Go.Proofs.Ytiddopgeomojbaa
open Go.RowKit Go.Shelf
set_option linter.unusedVariables false

/-- the pages are all committed (b), or all not -/
def allBb (m : Nat → Option (Bool × List Int)) (p : Nat) (b : Bool) : Nat → Bool
  | 0 => true
  | k + 1 => allBb m p b k && ((m (p + k)).isSome == b)
theorem allBb_iff (m : Nat → Option (Bool × List Int)) (p : Nat) (b : Bool) : ∀ c, allBb m p b c = true ↔ allB m p c b
  | 0 => ⟨fun _ j hj => by omega, fun _ => rfl⟩
  | k + 1 => by
    have ih := allBb_iff m p b k
    simp only [allBb, Bool.and_eq_true, beq_iff_eq]
    constructor
    · rintro ⟨h1, h2⟩ j hj
      by_cases e : j = k
      · subst e; exact h2
      · exact ih.1 h1 j (by omega)
    · intro h
      exact ⟨ih.2 (fun j hj => h j (by omega)), h k (by omega)⟩

instance (nn : Nat) (p c : Int) : Decidable (okP nn p c) := by unfold okP; infer_instance

/-- what a page operation does, by the document -/
def pageM (n : Nat) (bud : Int) (m : Nat → Option (Bool × List Int)) (kd : Int) (p c : Nat) : (Nat → Option (Bool × List Int)) × Int :=
  if kd = 0 then
    if allBb m p false c = false then (m, 6) else if bud < (cntM m n : Int) + c then (m, 1) else (freshM m p c, 0)
  else if allBb m p true c = false then (m, 6)
  else if kd = 1 then (goneM m p c, 0)
  else if kd = 2 then (lockedM m p true c, 0) else (lockedM m p false c, 0)
/-- what an operation does, by the document: the pages behind it, the code, the bytes -/
def stepM (n : Nat) (bud : Int) (m : Nat → Option (Bool × List Int)) (kd p c : Int) (a : Nat) (len : Int) (ys : List Int) : (Nat → Option (Bool × List Int)) × Int × List Int :=
  if kd = 4 then (m, accC m a len, if accC m a len = 0 then loadB m a len.toNat else [])
  else if kd = 5 then (if accC m a (ys.length : Int) = 0 then storeM m a ys ys.length else m, accC m a (ys.length : Int), [])
  else if kd < 0 ∨ 5 < kd then (m, 6, [])
  else if okP n p c then ((pageM n bud m kd p.toNat c.toNat).1, (pageM n bud m kd p.toNat c.toNat).2, [])
  else (m, 6, [])

/-- an answer -/
def Ans (Q : Nat) (w w' : World) (e : Ending) (code : Int) (data : List Int) : Prop := ∃ v, e = .returned (.agg #[.int .i64 code, v]) ∧ w'.ownsRow w.heap.size 5 1 v data.length (Ns .u8 data) ∧ ∀ g, v.ownBlock = some g → ¬ IsPg Q w' g
theorem Ans.none (Q : Nat) (w w' : World) (code : Int) : Ans Q w w' (.returned (.agg #[.int .i64 code, .slice none 0 0])) code [] := ⟨_, rfl, ⟨rfl, .inl ⟨rfl, rfl⟩⟩, fun g h => by cases h⟩
theorem Sx.pgs {T Q n : Nat} {bud : Int} {m : Nat → Option (Bool × List Int)} {W : World} (h : Sx T Q n bud m W) {g : Nat} (hg : IsPg Q W g) : g < W.heap.size := by
  obtain ⟨k, hk⟩ := hg
  obtain ⟨c, h1, h2, _⟩ := h.row
  have e0 : c[k * 3 + 2]? = some (.slice (some ⟨g, 0, none⟩) 1024 1024) := by simpa [World.cell?, h1] using hk
  have hkn : k < n := by
    by_cases hl : k < n
    · exact hl
    · rw [Array.getElem?_eq_none (by omega)] at e0; cases e0
  exact h.pglt hkn hk

theorem sp_page (T Q nn : Nat) (bud : Int) (m : Nat → Option (Bool × List Int)) (kd : Int) (p c : Nat) (a : Nat) (n : Int) (d : Option Addr) (dl dc : Nat) (w : World) (hs : Sx T Q nn bud m w) (hnn : nn ≤ 4096) (hk : kd = 0 ∨ kd = 1 ∨ kd = 2 ∨ kd = 3) (h1 : 1 ≤ c) (h2 : p + c ≤ nn) :
    Calls Try.prog 23 #[.pointer (some ⟨T, 0, none⟩), opV kd p c a n d dl dc] w fun e w' => Ans Q w w' e (pageM nn bud m kd p c).2 [] ∧ Sx T Q nn bud (pageM nn bud m kd p c).1 w' ∧ Sf Q w w' := by
  have hQ := hs.ltQ
  rcases hk with rfl | rfl | rfl | rfl
  · refine (do_commit T Q nn bud m p c a n d dl dc w hs hnn h1 h2).mono ?_
    rintro e w' (⟨g1, rfl, hb⟩ | ⟨g1, g2, rfl, hb⟩ | ⟨g1, g2, rfl, s3, f3⟩)
    · have e0 : allBb m p false c = false := by cases h : allBb m p false c with | false => rfl | true => exact absurd ((allBb_iff m p false c).1 h) g1
      simp only [pageM, if_true, e0]
      exact ⟨Ans.none _ _ _ _, hs.below hb, Sf.ofBelow hb hQ⟩
    · have e0 : allBb m p false c = true := (allBb_iff m p false c).2 g1
      simp only [pageM, if_true, e0, if_pos g2, Bool.true_eq_false, if_false]
      exact ⟨Ans.none _ _ _ _, hs.below hb, Sf.ofBelow hb hQ⟩
    · have e0 : allBb m p false c = true := (allBb_iff m p false c).2 g1
      simp only [pageM, if_true, e0, if_neg (show ¬ bud < (cntM m nn : Int) + c by omega), Bool.true_eq_false, if_false]
      exact ⟨Ans.none _ _ _ _, s3, f3⟩
  · refine (do_drop T Q nn bud m p c a n d dl dc w hs hnn h1 h2).mono ?_
    rintro e w' (⟨g1, rfl, hb⟩ | ⟨g1, rfl, s3, f3⟩)
    · have e0 : allBb m p true c = false := by cases h : allBb m p true c with | false => rfl | true => exact absurd ((allBb_iff m p true c).1 h) g1
      simp only [pageM, e0, if_true, show ¬ ((1 : Int) = 0) by omega, if_false]
      exact ⟨Ans.none _ _ _ _, hs.below hb, Sf.ofBelow hb hQ⟩
    · have e0 : allBb m p true c = true := (allBb_iff m p true c).2 g1
      simp only [pageM, e0, if_true, show ¬ ((1 : Int) = 0) by omega, if_false, Bool.true_eq_false]
      exact ⟨Ans.none _ _ _ _, s3, f3⟩
  · refine (do_lock T Q nn bud m p c a n d dl dc w hs hnn h1 h2).mono ?_
    rintro e w' (⟨g1, rfl, hb⟩ | ⟨g1, rfl, s3, f3⟩)
    · have e0 : allBb m p true c = false := by cases h : allBb m p true c with | false => rfl | true => exact absurd ((allBb_iff m p true c).1 h) g1
      simp only [pageM, e0, if_true, show ¬ ((2 : Int) = 0) by omega, if_false]
      exact ⟨Ans.none _ _ _ _, hs.below hb, Sf.ofBelow hb hQ⟩
    · have e0 : allBb m p true c = true := (allBb_iff m p true c).2 g1
      simp only [pageM, e0, if_true, show ¬ ((2 : Int) = 0) by omega, show ¬ ((2 : Int) = 1) by omega, if_false, Bool.true_eq_false]
      exact ⟨Ans.none _ _ _ _, s3, f3⟩
  · refine (do_unlock T Q nn bud m p c a n d dl dc w hs hnn h1 h2).mono ?_
    rintro e w' (⟨g1, rfl, hb⟩ | ⟨g1, rfl, s3, f3⟩)
    · have e0 : allBb m p true c = false := by cases h : allBb m p true c with | false => rfl | true => exact absurd ((allBb_iff m p true c).1 h) g1
      simp only [pageM, e0, if_true, show ¬ ((3 : Int) = 0) by omega, if_false]
      exact ⟨Ans.none _ _ _ _, hs.below hb, Sf.ofBelow hb hQ⟩
    · have e0 : allBb m p true c = true := (allBb_iff m p true c).2 g1
      simp only [pageM, e0, show ¬ ((3 : Int) = 0) by omega, show ¬ ((3 : Int) = 1) by omega, show ¬ ((3 : Int) = 2) by omega, if_false, Bool.true_eq_false]
      exact ⟨Ans.none _ _ _ _, s3, f3⟩

/-- an operation of spec's space, whole -/
theorem sp_do (T Q nn : Nat) (bud : Int) (m : Nat → Option (Bool × List Int)) (kd p c : Int) (a : Nat) (n : Int) (d : Option Addr) (dl dc : Nat) (ys : List Int) (w : World) (hs : Sx T Q nn bud m w) (hd : Dt Q w d dl ys) (hnn : nn ≤ 4096) (ha : a < 18446744073709551616) :
    Calls Try.prog 23 #[.pointer (some ⟨T, 0, none⟩), opV kd p c a n d dl dc] w fun e w' => Ans Q w w' e (stepM nn bud m kd p c a n ys).2.1 (stepM nn bud m kd p c a n ys).2.2 ∧ Sx T Q nn bud (stepM nn bud m kd p c a n ys).1 w' ∧ Sf Q w w' := by
  have hQ := hs.ltQ
  unfold stepM
  by_cases h4 : kd = 4
  · subst h4
    simp only [if_true]
    refine (do_load T Q nn bud m p c a n d dl dc w hs hnn ha _ rfl).mono ?_
    rintro e w' ⟨v, rfl, ho, hb⟩
    refine ⟨⟨v, rfl, ?_, fun g hg hp => ?_⟩, hs.below hb, Sf.ofBelow hb hQ⟩
    · have e1 : (if accC m a n = 0 then loadB m a n.toNat else []).length = (if accC m a n = 0 then n.toNat else 0) := by split <;> simp [loadB]
      rw [e1]
      exact ho
    · have h1 := own_base ho g hg
      rcases (Sf.ofBelow hb hQ).pg g hp with h2 | h2
      · have := hs.pgs h2; omega
      · obtain ⟨j, hj⟩ := hp
        have : IsPg Q w g := ⟨j, by unfold World.cell? at hj ⊢; rw [hb.block Q hQ] at hj; exact hj⟩
        have := hs.pgs this
        omega
  · rw [if_neg h4]
    by_cases h5 : kd = 5
    · subst h5
      simp only [if_true]
      have e2 := hd.hlen
      subst e2
      refine (do_store T Q nn bud m p c a n d _ dc ys w hs hd hnn ha _ rfl).mono ?_
      rintro e w' ⟨rfl, s3, f3⟩
      exact ⟨Ans.none _ _ _ _, s3, f3⟩
    · rw [if_neg h5]
      by_cases h6 : kd < 0 ∨ 5 < kd
      · rw [if_pos h6]
        refine (do_none T kd p c a n d dl dc w h6).mono ?_
        rintro e w' ⟨rfl, hb⟩
        exact ⟨Ans.none _ _ _ _, hs.below hb, Sf.ofBelow hb hQ⟩
      · rw [if_neg h6]
        have hk : kd = 0 ∨ kd = 1 ∨ kd = 2 ∨ kd = 3 := by omega
        by_cases h7 : okP nn p c
        · rw [if_pos h7]
          obtain ⟨g1, g2, g3, g4⟩ := h7
          obtain ⟨p, rfl⟩ := Int.eq_ofNat_of_zero_le g2
          obtain ⟨c, rfl⟩ := Int.eq_ofNat_of_zero_le (show 0 ≤ c by omega)
          simp only [Int.toNat_natCast]
          exact sp_page T Q nn bud m kd p c a n d dl dc w hs hnn hk (by omega) (by omega)
        · rw [if_neg h7]
          refine (do_range T Q nn bud m kd p c a n d dl dc w hs hnn hk h7).mono ?_
          rintro e w' ⟨rfl, hb⟩
          exact ⟨Ans.none _ _ _ _, hs.below hb, Sf.ofBelow hb hQ⟩
end Go.Proofs.Ytiddopgeomojbaa
