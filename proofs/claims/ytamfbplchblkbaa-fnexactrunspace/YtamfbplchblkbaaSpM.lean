import Derived.Test.YtamfbplchblkbaaSpL
namespace Go.Proofs.Ytamfbplchblkbaa
open Go.RowKit Go.Shelf
set_option linter.unusedVariables false

/-- the pages are all committed, or all not -/
def allB (m : Nat → Option (Bool × List Int)) (p c : Nat) (b : Bool) : Prop := ∀ j, j < c → (m (p + j)).isSome = b

set_option maxHeartbeats 4000000 in
theorem do_commit (T Q nn : Nat) (bud : Int) (m : Nat → Option (Bool × List Int)) (p c : Nat) (a : Nat) (n : Int) (d : Option Addr) (dl dc : Nat) (w : World) (hs : Sx T Q nn bud m w) (hnn : nn ≤ 4096) (h1 : 1 ≤ c) (h2 : p + c ≤ nn) :
    Calls Try.prog 23 #[.pointer (some ⟨T, 0, none⟩), opV 0 p c a n d dl dc] w fun e w' =>
      (¬ allB m p c false ∧ e = .returned (.agg #[.int .i64 6, .slice none 0 0]) ∧ Below w.heap.size w w') ∨
      (allB m p c false ∧ bud < (cntM m nn : Int) + c ∧ e = .returned (.agg #[.int .i64 1, .slice none 0 0]) ∧ Below w.heap.size w w') ∨
      (allB m p c false ∧ (cntM m nn : Int) + c ≤ bud ∧ e = .returned (.agg #[.int .i64 0, .slice none 0 0]) ∧ Sx T Q nn bud (freshM m p c) w' ∧ Sf Q w w') := by
  have HS := hid hs
  clear hs
  unfold opV
  obtain ⟨P, hP⟩ : ∃ P : Int, P = (p : Int) := ⟨_, rfl⟩
  obtain ⟨C, hC⟩ : ∃ C : Int, C = (c : Int) := ⟨_, rfl⟩
  rw [← hP, ← hC]
  have hp0 : 0 ≤ P := by omega
  have hc1 : 1 ≤ C := by omega
  have hpc : P + C ≤ (nn : Int) := by omega
  have HP := hid hP
  have HC := hid hC
  clear hP hC
  have D0 := hid (Dw.first w #[.int .i64 0, .int .i64 P, .int .i64 C, .int .u64 a, .int .i64 n, .slice d dl dc] Q HS.out.ltQ)
  have hb0 : Below w.heap.size w ((w.alloc (.cells #[.int .i64 0, .int .i64 P, .int .i64 C, .int .u64 a, .int .i64 n, .slice d dl dc] 34)).alloc (.cells #[.int .i64 0, .slice none 0 0] 36)) := ((Below.refl _ _).alloc (Nat.le_refl _) _).alloc (by rw [al_size]; omega) _
  have S0 := hid (HS.out.below hb0)
  have B0 := hid hb0
  have HQ := hid HS.out.ltQ
  clear hb0 HS
  have t1 : decide (C < 1) = false := decide_eq_false (by omega)
  have t2 : decide (P < 0) = false := decide_eq_false (by omega)
  have t3 : decide ((nn : Int) < C) = false := decide_eq_false (by omega)
  have t4 : decide ((nn : Int) - C < P) = false := decide_eq_false (by omega)
  go_enter Try.func23, Try.ntmps23
  go_wp2
  generalize World.alloc _ _ = V at D0 S0 B0 ⊢
  generalize hOe : w.heap.size + 1 = Rb at D0 ⊢
  generalize hOo : w.heap.size = Ob at D0 ⊢
  have k1 : V.cell? ⟨Ob, 1, none⟩ = some (.int .i64 P) := by simp [World.cell?, D0.out.o]
  have k2 : V.cell? ⟨Ob, 2, none⟩ = some (.int .i64 C) := by simp [World.cell?, D0.out.o]
  have k3 := S0.out.c.1
  go_quiet (fail)
  have D1 := hid (D0.out.below S0.out.ltQ (drewN_below V nq))
  have B1 := hid (bl_trans B0.out (drewN_below V nq))
  have S1 := hid (S0.out.below (drewN_below V nq))
  clear D0 S0 B0 k1 k2 k3 t1 t2 t3 t4
  generalize V.drewN nq = V1 at D1 B1 S1 ⊢
  have k1 : V1.cell? ⟨Ob, 1, none⟩ = some (.int .i64 P) := by simp [World.cell?, D1.out.o]
  go_wp2
  go_loopw [5] (fun i wr => ∃ k : Nat, k ≤ c ∧ i = .int .i64 (P + (k : Int)) ∧ Hid ((∀ j, j < k → (m (p + j)).isSome = false) ∧ Dw w #[.int .i64 0, .int .i64 P, .int .i64 C, .int .u64 a, .int .i64 n, .slice d dl dc] Q Ob Rb wr ∧ Sx T Q nn bud m wr ∧ Below w.heap.size w wr)) (fun i _ => (P + C - intOf i).toNat)
  case atStart => exact ⟨0, Nat.zero_le _, by go_num, fun j hj => by omega, D1.out, S1.out, B1.out⟩
  case round =>
    obtain ⟨k, hk, rfl, HJ⟩ := hrel
    have k0 : wr.cell? ⟨Ob, 0, none⟩ = some (.int .i64 0) := by simp [World.cell?, HJ.out.2.1.o]
    have k1 : wr.cell? ⟨Ob, 1, none⟩ = some (.int .i64 P) := by simp [World.cell?, HJ.out.2.1.o]
    have k2 : wr.cell? ⟨Ob, 2, none⟩ = some (.int .i64 C) := by simp [World.cell?, HJ.out.2.1.o]
    by_cases hlt : k < c
    · have hlt' : (k : Int) < C := by rw [HC.out]; omega
      have tn : (P + (k : Int)).toNat = p + k := by rw [HP.out]; omega
      obtain ⟨op, pp, l, cc, d1, d2, d3, e4⟩ := HJ.out.2.2.1.three (p + k) (by omega)
      have k3 := HJ.out.2.2.1.c.1
      generalize hon : (m (p + k)).isSome = on at *
      cases on
      · go_wp2
        go_quiet (fail)
        have HN := hid (show (∀ j, j < k + 1 → (m (p + j)).isSome = false) ∧ Dw w #[.int .i64 0, .int .i64 P, .int .i64 C, .int .u64 a, .int .i64 n, .slice d dl dc] Q Ob Rb (wr.drewN nq) ∧ Sx T Q nn bud m (wr.drewN nq) ∧ Below w.heap.size w (wr.drewN nq) from
          ⟨fun j hj => by
            by_cases e : j = k
            · subst e; exact hon
            · exact HJ.out.1 j (by omega), HJ.out.2.1.below HJ.out.2.2.1.ltQ (drewN_below wr nq), HJ.out.2.2.1.below (drewN_below wr nq), bl_trans HJ.out.2.2.2 (drewN_below wr nq)⟩)
        clear HJ k0 k1 k2 k3 d1 d2 d3 e4 hon
        generalize wr.drewN nq = V2 at HN ⊢
        go_wp2
        go_roundw
        case rel => exact ⟨k + 1, by omega, by go_num, HN.out⟩
        case measure => simp [intOf]; omega
      · go_wp2
        go_quiet (fail)
        have D2 := hid (HJ.out.2.1.below HJ.out.2.2.1.ltQ (drewN_below wr nq))
        have B2 := hid (bl_trans HJ.out.2.2.2 (drewN_below wr nq))
        have HBad := hid (show ¬ allB m p c false from fun h => by have := h k hlt; rw [hon] at this; cases this)
        clear HJ k0 k1 k2 k3 d1 d2 d3 e4 hon
        generalize wr.drewN nq = V2 at D2 B2 ⊢
        go_wp2_with (refine wpList_store_row rfl 36 _ _ rfl _ _ rfl rfl 36 _ D2.out.r (by kernel_rfl) rfl (by simp [Value.oneCell']) ?_)
        refine bodyPost_ret (results_cell_row (by rfl) _ _ Rb 36 _ (0, 0) _ (by rfl) (setRow_at D2.out.r _) Try.underlying36 rfl (by kernel_rfl)) (by rfl) ?_
        exact .inl ⟨HBad.out, rfl, B2.out.grown (grown_setRow V2 Rb _) B2.out.size (fun r hr => by simp at hr; omega)⟩
    · have hkc : k = c := by omega
      subst hkc
      have hlt' : ¬ (k : Int) < C := by rw [HC.out]; omega
      have HA := hid (show allB m p k false from HJ.out.1)
      go_wp2_with fail
      rw [HP.out, HC.out]
      by_cases hbud : bud < (cntM m nn : Int) + (k : Int)
      · have HB := hid hbud
        refine (sp_commit_no T Q nn bud m p k wr HJ.out.2.2.1 hnn h2 hbud).mono ?_
        rintro e w3 ⟨rfl, b3⟩
        have D3 := hid (HJ.out.2.1.below HJ.out.2.2.1.ltQ b3)
        have B3 := hid (bl_trans HJ.out.2.2.2 b3)
        clear b3 HJ k0 k1 k2 hbud
        go_wp2_with (refine wpList_store_row rfl 36 _ _ rfl _ _ rfl rfl 36 _ D3.out.r (by kernel_rfl) rfl (by simp [Value.oneCell']) ?_)
        refine bodyPost_ret (results_cell_row (by rfl) _ _ Rb 36 _ (0, 0) _ (by rfl) (setRow_at D3.out.r _) Try.underlying36 rfl (by kernel_rfl)) (by rfl) ?_
        exact .inr (.inl ⟨HA.out, by rw [HC.out]; exact HB.out, rfl, B3.out.grown (grown_setRow w3 Rb _) B3.out.size (fun r hr => by simp at hr; omega)⟩)
      · have HB := hid (show (cntM m nn : Int) + (k : Int) ≤ bud by omega)
        refine (sp_commit_yes T Q nn bud m p k wr HJ.out.2.2.1 hnn h2 HB.out).mono ?_
        rintro e w3 ⟨rfl, s3, f3⟩
        have D3 := hid (HJ.out.2.1.kind HJ.out.2.2.1 f3)
        have S3 := hid s3
        clear s3 f3 HJ k0 k1 k2 hbud
        go_wp2_with (refine wpList_store_row rfl 36 _ _ rfl _ _ rfl rfl 36 _ D3.out.r (by kernel_rfl) rfl (by simp [Value.oneCell']) ?_)
        refine bodyPost_ret (results_cell_row (by rfl) _ _ Rb 36 _ (0, 0) _ (by rfl) (setRow_at D3.out.r _) Try.underlying36 rfl (by kernel_rfl)) (by rfl) ?_
        exact .inr (.inr ⟨HA.out, by rw [HC.out]; exact HB.out, rfl, D3.out.sx S3.out _, D3.out.done HQ.out _⟩)
end Go.Proofs.Ytamfbplchblkbaa
