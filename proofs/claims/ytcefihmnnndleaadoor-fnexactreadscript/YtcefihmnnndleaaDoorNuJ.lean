import Derived.Test.YtcefihmnnndleaaDoorNuI
namespace Go.Proofs.YtcefihmnnndleaaDoor
open Go.ChangeShapes Go.WideShapes Go.ChangeAt Go.RowKit
set_option linter.unusedVariables false
set_option maxRecDepth 20000

def heapO (s : RdS) (ws : List (List UInt8)) : Option RdS := (intsM ws).bind fun ns => if ns.length = 4 then some { s with cf := { s.cf with mix := ns.getD 0 0, fifo := ns.getD 1 0, large := ns.getD 2 0, budget := ns.getD 3 0 } } else none
set_option maxHeartbeats 2000000 in
theorem im_setHeap (B S : Nat) (a1 : Addr) (sa : Option Addr) (m c : Nat) (ws : List (List UInt8)) (s : RdS) (dv ov bd : Value) (ps : List (OpS × Value)) (w : World) (hs : Ss B S w s dv ov bd ps) (hm : m = ws.length) (hw : Wd w sa ws) (hml : m ≤ 1048576) (hwl : ∀ x ∈ ws, x.length ≤ 1048576) (h1 : w.cell? ⟨1, 0, none⟩ = some (.iface 141 (.pointer (some a1)))) :
    Calls Tryd.prog 36 #[.pointer (some ⟨S, 0, none⟩), .slice sa m c] w fun e w' => OrdP B S a1 w w' s (heapO s ws) e := by
  have hI := im_integers sa m c ws a1 w hm hw hml hwl h1
  have HS := hid hs
  clear hw hwl hs hm
  cases hi : intsM ws with
  | none =>
    rw [hi] at hI
    have HN := hid (show heapO s ws = none by rw [heapO, hi]; rfl)
    clear hi
    go_enter Tryd.func36, Tryd.ntmps36
    go_wp2_with fail
    refine hI.mono ?_
    rintro e w1 ⟨hb, v, rfl, hu⟩
    have H1 := hid (HS.out.below hb)
    clear hI
    rcases hu with rfl | ⟨s9, rfl⟩
    · go_wp2_with fail
      go_ret
      rw [HN.out]
      exact OrdP.no (Gb.below hb HS.out.bw) (.inl rfl) H1.out
    · unfold wE
      go_wp2_with fail
      go_ret
      rw [HN.out]
      exact OrdP.no (Gb.below hb HS.out.bw) (.inr ⟨s9, rfl⟩) H1.out
  | some ns =>
  rw [hi] at hI
  by_cases h4 : ns.length = 4
  · have HN := hid (show heapO s ws = some { s with cf := { s.cf with mix := ns.getD 0 0, fifo := ns.getD 1 0, large := ns.getD 2 0, budget := ns.getD 3 0 } } by rw [heapO, hi, Option.bind_some, if_pos h4])
    clear hi
    go_enter Tryd.func36, Tryd.ntmps36
    go_wp2_with fail
    refine hI.mono ?_
    rintro e w1 ⟨hb, nv, rfl, hown⟩
    have h1s := HS.out.below hb
    obtain ⟨ng, nc, rfl, hng⟩ : ∃ ng nc, nv = .slice (some ⟨ng, 0, none⟩) 4 nc ∧ w.heap.size ≤ ng := by
      rcases hown.2 with ⟨h9, h8⟩ | ⟨g9, c9, cu9, h9, hg9, _⟩
      · omega
      · rw [h4] at h9; exact ⟨g9, c9, h9, hg9⟩
    have r0 : RowV w1 ng 3 (iv ns) := by rw [← h4] at hown; exact RowV.ofOwns hown
    have hne : ng ≠ S := by have := HS.out.bw; have := HS.out.sb; omega
    have R0 := hid (show RowV w1.drew ng 3 (iv ns) from r0)
    have CN := hid (show ∀ W9, RowV W9 ng 3 (iv ns) → W9.cell? ⟨ng, 0, none⟩ = some (.int .i64 (ns.getD 0 0)) ∧ W9.cell? ⟨ng, 1, none⟩ = some (.int .i64 (ns.getD 1 0)) ∧ W9.cell? ⟨ng, 2, none⟩ = some (.int .i64 (ns.getD 2 0)) ∧ W9.cell? ⟨ng, 3, none⟩ = some (.int .i64 (ns.getD 3 0)) from fun W9 h9 => by
      have hc : ∀ i, i < 4 → W9.cell? ⟨ng, i, none⟩ = some (.int .i64 (ns.getD i 0)) := fun i hi => by
        rw [h9.cell i (by simp [iv]; omega)]
        have h2 : i < ns.length := by omega
        simp [iv, h2]
      exact ⟨hc 0 (by omega), hc 1 (by omega), hc 2 (by omega), hc 3 (by omega)⟩)
    have hd1s : Ss B S w1.drew s dv ov bd ps := h1s.below (Below.refl _ _).drew
    have S4 := hid ((((hd1s.cf 0 (.int .i64 (ns.getD 0 0)) { s.cf with mix := ns.getD 0 0 } rfl rfl).cf 1 (.int .i64 (ns.getD 1 0)) { s.cf with mix := ns.getD 0 0, fifo := ns.getD 1 0 } rfl rfl).cf 2 (.int .i64 (ns.getD 2 0)) { s.cf with mix := ns.getD 0 0, fifo := ns.getD 1 0, large := ns.getD 2 0 } rfl rfl).cf 3 (.int .i64 (ns.getD 3 0)) { s.cf with mix := ns.getD 0 0, fifo := ns.getD 1 0, large := ns.getD 2 0, budget := ns.getD 3 0 } rfl rfl)
    have g1 : Gb B S w w1.drew := (Gb.below hb HS.out.bw).trans ⟨rfl, rfl, rfl, Nat.le_refl _, fun _ _ _ => rfl⟩
    have G4 := hid ((((g1.set 0 (.int .i64 (ns.getD 0 0))).set 1 (.int .i64 (ns.getD 1 0))).set 2 (.int .i64 (ns.getD 2 0))).set 3 (.int .i64 (ns.getD 3 0)))
    have c0 : w1.cell? ⟨S, 0, none⟩ = some (.int .i64 s.cf.mix) := h1s.bx.cell 0
    have c1 : w1.cell? ⟨S, 1, none⟩ = some (.int .i64 s.cf.fifo) := h1s.bx.cell 1
    have c2 : w1.cell? ⟨S, 2, none⟩ = some (.int .i64 s.cf.large) := h1s.bx.cell 2
    have c3 : w1.cell? ⟨S, 3, none⟩ = some (.int .i64 s.cf.budget) := h1s.bx.cell 3
    have f0 := h1s.bx.free 0
    have f1 := h1s.bx.free 1
    have f2 := h1s.bx.free 2
    have f3 := h1s.bx.free 3
    generalize ns.getD 0 0 = z0 at *
    generalize ns.getD 1 0 = z1 at *
    generalize ns.getD 2 0 = z2 at *
    generalize ns.getD 3 0 = z3 at *
    have R1 := hid (R0.out.other (p := ⟨S, 0, none⟩) hne (.int .i64 z0))
    have R2 := hid (R1.out.other (p := ⟨S, 1, none⟩) hne (.int .i64 z1))
    have R3 := hid (R2.out.other (p := ⟨S, 2, none⟩) hne (.int .i64 z2))
    have R4 := hid (R3.out.other (p := ⟨S, 3, none⟩) hne (.int .i64 z3))
    generalize s.cf.mix = m0 at c0
    generalize s.cf.fifo = m1 at c1
    generalize s.cf.large = m2 at c2
    generalize s.cf.budget = m3 at c3
    clear hI h1s hown r0 hd1s g1 h4
    go_wp2_with fail
    refine wp_region_held (S := fun W9 => W9.cell? ⟨ng, 0, none⟩ = some (.int .i64 z0) ∧ W9.cell? ⟨ng, 1, none⟩ = some (.int .i64 z1) ∧ W9.cell? ⟨ng, 2, none⟩ = some (.int .i64 z2) ∧ W9.cell? ⟨ng, 3, none⟩ = some (.int .i64 z3)) (by kernel_rfl) ?_
    simp only [List.size_toArray, List.length_cons, List.length_nil, Nat.reduceAdd, Array.replicate_succ, Array.replicate_zero, List.push_toArray, List.nil_append, List.cons_append]
    have hS := CN.out _ R0.out
    refine wpAnyH_put (i := 0) (d := 23) (v := .pointer (some ⟨S, 0, none⟩)) rfl (by kernel_rfl) (by kernel_rfl) (by kernel_rfl) (by kernel_rfl) (fun _ _ _ h => h) (Or.inl ⟨by kernel_rfl, fun _ _ => by kernel_rfl⟩) hS ?_
    simp only [List.setIfInBounds_toArray, List.set_cons_zero, List.set_cons_succ]
    refine wpAnyH_put (i := 1) (d := 24) (v := .pointer (some ⟨S, 0, none⟩)) rfl (by kernel_rfl) (by kernel_rfl) (by kernel_rfl) (by kernel_rfl) (fun _ _ _ h => h) (Or.inl ⟨by kernel_rfl, fun _ _ => by kernel_rfl⟩) hS ?_
    simp only [List.setIfInBounds_toArray, List.set_cons_zero, List.set_cons_succ]
    refine wpAnyH_put (i := 2) (d := 25) (v := .pointer (some ⟨S, 0, none⟩)) rfl (by kernel_rfl) (by kernel_rfl) (by kernel_rfl) (by kernel_rfl) (fun _ _ _ h => h) (Or.inl ⟨by kernel_rfl, fun _ _ => by kernel_rfl⟩) hS ?_
    simp only [List.setIfInBounds_toArray, List.set_cons_zero, List.set_cons_succ]
    refine wpAnyH_put (i := 3) (d := 26) (v := .pointer (some ⟨S, 0, none⟩)) rfl (by kernel_rfl) (by kernel_rfl) (by kernel_rfl) (by kernel_rfl) (fun _ _ _ h => h) (Or.inl ⟨by kernel_rfl, fun _ _ => by kernel_rfl⟩) hS ?_
    simp only [List.setIfInBounds_toArray, List.set_cons_zero, List.set_cons_succ]
    refine wpAnyH_put (i := 4) (d := 27) (v := .slice (some ⟨ng, 0, none⟩) 4 nc) rfl (by kernel_rfl) (by kernel_rfl) (by kernel_rfl) (by kernel_rfl) (fun _ _ _ h => h) (Or.inl ⟨by kernel_rfl, fun _ _ => by kernel_rfl⟩) hS ?_
    simp only [List.setIfInBounds_toArray, List.set_cons_zero, List.set_cons_succ]
    refine wpAnyH_put (i := 5) (d := 28) (v := .pointer (some ⟨ng, 0, none⟩)) rfl (by kernel_rfl) (by kernel_rfl) (by kernel_rfl) (by kernel_rfl) (fun _ _ _ h => h) (Or.inl ⟨by kernel_rfl, fun W hS => by obtain ⟨y0, y1, y2, y3⟩ := hS; first | (go_simp; done) | (go_simp; omega)⟩) hS ?_
    simp only [List.setIfInBounds_toArray, List.set_cons_zero, List.set_cons_succ]
    refine wpAnyH_put (i := 6) (d := 29) (v := .int .i64 z0) rfl (by kernel_rfl) (by kernel_rfl) (by kernel_rfl) (by kernel_rfl) (fun _ _ _ h => h) (Or.inl ⟨by kernel_rfl, fun W hS => by obtain ⟨y0, y1, y2, y3⟩ := hS; first | (go_simp; done) | (go_simp; omega)⟩) hS ?_
    simp only [List.setIfInBounds_toArray, List.set_cons_zero, List.set_cons_succ]
    refine wpAnyH_put (i := 7) (d := 30) (v := .slice (some ⟨ng, 0, none⟩) 4 nc) rfl (by kernel_rfl) (by kernel_rfl) (by kernel_rfl) (by kernel_rfl) (fun _ _ _ h => h) (Or.inl ⟨by kernel_rfl, fun _ _ => by kernel_rfl⟩) hS ?_
    simp only [List.setIfInBounds_toArray, List.set_cons_zero, List.set_cons_succ]
    refine wpAnyH_put (i := 8) (d := 31) (v := .pointer (some ⟨ng, 1, none⟩)) rfl (by kernel_rfl) (by kernel_rfl) (by kernel_rfl) (by kernel_rfl) (fun _ _ _ h => h) (Or.inl ⟨by kernel_rfl, fun W hS => by obtain ⟨y0, y1, y2, y3⟩ := hS; first | (go_simp; done) | (go_simp; omega)⟩) hS ?_
    simp only [List.setIfInBounds_toArray, List.set_cons_zero, List.set_cons_succ]
    refine wpAnyH_put (i := 9) (d := 32) (v := .int .i64 z1) rfl (by kernel_rfl) (by kernel_rfl) (by kernel_rfl) (by kernel_rfl) (fun _ _ _ h => h) (Or.inl ⟨by kernel_rfl, fun W hS => by obtain ⟨y0, y1, y2, y3⟩ := hS; first | (go_simp; done) | (go_simp; omega)⟩) hS ?_
    simp only [List.setIfInBounds_toArray, List.set_cons_zero, List.set_cons_succ]
    refine wpAnyH_put (i := 10) (d := 33) (v := .slice (some ⟨ng, 0, none⟩) 4 nc) rfl (by kernel_rfl) (by kernel_rfl) (by kernel_rfl) (by kernel_rfl) (fun _ _ _ h => h) (Or.inl ⟨by kernel_rfl, fun _ _ => by kernel_rfl⟩) hS ?_
    simp only [List.setIfInBounds_toArray, List.set_cons_zero, List.set_cons_succ]
    refine wpAnyH_put (i := 11) (d := 34) (v := .pointer (some ⟨ng, 2, none⟩)) rfl (by kernel_rfl) (by kernel_rfl) (by kernel_rfl) (by kernel_rfl) (fun _ _ _ h => h) (Or.inl ⟨by kernel_rfl, fun W hS => by obtain ⟨y0, y1, y2, y3⟩ := hS; first | (go_simp; done) | (go_simp; omega)⟩) hS ?_
    simp only [List.setIfInBounds_toArray, List.set_cons_zero, List.set_cons_succ]
    refine wpAnyH_put (i := 12) (d := 35) (v := .int .i64 z2) rfl (by kernel_rfl) (by kernel_rfl) (by kernel_rfl) (by kernel_rfl) (fun _ _ _ h => h) (Or.inl ⟨by kernel_rfl, fun W hS => by obtain ⟨y0, y1, y2, y3⟩ := hS; first | (go_simp; done) | (go_simp; omega)⟩) hS ?_
    simp only [List.setIfInBounds_toArray, List.set_cons_zero, List.set_cons_succ]
    refine wpAnyH_put (i := 13) (d := 36) (v := .slice (some ⟨ng, 0, none⟩) 4 nc) rfl (by kernel_rfl) (by kernel_rfl) (by kernel_rfl) (by kernel_rfl) (fun _ _ _ h => h) (Or.inl ⟨by kernel_rfl, fun _ _ => by kernel_rfl⟩) hS ?_
    simp only [List.setIfInBounds_toArray, List.set_cons_zero, List.set_cons_succ]
    refine wpAnyH_put (i := 14) (d := 37) (v := .pointer (some ⟨ng, 3, none⟩)) rfl (by kernel_rfl) (by kernel_rfl) (by kernel_rfl) (by kernel_rfl) (fun _ _ _ h => h) (Or.inl ⟨by kernel_rfl, fun W hS => by obtain ⟨y0, y1, y2, y3⟩ := hS; first | (go_simp; done) | (go_simp; omega)⟩) hS ?_
    simp only [List.setIfInBounds_toArray, List.set_cons_zero, List.set_cons_succ]
    refine wpAnyH_put (i := 15) (d := 38) (v := .int .i64 z3) rfl (by kernel_rfl) (by kernel_rfl) (by kernel_rfl) (by kernel_rfl) (fun _ _ _ h => h) (Or.inl ⟨by kernel_rfl, fun W hS => by obtain ⟨y0, y1, y2, y3⟩ := hS; first | (go_simp; done) | (go_simp; omega)⟩) hS ?_
    simp only [List.setIfInBounds_toArray, List.set_cons_zero, List.set_cons_succ]
    refine wpAnyH_put (i := 16) (d := 39) (v := .pointer (some ⟨S, 0, none⟩)) rfl (by kernel_rfl) (by kernel_rfl) (by kernel_rfl) (by kernel_rfl) (fun _ _ _ h => h) (Or.inl ⟨by kernel_rfl, fun _ _ => by kernel_rfl⟩) hS ?_
    simp only [List.setIfInBounds_toArray, List.set_cons_zero, List.set_cons_succ]
    refine wpAnyH_put (i := 17) (d := 40) (v := .pointer (some ⟨S, 0, none⟩)) rfl (by kernel_rfl) (by kernel_rfl) (by kernel_rfl) (by kernel_rfl) (fun _ _ _ h => h) (Or.inl ⟨by kernel_rfl, fun _ _ => by kernel_rfl⟩) hS ?_
    simp only [List.setIfInBounds_toArray, List.set_cons_zero, List.set_cons_succ]
    refine wpAnyH_one (r := 18) (by kernel_rfl) ?_
    refine wpOp_do rfl (by kernel_rfl) (fun K' hK => ?_)
    go_simp
    have h18 := CN.out _ R1.out
    refine hK.out _ _ ⟨h18, ?_⟩
    clear hS
    have hS := h18
    clear hK K'
    refine wpAnyH_put (i := 19) (d := 41) (v := .pointer (some ⟨S, 0, none⟩)) rfl (by kernel_rfl) (by kernel_rfl) (by kernel_rfl) (by kernel_rfl) (fun _ _ _ h => h) (Or.inl ⟨by kernel_rfl, fun _ _ => by kernel_rfl⟩) hS ?_
    simp only [List.setIfInBounds_toArray, List.set_cons_zero, List.set_cons_succ]
    refine wpAnyH_put (i := 20) (d := 42) (v := .pointer (some ⟨S, 1, none⟩)) rfl (by kernel_rfl) (by kernel_rfl) (by kernel_rfl) (by kernel_rfl) (fun _ _ _ h => h) (Or.inl ⟨by kernel_rfl, fun _ _ => by kernel_rfl⟩) hS ?_
    simp only [List.setIfInBounds_toArray, List.set_cons_zero, List.set_cons_succ]
    refine wpAnyH_one (r := 21) (by kernel_rfl) ?_
    refine wpOp_do rfl (by kernel_rfl) (fun K' hK => ?_)
    go_simp
    have h21 := CN.out _ R2.out
    refine hK.out _ _ ⟨h21, ?_⟩
    clear hS
    have hS := h21
    clear hK K'
    refine wpAnyH_put (i := 22) (d := 43) (v := .pointer (some ⟨S, 0, none⟩)) rfl (by kernel_rfl) (by kernel_rfl) (by kernel_rfl) (by kernel_rfl) (fun _ _ _ h => h) (Or.inl ⟨by kernel_rfl, fun _ _ => by kernel_rfl⟩) hS ?_
    simp only [List.setIfInBounds_toArray, List.set_cons_zero, List.set_cons_succ]
    refine wpAnyH_put (i := 23) (d := 44) (v := .pointer (some ⟨S, 2, none⟩)) rfl (by kernel_rfl) (by kernel_rfl) (by kernel_rfl) (by kernel_rfl) (fun _ _ _ h => h) (Or.inl ⟨by kernel_rfl, fun _ _ => by kernel_rfl⟩) hS ?_
    simp only [List.setIfInBounds_toArray, List.set_cons_zero, List.set_cons_succ]
    refine wpAnyH_one (r := 24) (by kernel_rfl) ?_
    refine wpOp_do rfl (by kernel_rfl) (fun K' hK => ?_)
    go_simp
    have h24 := CN.out _ R3.out
    refine hK.out _ _ ⟨h24, ?_⟩
    clear hS
    have hS := h24
    clear hK K'
    refine wpAnyH_put (i := 25) (d := 45) (v := .pointer (some ⟨S, 0, none⟩)) rfl (by kernel_rfl) (by kernel_rfl) (by kernel_rfl) (by kernel_rfl) (fun _ _ _ h => h) (Or.inl ⟨by kernel_rfl, fun _ _ => by kernel_rfl⟩) hS ?_
    simp only [List.setIfInBounds_toArray, List.set_cons_zero, List.set_cons_succ]
    refine wpAnyH_put (i := 26) (d := 46) (v := .pointer (some ⟨S, 3, none⟩)) rfl (by kernel_rfl) (by kernel_rfl) (by kernel_rfl) (by kernel_rfl) (fun _ _ _ h => h) (Or.inl ⟨by kernel_rfl, fun _ _ => by kernel_rfl⟩) hS ?_
    simp only [List.setIfInBounds_toArray, List.set_cons_zero, List.set_cons_succ]
    refine wpAnyH_one (r := 27) (by kernel_rfl) ?_
    refine wpOp_do rfl (by kernel_rfl) (fun K' hK => ?_)
    go_simp
    have h27 := CN.out _ R4.out
    refine hK.out _ _ ⟨h27, ?_⟩
    clear hS
    clear hK K'
    refine wpAnyH_done (by kernel_rfl) ?_ _
    go_wp2_with fail
    go_ret
    rw [HN.out]
    exact OrdP.yes G4.out S4.out
  · have HN := hid (show heapO s ws = none by rw [heapO, hi, Option.bind_some, if_neg h4])
    clear hi
    go_enter Tryd.func36, Tryd.ntmps36
    go_wp2_with fail
    refine hI.mono ?_
    rintro e w1 ⟨hb, nv, rfl, hown⟩
    have H1 := hid (HS.out.below hb)
    obtain ⟨na, nm, nc, rfl, hnm⟩ := own_sl3 hown
    have h4' : ((nm : Int) != 4) = true := by simp; omega
    have h11 := below_cell hb h1
    clear hI hown hnm h4
    go_wp2_with fail
    go_ret
    rw [HN.out]
    exact OrdP.no (Gb.below hb HS.out.bw) (.inl rfl) H1.out
end Go.Proofs.YtcefihmnnndleaaDoor
