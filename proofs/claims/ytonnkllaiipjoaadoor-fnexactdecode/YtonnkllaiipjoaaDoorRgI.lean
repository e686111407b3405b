import Derived.Test.YtonnkllaiipjoaaDoorRgH
namespace Go.Proofs.YtonnkllaiipjoaaDoor
open Go.ChangeShapes Go.WideShapes Go.ChangeAt Go.RowKit
set_option linter.unusedVariables false

theorem rs_nat {k : Nat} (h : k < 12) : rs (k : Int) = rsN k := by rw [rs_in ⟨by omega, by omega⟩]; rfl

/-- a place under way in block G beside the one that is given back -/
structure Two (w : World) (g G : Nat) (cs : Array Value) (W : World) : Prop where
  rt : Rt w g W
  row : W.heap[G]? = some (.cells cs 30 (0, 0))
  ne : g < G
theorem Rt.lt {w v : World} {g : Nat} (h : Rt w g v) : g < v.heap.size := by
  by_cases hl : g < v.heap.size
  · exact hl
  · have : v.heap[g]? = none := Array.getElem?_eq_none (by omega)
    have h1 := h.blk
    rw [this] at h1; cases h1
theorem Two.first {w v : World} {g : Nat} (h : Rt w g v) (cs : Array Value) : Two w g v.heap.size cs ((v.alloc (.cells z6 30)).setRow v.heap.size cs) :=
  ⟨h.below (Below.setRow ((Below.refl _ _).alloc (Nat.le_refl _) _) (Nat.le_refl _) _), row_set (al_last _ _) _, h.lt⟩
theorem Two.below {w v v' : World} {g G : Nat} {cs : Array Value} (h : Two w g G cs v) (hb : Below v.heap.size v v') : Two w g G cs v' := by
  have hl : G < v.heap.size := by
    by_cases hl : G < v.heap.size
    · exact hl
    · have : v.heap[G]? = none := Array.getElem?_eq_none (by omega)
      have h1 := h.row
      rw [this] at h1; cases h1
  exact ⟨h.rt.below hb, by rw [hb.block G hl]; exact h.row, h.ne⟩
theorem Two.set {w v : World} {g G : Nat} {cs : Array Value} (h : Two w g G cs v) (i : Nat) (x : Value) : Two w g G (cs.setIfInBounds i x) (v.setCell ⟨G, i, none⟩ x) := by
  have hne : G ≠ g := by have := h.ne; omega
  refine ⟨⟨?_, h.rt.bel.setCell (p := ⟨G, i, none⟩) (by have := h.rt.new; have := h.ne; show _ ≤ G; omega) _, h.rt.new⟩, ?_, h.ne⟩
  · have := h.rt.blk
    rw [Below.heap_setCell _ _ _ _ (by exact Ne.symm hne)]
    exact this
  · simp [World.setCell, Array.getElem?_modify, h.row]
theorem Two.cell {w v : World} {g G : Nat} {cs : Array Value} (h : Two w g G cs v) (i : Nat) : v.cell? ⟨G, i, none⟩ = cs[i]? := by
  simp [World.cell?, h.row]
theorem Two.free {w v : World} {g G : Nat} {cs : Array Value} (h : Two w g G cs v) (i : Nat) : v.frozen? ⟨G, i, none⟩ = false := by
  simp [World.frozen?, h.row]

set_option maxRecDepth 8000 in
set_option maxHeartbeats 2000000 in
theorem sp_Decode_near (a : Int) (ha0 : 0 ≤ a) (hn : a < 191488) (w : World) :
    Calls Tryd.prog 27 #[.int .u64 a] w fun e w' => (∃ v, Dec a v ∧ e = .returned v) ∧ Below w.heap.size w w' := by
  have R1 := hid (Rt.first w)
  have IA := hid sp_ArenaPages
  have IL := hid sp_LargeStart
  have I4 := hid sp_l4Slab
  have IG := hid sp_SlabPages
  have IZ := hid sp_SlotSize
  have IN := hid sp_SlabSlots
  unfold z6 at *
  go_enter Tryd.func27, Tryd.ntmps27
  go_wp2_with fail
  generalize w.alloc (Obj.cells #[Value.int IntKind.i64 0, Value.int IntKind.i64 0, Value.int IntKind.i64 0, Value.int IntKind.i64 0, Value.int IntKind.i64 0, Value.int IntKind.i64 0] 30) = v at R1 ⊢
  generalize w.heap.size = g at R1 ⊢
  refine (IA.out _).mono ?_
  rintro e w2 ⟨rfl, b2⟩
  have R2 := hid (R1.out.below b2)
  clear b2 R1 IA
  have t2 : a / 1024 < 187 := by omega
  go_wp2_with fail
  refine (IL.out _).mono ?_
  rintro e w3 ⟨rfl, b3⟩
  have R3 := hid (R2.out.below b3)
  clear b3 R2 IL
  go_wp2
  have e1 : decide (289792 ≤ a) = false := decide_eq_false (by omega)
  have e3 : decide (187 ≤ a / 1024) = false := decide_eq_false (by omega)
  simp only [e1, e3]
  clear e1 e3
  go_loopw [5] (fun c wr => ∃ k : Nat, k ≤ 12 ∧ c = .int .i64 k ∧ (1024 ≤ a → rsN k ≤ a / 1024) ∧ Hid (Rt w g wr)) (fun c _ => 12 - (intOf c).toNat)
  case atStart => exact ⟨0, by omega, rfl, fun h => by simp only [rsN]; omega, R3⟩
  case round =>
    obtain ⟨k, hk, rfl, hrk, HR⟩ := hrel
    by_cases hlt : k < 12
    · have HK := hid hrk
      clear hrk
      obtain ⟨wo, rfl⟩ : ∃ wo : World, wo = wr := ⟨_, rfl⟩
      go_wp2
      have hpk := pg_in (c := (k : Int)) ⟨by omega, by omega⟩
      have hrs := rsN_le k
      have I4k := hid (fun (s : Int) (h0 : -1000 ≤ s) (h1 : s ≤ 1000) W => I4.out (k : Int) s h0 h1 W)
      rw [rs_nat hlt] at I4k
      have e4 : decide ((k : Int) < 12) = true := decide_eq_true (by omega)
      simp only [e4]
      clear e4
      go_loopw [6] (fun s wr => ∃ j : Nat, j ≤ 6 ∧ s = .int .i64 j ∧ (1024 ≤ a → rsN k + j * (pg (k : Int) + 1) ≤ a / 1024) ∧ Hid (Rt w g wr)) (fun s _ => 6 - (intOf s).toNat)
      case atStart => exact ⟨0, by omega, rfl, fun h => by have := HK.out h; omega, HR⟩
      case round =>
        obtain ⟨j, hj, rfl, hrj, HRj⟩ := hrel
        by_cases hjlt : j < 6
        · have hm : 0 ≤ (j : Int) * (pg (k : Int) + 1) ∧ (j : Int) * (pg (k : Int) + 1) ≤ 25 := by
            have : pg (k : Int) = 1 ∨ pg (k : Int) = 2 ∨ pg (k : Int) = 3 ∨ pg (k : Int) = 4 := by omega
            rcases this with e | e | e | e <;> rw [e] <;> omega
          have hm1 : ((j + 1 : Nat) : Int) * (pg (k : Int) + 1) = (j : Int) * (pg (k : Int) + 1) + pg (k : Int) + 1 := by
            have : pg (k : Int) = 1 ∨ pg (k : Int) = 2 ∨ pg (k : Int) = 3 ∨ pg (k : Int) = 4 := by omega
            rcases this with e | e | e | e <;> rw [e] <;> omega
          by_cases hz : a < 1024
          · go_wp2_with fail
            refine (I4k.out _ (by omega) (by omega) _).mono ?_
            rintro e w5 ⟨rfl, b5⟩
            have R5 := hid (HRj.out.below b5)
            clear b5 HRj hrj hm1
            generalize (j : Int) * (pg (k : Int) + 1) = m at hm
            generalize rsN k = r at *
            have tl : a / 1024 < r + m := by omega
            go_wp2
            go_roundw
            case rel => exact ⟨j + 1, by omega, by go_num, fun h => by omega, R5⟩
            case measure => simp [intOf]; omega
          · have hrj1 := hrj (by omega)
            go_wp2_with fail
            refine (I4k.out _ (by omega) (by omega) _).mono ?_
            rintro e w5 ⟨rfl, b5⟩
            have R5 := hid (HRj.out.below b5)
            clear b5 HRj hrj
            have HD := hid (fun (h : a / 1024 ≤ rsN k + (j : Int) * (pg (k : Int) + 1) + pg (k : Int)) => Dec.slab a (k : Int) (j : Int) (by omega) hn ⟨by omega, by omega, by omega, by omega, by rw [rs_nat hlt]; exact hrj1, by rw [rs_nat hlt]; exact h⟩)
            rw [rs_nat hlt] at HD
            have IGk := hid (fun W => IG.out (k : Int) W)
            generalize hM : (j : Int) * (pg (k : Int) + 1) = m at *
            generalize hRk : rsN k = r at *
            generalize hP : pg (k : Int) = p at *
            go_wp2_with fail
            refine (IGk.out _).mono ?_
            rintro e w6 ⟨rfl, b6⟩
            have R6 := hid (R5.out.below b6)
            clear b6 R5
            by_cases hhit : a / 1024 ≤ r + m + p
            · have HD1 := hid (HD.out hhit)
              clear HD
              have P6 := hid (Two.first R6.out #[.int .i64 1, .int .i64 (k : Int), .int .i64 (j : Int), .int .i64 0, .int .i64 0, .int .i64 0])
              have hoff : 0 ≤ a - (r + m) * 1024 ∧ a - (r + m) * 1024 < 5120 := by omega
              unfold z6 at P6
              go_wp2_with (refine wpList_store_row rfl 30 _ _ rfl _ _ rfl rfl 30 _ (al_last _ _) (by kernel_rfl) rfl (by simp [Value.oneCell']) ?_; generalize World.setRow _ _ _ = W6 at P6 ⊢)
              have hs := sz_in (c := (k : Int)) ⟨by omega, by omega⟩
              have hl := sl_in (c := (k : Int)) ⟨by omega, by omega⟩
              have hls : 0 ≤ sl (k : Int) * sz (k : Int) ∧ sl (k : Int) * sz (k : Int) ≤ p * 1024 := ⟨Int.mul_nonneg (by omega) (by omega), by rw [← hP]; exact hl.2.2.2⟩
              have hl' : 4 ≤ sl (k : Int) ∧ sl (k : Int) ≤ 64 := ⟨hl.1, hl.2.1⟩
              have HPL := hid (show plO (k : Int) (j : Int) (a - (r + m) * 1024) = (if p * 1024 ≤ a - (r + m) * 1024 then pl 1 k j 0 0 0 else if sl (k : Int) * sz (k : Int) ≤ a - (r + m) * 1024 then pl 2 k j 0 0 (a - (r + m) * 1024 - sl (k : Int) * sz (k : Int)) else pl 3 k j ((a - (r + m) * 1024) / sz (k : Int)) 0 ((a - (r + m) * 1024) % sz (k : Int))) from by unfold plO; rw [hP])
              rw [HPL.out] at HD1
              have IZk := hid (fun W => IZ.out (k : Int) W)
              have INk := hid (fun W => IN.out (k : Int) W)
              clear HPL hl
              generalize sz (k : Int) = s at hs hls HD1 IZk
              generalize sl (k : Int) = l at hls hl' HD1 INk
              have hdv : l ≤ (a - (r + m) * 1024) / s ↔ l * s ≤ a - (r + m) * 1024 := Int.le_ediv_iff_mul_le (by omega)
              have hdn : 0 ≤ (a - (r + m) * 1024) / s ∧ (a - (r + m) * 1024) / s ≤ 5120 := ⟨Int.ediv_nonneg hoff.1 (by omega), Int.le_trans (Int.ediv_le_self _ hoff.1) (by omega)⟩
              have hmd : 0 ≤ (a - (r + m) * 1024) % s ∧ (a - (r + m) * 1024) % s < s := ⟨Int.emod_nonneg _ (by omega), Int.emod_lt_of_pos _ (by omega)⟩
              clear hm1 hM hRk hP I4 IG IZ IN I4k
              refine (IZk.out _).mono ?_
              rintro e w7 ⟨rfl, b7⟩
              have P7 := hid (P6.out.below b7)
              clear b7 P6 R6
              generalize w6.heap.size = G at P7 ⊢
              go_wp2_with fail
              refine (IGk.out _).mono ?_
              rintro e w8 ⟨rfl, b8⟩
              have P8 := hid (P7.out.below b8)
              clear b8 P7
              by_cases tg : p * 1024 ≤ a - (r + m) * 1024
              · have tgb : (a / 1024 == r + m + p) = true := by simp; omega
                rw [if_pos tg] at HD1
                have P9 := P8
                clear P8 hdv
                go_wp2_with (first | (refine wpList_load_row rfl 30 _ rfl _ rfl _ _ _ _ P9.out.row Tryd.underlying30 rfl (by kernel_rfl) ?_) | (refine wpList_store_row rfl 30 _ _ rfl g _ rfl rfl 30 z6 P9.out.rt.blk (by kernel_rfl) rfl (by simp [Value.oneCell']) ?_))
                refine bodyPost_ret (results_cell_row (by rfl) _ _ g 30 _ (0, 0) _ (by rfl) (P9.out.rt.row _) Tryd.underlying30 rfl (by kernel_rfl)) (by rfl) ?_
                exact ⟨⟨_, HD1.out, rfl⟩, P9.out.rt.done _⟩
              · have tgb : (a / 1024 == r + m + p) = false := by simp; omega
                rw [if_neg tg] at HD1
                go_wp2_with fail
                refine (INk.out _).mono ?_
                rintro e w9 ⟨rfl, b9⟩
                have P9 := hid (P8.out.below b9)
                clear b9 P8
                by_cases tt : l * s ≤ a - (r + m) * 1024
                · have ttb : l ≤ (a - (r + m) * 1024) / s := hdv.2 tt
                  rw [if_pos tt] at HD1
                  clear hdv
                  have c0 : w9.cell? ⟨G, 0, none⟩ = some (.int .i64 1) := P9.out.cell 0
                  have f0 := P9.out.free 0
                  have PA := hid (show Two w g G #[.int .i64 2, .int .i64 (k : Int), .int .i64 (j : Int), .int .i64 0, .int .i64 0, .int .i64 0] (w9.setCell ⟨G, 0, none⟩ (.int .i64 2)) from P9.out.set 0 _)
                  clear P9
                  go_wp2_with fail
                  refine (INk.out _).mono ?_
                  rintro e wA ⟨rfl, bA⟩
                  have PB := hid (PA.out.below bA)
                  clear bA PA c0 f0
                  go_wp2_with fail
                  refine (IZk.out _).mono ?_
                  rintro e wB ⟨rfl, bB⟩
                  have PC := hid (PB.out.below bB)
                  clear bB PB
                  have c5 : wB.cell? ⟨G, 5, none⟩ = some (.int .i64 0) := PC.out.cell 5
                  have f5 := PC.out.free 5
                  have PD := hid (show Two w g G #[.int .i64 2, .int .i64 (k : Int), .int .i64 (j : Int), .int .i64 0, .int .i64 0, .int .i64 (a - (r + m) * 1024 - l * s)] (wB.setCell ⟨G, 5, none⟩ (.int .i64 (a - (r + m) * 1024 - l * s))) from PC.out.set 5 _)
                  clear PC
                  go_wp2_with (first | (refine wpList_load_row rfl 30 _ rfl _ rfl _ _ _ _ PD.out.row Tryd.underlying30 rfl (by kernel_rfl) ?_) | (refine wpList_store_row rfl 30 _ _ rfl g _ rfl rfl 30 z6 PD.out.rt.blk (by kernel_rfl) rfl (by simp [Value.oneCell']) ?_))
                  refine bodyPost_ret (results_cell_row (by rfl) _ _ g 30 _ (0, 0) _ (by rfl) (PD.out.rt.row _) Tryd.underlying30 rfl (by kernel_rfl)) (by rfl) ?_
                  exact ⟨⟨_, HD1.out, rfl⟩, PD.out.rt.done _⟩
                · have ttb : (a - (r + m) * 1024) / s < l := by
                    apply Int.not_le.1
                    intro h
                    exact tt (hdv.1 h)
                  rw [if_neg tt] at HD1
                  clear hdv
                  have c0 : w9.cell? ⟨G, 0, none⟩ = some (.int .i64 1) := P9.out.cell 0
                  have c3 : w9.cell? ⟨G, 3, none⟩ = some (.int .i64 0) := P9.out.cell 3
                  have f0 := P9.out.free 0
                  have f3 := P9.out.free 3
                  have PA := hid (show Two w g G #[.int .i64 3, .int .i64 (k : Int), .int .i64 (j : Int), .int .i64 ((a - (r + m) * 1024) / s), .int .i64 0, .int .i64 0] ((w9.setCell ⟨G, 0, none⟩ (.int .i64 3)).setCell ⟨G, 3, none⟩ (.int .i64 ((a - (r + m) * 1024) / s))) from (P9.out.set 0 _).set 3 _)
                  clear P9
                  go_wp2_with fail
                  refine (IZk.out _).mono ?_
                  rintro e wB ⟨rfl, bB⟩
                  have PC := hid (PA.out.below bB)
                  clear bB PA c0 c3 f0 f3
                  have c5 : wB.cell? ⟨G, 5, none⟩ = some (.int .i64 0) := PC.out.cell 5
                  have f5 := PC.out.free 5
                  have PD := hid (show Two w g G #[.int .i64 3, .int .i64 (k : Int), .int .i64 (j : Int), .int .i64 ((a - (r + m) * 1024) / s), .int .i64 0, .int .i64 ((a - (r + m) * 1024) % s)] (wB.setCell ⟨G, 5, none⟩ (.int .i64 ((a - (r + m) * 1024) % s))) from PC.out.set 5 _)
                  clear PC
                  go_wp2_with (first | (refine wpList_load_row rfl 30 _ rfl _ rfl _ _ _ _ PD.out.row Tryd.underlying30 rfl (by kernel_rfl) ?_) | (refine wpList_store_row rfl 30 _ _ rfl g _ rfl rfl 30 z6 PD.out.rt.blk (by kernel_rfl) rfl (by simp [Value.oneCell']) ?_))
                  refine bodyPost_ret (results_cell_row (by rfl) _ _ g 30 _ (0, 0) _ (by rfl) (PD.out.rt.row _) Tryd.underlying30 rfl (by kernel_rfl)) (by rfl) ?_
                  exact ⟨⟨_, HD1.out, rfl⟩, PD.out.rt.done _⟩
            · go_wp2
              go_roundw
              case rel =>
                exact ⟨j + 1, by omega, by go_num, fun h => by rw [hRk, hP, hm1]; omega, R6⟩
              case measure => simp [intOf]; omega
        · have hj6 : j = 6 := by omega
          subst hj6
          go_wp2
          go_roundw
          case rel => exact ⟨k + 1, by omega, by go_num, fun h => by have := hrj h; rw [rsN_step k hlt]; omega, HRj⟩
          case measure => simp [intOf]; omega
    · have hk12 : k = 12 := by omega
      subst hk12
      have hz : a < 1024 := by
        apply Int.not_le.1
        intro h
        have := hrk h
        rw [rsN_12] at this
        omega
      clear hrk
      go_wp2_with (refine wpList_store_row rfl 30 _ _ rfl g _ rfl rfl 30 z6 HR.out.blk (by kernel_rfl) rfl (by simp [Value.oneCell']) ?_)
      refine bodyPost_ret (results_cell_row (by rfl) _ _ g 30 _ (0, 0) _ (by rfl) (HR.out.row _) Tryd.underlying30 rfl (by kernel_rfl)) (by rfl) ?_
      exact ⟨⟨_, .zero a ha0 hz, rfl⟩, HR.out.done _⟩

theorem sp_Decode (a : Int) (ha0 : 0 ≤ a) (ha1 : a ≤ 18446744073709551615) (w : World) :
    Calls Tryd.prog 27 #[.int .u64 a] w fun e w' => (∃ v, Dec a v ∧ e = .returned v) ∧ Below w.heap.size w w' := by
  by_cases h : 191488 ≤ a
  · exact sp_Decode_far a ha0 ha1 h w
  · exact sp_Decode_near a ha0 (by omega) w
end Go.Proofs.YtonnkllaiipjoaaDoor
