import Derived.Test.YtonnkllaiipjoaaDoorRgF
import Derived.Deep.DeepCutAuto
import Derived.Deep.LoopGhost
import Derived.Deep.CutBlock
namespace Go.Proofs.YtonnkllaiipjoaaDoor
open Go.ChangeShapes Go.WideShapes Go.ChangeAt Go.RowKit
set_option linter.unusedVariables false

theorem row_set {v : World} {g : Nat} {old : Array Value} {t : TypeId} (h : v.heap[g]? = some (.cells old t (0, 0))) (cs : Array Value) : (v.setRow g cs).heap[g]? = some (.cells cs t (0, 0)) := by
  simp [World.setRow, Array.getElem?_modify, h]

theorem plO_agg (c s o : Int) : ∃ cs : Array Value, plO c s o = .agg cs ∧ cs.size = 6 ∧ cs.all (·.oneCell') = true := by
  unfold plO
  split
  · exact ⟨_, rfl, rfl, by simp [Value.oneCell']⟩
  · split
    · exact ⟨_, rfl, rfl, by simp [Value.oneCell']⟩
    · exact ⟨_, rfl, rfl, by simp [Value.oneCell']⟩

set_option maxHeartbeats 1000000 in
theorem im_Decode (a : Int) (ha0 : 0 ≤ a) (ha1 : a ≤ 18446744073709551615) (w : World) (ht : Tb w) :
    Calls Tryd.prog 15 #[.int .u64 a] w fun e w' => (∃ v, Dec a v ∧ e = .returned v) ∧ Below w.heap.size w w' := by
  have R1 := hid (Rt.first w)
  have T1 := hid (ht.below R1.out.bel)
  have IA := hid im_ArenaPages
  have IS := hid im_regionStarts
  have IP := hid im_placeInRegion
  clear ht
  unfold z6 at *
  go_enter Tryd.func15, Tryd.ntmps15
  go_wp2_with fail
  generalize w.alloc (Obj.cells #[Value.int IntKind.i64 0, Value.int IntKind.i64 0, Value.int IntKind.i64 0, Value.int IntKind.i64 0, Value.int IntKind.i64 0, Value.int IntKind.i64 0] 30) = v at R1 T1 ⊢
  generalize w.heap.size = g at R1 ⊢
  refine (IA.out _ T1.out).mono ?_
  rintro e w2 ⟨rfl, b2⟩
  have R2 := hid (R1.out.below b2)
  have T2 := hid (T1.out.below b2)
  clear b2 R1 T1
  by_cases h1 : 289792 ≤ a
  · have RD := hid R2.out.done
    have RR := hid R2.out.row
    have RB := hid R2.out.blk
    clear R2
    go_wp2_with (refine wpList_store_row rfl 30 _ _ rfl g _ rfl rfl 30 z6 RB.out (by kernel_rfl) rfl (by simp [Value.oneCell']) ?_)
    refine bodyPost_ret (results_cell_row (by rfl) _ _ g 30 _ (0, 0) _ (by rfl) (RR.out _) Tryd.underlying30 rfl (by kernel_rfl)) (by rfl) ?_
    exact ⟨⟨_, .out a h1, rfl⟩, RD.out _⟩
  · by_cases h2 : a < 1024
    · have RD := hid R2.out.done
      have RR := hid R2.out.row
      have RB := hid R2.out.blk
      clear R2
      have t2 : a / 1024 < 1 := by omega
      go_wp2_with (refine wpList_store_row rfl 30 _ _ rfl g _ rfl rfl 30 z6 RB.out (by kernel_rfl) rfl (by simp [Value.oneCell']) ?_)
      refine bodyPost_ret (results_cell_row (by rfl) _ _ g 30 _ (0, 0) _ (by rfl) (RR.out _) Tryd.underlying30 rfl (by kernel_rfl)) (by rfl) ?_
      exact ⟨⟨_, .zero a ha0 h2, rfl⟩, RD.out _⟩
    · have t2 : 1 ≤ a / 1024 := by omega
      go_wp2_with fail
      refine (IS.out _ T2.out).mono ?_
      rintro e w3 ⟨rfl, b3⟩
      have R3 := hid (R2.out.below b3)
      have T3 := hid (T2.out.below b3)
      clear b3 R2 T2
      have B4 : Below w3.heap.size w3 ((w3.alloc (.cells zeroA 46)).setRow w3.heap.size (stA 12)) := Below.setRow ((Below.refl _ _).alloc (Nat.le_refl _) _) (Nat.le_refl _) _
      have R4 := hid (R3.out.below B4)
      have T4 := hid (T3.out.below B4)
      have A3 := hid (al_last w3 (.cells zeroA 46))
      have C4 : Hid (∀ k : Nat, k < 13 → ((w3.alloc (.cells zeroA 46)).setRow w3.heap.size (stA 12)).cell? ⟨w3.heap.size, k, none⟩ = some (.int .i64 (rsN k))) := hid (fun k hk => by
        have h := stA_get 12 k hk
        rw [if_pos (by omega)] at h
        have e := row_set A3.out (stA 12)
        simp only [World.cell?, e]
        exact h)
      have hall := hid (show (stA 12).all (·.oneCell') = true by kernel_rfl)
      have hsz := hid (show zeroA.size = (stA 12).size by rw [stA_size]; rfl)
      clear B4 R3 T3
      generalize stA 12 = A at C4 R4 T4 hall hsz ⊢
      unfold zeroA at *
      by_cases h3 : 191488 ≤ a
      · have t3 : 187 ≤ a / 1024 := by omega
        go_wp2_with (first | (refine wpList_store_row rfl 46 _ _ rfl _ _ rfl rfl 46 _ A3.out (by kernel_rfl) hsz.out hall.out ?_; generalize World.setRow _ _ _ = W4 at C4 R4 T4 ⊢; have c12 := C4.out 12 (by omega); rw [rsN_12] at c12) | (refine wpList_store_row rfl 30 _ _ rfl g _ rfl rfl 30 z6 R4.out.blk (by kernel_rfl) rfl (by simp [Value.oneCell']) ?_))
        refine bodyPost_ret (results_cell_row (by rfl) _ _ g 30 _ (0, 0) _ (by rfl) (R4.out.row _) Tryd.underlying30 rfl (by kernel_rfl)) (by rfl) ?_
        exact ⟨⟨_, .large a h3 (by omega), rfl⟩, R4.out.done _⟩
      · have t3 : a / 1024 < 187 := by omega
        go_wp2_with (first | (refine wpList_store_row rfl 46 _ _ rfl _ _ rfl rfl 46 _ A3.out (by kernel_rfl) hsz.out hall.out ?_; generalize World.setRow _ _ _ = W4 at C4 R4 T4 ⊢; have c12 := C4.out 12 (by omega); rw [rsN_12] at c12) | (refine wpList_store_row rfl 30 _ _ rfl g _ rfl rfl 30 z6 R4.out.blk (by kernel_rfl) rfl (by simp [Value.oneCell']) ?_))
        have e1 : decide (289792 ≤ a) = false := decide_eq_false (by omega)
        have e2 : decide (a / 1024 < 1) = false := decide_eq_false (by omega)
        have e3 : decide (187 ≤ a / 1024) = false := decide_eq_false (by omega)
        simp only [e1, e2, e3]
        clear e1 e2 e3 hall hsz A3
        go_loop [6] (fun c => ∃ k : Nat, k < 12 ∧ c = .int .i64 k ∧ rsN k ≤ a / 1024) (fun c => 12 - (intOf c).toNat)
        case atStart => exact ⟨0, by omega, rfl, by simp only [rsN]; omega⟩
        case round =>
          obtain ⟨k, hk, rfl, hrk⟩ := hrel
          have ck := C4.out (k + 1) (by omega)
          have ck0 := C4.out k (by omega)
          have hn1 := rsN_le k
          have hst := rsN_step k hk
          have hpk := pg_in (c := (k : Int)) ⟨by omega, by omega⟩
          by_cases hgo : rsN (k + 1) ≤ a / 1024
          · have hk1 : k + 1 < 12 := by
              apply Nat.lt_of_le_of_ne (by omega)
              intro e
              rw [e, rsN_12] at hgo
              omega
            have HG := hid hgo
            generalize rsN (k + 1) = r1 at ck hgo hst
            clear hst
            go_wp2
            go_round
            case rel => exact ⟨k + 1, hk1, by go_num, HG.out⟩
            case measure => simp [intOf]; omega
          · have hb0 : 0 ≤ (a / 1024 - rsN k) * 1024 + a % 1024 := by omega
            have hb1 : (a / 1024 - rsN k) * 1024 + a % 1024 < 6 * ((pg (k : Int) + 1) * 1024) := by omega
            have IPk := hid (IP.out (k : Int) _ W4 T4.out ⟨by omega, by omega⟩ hb0 hb1)
            have HD : Hid (Dec a (plO (k : Int) (((a / 1024 - rsN k) * 1024 + a % 1024) / ((pg (k : Int) + 1) * 1024)) (((a / 1024 - rsN k) * 1024 + a % 1024) % ((pg (k : Int) + 1) * 1024)))) := hid (by
              have ers : rs (k : Int) = rsN k := by rw [rs_in ⟨by omega, by omega⟩]; rfl
              have key : Hit (a / 1024) (k : Int) (((a / 1024 - rsN k) * 1024 + a % 1024) / ((pg (k : Int) + 1) * 1024)) ∧ ((a / 1024 - rsN k) * 1024 + a % 1024) % ((pg (k : Int) + 1) * 1024) = a - (rs (k : Int) + (((a / 1024 - rsN k) * 1024 + a % 1024) / ((pg (k : Int) + 1) * 1024)) * (pg (k : Int) + 1)) * 1024 := by
                rw [ers]
                have : pg (k : Int) = 1 ∨ pg (k : Int) = 2 ∨ pg (k : Int) = 3 ∨ pg (k : Int) = 4 := by omega
                generalize rsN (k + 1) = r1 at *
                clear IPk IP IA IS C4 R4 T4 ck ck0
                rcases this with e | e | e | e <;> rw [e] at hst hb1 ⊢ <;> refine ⟨⟨by omega, by omega, by omega, by omega, by rw [ers, e]; omega, by rw [ers, e]; omega⟩, by omega⟩
              rw [key.2]
              exact .slab a _ _ (by omega) (by omega) key.1)
            obtain ⟨cs, ecs, hcs, hone⟩ := plO_agg (k : Int) (((a / 1024 - rsN k) * 1024 + a % 1024) / ((pg (k : Int) + 1) * 1024)) (((a / 1024 - rsN k) * 1024 + a % 1024) % ((pg (k : Int) + 1) * 1024))
            rw [ecs] at IPk HD
            have hgo' : a / 1024 < rsN (k + 1) := by omega
            generalize rsN (k + 1) = r1 at ck hgo' hst
            generalize rsN k = r0 at *
            clear hst hgo
            go_wp2_with fail
            refine (IPk.out).mono ?_
            rintro e w5 ⟨rfl, b5⟩
            have R5 := hid (R4.out.below b5)
            have hcz := hid (show z6.size = cs.size by rw [hcs]; rfl)
            have hci := hid (show (Tryd.prog.info? 30).map (·.size) = some cs.size by rw [hcs]; kernel_rfl)
            have HO := hid hone
            clear b5 R4 T4 C4 ck ck0 c12 hcs hone
            go_wp2_with (refine wpList_store_row rfl 30 _ _ rfl g cs rfl rfl 30 z6 R5.out.blk hci.out hcz.out HO.out ?_)
            refine bodyPost_ret (results_cell_row (by rfl) _ _ g 30 cs (0, 0) _ (by rfl) (R5.out.row _) Tryd.underlying30 rfl hci.out) (by rfl) ?_
            exact ⟨⟨_, HD.out, rfl⟩, R5.out.done _⟩
end Go.Proofs.YtonnkllaiipjoaaDoor
