import Derived.Below
import Derived.BigGuardIn
import Derived.BigQuiet
import Derived.BigRegionIn
import Derived.Conc.MuLone
import Derived.Deep.AppendLies
import Derived.Deep.CutBlock
import Derived.Deep.DeepCutAuto
import Derived.Deep.LoopGhost
import Derived.Deep.MidRow
import Derived.Deep.OwnRows
import Derived.Deep.QuietTactic
import Derived.Deep.RegionHeld
import Derived.Deep.RegionLaw
import Derived.Deep.RegionWith
import Derived.KernelRfl
import Derived.Laws.Bits64b
import Derived.Laws.BytesString
import Derived.Laws.CopyOwn
import Derived.Laws.OwnMore
import Derived.Laws.Rows
import Derived.Laws.Tables
import Derived.Lib.SmallJoins
import Derived.LoopIn
import Derived.LoopNIn
import Derived.Maps.AppendAt
import Derived.Maps.OwnOps
import Derived.Maps.OwnSet
import Derived.OpenShut
import Derived.OrdersHeld
import Derived.OwnWalkIn
import Derived.ProofKit
import Derived.RangeFuncBound
import Derived.RangeFuncCalls
import Derived.RangeFuncLeaves
import Derived.RangeFuncNested
import Derived.Shelf.Abstract
import Derived.Shelf.Bits.Mul64
import Derived.Shelf.RegionOpen
import Derived.TacticsInMore
import Derived.Test.YtacccpkmgkojiaaGreatDoorRRProg
import Derived.WalkKit
import Derived.WalkLawsBesides
import Derived.Test.YtacccpkmgkojiaaGreatDoorRRM00
import Derived.Test.YtacccpkmgkojiaaGreatDoorRRM01
import Derived.Test.YtacccpkmgkojiaaGreatDoorRRM02
import Derived.Test.YtacccpkmgkojiaaGreatDoorRRM06
import Derived.Test.YtacccpkmgkojiaaGreatDoorRRM08
import Derived.Test.YtacccpkmgkojiaaGreatDoorRRM09
import Derived.Test.YtacccpkmgkojiaaGreatDoorRRM10
import Derived.Test.YtacccpkmgkojiaaGreatDoorRRM14
import Derived.Test.YtacccpkmgkojiaaGreatDoorRRM15
import Derived.Test.YtacccpkmgkojiaaGreatDoorRRM17
import Derived.Test.YtacccpkmgkojiaaGreatDoorRRM50
namespace Go.Proofs.YtacccpkmgkojiaaGreatDoorRR
set_option linter.unusedVariables false
set_option linter.unusedSimpArgs false
set_option maxRecDepth 20000
set_option maxHeartbeats 8000000
open Go.RowKit Go.Shelf Go.Maps
structure Rm (w : World) (B C Y : Nat) (c : Cd) (W : World) : Prop where
  bel : Below w.heap.size w W
  b0 : w.heap.size ≤ B
  c0 : w.heap.size ≤ C
  y0 : w.heap.size ≤ Y
  cy : C ≠ Y
  cb : W.heap[C]? = some (.cells (cdC c).toArray 26 (0, 0))
  yb : W.heap[Y]? = some (.cells #[.int .i64 0, .int .i64 0, .int .i64 0, .int .i64 0, .int .u64 0, .slice none 0 0] 26 (0, 0))
  ok : Ok4 B c W
theorem Rm.below {w : World} {B C Y : Nat} {c : Cd} {W : World} (h : Rm w B C Y c W) {W' : World} (hb : Below W.heap.size W W') : Rm w B C Y c W' :=
  ⟨bl_trans h.bel hb, h.b0, h.c0, h.y0, h.cy, by rw [hb.block _ (lt_blk h.cb)]; exact h.cb, by rw [hb.block _ (lt_blk h.yb)]; exact h.yb, h.ok.kept (grown_of hb W.heap.size) (fun e => by obtain ⟨_, h2⟩ := h.ok.d.lt _ e; omega)⟩
theorem Rm.upd {w : World} {B C Y : Nat} {c : Cd} {W : World} (h : Rm w B C Y c W) (i : Nat) (v : Value) (c' : Cd) (ho : cdC c' = (cdC c).set i v) (hd : Ok4 B c' W) : Rm w B C Y c' (W.setCell ⟨C, i, none⟩ v) := by
  have hg : W.grownBy (W.setCell ⟨C, i, none⟩ v) (some C) := grown_set (grown_refl W C) i v
  refine ⟨h.bel.setCell h.c0 v, h.b0, h.c0, h.y0, h.cy, ?_, ?_, hd.kept hg (own_neT hd.d h.cb (by decide))⟩
  · rw [ho]
    simp [World.setCell, Array.getElem?_modify, h.cb]
  · rw [hg.block Y (lt_blk h.yb) (fun e => by cases e; exact h.cy rfl)]
    exact h.yb
theorem Rm.cells {w : World} {B C Y : Nat} {c : Cd} {W : World} (h : Rm w B C Y c W) : W.cell? ⟨C, 0, none⟩ = some (.int .i64 c.mi) ∧ W.cell? ⟨C, 1, none⟩ = some (.int .i64 c.fi) ∧ W.cell? ⟨C, 2, none⟩ = some (.int .i64 c.la) ∧ W.cell? ⟨C, 3, none⟩ = some (.int .i64 c.bu) ∧ ∀ i, W.frozen? ⟨C, i, none⟩ = false := by
  have := h.cb
  refine ⟨?_, ?_, ?_, ?_, fun i => ?_⟩ <;> simp [World.cell?, World.frozen?, this, cdC]
theorem roomy_any (a : Option Addr) (len cap : Nat) (zs : List Int) (w : World) (h0 : IsRow .u8 w a len cap zs) (hlen : len ≤ 1048576) :
    Calls Tryz.prog 20 #[.slice a len cap] w fun e w' => ∃ (c : Cd) (k B : Nat), k ≤ 255 ∧ e = .returned (.tuple #[.agg (cdC c).toArray, .int .i64 k]) ∧ c.ds.length ≤ 60 ∧ w.heap.size ≤ B ∧ Ok4 B c w' ∧ (0 ≤ c.mi ∧ c.mi ≤ 16) ∧ (1 ≤ c.fi ∧ c.fi ≤ 32) ∧ (1 ≤ c.la ∧ c.la ≤ 16) ∧ c.bu = 283 ∧ Below w.heap.size w w' := by
  have bA := (Below.refl w.heap.size w).alloc (Nat.le_refl _) (.cells #[.int .i64 0, .int .i64 0, .int .i64 0, .int .i64 0, .int .u64 0, .slice none 0 0] 26)
  have AP := hid sp_ArenaPages
  have LB := hid (fun i (hi : i < len) => h0.byte i hi)
  have h1 : IsRow .u8 (w.alloc (.cells #[.int .i64 0, .int .i64 0, .int .i64 0, .int .i64 0, .int .u64 0, .slice none 0 0] 26)) a len cap zs := h0.below bA
  have DR := hid (draw6 a len cap zs _ h1 hlen)
  have Y1 := hid (al_last w (.cells #[.int .i64 0, .int .i64 0, .int .i64 0, .int .i64 0, .int .u64 0, .slice none 0 0] 26))
  have BA := hid bA
  clear h0 h1 bA
  go_enter Tryz.func20, Tryz.ntmps20
  go_wp2_with fail
  generalize w.alloc (.cells #[.int .i64 0, .int .i64 0, .int .i64 0, .int .i64 0, .int .u64 0, .slice none 0 0] 26) = V1 at DR Y1 BA ⊢
  refine DR.out.mono ?_
  rintro e V2 ⟨c, ops, A, n, B, rfl, hcl, hol, hB, ok, -, -, b2⟩
  unfold cdC
  have D0 := hid (show Rm w B V2.heap.size w.heap.size c (V2.alloc (.cells #[.int .i64 c.mi, .int .i64 c.fi, .int .i64 c.la, .int .i64 c.bu, .int .u64 c.ky, .slice c.da c.ds.length c.dc] 26)) from by
    have bC := (Below.refl V2.heap.size V2).alloc (Nat.le_refl _) (.cells #[.int .i64 c.mi, .int .i64 c.fi, .int .i64 c.la, .int .i64 c.bu, .int .u64 c.ky, .slice c.da c.ds.length c.dc] 26)
    have hl := lt_blk Y1.out
    have yb : V2.heap[w.heap.size]? = _ := (b2.block _ hl).trans Y1.out
    have hs := BA.out.size
    have hs2 := b2.size
    exact ⟨bl_trans (bl_trans BA.out b2) bC, by omega, by omega, Nat.le_refl _, by omega, al_last V2 _, by rw [bC.block _ (lt_blk yb)]; exact yb, ⟨ok.k0, ok.k1, ok.dw, ok.d.alloc _⟩⟩)
  have HC := hid hcl
  clear ok b2 hB DR Y1 hcl
  go_upto_if 14 with fail
  generalize V2.alloc (.cells #[.int .i64 c.mi, .int .i64 c.fi, .int .i64 c.la, .int .i64 c.bu, .int .u64 c.ky, .slice c.da c.ds.length c.dc] 26) = V3 at D0 ⊢
  generalize V2.heap.size = C at D0 ⊢
  generalize w.heap.size = Y at D0 ⊢
  go_cut [6, 14] (fun s _ w' => ∃ k : Nat, k ≤ 255 ∧ s = .int .i64 k ∧ w' = V3)
  case first =>
    by_cases hl : 0 < len
    · obtain ⟨m, rfl⟩ : ∃ m, len = m + 1 := ⟨len - 1, by omega⟩
      obtain ⟨x, b, rfl, hb0, hb1, hx⟩ := LB.out m (by omega)
      obtain ⟨b, rfl⟩ := Int.eq_ofNat_of_zero_le hb0
      have hx' := below_cell D0.out.bel hx
      clear hx
      go_wp2
      go_meet
      case rel => exact ⟨b, by omega, rfl, rfl⟩
    · go_wp2
      go_meet
      case rel => exact ⟨0, by omega, rfl, rfl⟩
  case rest =>
    obtain ⟨k, hk, rfl, rfl⟩ := hcut
    go_wp2_with fail
    refine (AP.out _).mono ?_
    rintro e V4 ⟨rfl, b⟩
    have D1 := hid (D0.out.below b)
    clear b D0
    have D2 := hid (D1.out.upd 3 (.int .i64 283) { c with bu := 283 } rfl ⟨D1.out.ok.k0, D1.out.ok.k1, D1.out.ok.dw, D1.out.ok.d⟩)
    obtain ⟨z0, z1, z2, z3, zf⟩ := D1.out.cells
    have zf3 := zf 3
    clear zf
    go_upto_region 6 with fail
    clear z0 z1 z2 z3 zf3 D1
    generalize V4.setCell ⟨C, 3, none⟩ (.int .i64 283) = V5 at D2 ⊢
    obtain ⟨c1, hc1, hcl1, D3⟩ : ∃ c1 : Cd, c1.bu = 283 ∧ c1.ds.length ≤ 60 ∧ Hid (Rm w B C Y c1 V5) := ⟨{ c with bu := 283 }, rfl, HC.out, D2⟩
    clear D2
    go_cut [31] (fun s w' => s = .bool (decide (c1.mi < 0 ∨ 16 < c1.mi)) ∧ w' = V5)
    case first =>
      obtain ⟨z0, z1, z2, z3, zf⟩ := D3.out.cells
      clear zf
      have hw : c1.mi < 0 ∨ (¬ c1.mi < 0 ∧ 16 < c1.mi) ∨ (¬ c1.mi < 0 ∧ ¬ 16 < c1.mi) := by omega
      rcases hw with hw | ⟨hw, hw2⟩ | ⟨hw, hw2⟩
      · go_wp2
        go_meet
        case rel => exact ⟨congrArg Value.bool (decide_eq_true (p := c1.mi < 0 ∨ 16 < c1.mi) (by omega)).symm, rfl⟩
      · go_wp2
        go_meet
        case rel => exact ⟨congrArg Value.bool (decide_eq_true (p := c1.mi < 0 ∨ 16 < c1.mi) (by omega)).symm, rfl⟩
      · go_wp2
        go_meet
        case rel => exact ⟨congrArg Value.bool (decide_eq_false (p := c1.mi < 0 ∨ 16 < c1.mi) (by omega)).symm, rfl⟩
    case rest =>
      obtain ⟨rfl, rfl⟩ := hcut
      go_upto_if 31 with fail
      go_cut [31] (fun _ w' => ∃ c : Cd, c.bu = 283 ∧ c.ds.length ≤ 60 ∧ (0 ≤ c.mi ∧ c.mi ≤ 16) ∧ Hid (Rm w B C Y c w'))
      case first =>
        obtain ⟨z0, z1, z2, z3, zf⟩ := D3.out.cells
        have zf9 := zf 0
        clear zf
        by_cases hb : c1.mi < 0 ∨ 16 < c1.mi
        · have e9 : decide (c1.mi < 0 ∨ 16 < c1.mi) = true := decide_eq_true hb
          go_wp2
          go_meet
          case rel => exact ⟨{ c1 with mi := 3 }, hc1, hcl1, ⟨by dsimp only; omega, by dsimp only; omega⟩, hid (D3.out.upd 0 (.int .i64 3) _ rfl ⟨D3.out.ok.k0, D3.out.ok.k1, D3.out.ok.dw, D3.out.ok.d⟩)⟩
        · have e9 : decide (c1.mi < 0 ∨ 16 < c1.mi) = false := decide_eq_false hb
          go_wp2
          go_meet
          case rel => exact ⟨c1, hc1, hcl1, ⟨by omega, by omega⟩, D3⟩
      case rest =>
        clear D3 hc1 hcl1 c1
        obtain ⟨c1, hc1, hcl1, hm1, D3⟩ := hcut
        obtain ⟨W0, hW0⟩ : ∃ W, W = wc := ⟨_, rfl⟩
        rw [← hW0] at D3 ⊢
        clear hW0
        go_upto_region 8 with fail
        go_cut [40] (fun s w' => s = .bool (decide (c1.fi < 1 ∨ 32 < c1.fi)) ∧ w' = W0)
        case first =>
          obtain ⟨z0, z1, z2, z3, zf⟩ := D3.out.cells
          clear zf
          have hw : c1.fi < 1 ∨ (¬ c1.fi < 1 ∧ 32 < c1.fi) ∨ (¬ c1.fi < 1 ∧ ¬ 32 < c1.fi) := by omega
          rcases hw with hw | ⟨hw, hw2⟩ | ⟨hw, hw2⟩
          · go_wp2
            go_meet
            case rel => exact ⟨congrArg Value.bool (decide_eq_true (p := c1.fi < 1 ∨ 32 < c1.fi) (by omega)).symm, rfl⟩
          · go_wp2
            go_meet
            case rel => exact ⟨congrArg Value.bool (decide_eq_true (p := c1.fi < 1 ∨ 32 < c1.fi) (by omega)).symm, rfl⟩
          · go_wp2
            go_meet
            case rel => exact ⟨congrArg Value.bool (decide_eq_false (p := c1.fi < 1 ∨ 32 < c1.fi) (by omega)).symm, rfl⟩
        case rest =>
          obtain ⟨rfl, rfl⟩ := hcut
          go_upto_if 40 with fail
          go_cut [40] (fun _ w' => ∃ c : Cd, c.bu = 283 ∧ c.ds.length ≤ 60 ∧ (0 ≤ c.mi ∧ c.mi ≤ 16) ∧ (1 ≤ c.fi ∧ c.fi ≤ 32) ∧ Hid (Rm w B C Y c w'))
          case first =>
            obtain ⟨z0, z1, z2, z3, zf⟩ := D3.out.cells
            have zf9 := zf 1
            clear zf
            by_cases hb : c1.fi < 1 ∨ 32 < c1.fi
            · have e9 : decide (c1.fi < 1 ∨ 32 < c1.fi) = true := decide_eq_true hb
              go_wp2
              go_meet
              case rel => exact ⟨{ c1 with fi := 2 }, hc1, hcl1, hm1, ⟨by dsimp only; omega, by dsimp only; omega⟩, hid (D3.out.upd 1 (.int .i64 2) _ rfl ⟨D3.out.ok.k0, D3.out.ok.k1, D3.out.ok.dw, D3.out.ok.d⟩)⟩
            · have e9 : decide (c1.fi < 1 ∨ 32 < c1.fi) = false := decide_eq_false hb
              go_wp2
              go_meet
              case rel => exact ⟨c1, hc1, hcl1, hm1, ⟨by omega, by omega⟩, D3⟩
          case rest =>
            clear D3 hc1 hcl1 hm1 c1
            obtain ⟨c1, hc1, hcl1, hm1, hm2, D3⟩ := hcut
            obtain ⟨W1, hW1⟩ : ∃ W, W = wc := ⟨_, rfl⟩
            rw [← hW1] at D3 ⊢
            clear hW1
            go_upto_region 10 with fail
            go_cut [49] (fun s w' => s = .bool (decide (c1.la < 1 ∨ 16 < c1.la)) ∧ w' = W1)
            case first =>
              obtain ⟨z0, z1, z2, z3, zf⟩ := D3.out.cells
              clear zf
              have hw : c1.la < 1 ∨ (¬ c1.la < 1 ∧ 16 < c1.la) ∨ (¬ c1.la < 1 ∧ ¬ 16 < c1.la) := by omega
              rcases hw with hw | ⟨hw, hw2⟩ | ⟨hw, hw2⟩
              · go_wp2
                go_meet
                case rel => exact ⟨congrArg Value.bool (decide_eq_true (p := c1.la < 1 ∨ 16 < c1.la) (by omega)).symm, rfl⟩
              · go_wp2
                go_meet
                case rel => exact ⟨congrArg Value.bool (decide_eq_true (p := c1.la < 1 ∨ 16 < c1.la) (by omega)).symm, rfl⟩
              · go_wp2
                go_meet
                case rel => exact ⟨congrArg Value.bool (decide_eq_false (p := c1.la < 1 ∨ 16 < c1.la) (by omega)).symm, rfl⟩
            case rest =>
              obtain ⟨rfl, rfl⟩ := hcut
              go_upto_if 49 with fail
              go_cut [49] (fun _ w' => ∃ c : Cd, c.bu = 283 ∧ c.ds.length ≤ 60 ∧ (0 ≤ c.mi ∧ c.mi ≤ 16) ∧ (1 ≤ c.fi ∧ c.fi ≤ 32) ∧ (1 ≤ c.la ∧ c.la ≤ 16) ∧ Hid (Rm w B C Y c w'))
              case first =>
                obtain ⟨z0, z1, z2, z3, zf⟩ := D3.out.cells
                have zf9 := zf 2
                clear zf
                by_cases hb : c1.la < 1 ∨ 16 < c1.la
                · have e9 : decide (c1.la < 1 ∨ 16 < c1.la) = true := decide_eq_true hb
                  go_wp2
                  go_meet
                  case rel => exact ⟨{ c1 with la := 2 }, hc1, hcl1, hm1, hm2, ⟨by dsimp only; omega, by dsimp only; omega⟩, hid (D3.out.upd 2 (.int .i64 2) _ rfl ⟨D3.out.ok.k0, D3.out.ok.k1, D3.out.ok.dw, D3.out.ok.d⟩)⟩
                · have e9 : decide (c1.la < 1 ∨ 16 < c1.la) = false := decide_eq_false hb
                  go_wp2
                  go_meet
                  case rel => exact ⟨c1, hc1, hcl1, hm1, hm2, ⟨by omega, by omega⟩, D3⟩
              case rest =>
                clear D3 hc1 hcl1 hm1 hm2 c1
                obtain ⟨c1, hc1, hcl1, hm1, hm2, hm3, D3⟩ := hcut
                obtain ⟨W2, hW2⟩ : ∃ W, W = wc := ⟨_, rfl⟩
                rw [← hW2] at D3 ⊢
                clear hW2
                go_wp2_with (first | (refine wpList_load_row rfl 26 _ rfl _ rfl _ _ _ _ D3.out.cb Tryz.underlying26 rfl (by kernel_rfl) ?_) | (refine wpList_store_row rfl 26 _ _ rfl _ _ rfl rfl 26 _ D3.out.yb (by kernel_rfl) rfl (by simp [cdC, Value.oneCell']) ?_))
                refine bodyPost_ret (results_cell_tmp (by rfl) _ _ Y _ (by rfl) (run_loadVar_row _ Y 26 26 _ (0, 0) _ (setRow_at D3.out.yb _) Tryz.underlying26 rfl (by kernel_rfl))) (by rfl) ?_
                have g := grown_setRow W2 Y (cdC c1).toArray
                exact ⟨c1, k, B, hk, rfl, hcl1, D3.out.b0, D3.out.ok.kept g (own_neT D3.out.ok.d D3.out.yb (by decide)), hm1, hm2, hm3, hc1, D3.out.bel.grown g D3.out.bel.size (fun r e => by cases e; exact D3.out.y0)⟩
end Go.Proofs.YtacccpkmgkojiaaGreatDoorRR
namespace Go.Proofs.YtacccpkmgkojiaaGreatDoorRR
set_option linter.unusedVariables false
set_option linter.unusedSimpArgs false
set_option maxRecDepth 20000
set_option maxHeartbeats 8000000
open Go.RowKit Go.Shelf Go.Maps
def RunI : Prop := ∀ (cf : Cf) (da : Option Addr) (dc : Nat) (A : Option Addr) (cap : Nat) (ops : List Oin) (w : World), Dok cf → 1 ≤ cf.large → Tb w → Sl w da cf.ds → (∀ a, da = some a → a.block < w.heap.size) → 0 < w.heap.size → Ois w A ops → (∀ q ∈ ops, q.o.ys.length ≤ q.dc ∧ -9223372036854775808 ≤ q.o.ref ∧ ∀ y ∈ q.o.ys, 0 ≤ y ∧ y ≤ 255) → ops.length ≤ 300 →
  Calls Tryz.prog 13 #[cfgV cf da dc, .slice A ops.length cap] w fun e W' => ∃ (l : List Aw) (va m0 m1 m2 m3 m4 m5 m6 m7 : Value), e = .returned (.agg #[.bool true, va, m0, m1, m2, m3, m4, m5, m6, m7]) ∧ (∀ v ∈ [va, m0, m1, m2, m3, m4, m5, m6, m7], v.oneCell' = true) ∧ l.map (·.1) = (runH cf (ops.map Oin.o) (newH cf) []).2 ∧ W'.ownsRow w.heap.size 49 4 va l.length (flatB l) ∧ (∀ z ∈ l, W'.ownsRow w.heap.size 5 1 z.2 z.1.data.length (Ns .u8 z.1.data)) ∧ Below w.heap.size w W'
def CRuns : Prop := ∀ (cf : Cf), cf.bud = 283 → 1 ≤ cf.fifo → ∀ {a : Nat}, a ≤ 1016 → ∀ i : Nat, i < 8 → ∃ q : Nat, q < 191488 ∧
    (runH cf [⟨0, 0, 0, a, 0, []⟩, ⟨5, 1, usN (coN a) + i, 1, 0, []⟩] (newH cf) []).2 = [⟨0, q, 0, []⟩, ⟨0, 0, 0, [(can cf q)[i]?.getD 0]⟩] ∧
    ∀ y : Int, y ≠ (can cf q)[i]?.getD 0 → (runH cf [⟨0, 0, 0, a, 0, []⟩, ⟨6, 1, usN (coN a) + i, 0, 0, [y]⟩, ⟨3, 1, 0, 0, 0, []⟩, ⟨2, 1, 0, 2000, 0, []⟩, ⟨4, 1, 0, 0, 0, []⟩, ⟨6, 1, usN (coN a) + i, 0, 0, [(can cf q)[i]?.getD 0]⟩, ⟨3, 1, 0, 0, 0, []⟩, ⟨3, 1, 0, 0, 0, []⟩] (newH cf) []).2 =
      [⟨0, q, 0, []⟩, .no 0, .no 5, .no 5, ⟨0, 0, usN (coN a), []⟩, .no 0, .no 0, .no 4]
theorem conv1 {w : World} {p : Addr} {c : Nat} {b : Int} (h : w.cell? p = some (.int .u8 b)) : (convert 22 9 (.slice (some p) 1 c)).run Tryz.prog w = .ok (.string (ByteArray.empty.push (UInt8.ofNat b.toNat))) w := by
  rw [run_convert_bytes_string w 22 9 5 (some p) 1 c Tryz.underlying22 Tryz.underlying5 Tryz.underlying9]
  refine run_bytesToString w p 1 c [b] ?_
  have := run_loadCells_list (P := Tryz.prog) w p [.int .u8 b] (fun j v hj => by
    cases j with
    | zero => simp at hj; subst hj; simpa [Addr.add] using h
    | succ j => simp at hj)
  simpa using this
theorem sameB1 (p1 p2 : Addr) (c1 c2 : Nat) (b : Int) (w : World) (h1 : w.cell? p1 = some (.int .u8 b)) (h2 : w.cell? p2 = some (.int .u8 b)) :
    Calls Tryz.prog 23 #[.slice (some p1) 1 c1, .slice (some p2) 1 c2] w fun e w' => e = .returned (.bool true) ∧ w' = w := by
  have e1 := conv1 (c := c1) h1
  have e2 := conv1 (c := c2) h2
  generalize ByteArray.empty.push (UInt8.ofNat b.toNat) = t at e1 e2
  clear h1 h2
  go_enter Tryz.func23, Tryz.ntmps23
  go_wp2
  go_ret
  exact ⟨by simp, rfl⟩
theorem cdC_cfg (c : Cd) (hm : 0 ≤ c.mi ∧ c.mi ≤ 16) (hf : 1 ≤ c.fi ∧ c.fi ≤ 32) (hl : 1 ≤ c.la ∧ c.la ≤ 16) (hb : c.bu = 283) : Value.agg (cdC c).toArray = cfgV ⟨c.mi.toNat, c.fi.toNat, c.la.toNat, 283, c.ky, c.ds⟩ c.da c.dc := by
  unfold cdC cfgV
  rw [hb]
  simp only [Int.toNat_of_nonneg hm.1, Int.toNat_of_nonneg (show 0 ≤ c.fi by omega), Int.toNat_of_nonneg (show 0 ≤ c.la by omega)]
  rfl
theorem cdC_dok {B : Nat} {c : Cd} {W : World} (ok : Ok4 B c W) (hcl : c.ds.length ≤ 60) (hm : 0 ≤ c.mi ∧ c.mi ≤ 16) (hf : 1 ≤ c.fi ∧ c.fi ≤ 32) (hl : 1 ≤ c.la ∧ c.la ≤ 16) : Dok ⟨c.mi.toNat, c.fi.toNat, c.la.toNat, 283, c.ky, c.ds⟩ := by
  refine ⟨by show c.ds.length ≤ _; omega, fun d hd => ?_, ok.k0, by have := ok.k1; show c.ky < _; omega, by show c.mi.toNat ≤ _; omega, by show 1 ≤ c.fi.toNat; omega, by show c.fi.toNat ≤ _; omega, by show c.la.toNat ≤ _; omega, Nat.le_refl _⟩
  have := ok.dw d hd
  have e1 : IntKind.i64.min = -9223372036854775808 := rfl
  have e2 : IntKind.i64.max = 9223372036854775807 := rfl
  simp only [Lit.wf, e1, e2, Bool.and_eq_true, decide_eq_true_eq]
  omega
theorem Ok4.sl {B : Nat} {c : Cd} {W : World} (ok : Ok4 B c W) : Sl W c.da c.ds ∧ ∀ a, c.da = some a → a.block < W.heap.size := by
  rcases ok.d.2 with ⟨h1, h2⟩ | ⟨g, cap, cur, h1, h2, h3, h4⟩
  · injection h1 with e1 e2 e3
    refine ⟨.inl ⟨e1, List.length_eq_zero_iff.1 (by omega)⟩, fun a ha => by rw [e1] at ha; cases ha⟩
  · injection h1 with e1 e2 e3
    obtain ⟨h5, h6, h7, h8⟩ := h4
    have h9 := ok.d.1
    refine ⟨.inr ⟨g, e1, cur, h3, by omega, fun i hi => ?_⟩, fun a ha => by rw [e1] at ha; cases ha; exact lt_blk h3⟩
    rw [← h8, List.getElem?_take, if_pos (by omega), Array.getElem?_toList]
end Go.Proofs.YtacccpkmgkojiaaGreatDoorRR
namespace Go.Proofs.YtacccpkmgkojiaaGreatDoorRR
set_option linter.unusedVariables false
set_option linter.unusedSimpArgs false
set_option maxRecDepth 20000
set_option maxHeartbeats 8000000
open Go.RowKit Go.Shelf Go.Maps
theorem flat_get {α : Type} (f : α → List Value) (n : Nat) (hn : ∀ x, (f x).length = n) : ∀ (l : List α) (k j : Nat) (x : α), l[k]? = some x → j < n → (l.flatMap f)[k * n + j]? = (f x)[j]?
  | [], k, j, x, h, _ => by simp at h
  | y :: l, 0, j, x, h, hj => by
    simp at h
    subst h
    rw [List.flatMap_cons, Nat.zero_mul, Nat.zero_add, List.getElem?_append_left (by rw [hn]; exact hj)]
  | y :: l, k + 1, j, x, h, hj => by
    rw [List.flatMap_cons, List.getElem?_append_right (by rw [hn, Nat.add_mul]; omega), hn, show (k + 1) * n + j - n = k * n + j by rw [Nat.add_mul]; omega]
    exact flat_get f n hn l k j x (by simpa using h) hj
theorem ois_new (W : World) (ops : List Oin) (hw : ∀ q ∈ ops, q.o.p < 18446744073709551616 ∧ q.o.a < 18446744073709551616 ∧ q.o.b < 18446744073709551616)
    (hd : ∀ q ∈ ops, ∀ i, i < q.o.ys.length → ∃ x, q.d = some x ∧ W.cell? (x.add i) = some (.int .u8 (q.o.ys[i]?.getD 0)) ∧ (x.add i).block < W.heap.size) : Ois (W.alloc (.cells (flatO6 ops).toArray 42)) (some ⟨W.heap.size, 0, none⟩) ops := by
  have b := (Below.refl W.heap.size W).alloc (Nat.le_refl _) (.cells (flatO6 ops).toArray 42)
  refine ⟨fun k q hq => ⟨W.heap.size, rfl, by rw [al_size]; omega, fun j u hu => ?_⟩, hw, fun q hq i hi => ?_⟩
  · have hj : j < 6 := by
      have := (List.getElem?_eq_some_iff.1 hu).1
      simpa [opC6] using this
    rw [cell_of_row _ _ _ _ _ _ (al_last W (.cells (flatO6 ops).toArray 42))]
    have := flat_get opC6 6 (fun _ => rfl) ops k j q hq hj
    rw [hu] at this
    simpa [flatO6] using this
  · obtain ⟨x, h1, h2, h3⟩ := hd q hq i hi
    exact ⟨x, h1, below_cell b h2, by rw [al_size]; omega⟩
theorem ans_at {W : World} {B : Nat} {va : Value} {l : List Aw} {an : List An4} (row : W.ownsRow B 49 4 va l.length (flatB l)) (hl : l.map (·.1) = an) (hn : 0 < an.length) :
    ∃ G gc, va = .slice (some ⟨G, 0, none⟩) an.length gc ∧ B ≤ G ∧ G < W.heap.size ∧ ∀ j a, an[j]? = some a → ∃ v, (a, v) ∈ l ∧ W.cell? ⟨G, j * 4, none⟩ = some (.int .i64 a.code) ∧ W.cell? ⟨G, j * 4 + 1, none⟩ = some (.int .u64 (a.addr : Nat)) ∧ W.cell? ⟨G, j * 4 + 2, none⟩ = some (.int .i64 (a.size : Nat)) ∧ W.cell? ⟨G, j * 4 + 3, none⟩ = some v := by
  have e : l.length = an.length := by rw [← hl, List.length_map]
  rcases row.2 with ⟨_, h2⟩ | ⟨g, gc, cur, h1, h2, h3, h4, h5, h6, h7⟩
  · omega
  · refine ⟨g, gc, by rw [h1, e], h2, lt_blk h3, fun j a ha => ?_⟩
    rw [← hl, List.getElem?_map] at ha
    obtain ⟨z, hz, rfl⟩ : ∃ z, l[j]? = some z ∧ z.1 = a := by
      cases h : l[j]? with
      | none => rw [h] at ha; cases ha
      | some z => rw [h] at ha; exact ⟨z, rfl, by simpa using ha⟩
    have hj := (List.getElem?_eq_some_iff.1 hz).1
    have key : ∀ t u, t < 4 → (aC z)[t]? = some u → W.cell? ⟨g, j * 4 + t, none⟩ = some u := fun t u ht hu => by
      rw [cell_of_row _ _ _ _ _ _ h3]
      have e1 := flat_get aC 4 (fun _ => rfl) l j t z hz ht
      have e2 : (flatB l)[j * 4 + t]? = some u := by rw [← hu]; exact e1
      rw [← h7, List.getElem?_take, if_pos (by omega), Array.getElem?_toList] at e2
      exact e2
    exact ⟨z.2, List.mem_of_getElem? hz, key 0 _ (by omega) rfl, key 1 _ (by omega) rfl, key 2 _ (by omega) rfl, key 3 _ (by omega) rfl⟩
theorem one_byte {W : World} {B : Nat} {v : Value} {b : Int} (h : W.ownsRow B 5 1 v 1 (Ns .u8 [b])) : ∃ G gc, v = .slice (some ⟨G, 0, none⟩) 1 gc ∧ B ≤ G ∧ W.cell? ⟨G, 0, none⟩ = some (.int .u8 b) ∧ G < W.heap.size := by
  rcases h.2 with ⟨_, h2⟩ | ⟨g, gc, cur, h1, h2, h3, h4, h5, h6, h7⟩
  · omega
  · refine ⟨g, gc, h1, h2, ?_, lt_blk h3⟩
    rw [cell_of_row _ _ _ _ _ _ h3]
    have e2 : (Ns .u8 [b])[0]? = some (.int .u8 b) := rfl
    rw [← h7, List.getElem?_take, if_pos (by omega), Array.getElem?_toList] at e2
    exact e2
theorem box_new (V : World) (zs cs : Array Value) (t : TypeId) : ((V.alloc (.cells zs t)).setRow V.heap.size cs).heap[V.heap.size]? = some (.cells cs t (0, 0)) ∧ Below V.heap.size V ((V.alloc (.cells zs t)).setRow V.heap.size cs) := by
  refine ⟨setRow_at (al_last V _) cs, ?_⟩
  have b := (Below.refl V.heap.size V).alloc (Nat.le_refl _) (.cells zs t)
  exact b.grown (grown_setRow _ V.heap.size cs) b.size (fun r e => by cases e; exact Nat.le_refl _)
end Go.Proofs.YtacccpkmgkojiaaGreatDoorRR
namespace Go.Proofs.YtacccpkmgkojiaaGreatDoorRR
set_option linter.unusedVariables false
set_option linter.unusedSimpArgs false
set_option maxRecDepth 20000
set_option maxHeartbeats 8000000
open Go.RowKit Go.Shelf Go.Maps
def ops8 (A f : Nat) (y x : Int) (H : Nat) : List Oin := [⟨⟨0, 0, 0, A, 0, []⟩, none, 0⟩, ⟨⟨6, 1, f, 0, 0, [y]⟩, some ⟨H, 0, none⟩, 1⟩, ⟨⟨3, 1, 0, 0, 0, []⟩, none, 0⟩, ⟨⟨2, 1, 0, 2000, 0, []⟩, none, 0⟩, ⟨⟨4, 1, 0, 0, 0, []⟩, none, 0⟩, ⟨⟨6, 1, f, 0, 0, [x]⟩, some ⟨H + 1, 0, none⟩, 1⟩, ⟨⟨3, 1, 0, 0, 0, []⟩, none, 0⟩, ⟨⟨3, 1, 0, 0, 0, []⟩, none, 0⟩]
theorem ops8_ok (A f : Nat) (y x : Int) (H : Nat) (h : (0 ≤ y ∧ y ≤ 255 ∧ (0 ≤ x ∧ x ≤ 255))) : ∀ q ∈ ops8 A f y x H, q.o.ys.length ≤ q.dc ∧ -9223372036854775808 ≤ q.o.ref ∧ ∀ y ∈ q.o.ys, 0 ≤ y ∧ y ≤ 255 := by
  intro q hq
  simp only [ops8, List.mem_cons, List.not_mem_nil, or_false] at hq
  rcases hq with rfl | rfl | rfl | rfl | rfl | rfl | rfl | rfl <;> simp <;> omega
theorem ois8 (w : World) (A f : Nat) (y x : Int) (h : (0 ≤ y ∧ y ≤ 255 ∧ (0 ≤ x ∧ x ≤ 255))) (hA : A ≤ 2000) (hf : f ≤ 2000) :
    Below w.heap.size w (((w.alloc (.cells #[.int .u8 y] 5)).alloc (.cells #[.int .u8 x] 5)).alloc (.cells (flatO6 (ops8 A f y x w.heap.size)).toArray 42)) ∧ Ois (((w.alloc (.cells #[.int .u8 y] 5)).alloc (.cells #[.int .u8 x] 5)).alloc (.cells (flatO6 (ops8 A f y x w.heap.size)).toArray 42)) (some ⟨w.heap.size + 1 + 1, 0, none⟩) (ops8 A f y x w.heap.size) := by
  have b1 := (Below.refl w.heap.size w).alloc (Nat.le_refl _) (.cells #[.int .u8 y] 5)
  have b2 := b1.alloc b1.size (.cells #[.int .u8 x] 5)
  have b3 := b2.alloc b2.size (.cells (flatO6 (ops8 A f y x w.heap.size)).toArray 42)
  have e2 : ((w.alloc (.cells #[.int .u8 y] 5)).alloc (.cells #[.int .u8 x] 5)).heap.size = w.heap.size + 1 + 1 := by rw [al_size, al_size]
  refine ⟨b3, ?_⟩
  rw [← e2]
  refine ois_new _ _ ?_ ?_
  · intro q hq
    simp only [ops8, List.mem_cons, List.not_mem_nil, or_false] at hq
    rcases hq with rfl | rfl | rfl | rfl | rfl | rfl | rfl | rfl <;> simp <;> omega
  · have y1 := below_cell ((Below.refl _ (w.alloc (.cells #[.int .u8 y] 5))).alloc (Nat.le_refl _) (.cells #[.int .u8 x] 5)) (one_new w (.int .u8 y) 5 w.heap.size rfl 0 _ rfl)
    have y2 := one_new (w.alloc (.cells #[.int .u8 y] 5)) (.int .u8 x) 5 (w.heap.size + 1) (al_size _ _) 0 _ rfl
    intro q hq
    simp only [ops8, List.mem_cons, List.not_mem_nil, or_false] at hq
    rcases hq with rfl | rfl | rfl | rfl | rfl | rfl | rfl | rfl
    · intro i hi; simp at hi
    · intro i hi
      obtain rfl : i = 0 := by simpa using hi
      exact ⟨_, rfl, y1, by rw [e2]; simp [Addr.add]; omega⟩
    · intro i hi; simp at hi
    · intro i hi; simp at hi
    · intro i hi; simp at hi
    · intro i hi
      obtain rfl : i = 0 := by simpa using hi
      exact ⟨_, rfl, y2, by rw [e2]; simp [Addr.add]⟩
    · intro i hi; simp at hi
    · intro i hi; simp at hi
theorem cb_in (cf : Cf) (q i : Nat) (hi : i < 8) : 0 ≤ (can cf q)[i]?.getD 0 ∧ (can cf q)[i]?.getD 0 ≤ 255 := by
  have e : can cf q = cRow (cx cf.key (q : Int)) := rfl
  rw [e]
  generalize cx cf.key (q : Int) = x
  by_cases h : i = 0
  · rw [h, cRow_zero]; exact ⟨by decide, by decide⟩
  · rw [cRow_get x i (by omega) hi, Option.getD_some]
    have := cb_ge x i
    generalize cb x i = z at this
    omega
theorem eight {W : World} {B : Nat} {v : Value} {xs : List Int} (h : W.ownsRow B 5 1 v 8 (Ns .u8 xs)) (i : Nat) (hi : i < 8) : ∃ G gc, v = .slice (some ⟨G, 0, none⟩) 8 gc ∧ 8 ≤ gc ∧ W.cell? ⟨G, i, none⟩ = some (.int .u8 (xs[i]?.getD 0)) := by
  rcases h.2 with ⟨_, h2⟩ | ⟨g, gc, cur, h1, h2, h3, h4, h5, h6, h7⟩
  · omega
  · refine ⟨g, gc, h1, h4, ?_⟩
    rw [cell_of_row _ _ _ _ _ _ h3]
    have hl : xs.length = 8 := by simpa [Ns] using h.1
    have e2 : (Ns .u8 xs)[i]? = some (.int .u8 (xs[i]?.getD 0)) := by simp [Ns, hl, hi]
    rw [← h7, List.getElem?_take, if_pos (by omega), Array.getElem?_toList] at e2
    exact e2
theorem cell4 {W : World} {X : Nat} {x0 x1 x2 x3 x4 x5 : Value} {t : TypeId} {f : Nat × Nat} (h : W.heap[X]? = some (.cells #[x0, x1, x2, x3, x4, x5] t f)) : W.cell? ⟨X, 4, none⟩ = some x4 := by
  simp [World.cell?, h]
theorem box01 {W : World} {E : Nat} {x y m0 m1 m2 m3 m4 m5 m6 m7 : Value} {t : TypeId} {f : Nat × Nat} (h : W.heap[E]? = some (.cells #[x, y, m0, m1, m2, m3, m4, m5, m6, m7] t f)) : W.cell? ⟨E, 0, none⟩ = some x ∧ W.cell? ⟨E, 1, none⟩ = some y := by
  simp [World.cell?, h]
theorem coN_in9 {a : Nat} (h : a ≤ 1016) : coN a < 12 := (co_c h).2.1
theorem below_at9 {w w' : World} (h : Below w.heap.size w w') {g : Nat} {o : Obj} (hg : w.heap[g]? = some o) : w'.heap[g]? = some o := by rw [h.block g (lt_blk hg)]; exact hg
end Go.Proofs.YtacccpkmgkojiaaGreatDoorRR
