import Derived.Below
import Derived.BigGuardIn
import Derived.BigQuiet
import Derived.BigRegionIn
import Derived.Conc.MuLone
import Derived.Deep.AppendLies
import Derived.Deep.CutBlock
import Derived.Deep.DeepCutAuto
import Derived.Deep.LoopGhost
import Derived.Deep.OwnRows
import Derived.Deep.QuietTactic
import Derived.Deep.RegionWith
import Derived.KernelRfl
import Derived.Laws.Bits64b
import Derived.Laws.CopyOwn
import Derived.Laws.Rows
import Derived.Laws.Tables
import Derived.Lib.SmallJoins
import Derived.LoopIn
import Derived.LoopNIn
import Derived.Maps.AppendAt
import Derived.Maps.OwnOps
import Derived.Maps.OwnSet
import Derived.OpenShut
import Derived.OrdersHeld
import Derived.OwnWalkIn
import Derived.ProofKit
import Derived.RangeFuncBound
import Derived.RangeFuncCalls
import Derived.RangeFuncLeaves
import Derived.RangeFuncNested
import Derived.Shelf.Abstract
import Derived.Shelf.Bits.Mul64
import Derived.Shelf.RegionOpen
import Derived.TacticsInMore
import Derived.Test.YtacccpkmgkojiaaGreatDoorRRProg
import Derived.WalkKit
import Derived.WalkLawsBesides
import Derived.Test.YtacccpkmgkojiaaGreatDoorRRM00
import Derived.Test.YtacccpkmgkojiaaGreatDoorRRM01
import Derived.Test.YtacccpkmgkojiaaGreatDoorRRM02
import Derived.Test.YtacccpkmgkojiaaGreatDoorRRM06
import Derived.Test.YtacccpkmgkojiaaGreatDoorRRM08
import Derived.Test.YtacccpkmgkojiaaGreatDoorRRM09
import Derived.Test.YtacccpkmgkojiaaGreatDoorRRM10
import Derived.Test.YtacccpkmgkojiaaGreatDoorRRM14
import Derived.Test.YtacccpkmgkojiaaGreatDoorRRM47
import Derived.Test.YtacccpkmgkojiaaGreatDoorRRM48
import Derived.Test.YtacccpkmgkojiaaGreatDoorRRM49
namespace Go.Proofs.YtacccpkmgkojiaaGreatDoorRR
set_option linter.unusedVariables false
set_option linter.unusedSimpArgs false
set_option maxRecDepth 20000
set_option maxHeartbeats 8000000
open Go.RowKit Go.Shelf Go.Maps
theorem b0_0 (w0 : World) (a : Option Addr) (len cap : Nat) (zs : List Int) (h0 : IsRow .u8 w0 a len cap zs) (hlen : len ≤ 1048576) (R gv : Nat) (tt : Bool) (W : World) (X Y k : Nat) : B0 w0 a len cap R gv tt W X Y k (fun m => m = 0) := by
  intro m K Q q w u9 u10 u11 u12 u13 u14 u15 u16 u17 u18 u19 u20 u21 u22 u23 u24 u25 u26 u27 u28 u29 u32 u33 u34 u35 u36 u37 u38 u39 u40 u41 u42 u43 u44 u45 u46 u47 u48 u49 u50 u51 u52 u53 u54 u55 u56 u57 u58 u59 u60 u61 u62 u63 u64 u65 u66 u67 u68 u69 u70 u71 u72 u73 u74 u75 u76 u77 u78 u79 u80 u81 u82 u83 u84 u85 u86 u87 u88 u89 u90 u91 u92 u93 u94 u95 u96 u97 u98 u99 u100 u101 u102 u103 u104 u105 u106 u107 u108 u109 u110 u111 u112 u113 u114 u115 u116 u117 u118 u119 u120 u121 u122 u123 u124 u125 u126 u127 u128 u129 u130 u131 u132 u133 u134 u135 u136 u137 u138 u139 u140 u141 u142 u143 u144 u145 u146 u147 u148 hm O3 HK0
  have N := hid (fun V (hV : Rd w0 a len cap R V V) => next_any w0 a len cap zs h0 hlen R V V hV)
  have WD := hid (fun V (hV : Rd w0 a len cap R V V) => wide_any w0 a len cap zs h0 hlen R V V hV)
  have RQ := hid (fun V (hV : Rd w0 a len cap R V V) => request_any w0 a len cap zs h0 hlen R V V hV)
  have BY := hid (fun n (hn : n ≤ 10000) V (hV : Rd w0 a len cap R V V) => bytes_any w0 a len cap zs h0 hlen R n hn V V hV)
  have US := hid sp_Usable
  have HU := hid u64_in
  clear h0
  have HK := hid HK0
  clear HK0
  conv => arg 2; whnf
  obtain rfl := hm
  cases tt
  · go_wp2_with fail
    refine (RQ.out _ O3.out.rd.at).mono ?_
    rintro e V10 ⟨⟨c10, hx10, hy10, rfl⟩, r⟩
    have O10 := hid (O3.out.next r)
    clear r O3
    go_wp2_with (refine wpList_store_row rfl 42 _ _ rfl _ _ rfl rfl 42 _ O10.out.x (by kernel_rfl) rfl (by simp [Value.oneCell']) ?_; have Ox := hid (O10.out.row 0 c10 0 hx10 hy10 (by omega) (by omega)); generalize V10.setRow X _ = Vx at Ox ⊢; clear O10)
    apply HK.out
    exact Ox
  · go_wp2_with fail
    refine (RQ.out _ O3.out.rd.at).mono ?_
    rintro e V11 ⟨⟨c11, hx11, hy11, rfl⟩, r⟩
    have O11 := hid (O3.out.next r)
    clear r O3
    go_wp2_with (refine wpList_store_row rfl 42 _ _ rfl _ _ rfl rfl 42 _ O11.out.x (by kernel_rfl) rfl (by simp [Value.oneCell']) ?_; have Ox := hid (O11.out.row 0 c11 0 hx11 hy11 (by omega) (by omega)); generalize V11.setRow X _ = Vx at Ox ⊢; clear O11; obtain ⟨z0, z1, z2, z3, z4, z5⟩ := Ox.out.cells; have zf := Ox.out.fr 3)
    apply HK.out
    exact hid (Ox.out.setA _ (by first | omega | exact (HU.out _).1 | (simp; done)) (by first | omega | exact (HU.out _).2 | (simp; done)))
theorem b0_4 (w0 : World) (a : Option Addr) (len cap : Nat) (zs : List Int) (h0 : IsRow .u8 w0 a len cap zs) (hlen : len ≤ 1048576) (R gv : Nat) (tt : Bool) (W : World) (X Y k : Nat) : B0 w0 a len cap R gv tt W X Y k (fun m => m = 4) := by
  intro m K Q q w u9 u10 u11 u12 u13 u14 u15 u16 u17 u18 u19 u20 u21 u22 u23 u24 u25 u26 u27 u28 u29 u32 u33 u34 u35 u36 u37 u38 u39 u40 u41 u42 u43 u44 u45 u46 u47 u48 u49 u50 u51 u52 u53 u54 u55 u56 u57 u58 u59 u60 u61 u62 u63 u64 u65 u66 u67 u68 u69 u70 u71 u72 u73 u74 u75 u76 u77 u78 u79 u80 u81 u82 u83 u84 u85 u86 u87 u88 u89 u90 u91 u92 u93 u94 u95 u96 u97 u98 u99 u100 u101 u102 u103 u104 u105 u106 u107 u108 u109 u110 u111 u112 u113 u114 u115 u116 u117 u118 u119 u120 u121 u122 u123 u124 u125 u126 u127 u128 u129 u130 u131 u132 u133 u134 u135 u136 u137 u138 u139 u140 u141 u142 u143 u144 u145 u146 u147 u148 hm O3 HK0
  have N := hid (fun V (hV : Rd w0 a len cap R V V) => next_any w0 a len cap zs h0 hlen R V V hV)
  have WD := hid (fun V (hV : Rd w0 a len cap R V V) => wide_any w0 a len cap zs h0 hlen R V V hV)
  have RQ := hid (fun V (hV : Rd w0 a len cap R V V) => request_any w0 a len cap zs h0 hlen R V V hV)
  have BY := hid (fun n (hn : n ≤ 10000) V (hV : Rd w0 a len cap R V V) => bytes_any w0 a len cap zs h0 hlen R n hn V V hV)
  have US := hid sp_Usable
  have HU := hid u64_in
  clear h0
  have HK := hid HK0
  clear HK0
  conv => arg 2; whnf
  obtain rfl := hm
  by_cases h240 : 240 ≤ k
  · go_wp2_with fail
    refine (RQ.out _ O3.out.rd.at).mono ?_
    rintro e V10 ⟨⟨c10, hx10, hy10, rfl⟩, r⟩
    have O10 := hid (O3.out.next r)
    clear r O3
    go_wp2_with fail
    refine (N.out _ O10.out.rd.at).mono ?_
    rintro e V11 ⟨⟨c11, hc11, rfl⟩, r⟩
    have O11 := hid (O10.out.next r)
    clear r O10
    go_wp2_with (refine wpList_store_row rfl 42 _ _ rfl _ _ rfl rfl 42 _ O11.out.x (by kernel_rfl) rfl (by simp [Value.oneCell']) ?_; have Ox := hid (O11.out.row 1 c10 ((c11 : Int) % 4) hx10 hy10 (by omega) (by omega)); generalize V11.setRow X _ = Vx at Ox ⊢; clear O11)
    refine (WD.out _ Ox.out.rd.at).mono ?_
    rintro e V12 ⟨⟨c12, hx12, hy12, rfl⟩, r⟩
    have O12 := hid (Ox.out.next r)
    clear r Ox
    obtain ⟨z0, z1, z2, z3, z4, z5⟩ := O12.out.cells
    have zf := O12.out.fr 4
    go_wp2
    apply HK.out
    exact hid (O12.out.setB _ (by first | omega | exact (HU.out _).1 | (simp; done)) (by first | omega | exact (HU.out _).2 | (simp; done)))
  · go_wp2_with fail
    refine (RQ.out _ O3.out.rd.at).mono ?_
    rintro e V13 ⟨⟨c13, hx13, hy13, rfl⟩, r⟩
    have O13 := hid (O3.out.next r)
    clear r O3
    go_wp2_with fail
    refine (N.out _ O13.out.rd.at).mono ?_
    rintro e V14 ⟨⟨c14, hc14, rfl⟩, r⟩
    have O14 := hid (O13.out.next r)
    clear r O13
    go_wp2_with (refine wpList_store_row rfl 42 _ _ rfl _ _ rfl rfl 42 _ O14.out.x (by kernel_rfl) rfl (by simp [Value.oneCell']) ?_; have Ox := hid (O14.out.row 1 c13 ((c14 : Int) % 4) hx13 hy13 (by omega) (by omega)); generalize V14.setRow X _ = Vx at Ox ⊢; clear O14)
    apply HK.out
    exact Ox
theorem b0_6 (w0 : World) (a : Option Addr) (len cap : Nat) (zs : List Int) (h0 : IsRow .u8 w0 a len cap zs) (hlen : len ≤ 1048576) (R gv : Nat) (tt : Bool) (W : World) (X Y k : Nat) : B0 w0 a len cap R gv tt W X Y k (fun m => m = 7 ∨ m = 8 ∨ m = 9 ∨ m = 10 ∨ m = 11) := by
  intro m K Q q w u9 u10 u11 u12 u13 u14 u15 u16 u17 u18 u19 u20 u21 u22 u23 u24 u25 u26 u27 u28 u29 u32 u33 u34 u35 u36 u37 u38 u39 u40 u41 u42 u43 u44 u45 u46 u47 u48 u49 u50 u51 u52 u53 u54 u55 u56 u57 u58 u59 u60 u61 u62 u63 u64 u65 u66 u67 u68 u69 u70 u71 u72 u73 u74 u75 u76 u77 u78 u79 u80 u81 u82 u83 u84 u85 u86 u87 u88 u89 u90 u91 u92 u93 u94 u95 u96 u97 u98 u99 u100 u101 u102 u103 u104 u105 u106 u107 u108 u109 u110 u111 u112 u113 u114 u115 u116 u117 u118 u119 u120 u121 u122 u123 u124 u125 u126 u127 u128 u129 u130 u131 u132 u133 u134 u135 u136 u137 u138 u139 u140 u141 u142 u143 u144 u145 u146 u147 u148 hm O3 HK0
  have N := hid (fun V (hV : Rd w0 a len cap R V V) => next_any w0 a len cap zs h0 hlen R V V hV)
  have WD := hid (fun V (hV : Rd w0 a len cap R V V) => wide_any w0 a len cap zs h0 hlen R V V hV)
  have RQ := hid (fun V (hV : Rd w0 a len cap R V V) => request_any w0 a len cap zs h0 hlen R V V hV)
  have BY := hid (fun n (hn : n ≤ 10000) V (hV : Rd w0 a len cap R V V) => bytes_any w0 a len cap zs h0 hlen R n hn V V hV)
  have US := hid sp_Usable
  have HU := hid u64_in
  clear h0
  have HK := hid HK0
  clear HK0
  conv => arg 2; whnf
  rcases hm with rfl | rfl | rfl | rfl | rfl
  · skip
    obtain ⟨z0, z1, z2, z3, z4, z5⟩ := O3.out.cells
    have zf := O3.out.fr 0
    go_wp2
    apply HK.out
    exact hid (O3.out.setKd 3)
  · skip
    obtain ⟨z0, z1, z2, z3, z4, z5⟩ := O3.out.cells
    have zf := O3.out.fr 0
    go_wp2
    apply HK.out
    exact hid (O3.out.setKd 3)
  · skip
    obtain ⟨z0, z1, z2, z3, z4, z5⟩ := O3.out.cells
    have zf := O3.out.fr 0
    go_wp2
    apply HK.out
    exact hid (O3.out.setKd 3)
  · skip
    obtain ⟨z0, z1, z2, z3, z4, z5⟩ := O3.out.cells
    have zf := O3.out.fr 0
    go_wp2
    apply HK.out
    exact hid (O3.out.setKd 3)
  · skip
    obtain ⟨z0, z1, z2, z3, z4, z5⟩ := O3.out.cells
    have zf := O3.out.fr 0
    go_wp2
    apply HK.out
    exact hid (O3.out.setKd 4)
end Go.Proofs.YtacccpkmgkojiaaGreatDoorRR
namespace Go.Proofs.YtacccpkmgkojiaaGreatDoorRR
set_option linter.unusedVariables false
set_option linter.unusedSimpArgs false
set_option maxRecDepth 20000
set_option maxHeartbeats 8000000
open Go.RowKit Go.Shelf Go.Maps
theorem op_any (w0 : World) (a : Option Addr) (len cap : Nat) (zs : List Int) (h0 : IsRow .u8 w0 a len cap zs) (hlen : len ≤ 1048576) (R : Nat) (gv : Nat) (hgv : gv ≤ 400) (tt : Bool) (W : World) (hR : Rd w0 a len cap R W W) :
    Calls Tryz.prog 34 #[.pointer (some ⟨R, 0, none⟩), .int .i64 gv, .bool tt] W fun e W' => ∃ q : Oin, e = .returned (.agg (opC6 q).toArray) ∧ Od6 W.heap.size q W' ∧ Rd w0 a len cap R W W' := by
  have N := hid (fun V (hV : Rd w0 a len cap R V V) => next_any w0 a len cap zs h0 hlen R V V hV)
  have WD := hid (fun V (hV : Rd w0 a len cap R V V) => wide_any w0 a len cap zs h0 hlen R V V hV)
  have RQ := hid (fun V (hV : Rd w0 a len cap R V V) => request_any w0 a len cap zs h0 hlen R V V hV)
  have AD := hid (fun V (hV : Rd w0 a len cap R V V) => address_any w0 a len cap zs h0 hlen R V V hV)
  have BY := hid (fun n (hn : n ≤ 10000) V (hV : Rd w0 a len cap R V V) => bytes_any w0 a len cap zs h0 hlen R n hn V V hV)
  have US := hid sp_Usable
  have HU := hid u64_in
  have RN := hid hR.lt
  have R1 := hid (hR.below ((Below.refl _ _).alloc (Nat.le_refl _) (.cells #[.int .i64 0, .int .i64 0, .int .u64 0, .int .u64 0, .int .u64 0, .slice none 0 0] 42)))
  have Y1 := hid (al_last W (.cells #[.int .i64 0, .int .i64 0, .int .u64 0, .int .u64 0, .int .u64 0, .slice none 0 0] 42))
  have IR := hid h0
  clear h0 hR
  go_enter Tryz.func34, Tryz.ntmps34
  go_wp2_with fail
  generalize W.alloc (.cells #[.int .i64 0, .int .i64 0, .int .u64 0, .int .u64 0, .int .u64 0, .slice none 0 0] 42) = V1 at R1 Y1 ⊢
  refine (N.out _ R1.out.at).mono ?_
  rintro e V2 ⟨⟨k, hk, rfl⟩, r2⟩
  have R2 := hid (R1.out.of r2)
  have Y2 := hid ((r2.g.block _ (lt_blk Y1.out) (fun e => by cases e; have := RN.out; omega)).trans Y1.out)
  clear r2 R1 Y1
  have O2 := hid (show Ob6 w0 a len cap R W V2.heap.size W.heap.size ⟨⟨0, 0, 0, 0, 0, []⟩, none, 0⟩ (V2.alloc (.cells #[.int .i64 0, .int .i64 0, .int .u64 0, .int .u64 0, .int .u64 0, .slice none 0 0] 42)) from by
    have b := (Below.refl V2.heap.size V2).alloc (Nat.le_refl _) (.cells #[.int .i64 0, .int .i64 0, .int .u64 0, .int .u64 0, .int .u64 0, .slice none 0 0] 42)
    have hl := lt_blk Y2.out
    exact ⟨R2.out.below b, RN.out, al_last V2 _, R2.out.g.size, by rw [b.block _ hl]; exact Y2.out, Nat.le_refl _, by omega, ⟨by decide, by decide, by decide, ⟨rfl, .inl ⟨rfl, rfl⟩⟩⟩⟩)
  clear R2 Y2
  go_upto_if 13 with fail
  generalize (V2.alloc (.cells #[.int .i64 0, .int .i64 0, .int .u64 0, .int .u64 0, .int .u64 0, .slice none 0 0] 42)) = V3 at O2 ⊢
  generalize V2.heap.size = X at O2 ⊢
  generalize hYY : W.heap.size = Y at O2 ⊢
  go_cut [13] (fun _ w' => ∃ q, Hid (Ob6 w0 a len cap R W X Y q w'))
  case first =>
    by_cases hg : 0 < gv
    · have hg0 : ((gv : Int) == 0) = false := by simp; omega
      go_wp2_with fail
      refine (N.out _ O2.out.rd.at).mono ?_
      rintro e V3 ⟨⟨c3, hc3, rfl⟩, r⟩
      have O3 := hid (O2.out.next r)
      clear r O2
      have Ox := hid (O3.out.setRef (wrap64 ((gv : Int) - (c3 : Int) % (gv : Int))))
      obtain ⟨z0, z1, z2, z3, z4, z5⟩ := O3.out.cells
      have zf := O3.out.fr 1
      cases h3 : ((k : Int) % 3 == 0)
      · go_wp2
        go_meet
        case rel => exact ⟨_, Ox⟩
      · go_wp2_with fail
        clear z0 z1 z2 z3 z4 z5 zf
        refine (N.out _ Ox.out.rd.at).mono ?_
        rintro e V4 ⟨⟨c4, hc4, rfl⟩, r⟩
        have O4 := hid (Ox.out.next r)
        clear r Ox
        obtain ⟨z0, z1, z2, z3, z4, z5⟩ := O4.out.cells
        have zf := O4.out.fr 1
        go_wp2
        go_meet
        case rel => exact ⟨_, hid (O4.out.setRef _)⟩
    · go_wp2
      go_meet
      case rel => exact ⟨_, O2⟩
  case rest =>
    obtain ⟨q, O3⟩ := hcut
    clear O2
    go_upto_block 0 with fail
    generalize hm0 : (k : Int) % 16 = m
    have hb : B0 w0 a len cap R gv tt W X Y k (fun m => 0 ≤ m ∧ m < 16) := fun m K Q q w => by
      intro u9 u10 u11 u12 u13 u14 u15 u16 u17 u18 u19 u20 u21 u22 u23 u24 u25 u26 u27 u28 u29 u32 u33 u34 u35 u36 u37 u38 u39 u40 u41 u42 u43 u44 u45 u46 u47 u48 u49 u50 u51 u52 u53 u54 u55 u56 u57 u58 u59 u60 u61 u62 u63 u64 u65 u66 u67 u68 u69 u70 u71 u72 u73 u74 u75 u76 u77 u78 u79 u80 u81 u82 u83 u84 u85 u86 u87 u88 u89 u90 u91 u92 u93 u94 u95 u96 u97 u98 u99 u100 u101 u102 u103 u104 u105 u106 u107 u108 u109 u110 u111 u112 u113 u114 u115 u116 u117 u118 u119 u120 u121 u122 u123 u124 u125 u126 u127 u128 u129 u130 u131 u132 u133 u134 u135 u136 u137 u138 u139 u140 u141 u142 u143 u144 u145 u146 u147 u148 hm
      have hc : (m = 0) ∨ (m = 1) ∨ (m = 2) ∨ (m = 3) ∨ (m = 4) ∨ (m = 5 ∨ m = 6) ∨ (m = 7 ∨ m = 8 ∨ m = 9 ∨ m = 10 ∨ m = 11) ∨ (m = 12) ∨ (m = 13) ∨ (m = 14) ∨ (m = 15) := by omega
      rcases hc with hc | hc | hc | hc | hc | hc | hc | hc | hc | hc | hc
      · exact b0_0 w0 a len cap zs IR.out hlen R gv tt W X Y k m K Q q w _ _ _ _ _ _ _ _ _ _ _ _ _ _ _ _ _ _ _ _ _ _ _ _ _ _ _ _ _ _ _ _ _ _ _ _ _ _ _ _ _ _ _ _ _ _ _ _ _ _ _ _ _ _ _ _ _ _ _ _ _ _ _ _ _ _ _ _ _ _ _ _ _ _ _ _ _ _ _ _ _ _ _ _ _ _ _ _ _ _ _ _ _ _ _ _ _ _ _ _ _ _ _ _ _ _ _ _ _ _ _ _ _ _ _ _ _ _ _ _ _ _ _ _ _ _ _ _ _ _ _ _ _ _ _ _ _ _ hc
      · exact b0_1 w0 a len cap zs IR.out hlen R gv tt W X Y k m K Q q w _ _ _ _ _ _ _ _ _ _ _ _ _ _ _ _ _ _ _ _ _ _ _ _ _ _ _ _ _ _ _ _ _ _ _ _ _ _ _ _ _ _ _ _ _ _ _ _ _ _ _ _ _ _ _ _ _ _ _ _ _ _ _ _ _ _ _ _ _ _ _ _ _ _ _ _ _ _ _ _ _ _ _ _ _ _ _ _ _ _ _ _ _ _ _ _ _ _ _ _ _ _ _ _ _ _ _ _ _ _ _ _ _ _ _ _ _ _ _ _ _ _ _ _ _ _ _ _ _ _ _ _ _ _ _ _ _ _ hc
      · exact b0_2 w0 a len cap zs IR.out hlen R gv tt W X Y k m K Q q w _ _ _ _ _ _ _ _ _ _ _ _ _ _ _ _ _ _ _ _ _ _ _ _ _ _ _ _ _ _ _ _ _ _ _ _ _ _ _ _ _ _ _ _ _ _ _ _ _ _ _ _ _ _ _ _ _ _ _ _ _ _ _ _ _ _ _ _ _ _ _ _ _ _ _ _ _ _ _ _ _ _ _ _ _ _ _ _ _ _ _ _ _ _ _ _ _ _ _ _ _ _ _ _ _ _ _ _ _ _ _ _ _ _ _ _ _ _ _ _ _ _ _ _ _ _ _ _ _ _ _ _ _ _ _ _ _ _ hc
      · exact b0_3 w0 a len cap zs IR.out hlen R gv tt W X Y k m K Q q w _ _ _ _ _ _ _ _ _ _ _ _ _ _ _ _ _ _ _ _ _ _ _ _ _ _ _ _ _ _ _ _ _ _ _ _ _ _ _ _ _ _ _ _ _ _ _ _ _ _ _ _ _ _ _ _ _ _ _ _ _ _ _ _ _ _ _ _ _ _ _ _ _ _ _ _ _ _ _ _ _ _ _ _ _ _ _ _ _ _ _ _ _ _ _ _ _ _ _ _ _ _ _ _ _ _ _ _ _ _ _ _ _ _ _ _ _ _ _ _ _ _ _ _ _ _ _ _ _ _ _ _ _ _ _ _ _ _ hc
      · exact b0_4 w0 a len cap zs IR.out hlen R gv tt W X Y k m K Q q w _ _ _ _ _ _ _ _ _ _ _ _ _ _ _ _ _ _ _ _ _ _ _ _ _ _ _ _ _ _ _ _ _ _ _ _ _ _ _ _ _ _ _ _ _ _ _ _ _ _ _ _ _ _ _ _ _ _ _ _ _ _ _ _ _ _ _ _ _ _ _ _ _ _ _ _ _ _ _ _ _ _ _ _ _ _ _ _ _ _ _ _ _ _ _ _ _ _ _ _ _ _ _ _ _ _ _ _ _ _ _ _ _ _ _ _ _ _ _ _ _ _ _ _ _ _ _ _ _ _ _ _ _ _ _ _ _ _ hc
      · exact b0_5 w0 a len cap zs IR.out hlen R gv tt W X Y k m K Q q w _ _ _ _ _ _ _ _ _ _ _ _ _ _ _ _ _ _ _ _ _ _ _ _ _ _ _ _ _ _ _ _ _ _ _ _ _ _ _ _ _ _ _ _ _ _ _ _ _ _ _ _ _ _ _ _ _ _ _ _ _ _ _ _ _ _ _ _ _ _ _ _ _ _ _ _ _ _ _ _ _ _ _ _ _ _ _ _ _ _ _ _ _ _ _ _ _ _ _ _ _ _ _ _ _ _ _ _ _ _ _ _ _ _ _ _ _ _ _ _ _ _ _ _ _ _ _ _ _ _ _ _ _ _ _ _ _ _ hc
      · exact b0_6 w0 a len cap zs IR.out hlen R gv tt W X Y k m K Q q w _ _ _ _ _ _ _ _ _ _ _ _ _ _ _ _ _ _ _ _ _ _ _ _ _ _ _ _ _ _ _ _ _ _ _ _ _ _ _ _ _ _ _ _ _ _ _ _ _ _ _ _ _ _ _ _ _ _ _ _ _ _ _ _ _ _ _ _ _ _ _ _ _ _ _ _ _ _ _ _ _ _ _ _ _ _ _ _ _ _ _ _ _ _ _ _ _ _ _ _ _ _ _ _ _ _ _ _ _ _ _ _ _ _ _ _ _ _ _ _ _ _ _ _ _ _ _ _ _ _ _ _ _ _ _ _ _ _ hc
      · exact b0_7 w0 a len cap zs IR.out hlen R gv tt W X Y k m K Q q w _ _ _ _ _ _ _ _ _ _ _ _ _ _ _ _ _ _ _ _ _ _ _ _ _ _ _ _ _ _ _ _ _ _ _ _ _ _ _ _ _ _ _ _ _ _ _ _ _ _ _ _ _ _ _ _ _ _ _ _ _ _ _ _ _ _ _ _ _ _ _ _ _ _ _ _ _ _ _ _ _ _ _ _ _ _ _ _ _ _ _ _ _ _ _ _ _ _ _ _ _ _ _ _ _ _ _ _ _ _ _ _ _ _ _ _ _ _ _ _ _ _ _ _ _ _ _ _ _ _ _ _ _ _ _ _ _ _ hc
      · exact b0_8 w0 a len cap zs IR.out hlen R gv tt W X Y k m K Q q w _ _ _ _ _ _ _ _ _ _ _ _ _ _ _ _ _ _ _ _ _ _ _ _ _ _ _ _ _ _ _ _ _ _ _ _ _ _ _ _ _ _ _ _ _ _ _ _ _ _ _ _ _ _ _ _ _ _ _ _ _ _ _ _ _ _ _ _ _ _ _ _ _ _ _ _ _ _ _ _ _ _ _ _ _ _ _ _ _ _ _ _ _ _ _ _ _ _ _ _ _ _ _ _ _ _ _ _ _ _ _ _ _ _ _ _ _ _ _ _ _ _ _ _ _ _ _ _ _ _ _ _ _ _ _ _ _ _ hc
      · exact b0_9 w0 a len cap zs IR.out hlen R gv tt W X Y k m K Q q w _ _ _ _ _ _ _ _ _ _ _ _ _ _ _ _ _ _ _ _ _ _ _ _ _ _ _ _ _ _ _ _ _ _ _ _ _ _ _ _ _ _ _ _ _ _ _ _ _ _ _ _ _ _ _ _ _ _ _ _ _ _ _ _ _ _ _ _ _ _ _ _ _ _ _ _ _ _ _ _ _ _ _ _ _ _ _ _ _ _ _ _ _ _ _ _ _ _ _ _ _ _ _ _ _ _ _ _ _ _ _ _ _ _ _ _ _ _ _ _ _ _ _ _ _ _ _ _ _ _ _ _ _ _ _ _ _ _ hc
      · exact b0_10 w0 a len cap zs IR.out hlen R gv tt W X Y k m K Q q w _ _ _ _ _ _ _ _ _ _ _ _ _ _ _ _ _ _ _ _ _ _ _ _ _ _ _ _ _ _ _ _ _ _ _ _ _ _ _ _ _ _ _ _ _ _ _ _ _ _ _ _ _ _ _ _ _ _ _ _ _ _ _ _ _ _ _ _ _ _ _ _ _ _ _ _ _ _ _ _ _ _ _ _ _ _ _ _ _ _ _ _ _ _ _ _ _ _ _ _ _ _ _ _ _ _ _ _ _ _ _ _ _ _ _ _ _ _ _ _ _ _ _ _ _ _ _ _ _ _ _ _ _ _ _ _ _ _ hc
    have H0 : (0 : Int) ≤ m ∧ m < 16 := by omega
    clear hm0
    refine hb m _ _ q _ _ _ _ _ _ _ _ _ _ _ _ _ _ _ _ _ _ _ _ _ _ _ _ _ _ _ _ _ _ _ _ _ _ _ _ _ _ _ _ _ _ _ _ _ _ _ _ _ _ _ _ _ _ _ _ _ _ _ _ _ _ _ _ _ _ _ _ _ _ _ _ _ _ _ _ _ _ _ _ _ _ _ _ _ _ _ _ _ _ _ _ _ _ _ _ _ _ _ _ _ _ _ _ _ _ _ _ _ _ _ _ _ _ _ _ _ _ _ _ _ _ _ _ _ _ _ _ _ _ _ _ _ _ _ _ _ _ _ H0 O3 ?_
    clear hb
    intro v9 v10 v11 v12 v13 v14 v15 v16 v17 v18 v19 v20 v21 v22 v23 v24 v25 v26 v27 v28 v29 v32 v33 v34 v35 v36 v37 v38 v39 v40 v41 v42 v43 v44 v45 v46 v47 v48 v49 v50 v51 v52 v53 v54 v55 v56 v57 v58 v59 v60 v61 v62 v63 v64 v65 v66 v67 v68 v69 v70 v71 v72 v73 v74 v75 v76 v77 v78 v79 v80 v81 v82 v83 v84 v85 v86 v87 v88 v89 v90 v91 v92 v93 v94 v95 v96 v97 v98 v99 v100 v101 v102 v103 v104 v105 v106 v107 v108 v109 v110 v111 v112 v113 v114 v115 v116 v117 v118 v119 v120 v121 v122 v123 v124 v125 v126 v127 v128 v129 v130 v131 v132 v133 v134 v135 v136 v137 v138 v139 v140 v141 v142 v143 v144 v145 v146 v147 v148 q2 w2 Oz
    clear O3
    go_upto_block 1 with fail
    go_cut [116] (fun _ w' => ∃ q, Hid (Ob6 w0 a len cap R W X Y q w'))
    case first =>
      have hm : k = 255 ∨ k = 254 ∨ k = 253 ∨ k = 252 ∨ k = 251 ∨ k < 251 := by omega
      rcases hm with rfl | rfl | rfl | rfl | rfl | hlt
      · skip
        obtain ⟨z0, z1, z2, z3, z4, z5⟩ := Oz.out.cells
        have zf := Oz.out.fr 2
        go_wp2_with fail
        go_region_with (first | (go_at_call 33; refine (N.out _ Oz.out.drew.rd.at).mono ?_; rintro e Vq ⟨⟨cq, hcq, rfl⟩, r⟩; have Oq := hid (Oz.out.drew.next r); obtain ⟨y0, y1, y2, y3, y4, y5⟩ := Oq.out.cells; have yf := Oq.out.fr 2; clear r))
        all_goals (go_wp2; go_meet; case rel => exact ⟨_, hid (Oq.out.setP _ (by first | omega | exact (HU.out _).1 | (simp; done)) (by first | omega | exact (HU.out _).2 | (simp; done)))⟩)
      · skip
        obtain ⟨z0, z1, z2, z3, z4, z5⟩ := Oz.out.cells
        have zf := Oz.out.fr 1
        go_wp2_with fail
        have O5 := hid (Oz.out.setRef 0)
        clear Oz z0 z1 z2 z3 z4 z5 zf
        refine (AD.out _ O5.out.rd.at).mono ?_
        rintro e V6 ⟨⟨c6, hx6, hy6, rfl⟩, r⟩
        have O6 := hid (O5.out.next r)
        clear r O5
        obtain ⟨z0, z1, z2, z3, z4, z5⟩ := O6.out.cells
        have zf := O6.out.fr 2
        go_wp2
        go_meet
        case rel => exact ⟨_, hid (O6.out.setP _ (by first | omega | exact (HU.out _).1 | (simp; done)) (by first | omega | exact (HU.out _).2 | (simp; done)))⟩
      · skip
        obtain ⟨z0, z1, z2, z3, z4, z5⟩ := Oz.out.cells
        have zf := Oz.out.fr 0
        go_wp2
        go_meet
        case rel => exact ⟨_, hid (Oz.out.setKd 7)⟩
      · skip
        obtain ⟨z0, z1, z2, z3, z4, z5⟩ := Oz.out.cells
        have zf := Oz.out.fr 1
        go_wp2
        go_meet
        case rel => exact ⟨_, hid (Oz.out.setRef _)⟩
      · go_wp2_with fail
        refine (N.out _ Oz.out.rd.at).mono ?_
        rintro e V7 ⟨⟨c7, hc7, rfl⟩, r⟩
        have O7 := hid (Oz.out.next r)
        clear r Oz
        obtain ⟨z0, z1, z2, z3, z4, z5⟩ := O7.out.cells
        have zf := O7.out.fr 3
        go_wp2
        go_meet
        case rel => exact ⟨_, hid (O7.out.setA _ (by first | omega | exact (HU.out _).1 | (simp; done)) (by first | omega | exact (HU.out _).2 | (simp; done)))⟩
      · have g1 : ((k : Int) == 255) = false := by simp; omega
        have g2 : ((k : Int) == 254) = false := by simp; omega
        have g3 : ((k : Int) == 253) = false := by simp; omega
        have g4 : ((k : Int) == 252) = false := by simp; omega
        have g5 : ((k : Int) == 251) = false := by simp; omega
        go_wp2
        go_meet
        case rel => exact ⟨_, Oz⟩
    case rest =>
      obtain ⟨q3, Of⟩ := hcut
      clear Oz
      go_wp2_with (first | (refine wpList_load_row rfl 42 _ rfl _ rfl _ _ _ _ Of.out.x Tryz.underlying42 rfl (by kernel_rfl) ?_) | (refine wpList_store_row rfl 42 _ _ rfl _ _ rfl rfl 42 _ Of.out.y (by kernel_rfl) rfl (by simp [opC6, Value.oneCell']) ?_))
      refine bodyPost_ret (results_cell_row (by rfl) _ _ Y 42 _ (0, 0) _ (by rfl) (setRow_at Of.out.y _) Tryz.underlying42 rfl (by kernel_rfl)) (by rfl) ?_
      have g := grown_setRow wc Y (opC6 q3).toArray
      have hy := Of.out.yn
      have hr := Of.out.rn
      have od := Of.out.od.kept g (own_neT Of.out.od.d Of.out.y (by decide))
      exact ⟨q3, rfl, od, Of.out.rd.app g (fun r e => by cases e; omega)⟩
end Go.Proofs.YtacccpkmgkojiaaGreatDoorRR
namespace Go.Proofs.YtacccpkmgkojiaaGreatDoorRR
set_option linter.unusedVariables false
set_option linter.unusedSimpArgs false
set_option maxRecDepth 20000
set_option maxHeartbeats 8000000
open Go.RowKit Go.Shelf Go.Maps
def Drawn6 (w : World) (e : Ending) (w' : World) : Prop :=
  ∃ (c : Cd) (ops : List Oin) (A : Option Addr) (n B : Nat), e = .returned (.tuple #[.agg (cdC c).toArray, .slice A ops.length n]) ∧ c.ds.length ≤ 60 ∧ ops.length ≤ 301 ∧ w.heap.size ≤ B ∧ Ok4 B c w' ∧ w'.ownsRow B 42 6 (.slice A ops.length n) ops.length (flatO6 ops) ∧ (∀ q ∈ ops, Od6 B q w') ∧ Below w.heap.size w w'
def slLen6 : Value → Nat
  | .slice _ l _ => l
  | _ => 0
theorem draw6 (a : Option Addr) (len cap : Nat) (zs : List Int) (w : World) (h0 : IsRow .u8 w a len cap zs) (hlen : len ≤ 1048576) :
    Calls Tryz.prog 11 #[.slice a len cap] w fun e w' => Drawn6 w e w' := by
  have N := hid (fun R V (hV : Rd w a len cap R V V) => next_any w a len cap zs h0 hlen R V V hV)
  have HP := hid (fun R V (hV : Rd w a len cap R V V) => heap_any w a len cap zs h0 hlen R V hV)
  have OP := hid (fun R gv (hg : gv ≤ 400) tt V (hV : Rd w a len cap R V V) => op_any w a len cap zs h0 hlen R gv hg tt V hV)
  have b1 := (Below.refl w.heap.size w).alloc (Nat.le_refl _) (.cells #[.int .i64 0, .int .i64 0, .int .i64 0, .int .i64 0, .int .u64 0, .slice none 0 0] 26)
  have b2 := b1.alloc b1.size (.cells #[.slice a len cap, .int .i64 0] 72)
  have R0 := hid (show Rd w a len cap (w.heap.size + 1) w ((w.alloc (.cells #[.int .i64 0, .int .i64 0, .int .i64 0, .int .i64 0, .int .u64 0, .slice none 0 0] 26)).alloc (.cells #[.slice a len cap, .int .i64 0] 72)) from ⟨⟨0, Nat.zero_le _, by rw [← al_size w (.cells #[.int .i64 0, .int .i64 0, .int .i64 0, .int .i64 0, .int .u64 0, .slice none 0 0] 26)]; exact al_last _ _⟩, b2, by omega, ⟨b2.os, b2.tape, b2.output, b2.size, fun g h1 _ => b2.block g h1⟩⟩)
  have Y0 := hid ((al_old (w.alloc (.cells #[.int .i64 0, .int .i64 0, .int .i64 0, .int .i64 0, .int .u64 0, .slice none 0 0] 26)) (.cells #[.slice a len cap, .int .i64 0] 72) w.heap.size (by rw [al_size]; omega)).trans (al_last w (.cells #[.int .i64 0, .int .i64 0, .int .i64 0, .int .i64 0, .int .u64 0, .slice none 0 0] 26)))
  clear b1 b2 h0
  go_enter Tryz.func11, Tryz.ntmps11
  go_wp2_with fail
  generalize (w.alloc (.cells #[.int .i64 0, .int .i64 0, .int .i64 0, .int .i64 0, .int .u64 0, .slice none 0 0] 26)).alloc (.cells #[.slice a len cap, .int .i64 0] 72) = V1 at R0 Y0 ⊢
  obtain ⟨R, hR⟩ : ∃ R, R = w.heap.size + 1 := ⟨_, rfl⟩
  obtain ⟨Y, hY⟩ : ∃ Y, Y = w.heap.size := ⟨_, rfl⟩
  rw [← hR] at R0 ⊢
  rw [← hY] at Y0 ⊢
  have HRY := hid (And.intro hR hY)
  clear hR hY
  refine (HP.out _ _ R0.out.at).mono ?_
  rintro e V2 ⟨c, rfl, hcl, ok, r⟩
  unfold cdC
  have D0 := hid (show D6 w a len cap R V2.heap.size Y c (.slice none 0 0) [] (V2.alloc (.cells #[.int .i64 c.mi, .int .i64 c.fi, .int .i64 c.la, .int .i64 c.bu, .int .u64 c.ky, .slice c.da c.ds.length c.dc] 26)) from by
    have bA := (Below.refl V2.heap.size V2).alloc (Nat.le_refl _) (.cells #[.int .i64 c.mi, .int .i64 c.fi, .int .i64 c.la, .int .i64 c.bu, .int .u64 c.ky, .slice c.da c.ds.length c.dc] 26)
    have h1 := R0.out.lt
    have h2 := HRY.out
    have yb : V2.heap[Y]? = _ := (r.g.block Y (lt_blk Y0.out) (fun e => by cases e; omega)).trans Y0.out
    exact ⟨(R0.out.of r).below bA, r.lt, by omega, by omega, al_last V2 _, by rw [bA.block _ (lt_blk yb)]; exact yb, ⟨ok.k0, ok.k1, ok.dw, (own_downD h1 ok.d).alloc _⟩, ⟨rfl, .inl ⟨rfl, rfl⟩⟩, fun q hq => (by cases hq)⟩)
  clear ok r R0 Y0
  have HCL := hid hcl
  clear hcl
  go_wp2_with fail
  generalize V2.alloc (.cells #[.int .i64 c.mi, .int .i64 c.fi, .int .i64 c.la, .int .i64 c.bu, .int .u64 c.ky, .slice c.da c.ds.length c.dc] 26) = V3 at D0 ⊢
  generalize V2.heap.size = C at D0 ⊢
  refine (N.out _ _ D0.out.rd.at).mono ?_
  rintro e V4 ⟨⟨k, hk, rfl⟩, r⟩
  have D1 := hid (D0.out.next r)
  clear r D0
  go_wp2_with fail
  refine (N.out _ _ D1.out.rd.at).mono ?_
  rintro e V5 ⟨⟨n0, hn0, rfl⟩, r⟩
  have D2 := hid (D1.out.next r)
  clear r D1
  obtain ⟨n, hn, en⟩ : ∃ n : Nat, n < 60 ∧ (n0 : Int) % 60 = (n : Int) := ⟨n0 % 60, by omega, by omega⟩
  go_wp2
  rw [en]
  clear en
  go_loopw [7, 9] (fun v i wr => ∃ (j : Nat) (ops : List Oin), j ≤ n ∧ i = .int .i64 j ∧ ops.length = j ∧ Hid (D6 w a len cap R C Y c v ops wr)) (fun _ i _ => n - (intOf i).toNat)
  case atStart => exact ⟨0, [], Nat.zero_le _, rfl, rfl, D2⟩
  case round =>
    obtain ⟨j, ops, hj, rfl, hol, HD⟩ := hrel
    clear D2
    obtain ⟨va, vb, vc, rfl⟩ := own_slD HD.out.row
    obtain rfl := own_lenD HD.out.row
    have HL := hid hol
    clear hol
    by_cases hlt : j < n
    · go_wp2_with fail
      refine (OP.out _ ops.length (by have := HL.out; omega) _ _ HD.out.rd.at).mono ?_
      rintro e V6 ⟨q, rfl, od, r⟩
      have D3 := hid (HD.out.next r)
      obtain ⟨v', w', happ, hd⟩ := D3.out.app (by have := HL.out; omega) q ⟨od.p, od.a, od.b, own_downD HD.out.rd.lt od.d⟩
      have D4 := hid hd
      clear hd od r HD
      unfold opC6 at happ ⊢
      go_wp2_with (at_builtin; refine wpList_appT 27 rfl (.tmp 25) (.tmp 33) (by with_reducible rfl) rfl rfl rfl happ ?_)
      go_roundw
      case rel => exact ⟨j + 1, ops ++ [q], by omega, by go_num, by simp [HL.out], D4⟩
      case measure => simp [intOf]; omega
    · have : j = n := by omega
      subst this
      go_upto_if 36 with fail
      go_cut [7, 36] (fun v _ w' => ∃ ops : List Oin, ops.length ≤ 301 ∧ Hid (D6 w a len cap R C Y c v ops w'))
      case first =>
        cases g : ((k : Int) == 255)
        case false =>
          go_wp2
          go_meet
          case rel => exact ⟨ops, by have := HL.out; omega, HD⟩
        case true =>
          go_wp2_with fail
          go_loopw [7] (fun v wr => ∃ ops : List Oin, ops.length ≤ 301 ∧ Hid (D6 w a len cap R C Y c v ops wr)) (fun v _ => 400 - slLen6 v)
          case atStart => exact ⟨ops, by have := HL.out; omega, HD⟩
          case round =>
            clear HD HL
            obtain ⟨ops2, hol, HD⟩ := hrel
            obtain ⟨xa, xb, xc, rfl⟩ := own_slD HD.out.row
            obtain rfl := own_lenD HD.out.row
            by_cases hlt : ops2.length < 300 + j % 2
            · have hlt' : (ops2.length : Int) < 300 + (j : Int) % 2 := by omega
              obtain ⟨v', w', happ, hd⟩ := HD.out.app (by omega) ⟨⟨0, 0, 0, 1, 0, []⟩, none, 0⟩ ⟨by decide, by decide, by decide, ⟨rfl, .inl ⟨rfl, rfl⟩⟩⟩
              have D4 := hid hd
              obtain ⟨ya, yb, yc, rfl⟩ := own_slD hd.row
              have hyb := own_lenD hd.row
              rw [List.length_append] at hyb
              obtain rfl := hyb
              clear hd
              go_wp2_with (at_builtin; refine wpList_appT 27 rfl (.tmp 43) (.tmp 45) (by with_reducible rfl) rfl rfl rfl happ ?_)
              go_roundw
              case rel => exact ⟨ops2 ++ [⟨⟨0, 0, 0, 1, 0, []⟩, none, 0⟩], by simp; omega, D4⟩
              case measure => simp [slLen6]; omega
            · have hlt' : ¬ (ops2.length : Int) < 300 + (j : Int) % 2 := by omega
              go_wp2
              go_meet
              case rel => exact ⟨ops2, hol, HD⟩
      case rest =>
        clear HD HL
        obtain ⟨ops3, hol, HD⟩ := hcut
        obtain ⟨xa, xb, xc, rfl⟩ := own_slD HD.out.row
        obtain rfl := own_lenD HD.out.row
        go_wp2_with (first | (refine wpList_load_row rfl 26 _ rfl _ rfl _ _ _ _ HD.out.cb Tryz.underlying26 rfl (by kernel_rfl) ?_) | (refine wpList_store_row rfl 26 _ _ rfl _ _ rfl rfl 26 _ HD.out.yb (by kernel_rfl) rfl (by simp [cdC, Value.oneCell']) ?_))
        refine bodyPost_ret (results_cell_tmp (by rfl) _ _ Y _ (by rfl) (run_loadVar_row _ Y 26 26 _ (0, 0) _ (setRow_at HD.out.yb _) Tryz.underlying26 rfl (by kernel_rfl))) (by rfl) ?_
        have g := grown_setRow wc Y (cdC c).toArray
        have hy := HD.out.yr
        have hy1 := HD.out.y1
        have hR := HRY.out
        exact ⟨c, ops3, xa, xc, R + 1, rfl, HCL.out, hol, by omega, HD.out.ok.kept g (fun e => by have := (HD.out.ok.d.lt Y e).1; omega), HD.out.row.kept g (.inr fun e => by have := (HD.out.row.lt Y e).1; omega), fun q hq => (HD.out.dat q hq).kept g (fun e => by have := ((HD.out.dat q hq).d.lt Y e).1; omega), HD.out.rd.bel.grown g HD.out.rd.bel.size (fun r e => by cases e; omega)⟩
end Go.Proofs.YtacccpkmgkojiaaGreatDoorRR
