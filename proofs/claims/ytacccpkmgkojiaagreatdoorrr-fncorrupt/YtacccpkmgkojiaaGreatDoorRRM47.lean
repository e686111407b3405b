import Derived.Below
import Derived.BigGuardIn
import Derived.BigQuiet
import Derived.BigRegionIn
import Derived.Conc.MuLone
import Derived.Deep.AppendLies
import Derived.Deep.CutBlock
import Derived.Deep.DeepCutAuto
import Derived.Deep.LoopGhost
import Derived.Deep.OwnRows
import Derived.Deep.QuietTactic
import Derived.Deep.RegionWith
import Derived.KernelRfl
import Derived.Laws.Bits64b
import Derived.Laws.CopyOwn
import Derived.Laws.Rows
import Derived.Laws.Tables
import Derived.Lib.SmallJoins
import Derived.LoopIn
import Derived.LoopNIn
import Derived.Maps.OwnOps
import Derived.Maps.OwnSet
import Derived.OpenShut
import Derived.OrdersHeld
import Derived.OwnWalkIn
import Derived.ProofKit
import Derived.RangeFuncBound
import Derived.RangeFuncCalls
import Derived.RangeFuncLeaves
import Derived.RangeFuncNested
import Derived.Shelf.Abstract
import Derived.Shelf.Bits.Mul64
import Derived.Shelf.RegionOpen
import Derived.TacticsInMore
import Derived.Test.YtacccpkmgkojiaaGreatDoorRRProg
import Derived.WalkKit
import Derived.WalkLawsBesides
import Derived.Test.YtacccpkmgkojiaaGreatDoorRRM00
import Derived.Test.YtacccpkmgkojiaaGreatDoorRRM01
import Derived.Test.YtacccpkmgkojiaaGreatDoorRRM02
import Derived.Test.YtacccpkmgkojiaaGreatDoorRRM06
import Derived.Test.YtacccpkmgkojiaaGreatDoorRRM08
import Derived.Test.YtacccpkmgkojiaaGreatDoorRRM09
import Derived.Test.YtacccpkmgkojiaaGreatDoorRRM10
import Derived.Test.YtacccpkmgkojiaaGreatDoorRRM14
namespace Go.Proofs.YtacccpkmgkojiaaGreatDoorRR
set_option linter.unusedVariables false
set_option linter.unusedSimpArgs false
set_option maxRecDepth 20000
set_option maxHeartbeats 8000000
open Go.ChangeShapes Go.WideShapes Go.ChangeAt Go.RowKit Go.Shelf Go.Maps
theorem request_any (w0 : World) (a : Option Addr) (len cap : Nat) (zs : List Int) (h0 : IsRow .u8 w0 a len cap zs) (hlen : len ≤ 1048576) (R : Nat) (b0 W : World) (hR : Rd w0 a len cap R b0 W) :
    Calls Tryz.prog 55 #[.pointer (some ⟨R, 0, none⟩)] W fun e W' => (∃ c : Int, 0 ≤ c ∧ c ≤ 18446744073709551615 ∧ e = .returned (.int .u64 c)) ∧ Rd w0 a len cap R b0 W' := by
  have N := hid (fun W h => next_any w0 a len cap zs h0 hlen R b0 W h)
  have V := hid (fun W h => wide_any w0 a len cap zs h0 hlen R b0 W h)
  have U := hid sp_Usable
  have HR := hid hR
  clear hR h0
  go_enter Tryz.func55, Tryz.ntmps55
  go_wp2_with fail
  refine (N.out _ HR.out).mono ?_
  rintro e w1 ⟨⟨k, hk, rfl⟩, r1⟩
  have R1 := hid r1
  clear r1 HR
  by_cases h1 : 250 ≤ k
  · have : k = 250 ∨ k = 251 ∨ k = 252 ∨ k = 253 ∨ k = 254 ∨ k = 255 := by omega
    clear h1 hk
    rcases this with rfl | rfl | rfl | rfl | rfl | rfl
    all_goals
      go_wp2_with fail
      refine (V.out _ R1.out).mono ?_
      rintro e w2 ⟨⟨c, hc0, hc1, rfl⟩, r2⟩
      have R2 := hid r2
      clear r2
      go_wp2
      go_ret
      exact ⟨⟨_, by omega, by omega, rfl⟩, R2.out⟩
  · by_cases h2 : 225 ≤ k
    · go_wp2
      go_ret
      exact ⟨⟨_, by omega, by omega, rfl⟩, R1.out⟩
    · by_cases h3 : 200 ≤ k
      · go_wp2
        go_ret
        exact ⟨⟨_, by omega, by omega, rfl⟩, R1.out⟩
      · by_cases h4 : k % 3 = 0
        · have h4b : ((k : Int) % 3 == 0) = true := by simp; omega
          have hu := us_le ((k : Int) / 3 % 12)
          go_wp2_with fail
          refine (U.out _ _).mono ?_
          rintro e w2 ⟨rfl, b2⟩
          have R2 := hid (R1.out.below b2)
          clear b2
          generalize us ((k : Int) / 3 % 12) = u at hu
          go_wp2
          go_ret
          exact ⟨⟨_, by omega, by omega, rfl⟩, R2.out⟩
        · have h4b : ((k : Int) % 3 == 0) = false := by simp; omega
          by_cases h5 : k % 3 = 1
          · have h5b : ((k : Int) % 3 == 1) = true := by simp; omega
            go_wp2
            go_ret
            exact ⟨⟨_, by omega, by omega, rfl⟩, R1.out⟩
          · have h5b : ((k : Int) % 3 == 1) = false := by simp; omega
            go_wp2
            go_ret
            exact ⟨⟨_, by omega, by omega, rfl⟩, R1.out⟩
theorem shr_in (c : Int) (j : Nat) (h0 : 0 ≤ c) (h1 : c ≤ 18446744073709551615) : 0 ≤ c / 2 ^ j ∧ c / 2 ^ j ≤ 18446744073709551615 :=
  ⟨Int.ediv_nonneg h0 (Int.pow_nonneg (by omega)), Int.le_trans (Int.ediv_le_self _ h0) h1⟩
theorem u64_in (z : Int) : 0 ≤ IntKind.u64.wrap z ∧ IntKind.u64.wrap z ≤ 18446744073709551615 := by rw [IntKind.wrap_u64]; omega
theorem address_any (w0 : World) (a : Option Addr) (len cap : Nat) (zs : List Int) (h0 : IsRow .u8 w0 a len cap zs) (hlen : len ≤ 1048576) (R : Nat) (b0 W : World) (hR : Rd w0 a len cap R b0 W) :
    Calls Tryz.prog 35 #[.pointer (some ⟨R, 0, none⟩)] W fun e W' => (∃ c : Int, 0 ≤ c ∧ c ≤ 18446744073709551615 ∧ e = .returned (.int .u64 c)) ∧ Rd w0 a len cap R b0 W' := by
  have N := hid (fun W h => next_any w0 a len cap zs h0 hlen R b0 W h)
  have V := hid (fun W h => wide_any w0 a len cap zs h0 hlen R b0 W h)
  have I4 := hid sp_l4Slab
  have IG := hid sp_SlabPages
  have IZ := hid sp_SlotSize
  have IN := hid sp_SlabSlots
  have IL := hid sp_LargeStart
  have IA := hid sp_ArenaPages
  have HU := hid u64_in
  have HR := hid hR
  clear hR h0
  go_enter Tryz.func35, Tryz.ntmps35
  go_wp2_with fail
  refine (N.out _ HR.out).mono ?_
  rintro e w1 ⟨⟨k, hk, rfl⟩, r1⟩
  have R1 := hid r1
  clear r1 HR
  go_wp2_with fail
  refine (N.out _ R1.out).mono ?_
  rintro e w2 ⟨⟨c, hc, rfl⟩, r2⟩
  have R2 := hid r2
  clear r2 R1
  go_wp2_with fail
  refine (N.out _ R2.out).mono ?_
  rintro e w3 ⟨⟨s, hs, rfl⟩, r3⟩
  have R3 := hid r3
  clear r3 R2
  have hcm : (0 : Int) ≤ (c : Int) % 12 ∧ (c : Int) % 12 < 12 := by omega
  have hsm : (0 : Int) ≤ (s : Int) % 6 ∧ (s : Int) % 6 < 6 := by omega
  have hl := sl_in hcm
  have hz := sz_in hcm
  have hp := pg_in hcm
  have hl' : 4 ≤ sl ((c : Int) % 12) ∧ sl ((c : Int) % 12) ≤ 64 := ⟨hl.1, hl.2.1⟩
  have I4c := hid (I4.out ((c : Int) % 12) ((s : Int) % 6) (by omega) (by omega))
  have IGc := hid (IG.out ((c : Int) % 12))
  have IZc := hid (IZ.out ((c : Int) % 12))
  have INc := hid (IN.out ((c : Int) % 12))
  clear hl I4 IG IZ IN
  go_wp2_with fail
  generalize (c : Int) % 12 = cc at *
  generalize (s : Int) % 6 = ss at *
  refine (I4c.out _).mono ?_
  rintro e w4 ⟨rfl, b4⟩
  have R4 := hid (R3.out.below b4)
  clear b4 R3
  generalize rs cc + ss * (pg cc + 1) = L at *
  generalize pg cc = p at *
  generalize sz cc = z at *
  generalize sl cc = l at *
  go_wp2_with fail
  refine (N.out _ R4.out).mono ?_
  rintro e w5 ⟨⟨n, hn, rfl⟩, r5⟩
  have R5 := hid r5
  clear r5 R4 I4c
  have hk8 : (k : Int) % 8 = 0 ∨ (k : Int) % 8 = 1 ∨ (k : Int) % 8 = 2 ∨ (k : Int) % 8 = 3 ∨ (k : Int) % 8 = 4 ∨ (k : Int) % 8 = 5 ∨ (k : Int) % 8 = 6 ∨ (k : Int) % 8 = 7 := by omega
  rcases hk8 with e0 | e0 | e0 | e0 | e0 | e0 | e0 | e0
  · go_wp2
    go_ret
    exact ⟨⟨_, (HU.out _).1, (HU.out _).2, rfl⟩, R5.out⟩
  · go_wp2_with fail
    refine (IGc.out _).mono ?_
    rintro e w6 ⟨rfl, b6⟩
    have R6 := hid (R5.out.below b6)
    clear b6 R5
    go_wp2
    go_ret
    exact ⟨⟨_, (HU.out _).1, (HU.out _).2, rfl⟩, R6.out⟩
  · go_wp2_with fail
    refine (INc.out _).mono ?_
    rintro e w6 ⟨rfl, b6⟩
    have R6 := hid (R5.out.below b6)
    clear b6 R5
    go_wp2_with fail
    refine (IZc.out _).mono ?_
    rintro e w7 ⟨rfl, b7⟩
    have R7 := hid (R6.out.below b7)
    clear b7 R6
    go_wp2
    go_ret
    exact ⟨⟨_, (HU.out _).1, (HU.out _).2, rfl⟩, R7.out⟩
  · go_wp2_with fail
    refine (IL.out _).mono ?_
    rintro e w6 ⟨rfl, b6⟩
    have R6 := hid (R5.out.below b6)
    clear b6 R5
    go_wp2_with fail
    refine (N.out _ R6.out).mono ?_
    rintro e w7 ⟨⟨d, hd, rfl⟩, r7⟩
    have R7 := hid r7
    clear r7 R6
    go_wp2
    go_ret
    exact ⟨⟨_, (HU.out _).1, (HU.out _).2, rfl⟩, R7.out⟩
  · go_wp2_with fail
    refine (IA.out _).mono ?_
    rintro e w6 ⟨rfl, b6⟩
    have R6 := hid (R5.out.below b6)
    clear b6 R5
    go_wp2
    go_ret
    exact ⟨⟨_, (HU.out _).1, (HU.out _).2, rfl⟩, R6.out⟩
  · go_wp2_with fail
    refine (V.out _ R5.out).mono ?_
    rintro e w6 ⟨⟨d, hd0, hd1, rfl⟩, r6⟩
    have R6 := hid r6
    have HS := hid (fun j => shr_in d j hd0 hd1)
    clear r6 R5
    go_wp2
    go_ret
    exact ⟨⟨_, (HS.out _).1, (HS.out _).2, rfl⟩, R6.out⟩
  · go_wp2_with fail
    refine (N.out _ R5.out).mono ?_
    rintro e w6 ⟨⟨d, hd, rfl⟩, r6⟩
    have R6 := hid r6
    clear r6 R5
    go_wp2
    go_ret
    exact ⟨⟨_, (HU.out _).1, (HU.out _).2, rfl⟩, R6.out⟩
  · go_wp2
    go_region_with (first
      | (go_at_call 33; refine (N.out _ ?_).mono ?_; exact R5.out.drew; rintro e w6 ⟨⟨d, hd, rfl⟩, r6⟩)
      | (go_at_call 43; refine (INc.out _).mono ?_; rintro e w7 ⟨rfl, b7⟩)
      | (go_at_call 25; refine (IZc.out _).mono ?_; rintro e w8 ⟨rfl, b8⟩))
    all_goals
      have R8 := hid ((r6.below b7).below b8)
      clear r6 b7 b8 R5
      go_wp2
      go_ret
      exact ⟨⟨_, (HU.out _).1, (HU.out _).2, rfl⟩, R8.out⟩
end Go.Proofs.YtacccpkmgkojiaaGreatDoorRR
namespace Go.Proofs.YtacccpkmgkojiaaGreatDoorRR
set_option linter.unusedVariables false
set_option linter.unusedSimpArgs false
set_option maxRecDepth 20000
set_option maxHeartbeats 8000000
open Go.RowKit Go.Shelf Go.Maps
theorem b0_1 (w0 : World) (a : Option Addr) (len cap : Nat) (zs : List Int) (h0 : IsRow .u8 w0 a len cap zs) (hlen : len ≤ 1048576) (R gv : Nat) (tt : Bool) (W : World) (X Y k : Nat) : B0 w0 a len cap R gv tt W X Y k (fun m => m = 1) := by
  intro m K Q q w u9 u10 u11 u12 u13 u14 u15 u16 u17 u18 u19 u20 u21 u22 u23 u24 u25 u26 u27 u28 u29 u32 u33 u34 u35 u36 u37 u38 u39 u40 u41 u42 u43 u44 u45 u46 u47 u48 u49 u50 u51 u52 u53 u54 u55 u56 u57 u58 u59 u60 u61 u62 u63 u64 u65 u66 u67 u68 u69 u70 u71 u72 u73 u74 u75 u76 u77 u78 u79 u80 u81 u82 u83 u84 u85 u86 u87 u88 u89 u90 u91 u92 u93 u94 u95 u96 u97 u98 u99 u100 u101 u102 u103 u104 u105 u106 u107 u108 u109 u110 u111 u112 u113 u114 u115 u116 u117 u118 u119 u120 u121 u122 u123 u124 u125 u126 u127 u128 u129 u130 u131 u132 u133 u134 u135 u136 u137 u138 u139 u140 u141 u142 u143 u144 u145 u146 u147 u148 hm O3 HK0
  have N := hid (fun V (hV : Rd w0 a len cap R V V) => next_any w0 a len cap zs h0 hlen R V V hV)
  have WD := hid (fun V (hV : Rd w0 a len cap R V V) => wide_any w0 a len cap zs h0 hlen R V V hV)
  have RQ := hid (fun V (hV : Rd w0 a len cap R V V) => request_any w0 a len cap zs h0 hlen R V V hV)
  have BY := hid (fun n (hn : n ≤ 10000) V (hV : Rd w0 a len cap R V V) => bytes_any w0 a len cap zs h0 hlen R n hn V V hV)
  have US := hid sp_Usable
  have HU := hid u64_in
  clear h0
  have HK := hid HK0
  clear HK0
  conv => arg 2; whnf
  obtain rfl := hm
  cases tt
  · go_wp2_with fail
    refine (RQ.out _ O3.out.rd.at).mono ?_
    rintro e V10 ⟨⟨c10, hx10, hy10, rfl⟩, r⟩
    have O10 := hid (O3.out.next r)
    clear r O3
    go_wp2_with (refine wpList_store_row rfl 42 _ _ rfl _ _ rfl rfl 42 _ O10.out.x (by kernel_rfl) rfl (by simp [Value.oneCell']) ?_; have Ox := hid (O10.out.row 0 c10 0 hx10 hy10 (by omega) (by omega)); generalize V10.setRow X _ = Vx at Ox ⊢; clear O10)
    apply HK.out
    exact Ox
  · go_wp2_with fail
    refine (RQ.out _ O3.out.rd.at).mono ?_
    rintro e V11 ⟨⟨c11, hx11, hy11, rfl⟩, r⟩
    have O11 := hid (O3.out.next r)
    clear r O3
    go_wp2_with (refine wpList_store_row rfl 42 _ _ rfl _ _ rfl rfl 42 _ O11.out.x (by kernel_rfl) rfl (by simp [Value.oneCell']) ?_; have Ox := hid (O11.out.row 0 c11 0 hx11 hy11 (by omega) (by omega)); generalize V11.setRow X _ = Vx at Ox ⊢; clear O11; obtain ⟨z0, z1, z2, z3, z4, z5⟩ := Ox.out.cells; have zf := Ox.out.fr 3)
    apply HK.out
    exact hid (Ox.out.setA _ (by first | omega | exact (HU.out _).1 | (simp; done)) (by first | omega | exact (HU.out _).2 | (simp; done)))
theorem b0_5 (w0 : World) (a : Option Addr) (len cap : Nat) (zs : List Int) (h0 : IsRow .u8 w0 a len cap zs) (hlen : len ≤ 1048576) (R gv : Nat) (tt : Bool) (W : World) (X Y k : Nat) : B0 w0 a len cap R gv tt W X Y k (fun m => m = 5 ∨ m = 6) := by
  intro m K Q q w u9 u10 u11 u12 u13 u14 u15 u16 u17 u18 u19 u20 u21 u22 u23 u24 u25 u26 u27 u28 u29 u32 u33 u34 u35 u36 u37 u38 u39 u40 u41 u42 u43 u44 u45 u46 u47 u48 u49 u50 u51 u52 u53 u54 u55 u56 u57 u58 u59 u60 u61 u62 u63 u64 u65 u66 u67 u68 u69 u70 u71 u72 u73 u74 u75 u76 u77 u78 u79 u80 u81 u82 u83 u84 u85 u86 u87 u88 u89 u90 u91 u92 u93 u94 u95 u96 u97 u98 u99 u100 u101 u102 u103 u104 u105 u106 u107 u108 u109 u110 u111 u112 u113 u114 u115 u116 u117 u118 u119 u120 u121 u122 u123 u124 u125 u126 u127 u128 u129 u130 u131 u132 u133 u134 u135 u136 u137 u138 u139 u140 u141 u142 u143 u144 u145 u146 u147 u148 hm O3 HK0
  have N := hid (fun V (hV : Rd w0 a len cap R V V) => next_any w0 a len cap zs h0 hlen R V V hV)
  have WD := hid (fun V (hV : Rd w0 a len cap R V V) => wide_any w0 a len cap zs h0 hlen R V V hV)
  have RQ := hid (fun V (hV : Rd w0 a len cap R V V) => request_any w0 a len cap zs h0 hlen R V V hV)
  have BY := hid (fun n (hn : n ≤ 10000) V (hV : Rd w0 a len cap R V V) => bytes_any w0 a len cap zs h0 hlen R n hn V V hV)
  have US := hid sp_Usable
  have HU := hid u64_in
  clear h0
  have HK := hid HK0
  clear HK0
  conv => arg 2; whnf
  rcases hm with rfl | rfl
  · skip
    obtain ⟨z0, z1, z2, z3, z4, z5⟩ := O3.out.cells
    have zf := O3.out.fr 0
    go_wp2_with fail
    have O10 := hid (O3.out.setKd 2)
    clear O3 z0 z1 z2 z3 z4 z5 zf
    refine (RQ.out _ O10.out.rd.at).mono ?_
    rintro e V11 ⟨⟨c11, hx11, hy11, rfl⟩, r⟩
    have O11 := hid (O10.out.next r)
    clear r O10
    obtain ⟨z0, z1, z2, z3, z4, z5⟩ := O11.out.cells
    have zf := O11.out.fr 3
    go_wp2
    apply HK.out
    exact hid (O11.out.setA _ (by first | omega | exact (HU.out _).1 | (simp; done)) (by first | omega | exact (HU.out _).2 | (simp; done)))
  · skip
    obtain ⟨z0, z1, z2, z3, z4, z5⟩ := O3.out.cells
    have zf := O3.out.fr 0
    go_wp2_with fail
    have O12 := hid (O3.out.setKd 2)
    clear O3 z0 z1 z2 z3 z4 z5 zf
    refine (RQ.out _ O12.out.rd.at).mono ?_
    rintro e V13 ⟨⟨c13, hx13, hy13, rfl⟩, r⟩
    have O13 := hid (O12.out.next r)
    clear r O12
    obtain ⟨z0, z1, z2, z3, z4, z5⟩ := O13.out.cells
    have zf := O13.out.fr 3
    go_wp2
    apply HK.out
    exact hid (O13.out.setA _ (by first | omega | exact (HU.out _).1 | (simp; done)) (by first | omega | exact (HU.out _).2 | (simp; done)))
theorem b0_7 (w0 : World) (a : Option Addr) (len cap : Nat) (zs : List Int) (h0 : IsRow .u8 w0 a len cap zs) (hlen : len ≤ 1048576) (R gv : Nat) (tt : Bool) (W : World) (X Y k : Nat) : B0 w0 a len cap R gv tt W X Y k (fun m => m = 12) := by
  intro m K Q q w u9 u10 u11 u12 u13 u14 u15 u16 u17 u18 u19 u20 u21 u22 u23 u24 u25 u26 u27 u28 u29 u32 u33 u34 u35 u36 u37 u38 u39 u40 u41 u42 u43 u44 u45 u46 u47 u48 u49 u50 u51 u52 u53 u54 u55 u56 u57 u58 u59 u60 u61 u62 u63 u64 u65 u66 u67 u68 u69 u70 u71 u72 u73 u74 u75 u76 u77 u78 u79 u80 u81 u82 u83 u84 u85 u86 u87 u88 u89 u90 u91 u92 u93 u94 u95 u96 u97 u98 u99 u100 u101 u102 u103 u104 u105 u106 u107 u108 u109 u110 u111 u112 u113 u114 u115 u116 u117 u118 u119 u120 u121 u122 u123 u124 u125 u126 u127 u128 u129 u130 u131 u132 u133 u134 u135 u136 u137 u138 u139 u140 u141 u142 u143 u144 u145 u146 u147 u148 hm O3 HK0
  have N := hid (fun V (hV : Rd w0 a len cap R V V) => next_any w0 a len cap zs h0 hlen R V V hV)
  have WD := hid (fun V (hV : Rd w0 a len cap R V V) => wide_any w0 a len cap zs h0 hlen R V V hV)
  have RQ := hid (fun V (hV : Rd w0 a len cap R V V) => request_any w0 a len cap zs h0 hlen R V V hV)
  have BY := hid (fun n (hn : n ≤ 10000) V (hV : Rd w0 a len cap R V V) => bytes_any w0 a len cap zs h0 hlen R n hn V V hV)
  have US := hid sp_Usable
  have HU := hid u64_in
  clear h0
  have HK := hid HK0
  clear HK0
  conv => arg 2; whnf
  obtain rfl := hm
  obtain ⟨z0, z1, z2, z3, z4, z5⟩ := O3.out.cells
  have zf := O3.out.fr 0
  go_wp2_with fail
  have O10 := hid (O3.out.setKd 5)
  clear O3 z0 z1 z2 z3 z4 z5 zf
  refine (N.out _ O10.out.rd.at).mono ?_
  rintro e V11 ⟨⟨c11, hc11, rfl⟩, r⟩
  have O11 := hid (O10.out.next r)
  clear r O10
  obtain ⟨z0, z1, z2, z3, z4, z5⟩ := O11.out.cells
  have zf := O11.out.fr 3
  go_wp2_with fail
  have O12 := hid (O11.out.setA (c11 : Int) (by omega) (by omega))
  clear O11 z0 z1 z2 z3 z4 z5 zf
  refine (N.out _ O12.out.rd.at).mono ?_
  rintro e V13 ⟨⟨c13, hc13, rfl⟩, r⟩
  have O13 := hid (O12.out.next r)
  clear r O12
  obtain ⟨z0, z1, z2, z3, z4, z5⟩ := O13.out.cells
  have zf := O13.out.fr 2
  go_wp2
  apply HK.out
  exact hid (O13.out.setP _ (by first | omega | exact (HU.out _).1 | (simp; done)) (by first | omega | exact (HU.out _).2 | (simp; done)))
end Go.Proofs.YtacccpkmgkojiaaGreatDoorRR
namespace Go.Proofs.YtacccpkmgkojiaaGreatDoorRR
set_option linter.unusedVariables false
set_option linter.unusedSimpArgs false
set_option maxRecDepth 20000
set_option maxHeartbeats 8000000
open Go.RowKit Go.Shelf Go.Maps
theorem b0_10 (w0 : World) (a : Option Addr) (len cap : Nat) (zs : List Int) (h0 : IsRow .u8 w0 a len cap zs) (hlen : len ≤ 1048576) (R gv : Nat) (tt : Bool) (W : World) (X Y k : Nat) : B0 w0 a len cap R gv tt W X Y k (fun m => m = 15) := by
  intro m K Q q w u9 u10 u11 u12 u13 u14 u15 u16 u17 u18 u19 u20 u21 u22 u23 u24 u25 u26 u27 u28 u29 u32 u33 u34 u35 u36 u37 u38 u39 u40 u41 u42 u43 u44 u45 u46 u47 u48 u49 u50 u51 u52 u53 u54 u55 u56 u57 u58 u59 u60 u61 u62 u63 u64 u65 u66 u67 u68 u69 u70 u71 u72 u73 u74 u75 u76 u77 u78 u79 u80 u81 u82 u83 u84 u85 u86 u87 u88 u89 u90 u91 u92 u93 u94 u95 u96 u97 u98 u99 u100 u101 u102 u103 u104 u105 u106 u107 u108 u109 u110 u111 u112 u113 u114 u115 u116 u117 u118 u119 u120 u121 u122 u123 u124 u125 u126 u127 u128 u129 u130 u131 u132 u133 u134 u135 u136 u137 u138 u139 u140 u141 u142 u143 u144 u145 u146 u147 u148 hm O3 HK0
  have N := hid (fun V (hV : Rd w0 a len cap R V V) => next_any w0 a len cap zs h0 hlen R V V hV)
  have WD := hid (fun V (hV : Rd w0 a len cap R V V) => wide_any w0 a len cap zs h0 hlen R V V hV)
  have RQ := hid (fun V (hV : Rd w0 a len cap R V V) => request_any w0 a len cap zs h0 hlen R V V hV)
  have BY := hid (fun n (hn : n ≤ 10000) V (hV : Rd w0 a len cap R V V) => bytes_any w0 a len cap zs h0 hlen R n hn V V hV)
  have US := hid sp_Usable
  have HU := hid u64_in
  clear h0
  have HK := hid HK0
  clear HK0
  conv => arg 2; whnf
  obtain rfl := hm
  obtain ⟨z0, z1, z2, z3, z4, z5⟩ := O3.out.cells
  have zf := O3.out.fr 0
  go_wp2_with fail
  have O10 := hid (O3.out.setKd 6)
  clear O3 z0 z1 z2 z3 z4 z5 zf
  refine (N.out _ O10.out.rd.at).mono ?_
  rintro e V11 ⟨⟨c11, hc11, rfl⟩, r⟩
  have O11 := hid (O10.out.next r)
  clear r O10
  obtain ⟨n, hn, en⟩ : ∃ n : Nat, n ≤ 24 ∧ (c11 : Int) % 24 + 1 = (n : Int) := ⟨c11 % 24 + 1, by omega, by omega⟩
  go_wp2_with fail
  refine (BY.out n (by omega) _ O11.out.rd.at).mono ?_
  rintro e V12 ⟨v, ys, rfl, hys, ho, r⟩
  obtain ⟨va, vb, vc, rfl⟩ := own_slD ho
  have hvb := own_lenD ho
  subst hys
  obtain rfl := hvb
  have hbb := own_downD O11.out.rd.g.size ho
  have O12 := hid (O11.out.next r)
  have HB := hid hbb
  clear r ho hbb en O11
  obtain ⟨z0, z1, z2, z3, z4, z5⟩ := O12.out.cells
  have zf := O12.out.fr 5
  go_wp2_with fail
  have O13 := hid (O12.out.setD va vc ys HB.out)
  clear O12 z0 z1 z2 z3 z4 z5 zf
  refine (N.out _ O13.out.rd.at).mono ?_
  rintro e V14 ⟨⟨c14, hc14, rfl⟩, r⟩
  have O14 := hid (O13.out.next r)
  clear r O13
  obtain ⟨z0, z1, z2, z3, z4, z5⟩ := O14.out.cells
  have zf := O14.out.fr 2
  have Ox := hid (O14.out.setP ((c14 : Int) % 20) (by omega) (by omega))
  by_cases h200 : 200 ≤ k
  · go_wp2_with fail
    clear z0 z1 z2 z3 z4 z5 zf
    refine (N.out _ Ox.out.rd.at).mono ?_
    rintro e V15 ⟨⟨c15, hc15, rfl⟩, r⟩
    have O15 := hid (Ox.out.next r)
    clear r Ox
    have hu := us_le ((c15 : Int) % 12)
    go_wp2_with fail
    refine (US.out _ _).mono ?_
    rintro e V16 ⟨rfl, b⟩
    have O16 := hid (O15.out.below b)
    clear b O15
    generalize us ((c15 : Int) % 12) = u at hu ⊢
    go_wp2_with fail
    refine (N.out _ O16.out.rd.at).mono ?_
    rintro e V17 ⟨⟨c17, hc17, rfl⟩, r⟩
    have O17 := hid (O16.out.next r)
    clear r O16
    obtain ⟨z0, z1, z2, z3, z4, z5⟩ := O17.out.cells
    have zf := O17.out.fr 2
    go_wp2
    apply HK.out
    exact hid (O17.out.setP _ (by first | omega | exact (HU.out _).1 | (simp; done)) (by first | omega | exact (HU.out _).2 | (simp; done)))
  · go_wp2
    apply HK.out
    exact Ox
end Go.Proofs.YtacccpkmgkojiaaGreatDoorRR
