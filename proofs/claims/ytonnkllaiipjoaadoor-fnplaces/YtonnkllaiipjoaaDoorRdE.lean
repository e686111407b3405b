import Derived.Test.YtonnkllaiipjoaaDoorRdB
import Derived.Test.YtonnkllaiipjoaaDoorRgL
import Derived.Deep.RegionWith
namespace Go.Proofs.YtonnkllaiipjoaaDoor
open Go.ChangeShapes Go.WideShapes Go.ChangeAt Go.RowKit
set_option linter.unusedVariables false

theorem shr_in (c : Int) (j : Nat) (h0 : 0 ≤ c) (h1 : c ≤ 18446744073709551615) : 0 ≤ c / 2 ^ j ∧ c / 2 ^ j ≤ 18446744073709551615 :=
  ⟨Int.ediv_nonneg h0 (Int.pow_nonneg (by omega)), Int.le_trans (Int.ediv_le_self _ h0) h1⟩
theorem u64_in (z : Int) : 0 ≤ IntKind.u64.wrap z ∧ IntKind.u64.wrap z ≤ 18446744073709551615 := by rw [IntKind.wrap_u64]; omega

set_option maxRecDepth 8000 in
set_option maxHeartbeats 2000000 in
theorem address_any (w0 : World) (a : Option Addr) (len cap : Nat) (zs : List Int) (h0 : IsRow .u8 w0 a len cap zs) (hlen : len ≤ 1048576) (R : Nat) (W : World) (hR : Rd w0 a len cap R W) :
    Calls Tryd.prog 36 #[.pointer (some ⟨R, 0, none⟩)] W fun e W' => (∃ c : Int, 0 ≤ c ∧ c ≤ 18446744073709551615 ∧ e = .returned (.int .u64 c)) ∧ Rd w0 a len cap R W' := by
  have N := hid (fun W h => next_any w0 a len cap zs h0 hlen R W h)
  have V := hid (fun W h => wide_any w0 a len cap zs h0 hlen R W h)
  have I4 := hid sp_l4Slab
  have IG := hid sp_SlabPages
  have IZ := hid sp_SlotSize
  have IN := hid sp_SlabSlots
  have IL := hid sp_LargeStart
  have IA := hid sp_ArenaPages
  have HU := hid u64_in
  have HR := hid hR
  clear hR h0
  go_enter Tryd.func36, Tryd.ntmps36
  go_wp2_with fail
  refine (N.out _ HR.out).mono ?_
  rintro e w1 ⟨⟨k, hk, rfl⟩, r1⟩
  have R1 := hid r1
  clear r1 HR
  go_wp2_with fail
  refine (N.out _ R1.out).mono ?_
  rintro e w2 ⟨⟨c, hc, rfl⟩, r2⟩
  have R2 := hid r2
  clear r2 R1
  go_wp2_with fail
  refine (N.out _ R2.out).mono ?_
  rintro e w3 ⟨⟨s, hs, rfl⟩, r3⟩
  have R3 := hid r3
  clear r3 R2
  have hcm : (0 : Int) ≤ (c : Int) % 12 ∧ (c : Int) % 12 < 12 := by omega
  have hsm : (0 : Int) ≤ (s : Int) % 6 ∧ (s : Int) % 6 < 6 := by omega
  have hl := sl_in hcm
  have hz := sz_in hcm
  have hp := pg_in hcm
  have hl' : 4 ≤ sl ((c : Int) % 12) ∧ sl ((c : Int) % 12) ≤ 64 := ⟨hl.1, hl.2.1⟩
  have I4c := hid (I4.out ((c : Int) % 12) ((s : Int) % 6) (by omega) (by omega))
  have IGc := hid (IG.out ((c : Int) % 12))
  have IZc := hid (IZ.out ((c : Int) % 12))
  have INc := hid (IN.out ((c : Int) % 12))
  clear hl I4 IG IZ IN
  go_wp2_with fail
  generalize (c : Int) % 12 = cc at *
  generalize (s : Int) % 6 = ss at *
  refine (I4c.out _).mono ?_
  rintro e w4 ⟨rfl, b4⟩
  have R4 := hid (R3.out.below b4)
  clear b4 R3
  generalize rs cc + ss * (pg cc + 1) = L at *
  generalize pg cc = p at *
  generalize sz cc = z at *
  generalize sl cc = l at *
  go_wp2_with fail
  refine (N.out _ R4.out).mono ?_
  rintro e w5 ⟨⟨n, hn, rfl⟩, r5⟩
  have R5 := hid r5
  clear r5 R4 I4c
  have hk8 : (k : Int) % 8 = 0 ∨ (k : Int) % 8 = 1 ∨ (k : Int) % 8 = 2 ∨ (k : Int) % 8 = 3 ∨ (k : Int) % 8 = 4 ∨ (k : Int) % 8 = 5 ∨ (k : Int) % 8 = 6 ∨ (k : Int) % 8 = 7 := by omega
  rcases hk8 with e0 | e0 | e0 | e0 | e0 | e0 | e0 | e0
  · go_wp2
    go_ret
    exact ⟨⟨_, (HU.out _).1, (HU.out _).2, rfl⟩, R5.out⟩
  · go_wp2_with fail
    refine (IGc.out _).mono ?_
    rintro e w6 ⟨rfl, b6⟩
    have R6 := hid (R5.out.below b6)
    clear b6 R5
    go_wp2
    go_ret
    exact ⟨⟨_, (HU.out _).1, (HU.out _).2, rfl⟩, R6.out⟩
  · go_wp2_with fail
    refine (INc.out _).mono ?_
    rintro e w6 ⟨rfl, b6⟩
    have R6 := hid (R5.out.below b6)
    clear b6 R5
    go_wp2_with fail
    refine (IZc.out _).mono ?_
    rintro e w7 ⟨rfl, b7⟩
    have R7 := hid (R6.out.below b7)
    clear b7 R6
    go_wp2
    go_ret
    exact ⟨⟨_, (HU.out _).1, (HU.out _).2, rfl⟩, R7.out⟩
  · go_wp2_with fail
    refine (IL.out _).mono ?_
    rintro e w6 ⟨rfl, b6⟩
    have R6 := hid (R5.out.below b6)
    clear b6 R5
    go_wp2_with fail
    refine (N.out _ R6.out).mono ?_
    rintro e w7 ⟨⟨d, hd, rfl⟩, r7⟩
    have R7 := hid r7
    clear r7 R6
    go_wp2
    go_ret
    exact ⟨⟨_, (HU.out _).1, (HU.out _).2, rfl⟩, R7.out⟩
  · go_wp2_with fail
    refine (IA.out _).mono ?_
    rintro e w6 ⟨rfl, b6⟩
    have R6 := hid (R5.out.below b6)
    clear b6 R5
    go_wp2
    go_ret
    exact ⟨⟨_, (HU.out _).1, (HU.out _).2, rfl⟩, R6.out⟩
  · go_wp2_with fail
    refine (V.out _ R5.out).mono ?_
    rintro e w6 ⟨⟨d, hd0, hd1, rfl⟩, r6⟩
    have R6 := hid r6
    have HS := hid (fun j => shr_in d j hd0 hd1)
    clear r6 R5
    go_wp2
    go_ret
    exact ⟨⟨_, (HS.out _).1, (HS.out _).2, rfl⟩, R6.out⟩
  · go_wp2_with fail
    refine (N.out _ R5.out).mono ?_
    rintro e w6 ⟨⟨d, hd, rfl⟩, r6⟩
    have R6 := hid r6
    clear r6 R5
    go_wp2
    go_ret
    exact ⟨⟨_, (HU.out _).1, (HU.out _).2, rfl⟩, R6.out⟩
  · go_wp2
    go_region_with (first
      | (go_at_call 29; refine (N.out _ ?_).mono ?_; exact R5.out.drew; rintro e w6 ⟨⟨d, hd, rfl⟩, r6⟩)
      | (go_at_call 31; refine (INc.out _).mono ?_; rintro e w7 ⟨rfl, b7⟩)
      | (go_at_call 14; refine (IZc.out _).mono ?_; rintro e w8 ⟨rfl, b8⟩))
    all_goals
      have R8 := hid ((r6.below b7).below b8)
      clear r6 b7 b8 R5
      go_wp2
      go_ret
      exact ⟨⟨_, (HU.out _).1, (HU.out _).2, rfl⟩, R8.out⟩

set_option maxHeartbeats 400000 in
theorem drawDecode (a : Option Addr) (len cap : Nat) (zs : List Int) (hlen : len ≤ 1048576) (w : World) (h0 : IsRow .u8 w a len cap zs) :
    Calls Tryd.prog 16 #[.slice a len cap] w fun e w' => (∃ c : Int, 0 ≤ c ∧ c ≤ 18446744073709551615 ∧ e = .returned (.int .u64 c)) ∧ Below w.heap.size w w' := by
  have Q := hid (fun R W h => address_any w a len cap zs h0 hlen R W h)
  have R0 : Hid (Rd w a len cap w.heap.size (w.alloc (.cells #[.slice a len cap, .int .i64 0] 42))) := ⟨⟨0, by omega, (MapKept.heap_alloc w _).1⟩, (Below.refl _ _).alloc (Nat.le_refl _) _, Nat.le_refl _⟩
  clear h0
  go_enter Tryd.func16, Tryd.ntmps16
  go_wp2_with fail
  refine (Q.out _ _ R0.out).mono ?_
  rintro e w1 ⟨⟨c, hc0, hc1, rfl⟩, r1⟩
  have R1 := hid r1
  clear r1
  go_wp2
  go_ret
  exact ⟨⟨c, hc0, hc1, rfl⟩, R1.out.bel⟩

set_option maxRecDepth 8000 in
set_option maxHeartbeats 400000 in
theorem drawSlotAddr (a : Option Addr) (len cap : Nat) (zs : List Int) (hlen : len ≤ 1048576) (w : World) (h0 : IsRow .u8 w a len cap zs) :
    Calls Tryd.prog 10 #[.slice a len cap] w fun e w' => (∃ c s t : Int, e = .returned (.tuple #[.int .i64 c, .int .i64 s, .int .i64 t])) ∧ Below w.heap.size w w' := by
  have N := hid (fun R W h => next_any w a len cap zs h0 hlen R W h)
  have R0 : Hid (Rd w a len cap w.heap.size (w.alloc (.cells #[.slice a len cap, .int .i64 0] 42))) := ⟨⟨0, by omega, (MapKept.heap_alloc w _).1⟩, (Below.refl _ _).alloc (Nat.le_refl _) _, Nat.le_refl _⟩
  clear h0
  go_enter Tryd.func10, Tryd.ntmps10
  go_wp2_with fail
  refine (N.out _ _ R0.out).mono ?_
  rintro e w1 ⟨⟨k, hk, rfl⟩, r1⟩
  have R1 := hid r1
  clear r1 R0
  go_wp2_with fail
  refine (N.out _ _ R1.out).mono ?_
  rintro e w2 ⟨⟨m, hm, rfl⟩, r2⟩
  have R2 := hid r2
  clear r2 R1
  go_wp2_with fail
  refine (N.out _ _ R2.out).mono ?_
  rintro e w3 ⟨⟨n, hn, rfl⟩, r3⟩
  have R3 := hid r3
  clear r3 R2
  go_wp2
  go_ret3
  exact ⟨⟨_, _, _, rfl⟩, R3.out.bel⟩
end Go.Proofs.YtonnkllaiipjoaaDoor
