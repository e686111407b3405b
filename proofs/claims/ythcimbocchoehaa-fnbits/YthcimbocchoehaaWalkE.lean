import Derived.Test.YthcimbocchoehaaWalkD
import Derived.Test.YthcimbocchoehaaPop
import Derived.Laws.Bits128

namespace Go.Proofs.Ythcimbocchoehaa
open Go.ChangeShapes Go.WideShapes Go.ChangeAt Go.RowKit
set_option linter.unusedVariables false

set_option maxHeartbeats 400000 in
theorem ones_steps (z p1 p2 x1 p3 p4 x2 y3 x3 x4 x5 x6 r : Int) (w : World) (h0 : 0 ≤ z)
    (e1 : bits .and .u64 (z / 2) 6148914691236517205 = p1) (e2 : bits .and .u64 z 6148914691236517205 = p2) (e3 : IntKind.u64.wrap (p1 + p2) = x1) (b1 : 0 ≤ x1)
    (e4 : bits .and .u64 (x1 / 4) 3689348814741910323 = p3) (e5 : bits .and .u64 x1 3689348814741910323 = p4) (e6 : IntKind.u64.wrap (p3 + p4) = x2) (b2 : 0 ≤ x2)
    (e7 : IntKind.u64.wrap (x2 / 16 + x2) = y3) (e8 : bits .and .u64 y3 1085102592571150095 = x3) (b3 : 0 ≤ x3)
    (e9 : IntKind.u64.wrap (x3 + x3 / 256) = x4) (b4 : 0 ≤ x4) (e10 : IntKind.u64.wrap (x4 + x4 / 65536) = x5) (b5 : 0 ≤ x5) (e11 : IntKind.u64.wrap (x5 + x5 / 4294967296) = x6) (b6 : 0 ≤ x6) (b7 : x6 < 1152921504606846976)
    (e12 : bits .and .i64 x6 127 = r) :
    Calls Try.prog 37 #[.int .u64 z] w fun e w' => e = .returned (.int .i64 r) ∧ w' = w := by
  go_enter Try.func37, Try.ntmps37
  go_wp2
  go_ret
  exact ⟨rfl, rfl⟩

theorem and_i64_127 (x : Nat) : bits .and .i64 (x : Int) 127 = ((x % 128 : Nat) : Int) := by
  rw [i64_and127]; simp

theorem ones_any (z : Int) (w : World) (h0 : 0 ≤ z) (h1 : z ≤ 18446744073709551615) :
    Calls Try.prog 37 #[.int .u64 z] w fun e w' => e = .returned (.int .i64 (pc 64 z.toNat)) ∧ w' = w := by
  obtain ⟨x, rfl⟩ := Int.eq_ofNat_of_zero_le h0
  rw [Int.toNat_natCast]
  obtain ⟨x4, x5, x6, h4, h5, h6, c3, c4, c5, c6, hr⟩ := swar x
  have l1 := s1_lt x
  have l2 := s2_lt' (s1 8 x)
  have u1 : bits .and .u64 ((x : Int) / 2) 6148914691236517205 = ((x / 2 &&& 6148914691236517205 : Nat) : Int) := u64_and_nat (x / 2) 6148914691236517205 (by omega) (by decide)
  have u2 : bits .and .u64 (x : Int) 6148914691236517205 = ((x &&& 6148914691236517205 : Nat) : Int) := u64_and_nat x 6148914691236517205 (by omega) (by decide)
  have v1 : (x / 2 &&& 6148914691236517205) + (x &&& 6148914691236517205) = s1 8 x := by unfold s1; rw [m85]
  generalize x / 2 &&& 6148914691236517205 = p1 at *
  generalize x &&& 6148914691236517205 = p2 at *
  generalize s1 8 x = x1 at *
  have u3 : bits .and .u64 ((x1 : Int) / 4) 3689348814741910323 = ((x1 / 4 &&& 3689348814741910323 : Nat) : Int) := u64_and_nat (x1 / 4) 3689348814741910323 (by omega) (by decide)
  have u4 : bits .and .u64 (x1 : Int) 3689348814741910323 = ((x1 &&& 3689348814741910323 : Nat) : Int) := u64_and_nat x1 3689348814741910323 (by omega) (by decide)
  have v2 : (x1 / 4 &&& 3689348814741910323) + (x1 &&& 3689348814741910323) = s2 8 x1 := by unfold s2; rw [m51]
  generalize x1 / 4 &&& 3689348814741910323 = p3 at *
  generalize x1 &&& 3689348814741910323 = p4 at *
  generalize s2 8 x1 = x2 at *
  have u5 : bits .and .u64 ((x2 / 16 + x2 : Nat) : Int) 1085102592571150095 = ((x2 / 16 + x2 &&& 1085102592571150095 : Nat) : Int) := u64_and_nat (x2 / 16 + x2) 1085102592571150095 (by omega) (by decide)
  have v3 : (x2 / 16 + x2 &&& 1085102592571150095) = s3 8 x2 := by unfold s3; rw [m15]
  rw [v3] at u5
  generalize s3 8 x2 = x3 at *
  rw [← hr]
  refine ones_steps x p1 p2 x1 p3 p4 x2 ((x2 / 16 + x2 : Nat) : Int) x3 x4 x5 x6 _ w h0 u1 u2 ?_ (by omega) u3 u4 ?_ (by omega) ?_ u5 (by omega) ?_ (by omega) ?_ (by omega) ?_ (by omega) (by omega) (and_i64_127 x6)
  all_goals rw [IntKind.wrap_u64]; omega

/-- how many of the first m bits are on -/
def cntTo (zs : List Int) : Nat → Nat
  | 0 => 0
  | m + 1 => cntTo zs m + (bitAt zs m).toNat
theorem cntTo_le (zs : List Int) : ∀ m, cntTo zs m ≤ m
  | 0 => Nat.le_refl _
  | m + 1 => by have := cntTo_le zs m; have h2 := Bool.toNat_le (bitAt zs m); simp only [cntTo]; omega
theorem wbit_toNat (z : Int) (j : Nat) (h0 : 0 ≤ z) : (wbit z j).toNat = z.toNat / 2 ^ j % 2 := by
  rw [wbit_nat z j h0, Nat.testBit_eq_decide_div_mod_eq]
  have := Nat.mod_two_eq_zero_or_one (z.toNat / 2 ^ j)
  rcases this with h | h <;> simp [h]
theorem cnt_word (zs : List Int) (hw : Wf zs) (i : Nat) : ∀ j, j ≤ 64 → cntTo zs (64 * i + j) = cntTo zs (64 * i) + pc j (zs[i]?.getD 0).toNat
  | 0, _ => rfl
  | j + 1, h => by
    rw [← Nat.add_assoc, cntTo, cnt_word zs hw i j (by omega), pc_top]
    unfold bitAt
    rw [show (64 * i + j) / 64 = i by omega, show (64 * i + j) % 64 = j by omega, wbit_toNat _ _ (hw i).1]
    omega
/-- the words' bits, the first k words -/
def cntW (zs : List Int) (k : Nat) : Nat := cntTo zs (64 * k)
theorem cntW_succ (zs : List Int) (hw : Wf zs) (k : Nat) : cntW zs (k + 1) = cntW zs k + pc 64 (zs[k]?.getD 0).toNat := by
  unfold cntW
  exact cnt_word zs hw k 64 (Nat.le_refl _)
theorem cnt_off (zs : List Int) (n : Nat) : ∀ d, (∀ k, n ≤ k → k < n + d → bitAt zs k = false) → cntTo zs (n + d) = cntTo zs n
  | 0, _ => rfl
  | d + 1, h => by
    rw [← Nat.add_assoc, cntTo, cnt_off zs n d (fun k h1 h2 => h k h1 (by omega)), h (n + d) (by omega) (by omega)]
    rfl
theorem cnt_all (zs : List Int) (n : Nat) (hn : n ≤ 4096) (hl : zs.length = (n + 63) / 64) (hg : goodB zs n = true) : cntW zs zs.length = cntTo zs n := by
  have h := (goodB_iff zs n hn hl).1 hg
  have e : 64 * zs.length = n + (64 * zs.length - n) := by omega
  unfold cntW
  rw [e]
  exact cnt_off zs n _ fun k h1 h2 => h k h1 (by omega)

/-- BitsCount, as a function of the words -/
def countB (zs : List Int) (n : Int) : Int := if goodB zs n then cntTo zs n.toNat else -1

set_option maxHeartbeats 400000 in
theorem count_any (g len cap : Nat) (zs : List Int) (n : Int) (w : World) (hl : zs.length = len) (hlen : len ≤ 64) (hw : Wf zs) (hr : RowV w g 45 (U zs)) :
    Calls Try.prog 32 #[.agg #[.slice (some ⟨g, 0, none⟩) len cap, .int .i64 n]] w fun e w' => e = .returned (.int .i64 (cntW zs len)) ∧ Below w.heap.size w w' := by
  have HR := hid hr
  clear hr
  go_enter Try.func32, Try.ntmps32
  go_wp2
  go_loopw [3, 9] (fun c i wr => ∃ k : Nat, k ≤ len ∧ i = .int .i64 k ∧ c = .int .i64 (cntW zs k) ∧ Below w.heap.size w wr) (fun _ i _ => len - (intOf i).toNat)
  case atStart => exact ⟨0, Nat.zero_le _, rfl, rfl, (Below.refl _ _).alloc (Nat.le_refl _) _⟩
  case round =>
    obtain ⟨k, hk, rfl, rfl, hb⟩ := hrel
    have B1 := hid hb
    by_cases hlt : k < len
    · have hc := cell_u (HR.out.below hb HR.out.lt) k (by omega)
      have hbd := hw k
      have HS := hid (cntW_succ zs hw k)
      have hle : cntW zs k ≤ 64 * k := cntTo_le zs _
      have hp : pc 64 (zs[k]?.getD 0).toNat ≤ 64 := pc_le 64 _
      have HO := hid (fun w => ones_any (zs[k]?.getD 0) w hbd.1 hbd.2)
      clear hb hw hl
      generalize zs[k]?.getD 0 = z at *
      generalize cntW zs k = c at *
      go_wp2_with fail
      refine (HO.out _).mono ?_
      rintro e w' ⟨rfl, rfl⟩
      generalize pc 64 z.toNat = p at *
      go_wp2
      go_roundw
      case rel => exact ⟨k + 1, by omega, by go_num, by rw [HS.out]; go_num, B1.out⟩
      case measure => simp [intOf]; omega
    · have hkl : k = len := by omega
      subst hkl
      clear hb
      go_wp2
      go_ret
      exact ⟨rfl, B1.out⟩
end Go.Proofs.Ythcimbocchoehaa
