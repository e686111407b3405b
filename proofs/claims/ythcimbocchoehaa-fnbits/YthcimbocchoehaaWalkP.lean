import Derived.Test.YthcimbocchoehaaWalkO

namespace Go.Proofs.Ythcimbocchoehaa
open Go.ChangeShapes Go.WideShapes Go.ChangeAt Go.RowKit
set_option linter.unusedVariables false

/-- what a drawn bitmap, place and state are known to be -/
def DrawnPut (w0 : World) (e : Ending) (W' : World) : Prop :=
  ∃ (g L c : Nat) (zs : List Int) (n i : Int) (b : Bool), e = .returned (.tuple #[.slice (some ⟨g, 0, none⟩) L c, .int .i64 n, .int .i64 i, .bool b]) ∧ zs.length = L ∧ L ≤ 100 ∧ Wf zs ∧ -1 ≤ n ∧ n ≤ 4097 ∧ -10 ≤ i ∧ i ≤ 100000 ∧ RowV W' g 45 (U zs) ∧ Below w0.heap.size w0 W'

set_option maxRecDepth 100000 in
set_option maxHeartbeats 1000000 in
theorem draw_put (w0 : World) (a : Option Addr) (len cap : Nat) (zs : List Int) (h0 : IsRow .u8 w0 a len cap zs) (hlen : len ≤ 1048576) :
    Calls Try.prog 9 #[.slice a len cap] w0 (DrawnPut w0) := by
  have N := hid (fun R W h => next_any w0 a len cap zs h0 hlen R W h)
  have M := hid (fun R W h => bitmap_any w0 a len cap zs h0 hlen R W h)
  have R0 := hid (show Rd w0 a len cap w0.heap.size (w0.alloc (.cells #[.slice a len cap, .int .i64 0] 38)) from ⟨⟨0, Nat.zero_le _, heap_alloc_new w0 _⟩, (Below.refl _ _).alloc (Nat.le_refl _) _, Nat.le_refl _⟩)
  clear h0
  go_enter Try.func9, Try.ntmps9
  go_wp2_with fail
  refine (N.out _ _ R0.out).mono ?_
  rintro e W1 ⟨⟨k, hk, rfl⟩, r1, _⟩
  have R1 := hid r1
  clear r1
  go_wp2_with fail
  refine (M.out _ _ R1.out).mono ?_
  rintro e W2 ⟨g, L, c, ys, n, rfl, hyl, hL, hw, hn1, hn2, hrow, hgR, hg0, r2⟩
  have H2 := hid (And.intro hyl (And.intro hw hrow))
  have R2 := hid r2
  clear r2 hyl hw hrow hg0
  go_wp2_with fail
  refine (N.out _ _ R2.out).mono ?_
  rintro e W3 ⟨⟨x, hx, rfl⟩, r3, g3⟩
  have V3 := hid (H2.out.2.2.grown g3 hgR)
  have R3 := hid r3
  clear r3 g3 hgR
  by_cases hnp : 0 < n
  · by_cases hk8 : 0 < k % 8
    · have hk8' : (0 : Int) < (k : Int) % 8 := by omega
      have hmb : 0 ≤ ((x : Int) * 41 + (k : Int)) % n ∧ ((x : Int) * 41 + (k : Int)) % n < n := ⟨Int.emod_nonneg _ (by omega), Int.emod_lt_of_pos _ hnp⟩
      obtain ⟨q, hq⟩ : ∃ q : Int, ((x : Int) * 41 + (k : Int)) % n = q := ⟨_, rfl⟩
      rw [hq] at hmb
      go_wp2
      exact bodyPost_ret (v := .tuple #[.slice (some ⟨g, 0, none⟩) L c, .int .i64 n, .int .i64 (q - (k : Int) % 8 / 7), .bool ((k : Int) % 2 == 1)]) (by simp [results, Try.results9, go_sem]) rfl ⟨g, L, c, ys, n, _, _, rfl, H2.out.1, hL, H2.out.2.1, hn1, hn2, by omega, by omega, V3.out, R3.out.bel⟩
    · have hk8' : decide ((0 : Int) < (k : Int) % 8) = false := by simp; omega
      go_wp2
      exact bodyPost_ret (v := .tuple #[.slice (some ⟨g, 0, none⟩) L c, .int .i64 n, .int .i64 ((x : Int) - (k : Int) % 8 / 7), .bool ((k : Int) % 2 == 1)]) (by simp [results, Try.results9, go_sem]) rfl ⟨g, L, c, ys, n, _, _, rfl, H2.out.1, hL, H2.out.2.1, hn1, hn2, by omega, by omega, V3.out, R3.out.bel⟩
  · go_wp2
    exact bodyPost_ret (v := .tuple #[.slice (some ⟨g, 0, none⟩) L c, .int .i64 n, .int .i64 ((x : Int) - (k : Int) % 8 / 7), .bool ((k : Int) % 2 == 1)]) (by simp [results, Try.results9, go_sem]) rfl ⟨g, L, c, ys, n, _, _, rfl, H2.out.1, hL, H2.out.2.1, hn1, hn2, by omega, by omega, V3.out, R3.out.bel⟩
end Go.Proofs.Ythcimbocchoehaa
