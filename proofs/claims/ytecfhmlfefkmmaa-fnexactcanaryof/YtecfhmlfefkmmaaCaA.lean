import Derived.Test.YtecfhmlfefkmmaaBytes
namespace Go.Proofs.Ytecfhmlfefkmmaa
open Go.ChangeShapes Go.WideShapes Go.ChangeAt Go.RowKit
set_option linter.unusedVariables false

/-- what the bytes are cut from -/
def cx (a b : Int) : Int := IntKind.u64.wrap (bits BinOp.xor IntKind.u64 a b * 11400714819323198485)
theorem cx_bounds (a b : Int) : 0 ≤ cx a b ∧ cx a b < 18446744073709551616 := by
  unfold cx
  simp only [IntKind.wrap, IntKind.signed, IntKind.bits]
  constructor <;> simp <;> omega
/-- a byte of the canary -/
def cb (x : Int) (k : Nat) : Int := if x / 2 ^ (8 * k) % 256 < 1 then 1 else x / 2 ^ (8 * k) % 256
/-- the canary -/
def cRow (x : Int) : List Int := (List.range 8).map fun j => if j = 0 then 0 else cb x j
theorem cRow_len (x : Int) : (cRow x).length = 8 := by simp [cRow]
theorem cRow_get (x : Int) (k : Nat) (h1 : 1 ≤ k) (h : k < 8) : (cRow x)[k]? = some (cb x k) := by
  simp [cRow, h, show k ≠ 0 by omega]
theorem cRow_zero (x : Int) : (cRow x)[0]? = some 0 := by simp [cRow]
theorem cRow_take (x : Int) (k : Nat) (h1 : 1 ≤ k) (h : k < 8) : (cRow x).take (k + 1) = (cRow x).take k ++ [cb x k] := by
  rw [List.take_add_one, cRow_get x k h1 h]; rfl
theorem cb_ge (x : Int) (k : Nat) : 1 ≤ cb x k ∧ cb x k < 256 := by
  unfold cb
  generalize x / 2 ^ (8 * k) = y
  split <;> omega

set_option maxHeartbeats 400000 in
theorem impl_any (a b : Int) (w : World) (wa : 0 ≤ a) (wb : a < 18446744073709551616) (xa : 0 ≤ b) (xb : b < 18446744073709551616) :
    Calls Try.prog 5 #[.int .u64 a, .int .u64 b] w fun e w' => e = .returned (.slice (some ⟨w.heap.size, 0, none⟩) 8 8) ∧ RowV w' w.heap.size 5 (Ns .u8 (cRow (cx a b))) ∧ Below w.heap.size w w' := by
  obtain ⟨i0, hi, hz0, hz1, hz2⟩ := info_parts Try.info5By
  obtain ⟨hx1, hx2⟩ := cx_bounds a b
  unfold cx at hx1 hx2 ⊢
  go_enter Try.func5, Try.ntmps5
  go_wp2_with (at_make; refine wpList_make_full _ rfl _ _ 23 rfl w.heap.size 5 i0 (.int .u8 0) 1 Try.underlying23 hi hz0 hz1 .i64 .i64 _ _ 8 rfl rfl rfl rfl ?c1 ?c2 ?c3 ?_)
  case c1 => rw [hz2]; omega
  case c2 => unfold maxLen; omega
  case c3 => exact Nat.le_refl _
  intro w1 hown hgrow
  have hR : RowV w1 w.heap.size 5 (Ns .u8 (List.replicate 8 0)) := by
    have := RowV.ofOwns hown
    simpa [Ns, toList_madeCells_one, Value.cells] using this
  have hB : Below w.heap.size w w1 := (Below.refl _ w).grown hgrow (Nat.le_refl _) (by simp)
  clear hown hgrow
  go_wp2
  generalize hxx : IntKind.u64.wrap (bits BinOp.xor IntKind.u64 a b * 11400714819323198485) = x at *
  have HX := hid hxx
  clear hxx
  go_loopw [7] (fun i wr => ∃ (k : Nat) (ys : List Int), 1 ≤ k ∧ k ≤ 8 ∧ i = .int .i64 k ∧ Agree ys (cRow x) k ∧ RowV wr w.heap.size 5 (Ns .u8 ys) ∧ Below w.heap.size w wr) (fun i _ => 8 - (intOf i).toNat)
  case atStart => exact ⟨1, _, by omega, by omega, rfl, ⟨by simp [cRow_len], fun j hj => by rw [show j = 0 by omega, cRow_zero]; rfl⟩, hR, hB⟩
  case round =>
    obtain ⟨k, ys, hk1, hk, rfl, hag, hrow, hbel⟩ := hrel
    have hyl : ys.length = 8 := by rw [hag.1, cRow_len]
    by_cases hlt : k < 8
    · have hcy := cell_n hrow k (by omega)
      have hfy := hrow.free k
      have R1 := hrow.set k (by rw [Ns_len, hyl]; omega) (.int .u8 (cb x k))
      rw [Ns_set] at R1
      have A1 := hag.succ (by rw [cRow_len]; omega) _ (cRow_get x k hk1 hlt)
      have B1 := hbel.setCell (p := ⟨w.heap.size, k, none⟩) (Nat.le_refl _) (.int .u8 (cb x k))
      have HR := hid (And.intro R1 (And.intro A1 B1))
      clear R1 A1 B1 hrow hbel hag hR hB hyl
      generalize ys[k]?.getD 0 = y at hcy
      unfold cb at HR
      go_wp2
      go_roundw
      case rel => exact ⟨k + 1, _, by omega, by omega, by go_num, HR.out.2.1, HR.out.1, HR.out.2.2⟩
      case measure => simp [intOf]; omega
    · have HR := hid (And.intro (hag.all (by rw [cRow_len]; omega) ▸ hrow) hbel)
      clear hrow hbel hag hR hB hyl
      go_wp2
      go_ret
      rw [HX.out]
      exact ⟨rfl, HR.out⟩

theorem one_new (W : World) (x : Value) (t : TypeId) (b : Nat) (hb : W.heap.size = b) : ∀ j u, [x][j]? = some u → (W.alloc (.cells #[x] t)).cell? ((⟨b, 0, none⟩ : Addr).add j) = some u := by
  subst hb
  intro j u h
  cases j with
  | zero =>
    simp at h
    subst h
    rw [show (⟨W.heap.size, 0, none⟩ : Addr).add 0 = ⟨W.heap.size, 0, none⟩ from rfl, World.cell?_alloc_at _ _ _ _ rfl]
    rfl
  | succ j => simp at h
theorem own_base {A : World} {base : Nat} {e : TypeId} {v : Value} {n : Nat} {xs : List Value} (h : A.ownsRow base e 1 v n xs) : ∀ r, v.ownBlock = some r → base ≤ r := by
  intro r e
  rcases h.2 with ⟨rfl, _⟩ | ⟨g, cap, cur, rfl, hg, hb, _⟩
  · cases e
  · cases e
    exact hg
theorem owns_one (w : World) (t : TypeId) (x : Value) : (w.alloc (.cells #[x] t)).ownsRow w.heap.size t 1 (.slice (some ⟨w.heap.size, 0, none⟩) 1 1) 1 [x] := by
  refine ⟨rfl, .inr ⟨w.heap.size, 1, #[x], rfl, Nat.le_refl _, ?_, ?_⟩⟩
  · show (w.heap.push (.cells #[x] t))[w.heap.size]? = _
    simp
  · refine ⟨Nat.le_refl _, by unfold maxLen; omega, rfl, rfl⟩

set_option maxHeartbeats 800000 in
theorem spec_any (a b : Int) (w : World) (wa : 0 ≤ a) (wb : a < 18446744073709551616) (xa : 0 ≤ b) (xb : b < 18446744073709551616) :
    Calls Try.prog 4 #[.int .u64 a, .int .u64 b] w fun e w' => ∃ v, e = .returned v ∧ w'.ownsRow w.heap.size 5 1 v 8 (Ns .u8 (cRow (cx a b))) ∧ Below w.heap.size w w' := by
  obtain ⟨i0, hi, hz0, hz1, hz2⟩ := info_parts Try.info5By
  obtain ⟨hx1, hx2⟩ := cx_bounds a b
  unfold cx at hx1 hx2 ⊢
  have HO := hid (owns_one w 5 (.int .u8 0))
  have HB := hid ((Below.refl w.heap.size w).alloc (Nat.le_refl _) (.cells #[.int .u8 0] 5))
  go_enter Try.func4, Try.ntmps4
  go_wp2
  generalize hxx : IntKind.u64.wrap (bits BinOp.xor IntKind.u64 a b * 11400714819323198485) = x at *
  have HX := hid hxx
  clear hxx
  go_loopw [6, 7, 8] (fun v i _ wr => ∃ k : Nat, 1 ≤ k ∧ k ≤ 8 ∧ i = .int .i64 k ∧ Hid (wr.ownsRow w.heap.size 5 1 v k (Ns .u8 ((cRow x).take k))) ∧ Hid (Below w.heap.size w wr)) (fun _ i _ _ => 8 - (intOf i).toNat)
  case atStart => exact ⟨1, by omega, by omega, rfl, HO, HB⟩
  case round =>
    obtain ⟨k, hk1, hk, rfl, hrow, hbel⟩ := hrel
    clear HO HB
    by_cases hlt : k < 8
    · have HO := hid (cRow_take x k hk1 hlt)
      have HC := hid (show cb x k = if x / 2 ^ (8 * k) % 256 < 1 then 1 else x / 2 ^ (8 * k) % 256 from rfl)
      by_cases hb : x / 2 ^ (8 * k) % 256 = 0
      · have HC := hid (show cb x k = 1 by rw [HC.out, if_pos (by omega)])
        have HR2 := hid (hrow.out.alloc (.cells #[.int .u8 1] 5))
        have HB2 := hid (hbel.out.alloc hbel.out.size (.cells #[.int .u8 1] 5))
        go_wp2_with (at_builtin; refine wpList_append_own _ rfl _ _ 23 rfl w.heap.size 5 i0 (.int .u8 0) 1 1 Try.underlying23 hi hz0 hz1 hz2 rfl (by omega) _ _ _ rfl HR2.out _ 1 1 [.int .u8 1] rfl rfl ?hc ?h1c ?b1 ?b2 ?b3 ?_)
        case hc => exact one_new _ _ _ _ (by simp)
        case h1c => intro u hu; simp at hu; subst hu; rfl
        case b1 => unfold maxLen; omega
        case b2 => omega
        case b3 => exact HB2.out.size
        intro v1 w1 ho1 hg1 _
        have HN := hid (And.intro ho1 (HB2.out.grown hg1 HB2.out.size (own_base HR2.out)))
        clear ho1 hg1
        go_wp2
        go_roundw
        case rel => exact ⟨k + 1, by omega, by omega, by go_num, hid (by rw [HO.out, HC.out]; simpa [Ns] using HN.out.1), hid HN.out.2⟩
        case measure => simp [intOf]; omega
      · have hb1 : 0 ≤ x / 2 ^ (8 * k) % 256 := by omega
        have hb2 : x / 2 ^ (8 * k) % 256 < 256 := by omega
        have HC := hid (show cb x k = x / 2 ^ (8 * k) % 256 by rw [HC.out, if_neg (by omega)])
        have HR2 := hid (hrow.out.alloc (.cells #[.int .u8 (x / 2 ^ (8 * k) % 256)] 5))
        have HB2 := hid (hbel.out.alloc hbel.out.size (.cells #[.int .u8 (x / 2 ^ (8 * k) % 256)] 5))
        go_wp2_with (at_builtin; refine wpList_append_own _ rfl _ _ 23 rfl w.heap.size 5 i0 (.int .u8 0) 1 1 Try.underlying23 hi hz0 hz1 hz2 rfl (by omega) _ _ _ rfl HR2.out _ 1 1 [.int .u8 (x / 2 ^ (8 * k) % 256)] rfl rfl ?hc ?h1c ?b1 ?b2 ?b3 ?_)
        case hc => exact one_new _ _ _ _ (by simp)
        case h1c => intro u hu; simp at hu; subst hu; rfl
        case b1 => unfold maxLen; omega
        case b2 => omega
        case b3 => exact HB2.out.size
        intro v1 w1 ho1 hg1 _
        have HN := hid (And.intro ho1 (HB2.out.grown hg1 HB2.out.size (own_base HR2.out)))
        clear ho1 hg1
        go_wp2
        go_roundw
        case rel => exact ⟨k + 1, by omega, by omega, by go_num, hid (by rw [HO.out, HC.out]; simpa [Ns] using HN.out.1), hid HN.out.2⟩
        case measure => simp [intOf]; omega
    · have hkc : k = 8 := by omega
      subst hkc
      have HR := hid (show wr.ownsRow w.heap.size 5 1 u6 8 (Ns .u8 (cRow x)) by
        have := hrow.out
        rwa [List.take_of_length_le (by rw [cRow_len]; exact Nat.le_refl _)] at this)
      clear hrow
      go_wp2
      go_ret
      rw [HX.out]
      exact ⟨_, rfl, HR.out, hbel.out⟩
end Go.Proofs.Ytecfhmlfefkmmaa
