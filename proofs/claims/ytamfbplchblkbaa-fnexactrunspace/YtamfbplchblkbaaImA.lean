import Derived.Test.YtamfbplchblkbaaBase
import Derived.Maps.OwnSet
import Derived.Maps.OwnOps
namespace Go.Proofs.Ytamfbplchblkbaa
open Go.ChangeShapes Go.WideShapes Go.ChangeAt Go.RowKit Go.Maps
set_option linter.unusedVariables false

/-- how a pointer to the head of a block reads: as the block's number -/
def ptrE : Value → Option (DataW Unit × List MemPlace)
  | .pointer (some ⟨b, 0, none⟩) => some (.lit (.int .i64 b), [])
  | .pointer none => some (.nil, [])
  | _ => none
theorem ptrE_some (b : Nat) : ptrE (.pointer (some ⟨b, 0, none⟩)) = some (.lit (.int .i64 b), []) := rfl
theorem ptrE_inv {v : Value} {z : DataW Unit × List MemPlace} (h : ptrE v = some z) : (∃ b : Nat, v = .pointer (some ⟨b, 0, none⟩) ∧ z = (.lit (.int .i64 b), [])) ∨ (v = .pointer none ∧ z = (.nil, [])) := by
  unfold ptrE at h
  split at h
  · left; exact ⟨_, rfl, by simpa using h.symm⟩
  · right; exact ⟨rfl, by simpa using h.symm⟩
  · cases h

/-- what the map holds, as data -/
def asD : Option Nat → DataW Unit
  | some b => .lit (.int .i64 b)
  | none => .nil

/-- how many of the pages are committed -/
def heldN (f : Nat → Option Nat) (first : Nat) : Nat → Nat
  | 0 => 0
  | k + 1 => heldN f first k + (f (first + k)).isSome.toNat
theorem heldN_le (f : Nat → Option Nat) (first : Nat) : ∀ k, heldN f first k ≤ k
  | 0 => Nat.le_refl _
  | k + 1 => by have := heldN_le f first k; have h2 := Bool.toNat_le (f (first + k)).isSome; simp only [heldN]; omega


/-- one entry turned -/
def upd (f : Nat → Option Nat) (k : Nat) (v : Option Nat) : Nat → Option Nat := fun j => if j = k then v else f j
theorem upd_same (f : Nat → Option Nat) (k : Nat) (v : Option Nat) : upd f k v k = v := by simp [upd]
theorem upd_other (f : Nat → Option Nat) (k j : Nat) (v : Option Nat) (h : j ≠ k) : upd f k v j = f j := by simp [upd, h]
theorem heldN_upd_out (f : Nat → Option Nat) (k : Nat) (v : Option Nat) (first : Nat) : ∀ N, k < first ∨ first + N ≤ k → heldN (upd f k v) first N = heldN f first N
  | 0, _ => rfl
  | N + 1, h => by
    simp only [heldN]
    rw [heldN_upd_out f k v first N (by omega), upd_other f k _ v (by omega)]
theorem heldN_upd (f : Nat → Option Nat) (k : Nat) (v : Option Nat) (first : Nat) : ∀ N, first ≤ k → k < first + N → heldN (upd f k v) first N + (f k).isSome.toNat = heldN f first N + v.isSome.toNat
  | 0, h, h' => by omega
  | N + 1, h, h' => by
    simp only [heldN]
    by_cases e : k = first + N
    · subst e
      rw [heldN_upd_out f _ v first N (by omega), upd_same]
      omega
    · have := heldN_upd f k v first N h (by omega)
      rw [upd_other f k (first + N) v (by omega)]
      omega

/-- the space of impl in block S, its map in block M: page k lies in block f k -/
structure Im (S M : Nat) (st n bud : Int) (f : Nat → Option Nat) (W : World) : Prop where
  box : W.heap[S]? = some (.cells #[.int .i32 st, .int .u32 0, .int .i64 n, .int .i64 bud, .map (some M)] 77 (0, 0))
  map : ∃ D : DataW Unit, W.ownsMap Try.prog 3 ptrE M 4096 D ∧ Maps.size D = heldN f 0 4096 ∧ (∀ k : Nat, k < 4611686018427387904 → D.atKey (.int .i64 k) .nil = asD (f k)) ∧ ∀ k : Nat, k < 4611686018427387904 → has D (.int .i64 k) = (f k).isSome

theorem keyed3 : Keyed Try.prog 3 := int_keyed Try.underlying3
theorem zero82 (w : World) : (zeroValue 82).run Try.prog w = .ok (.pointer none) w := by kernel_rfl
theorem key3 (k : Nat) (h : k < 4611686018427387904) : keyOf Try.prog 3 (.int .i64 k) = some (.int .i64 k) := keyOf_int_mk Try.underlying3 (WalkArith.wf_i64 (by omega))

/-- a look-up in the map of pages -/
theorem Im.look {S M : Nat} {st n bud : Int} {f : Nat → Option Nat} {W : World} (h : Im S M st n bud f W) (k : Nat) (hk : k < 4611686018427387904) :
    (Instr.lookup 68 (.map (some M)) (.int .i64 k) false).run Try.prog W = .ok (.pointer ((f k).map fun b => ⟨b, 0, none⟩)) W := by
  obtain ⟨D, hown, _, hat, _⟩ := h.map
  obtain ⟨v, ps, hrun, hv⟩ := hown.lookup keyed3 Try.underlying68 (zero82 W) (show ptrE (.pointer none) = some (.nil, []) from rfl) (key3 k hk)
  rw [hat k hk] at hv
  rw [hrun]
  rcases ptrE_inv hv with ⟨b, rfl, h1⟩ | ⟨rfl, h1⟩
  · cases hf : f k with
    | none => rw [hf] at h1; simp [asD] at h1
    | some b' =>
      rw [hf] at h1
      simp [asD] at h1
      have : b' = b := by omega
      subst this
      rfl
  · cases hf : f k with
    | none => rfl
    | some b' => rw [hf] at h1; simp [asD] at h1

theorem Im.c {S M : Nat} {st n bud : Int} {f : Nat → Option Nat} {W : World} (h : Im S M st n bud f W) :
    W.cell? ⟨S, 0, none⟩ = some (.int .i32 st) ∧ W.cell? ⟨S, 2, none⟩ = some (.int .i64 n) ∧ W.cell? ⟨S, 3, none⟩ = some (.int .i64 bud) ∧ W.cell? ⟨S, 4, none⟩ = some (.map (some M)) := by
  have hb := h.box
  simp [World.cell?, hb]

set_option maxHeartbeats 400000 in
theorem heldOf_any (S M : Nat) (st n bud : Int) (f : Nat → Option Nat) (first count : Nat) (w : World) (h : Im S M st n bud f w) (h1 : first ≤ 4096) (h2 : count ≤ 4096) :
    Calls Try.prog 56 #[.pointer (some ⟨S, 0, none⟩), .int .i64 first, .int .i64 count] w fun e w' => e = .returned (.int .i64 (heldN f first count)) ∧ w' = w := by
  obtain ⟨_, _, _, c4⟩ := h.c
  have HI := hid h
  clear h
  go_enter Try.func56, Try.ntmps56
  go_wp2
  go_loop [7, 8, 10] (fun c _ i => ∃ k : Nat, k ≤ count ∧ i = .int .i64 k ∧ c = .int .i64 (heldN f first k)) (fun _ _ i => count - (intOf i).toNat)
  case atStart => exact ⟨0, Nat.zero_le _, rfl, rfl⟩
  case round =>
    obtain ⟨k, hk, rfl, rfl⟩ := hrel
    by_cases hlt : k < count
    · have hrun := HI.out.look (first + k) (by omega)
      have ec : ((first + k : Nat) : Int) = (first : Int) + (k : Int) := by omega
      rw [ec] at hrun
      clear ec
      have hle := heldN_le f first k
      have HS := hid (show heldN f first (k + 1) = heldN f first k + (f (first + k)).isSome.toNat from rfl)
      generalize heldN f first k = c at *
      cases hf : f (first + k) with
      | none =>
        rw [hf] at hrun HS
        simp only [Option.map_none] at hrun
        clear hf
        go_wp2
        go_round
        case rel => exact ⟨k + 1, by omega, by go_num, by rw [HS.out]; rfl⟩
        case measure => simp [intOf]; omega
      | some b =>
        rw [hf] at hrun HS
        simp only [Option.map_some] at hrun
        clear hf
        go_wp2
        go_round
        case rel => exact ⟨k + 1, by omega, by go_num, by rw [HS.out]; rfl⟩
        case measure => simp [intOf]; omega
    · have hkc : k = count := by omega
      subst hkc
      go_wp2
      go_ret
      exact ⟨rfl, rfl⟩
end Go.Proofs.Ytamfbplchblkbaa
