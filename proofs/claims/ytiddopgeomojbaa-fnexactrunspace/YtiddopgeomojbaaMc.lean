import Derived.Test.YtiddopgeomojbaaMb
import Derived.Test.YtiddopgeomojbaaMa
import Derived.Deep.RegionWith
import Derived.OrdersHeld
import Derived.Deep.OwnRows
import Derived.Deep.AppendLies
import Derived.Laws.Tables
import Derived.Laws.Rows
namespace Go.Proofs.Ytiddopgeomojbaa
open Go.RowKit Go.Shelf
set_option linter.unusedVariables false

/-- page k of spec's row c -/
def PageAt (W : World) (c : Array Value) (k : Nat) : Option (Bool × List Int) → Prop
  | none => c[k * 3]? = some (.bool false) ∧ c[k * 3 + 1]? = some (.bool false) ∧ c[k * 3 + 2]? = some (.slice none 0 0)
  | some (l, xs) => c[k * 3]? = some (.bool true) ∧ c[k * 3 + 1]? = some (.bool (!l)) ∧ xs.length = 1024 ∧ ∃ g, c[k * 3 + 2]? = some (.slice (some ⟨g, 0, none⟩) 1024 1024) ∧ W.heap[g]? = some (.cells (Ns .u8 xs).toArray 5 (0, 0))
/-- the space of spec in block T, its pages in block Q -/
structure Sx (T Q n : Nat) (bud : Int) (m : Nat → Option (Bool × List Int)) (W : World) : Prop where
  box : W.heap[T]? = some (.cells #[.slice (some ⟨Q, 0, none⟩) n n, .int .i64 bud] 89 (0, 0))
  row : ∃ c, W.heap[Q]? = some (.cells c 92 (0, 0)) ∧ c.size = n * 3 ∧ (∀ k, k < n → PageAt W c k (m k)) ∧ ∀ j k g, j < n → k < n → c[j * 3 + 2]? = some (.slice (some ⟨g, 0, none⟩) 1024 1024) → c[k * 3 + 2]? = some (.slice (some ⟨g, 0, none⟩) 1024 1024) → j = k
  out : ∀ k, n ≤ k → m k = none

theorem Sx.c {T Q n : Nat} {bud : Int} {m : Nat → Option (Bool × List Int)} {W : World} (h : Sx T Q n bud m W) :
    W.cell? ⟨T, 0, none⟩ = some (.slice (some ⟨Q, 0, none⟩) n n) ∧ W.cell? ⟨T, 1, none⟩ = some (.int .i64 bud) := by
  have h1 := h.box
  exact ⟨by simp [World.cell?, h1], by simp [World.cell?, h1]⟩
theorem Sx.page {T Q n : Nat} {bud : Int} {m : Nat → Option (Bool × List Int)} {W : World} (h : Sx T Q n bud m W) (k : Nat) (hk : k < n) :
    ∃ on op dt, W.cell? ⟨Q, k * 3, none⟩ = some (.bool on) ∧ W.cell? ⟨Q, k * 3 + 1, none⟩ = some (.bool op) ∧ W.cell? ⟨Q, k * 3 + 2, none⟩ = some dt ∧ on = (m k).isSome ∧ (on && op) = isOpen (m k) ∧
      (∀ l xs, m k = some (l, xs) → xs.length = 1024 ∧ ∃ g, dt = .slice (some ⟨g, 0, none⟩) 1024 1024 ∧ W.heap[g]? = some (.cells (Ns .u8 xs).toArray 5 (0, 0))) := by
  obtain ⟨c, h1, h2, h3, _⟩ := h.row
  have h4 := h3 k hk
  cases hm : m k with
  | none =>
    rw [hm] at h4
    obtain ⟨a1, a2, a3⟩ := h4
    exact ⟨false, false, .slice none 0 0, by simp [World.cell?, h1, a1], by simp [World.cell?, h1, a2], by simp [World.cell?, h1, a3], rfl, rfl, fun l xs e => by cases e⟩
  | some q =>
    obtain ⟨l, xs⟩ := q
    rw [hm] at h4
    obtain ⟨a1, a2, a4, g, a3, a5⟩ := h4
    exact ⟨true, !l, .slice (some ⟨g, 0, none⟩) 1024 1024, by simp [World.cell?, h1, a1], by simp [World.cell?, h1, a2], by simp [World.cell?, h1, a3], rfl, by simp [isOpen], fun l' xs' e => by cases e; exact ⟨a4, g, rfl, a5⟩⟩

set_option maxHeartbeats 400000 in
theorem reach_any (T Q n : Nat) (bud : Int) (m : Nat → Option (Bool × List Int)) (a : Nat) (w : World) (h : Sx T Q n bud m w) (hn : n ≤ 4096) (ha : a < 18446744073709551616) :
    Calls Try.prog 86 #[.pointer (some ⟨T, 0, none⟩), .int .u64 a] w fun e w' => e = .returned (.bool (isOpen (m (a / 1024)))) ∧ w' = w := by
  obtain ⟨c1, c2⟩ := h.c
  by_cases hk : a / 1024 < n
  · obtain ⟨on, op, dt, d1, d2, d3, e1, e2, _⟩ := h.page (a / 1024) hk
    have HE := hid e2
    clear e1 e2 h
    cases on
    · go_enter Try.func86, Try.ntmps86
      go_wp2
      go_ret
      exact ⟨ret_bool HE.out, rfl⟩
    · go_enter Try.func86, Try.ntmps86
      go_wp2
      go_ret
      exact ⟨ret_bool (by rw [← HE.out]; rfl), rfl⟩
  · have HE := hid (h.out (a / 1024) (by omega))
    have hk' : ¬ ((a : Int) / 1024 < (n : Int)) := by omega
    clear h
    go_enter Try.func86, Try.ntmps86
    go_wp2
    go_ret
    exact ⟨ret_bool (by rw [HE.out]; rfl), rfl⟩

set_option maxHeartbeats 400000 in
theorem get_any (T Q n : Nat) (bud : Int) (m : Nat → Option (Bool × List Int)) (a : Nat) (w : World) (h : Sx T Q n bud m w) (hn : n ≤ 4096) (ha : a < 18446744073709551616) (ho : isOpen (m (a / 1024)) = true) :
    Calls Try.prog 62 #[.pointer (some ⟨T, 0, none⟩), .int .u64 a] w fun e w' => e = .returned (.int .u8 (byteAt m a)) ∧ w' = w := by
  obtain ⟨c1, c2⟩ := h.c
  have hk : a / 1024 < n := by
    rcases Nat.lt_or_ge (a / 1024) n with e | e
    · exact e
    · rw [h.out _ e] at ho; cases ho
  obtain ⟨on, op, dt, d1, d2, d3, e1, e2, e3⟩ := h.page (a / 1024) hk
  cases hm : m (a / 1024) with
  | none => rw [hm] at ho; cases ho
  | some q =>
    obtain ⟨l, xs⟩ := q
    obtain ⟨hx, g, rfl, hg⟩ := e3 l xs hm
    have hc : w.cell? ⟨g, a % 1024, none⟩ = some (.int .u8 (xs[a % 1024]?.getD 0)) := by
      have hlt : a % 1024 < xs.length := by omega
      simp [World.cell?, hg, Ns, hlt]
    have HE := hid (show byteAt m a = xs[a % 1024]?.getD 0 by simp [byteAt, hm])
    clear e1 e2 e3 h ho hm hx hg d1 d2
    generalize xs[a % 1024]?.getD 0 = z at *
    go_enter Try.func62, Try.ntmps62
    go_wp2
    go_ret
    exact ⟨ret_int HE.out.symm, rfl⟩
end Go.Proofs.Ytiddopgeomojbaa

namespace Go.Proofs.Ytiddopgeomojbaa
open Go.RowKit Go.Shelf
set_option linter.unusedVariables false

/-- the bytes from a on may be reached -/
def reachN (m : Nat → Option (Bool × List Int)) (a : Nat) : Nat → Bool
  | 0 => true
  | k + 1 => reachN m a k && isOpen (m ((a + k) / 1024))
theorem reachN_false {m : Nat → Option (Bool × List Int)} {a k : Nat} (h : isOpen (m ((a + k) / 1024)) = false) : ∀ N, k < N → reachN m a N = false
  | 0, hk => by omega
  | N + 1, hk => by
    simp only [reachN]
    by_cases e : k = N
    · subst e; simp [h]
    · rw [reachN_false h N (by omega)]; rfl
theorem reachN_all {m : Nat → Option (Bool × List Int)} {a : Nat} : ∀ {N : Nat}, reachN m a N = true → ∀ k, k < N → isOpen (m ((a + k) / 1024)) = true
  | 0, _, k, hk => by omega
  | N + 1, h, k, hk => by
    simp only [reachN, Bool.and_eq_true] at h
    by_cases e : k = N
    · subst e; exact h.2
    · exact reachN_all h.1 k (by omega)
theorem reachN_of {m : Nat → Option (Bool × List Int)} {a : Nat} : ∀ {N : Nat}, (∀ k, k < N → isOpen (m ((a + k) / 1024)) = true) → reachN m a N = true
  | 0, _ => rfl
  | N + 1, h => by
    simp only [reachN]
    rw [reachN_of (fun k hk => h k (by omega)), h N (by omega)]
    rfl
theorem openN_of {m : Nat → Option (Bool × List Int)} {p : Nat} : ∀ {N : Nat}, (∀ k, k < N → isOpen (m (p + k)) = true) → openN m p N = true
  | 0, _ => rfl
  | N + 1, h => by
    simp only [openN]
    rw [openN_of (fun k hk => h k (by omega)), h N (by omega)]
    rfl
/-- byte by byte and page by page are one -/
theorem reach_open (m : Nat → Option (Bool × List Int)) (a n : Nat) (hn : 1 ≤ n) : openN m (a / 1024) ((a + (n - 1)) / 1024 + 1 - a / 1024) = reachN m a n := by
  cases hr : reachN m a n
  · cases ho : openN m (a / 1024) ((a + (n - 1)) / 1024 + 1 - a / 1024)
    · rfl
    · exfalso
      have : reachN m a n = true := reachN_of (fun k hk => by
        have h1 := openN_all ho ((a + k) / 1024 - a / 1024) (by omega)
        rwa [show a / 1024 + ((a + k) / 1024 - a / 1024) = (a + k) / 1024 by omega] at h1)
      rw [hr] at this
      cases this
  · refine openN_of (fun k hk => ?_)
    by_cases e : k = 0
    · have h1 := reachN_all hr 0 (by omega)
      subst e
      simpa using h1
    · have h1 := reachN_all hr ((a / 1024 + k) * 1024 - a) (by omega)
      rwa [show (a + ((a / 1024 + k) * 1024 - a)) / 1024 = a / 1024 + k by omega] at h1

set_option maxHeartbeats 400000 in
theorem sp_access_range (T : Nat) (a n : Int) (w : World) (h : n < 0 ∨ 4096 < n) :
    Calls Try.prog 61 #[.pointer (some ⟨T, 0, none⟩), .int .u64 a, .int .i64 n] w fun e w' => e = .returned (.int .i64 6) ∧ w' = w := by
  rcases h with h | h
  · go_enter Try.func61, Try.ntmps61
    go_wp2
    go_ret
    exact ⟨rfl, rfl⟩
  · have h' : ¬ n < 0 := by omega
    go_enter Try.func61, Try.ntmps61
    go_wp2
    go_ret
    exact ⟨rfl, rfl⟩
set_option maxHeartbeats 400000 in
theorem sp_access_zero (T : Nat) (a : Int) (w : World) :
    Calls Try.prog 61 #[.pointer (some ⟨T, 0, none⟩), .int .u64 a, .int .i64 0] w fun e w' => e = .returned (.int .i64 0) ∧ w' = w := by
  go_enter Try.func61, Try.ntmps61
  go_wp2
  go_ret
  exact ⟨rfl, rfl⟩
set_option maxHeartbeats 400000 in
theorem sp_access_far (T : Nat) (a n : Int) (w : World) (ha : 0 ≤ a) (ha' : a ≤ 18446744073709551615) (h1 : 1 ≤ n) (h2 : n ≤ 4096) (h : 4611686018427387904 ≤ a + (n - 1)) :
    Calls Try.prog 61 #[.pointer (some ⟨T, 0, none⟩), .int .u64 a, .int .i64 n] w fun e w' => e = .returned (.int .i64 2) ∧ w' = w := by
  have H1 := hid (spec_pg_no a n w ha ha' (.inr (.inr h)))
  clear h
  go_enter Try.func61, Try.ntmps61
  go_wp2_with fail
  refine H1.out.mono ?_
  rintro _ _ ⟨rfl, rfl⟩
  unfold pgNo
  go_wp2_with fail
  go_ret
  exact ⟨rfl, rfl⟩

set_option maxRecDepth 4000 in
set_option maxHeartbeats 400000 in
theorem sp_access_near (T Q nn : Nat) (bud : Int) (m : Nat → Option (Bool × List Int)) (a n : Nat) (w : World) (hs : Sx T Q nn bud m w) (hnn : nn ≤ 4096) (h1 : 1 ≤ n) (h2 : n ≤ 4096) (h : a + (n - 1) < 4611686018427387904) :
    Calls Try.prog 61 #[.pointer (some ⟨T, 0, none⟩), .int .u64 a, .int .i64 n] w fun e w' => e = .returned (.int .i64 (accCode (reachN m a n))) ∧ w' = w := by
  have H1 := hid (spec_pg_yes a n w (by omega) (by omega) (by omega) (by omega))
  have HR := hid (fun (j : Nat) (hj : j < n) => reach_any T Q nn bud m (a + j) w hs hnn (by omega))
  clear hs
  go_enter Try.func61, Try.ntmps61
  go_wp2_with fail
  refine H1.out.mono ?_
  rintro _ w0 ⟨rfl, rfl⟩
  go_wp2_with fail
  clear H1
  go_loop [10] (fun i => ∃ j : Nat, j ≤ n ∧ i = .int .i64 j ∧ reachN m a j = true) (fun i => n - (intOf i).toNat)
  case atStart => exact ⟨0, Nat.zero_le _, rfl, rfl⟩
  case round =>
    obtain ⟨j, hj, rfl, hop⟩ := hrel
    by_cases hlt : j < n
    · have H2 := hid (HR.out j hlt)
      rw [show ((a + j : Nat) : Int) = (a : Int) + (j : Int) by omega] at H2
      cases ho : isOpen (m ((a + j) / 1024))
      · have HO := hid (reachN_false ho n hlt)
        rw [ho] at H2
        clear ho hop
        go_wp2_with fail
        refine H2.out.mono ?_
        rintro _ _ ⟨rfl, rfl⟩
        go_wp2_with fail
        go_ret
        exact ⟨ret_int (by rw [HO.out]; rfl), rfl⟩
      · have HO := hid (show reachN m a (j + 1) = true by simp only [reachN]; rw [hop, ho]; rfl)
        rw [ho] at H2
        clear ho hop
        go_wp2_with fail
        refine H2.out.mono ?_
        rintro _ _ ⟨rfl, rfl⟩
        go_wp2_with fail
        go_round
        case rel => exact ⟨j + 1, by omega, by go_num, HO.out⟩
        case measure => simp [intOf]; omega
    · have hje : j = n := by omega
      have HO := hid (hje ▸ hop)
      clear hop hje
      go_wp2
      go_ret
      exact ⟨ret_int (by rw [HO.out]; rfl), rfl⟩
end Go.Proofs.Ytiddopgeomojbaa

namespace Go.Proofs.Ytiddopgeomojbaa
open Go.RowKit Go.Shelf
set_option linter.unusedVariables false

/-- how many pages below k are committed -/
def cntM (m : Nat → Option (Bool × List Int)) : Nat → Nat
  | 0 => 0
  | k + 1 => cntM m k + (m k).isSome.toNat
theorem cntM_le (m : Nat → Option (Bool × List Int)) : ∀ k, cntM m k ≤ k
  | 0 => Nat.le_refl _
  | k + 1 => by have := cntM_le m k; have h2 := Bool.toNat_le (m k).isSome; simp only [cntM]; omega
theorem cntM_held {f : Nat → Option Nat} {m : Nat → Option (Bool × List Int)} (h : ∀ k, (f k).isSome = (m k).isSome) : ∀ k, heldN f 0 k = cntM m k
  | 0 => rfl
  | k + 1 => by simp only [heldN, cntM]; rw [cntM_held h k, Nat.zero_add, h k]
theorem cntM_out {m : Nat → Option (Bool × List Int)} {n : Nat} (h : ∀ k, n ≤ k → m k = none) : ∀ k, cntM m (n + k) = cntM m n
  | 0 => rfl
  | k + 1 => by rw [← Nat.add_assoc]; simp only [cntM]; rw [cntM_out h k, h (n + k) (by omega)]; rfl

theorem Sx.three {T Q n : Nat} {bud : Int} {m : Nat → Option (Bool × List Int)} {W : World} (h : Sx T Q n bud m W) (k : Nat) (hk : k < n) :
    ∃ op p l c, W.cell? ⟨Q, k * 3, none⟩ = some (.bool (m k).isSome) ∧ W.cell? ⟨Q, k * 3 + 1, none⟩ = some (.bool op) ∧ W.cell? ⟨Q, k * 3 + 2, none⟩ = some (.slice p l c) ∧ ((m k).isSome && op) = isOpen (m k) := by
  obtain ⟨c, h1, h2, h3, _⟩ := h.row
  have h4 := h3 k hk
  cases hm : m k with
  | none =>
    rw [hm] at h4
    obtain ⟨a1, a2, a3⟩ := h4
    exact ⟨false, none, 0, 0, by simp [World.cell?, h1, a1], by simp [World.cell?, h1, a2], by simp [World.cell?, h1, a3], rfl⟩
  | some q =>
    obtain ⟨l, xs⟩ := q
    rw [hm] at h4
    obtain ⟨a1, a2, a4, g, a3, a5⟩ := h4
    exact ⟨!l, some ⟨g, 0, none⟩, 1024, 1024, by simp [World.cell?, h1, a1], by simp [World.cell?, h1, a2], by simp [World.cell?, h1, a3], by simp [isOpen]⟩

set_option maxHeartbeats 400000 in
theorem committed_any (T Q n : Nat) (bud : Int) (m : Nat → Option (Bool × List Int)) (w : World) (h : Sx T Q n bud m w) (hn : n ≤ 4096) :
    Calls Try.prog 24 #[.pointer (some ⟨T, 0, none⟩)] w fun e w' => e = .returned (.int .i64 (cntM m n)) ∧ Below w.heap.size w w' := by
  obtain ⟨c1, c2⟩ := h.c
  have HS := hid h
  clear h
  go_enter Try.func24, Try.ntmps24
  go_wp2
  go_loopw [3, 11] (fun c i wr => ∃ k : Nat, k ≤ n ∧ i = .int .i64 k ∧ c = .int .i64 (cntM m k) ∧ Below w.heap.size w wr) (fun _ i _ => n - (intOf i).toNat)
  case atStart => exact ⟨0, Nat.zero_le _, rfl, rfl, Below.refl _ _⟩
  case round =>
    obtain ⟨k, hk, rfl, rfl, hbel⟩ := hrel
    by_cases hlt : k < n
    · obtain ⟨op, p, l, c, d1, d2, d3, _⟩ := HS.out.three k hlt
      have d1 := below_cell hbel d1
      have d2 := below_cell hbel d2
      have d3 := below_cell hbel d3
      have hle := cntM_le m k
      have HC := hid (show cntM m (k + 1) = cntM m k + (m k).isSome.toNat from rfl)
      have HB := hid (hbel.alloc hbel.size (.cells #[.bool (m k).isSome, .bool op, .slice p l c] 92))
      clear hbel
      generalize cntM m k = x at *
      cases hm : (m k).isSome
      · rw [hm] at d1 HC HB
        clear hm
        go_wp2
        go_roundw
        case rel => exact ⟨k + 1, by omega, by go_num, by rw [HC.out]; rfl, HB.out⟩
        case measure => simp [intOf]; omega
      · rw [hm] at d1 HC HB
        clear hm
        go_wp2
        go_roundw
        case rel => exact ⟨k + 1, by omega, by go_num, by rw [HC.out]; rfl, HB.out⟩
        case measure => simp [intOf]; omega
    · have hkc : k = n := by omega
      subst hkc
      have HB := hid hbel
      clear hbel
      go_wp2
      go_ret
      exact ⟨rfl, HB.out⟩
end Go.Proofs.Ytiddopgeomojbaa

namespace Go.Proofs.Ytiddopgeomojbaa
open Go.RowKit Go.Shelf
set_option linter.unusedVariables false

set_option maxHeartbeats 400000 in
theorem sp_load_no (T : Nat) (a n c : Int) (w : World) (hc : (c == 0) = false) (h : ∀ w, Calls Try.prog 61 #[.pointer (some ⟨T, 0, none⟩), .int .u64 a, .int .i64 n] w fun e w' => e = .returned (.int .i64 c) ∧ w' = w) :
    Calls Try.prog 44 #[.pointer (some ⟨T, 0, none⟩), .int .u64 a, .int .i64 n] w fun e w' => e = .returned (.agg #[.int .i64 c, .slice none 0 0]) ∧ Below w.heap.size w w' := by
  have H1 := hid h
  clear h
  by_cases hn : 0 < n
  all_goals
    go_enter Try.func44, Try.ntmps44
    go_wp2_with fail
    refine (H1.out _).mono ?_
    rintro _ w1 ⟨rfl, rfl⟩
    go_wp2_with fail
    refine wp_loop_rounds 1 ?_
    rw [rounds_succ]
    go_wp2
    exact bodyPost_ret (v := .agg #[.int .i64 c, .slice none 0 0]) (by simp [results, Try.results44, go_sem]) rfl ⟨rfl, ((Below.refl _ w).alloc (Nat.le_refl _) _).alloc (by simp) _⟩

/-- one page's cells are turned -/
theorem Sx.set3 {T Q n : Nat} {bud : Int} {m : Nat → Option (Bool × List Int)} {W : World} (h : Sx T Q n bud m W) (k : Nat) (hk : k < n) (v : Option (Bool × List Int)) (x y z : Value) (hz : ∀ g j, j < n → j ≠ k → W.cell? ⟨Q, j * 3 + 2, none⟩ = some (.slice (some ⟨g, 0, none⟩) 1024 1024) → z ≠ .slice (some ⟨g, 0, none⟩) 1024 1024)
    (hv : ∀ (c : Array Value) (W' : World), c[k * 3]? = some x → c[k * 3 + 1]? = some y → c[k * 3 + 2]? = some z → (∀ g, g ≠ Q → W'.heap[g]? = W.heap[g]?) → PageAt W' c k v) :
    Sx T Q n bud (updM m k v) (((W.setCell ⟨Q, k * 3, none⟩ x).setCell ⟨Q, k * 3 + 1, none⟩ y).setCell ⟨Q, k * 3 + 2, none⟩ z) := by
  obtain ⟨c, h1, h2, h3, hinj⟩ := h.row
  have hne : T ≠ Q := by
    intro e
    subst e
    rw [h.box] at h1
    simp at h1
  have ho : ∀ g, g ≠ Q → (((W.setCell ⟨Q, k * 3, none⟩ x).setCell ⟨Q, k * 3 + 1, none⟩ y).setCell ⟨Q, k * 3 + 2, none⟩ z).heap[g]? = W.heap[g]? := by
    intro g hg
    rw [Below.heap_setCell _ _ _ _ hg, Below.heap_setCell _ _ _ _ hg, Below.heap_setCell _ _ _ _ hg]
  have hc : (((W.setCell ⟨Q, k * 3, none⟩ x).setCell ⟨Q, k * 3 + 1, none⟩ y).setCell ⟨Q, k * 3 + 2, none⟩ z).heap[Q]? = some (.cells (((c.setIfInBounds (k * 3) x).setIfInBounds (k * 3 + 1) y).setIfInBounds (k * 3 + 2) z) 92 (0, 0)) := heap_set_at (heap_set_at (heap_set_at h1 x) y) z
  generalize ((W.setCell ⟨Q, k * 3, none⟩ x).setCell ⟨Q, k * 3 + 1, none⟩ y).setCell ⟨Q, k * 3 + 2, none⟩ z = W' at *
  refine ⟨(ho T hne).trans h.box, ⟨_, hc, by simpa using h2, ?_, ?_⟩, ?_⟩
  · intro j hj
    by_cases e : j = k
    · subst e
      rw [updM_same]
      refine hv _ _ ?_ ?_ ?_ ho
      · simp [show j * 3 < c.size by omega]
      · simp [show j * 3 + 1 < c.size by omega]
      · simp [show j * 3 + 2 < c.size by omega]
    · rw [updM_other m k j v e]
      have h4 := h3 j hj
      have q : ∀ i, i < 3 → (((c.setIfInBounds (k * 3) x).setIfInBounds (k * 3 + 1) y).setIfInBounds (k * 3 + 2) z)[j * 3 + i]? = c[j * 3 + i]? := by
        intro i hi
        rw [Array.getElem?_setIfInBounds, if_neg (by omega), Array.getElem?_setIfInBounds, if_neg (by omega), Array.getElem?_setIfInBounds, if_neg (by omega)]
      have q0 := q 0 (by omega)
      have q1 := q 1 (by omega)
      have q2 := q 2 (by omega)
      rw [Nat.add_zero] at q0
      cases hm : m j with
      | none =>
        rw [hm] at h4
        exact ⟨q0.trans h4.1, q1.trans h4.2.1, q2.trans h4.2.2⟩
      | some r =>
        obtain ⟨l, xs⟩ := r
        rw [hm] at h4
        obtain ⟨a1, a2, a4, g, a3, a5⟩ := h4
        refine ⟨q0.trans a1, q1.trans a2, a4, g, q2.trans a3, (ho g ?_).trans a5⟩
        intro e2
        subst e2
        rw [h1] at a5
        simp at a5
  · have hz' : ∀ g j, j < n → j ≠ k → c[j * 3 + 2]? = some (.slice (some ⟨g, 0, none⟩) 1024 1024) → z ≠ .slice (some ⟨g, 0, none⟩) 1024 1024 := fun g j h5 h6 h7 => hz g j h5 h6 (by simp [World.cell?, h1, h7])
    have q2 : ∀ j, j < n → j ≠ k → (((c.setIfInBounds (k * 3) x).setIfInBounds (k * 3 + 1) y).setIfInBounds (k * 3 + 2) z)[j * 3 + 2]? = c[j * 3 + 2]? := by
      intro j hj hne
      rw [Array.getElem?_setIfInBounds, if_neg (by omega), Array.getElem?_setIfInBounds, if_neg (by omega), Array.getElem?_setIfInBounds, if_neg (by omega)]
    have q3 : (((c.setIfInBounds (k * 3) x).setIfInBounds (k * 3 + 1) y).setIfInBounds (k * 3 + 2) z)[k * 3 + 2]? = some z := by simp [show k * 3 + 2 < c.size by omega]
    intro i j g h5 h6 h7 h8
    by_cases e1 : i = k
    · by_cases e2 : j = k
      · omega
      · subst e1
        rw [q3] at h7
        rw [q2 j h6 e2] at h8
        exact absurd (Option.some.inj h7) (hz' g j h6 e2 h8)
    · by_cases e2 : j = k
      · subst e2
        rw [q3] at h8
        rw [q2 i h5 e1] at h7
        exact absurd (Option.some.inj h8) (hz' g i h5 e1 h7)
      · rw [q2 i h5 e1] at h7
        rw [q2 j h6 e2] at h8
        exact hinj i j g h5 h6 h7 h8
  · intro j hj
    rw [updM_other m k j v (by omega)]
    exact h.out j hj

set_option maxHeartbeats 400000 in
theorem sp_drop (T Q n : Nat) (bud : Int) (m : Nat → Option (Bool × List Int)) (first count : Nat) (w : World) (h : Sx T Q n bud m w) (hn : n ≤ 4096) (hf : first + count ≤ n) :
    Calls Try.prog 47 #[.pointer (some ⟨T, 0, none⟩), .int .i64 first, .int .i64 count] w fun e w' => e = .returned (.tuple #[]) ∧ Sx T Q n bud (goneM m first count) w' ∧ w.grownBy w' (some Q) := by
  obtain ⟨c1, c2⟩ := h.c
  have HS := hid h
  clear h
  go_enter Try.func47, Try.ntmps47
  go_wp2
  go_loopw [6] (fun i wr => ∃ k : Nat, k ≤ count ∧ i = .int .i64 ((first : Int) + (k : Int)) ∧ Sx T Q n bud (goneM m first k) wr ∧ w.grownBy wr (some Q)) (fun i _ => first + count - (intOf i).toNat)
  case atStart => exact ⟨0, Nat.zero_le _, by go_num, HS.out, grown_refl w Q⟩
  case round =>
    obtain ⟨k, hk, rfl, hs, hg⟩ := hrel
    by_cases hlt : k < count
    · obtain ⟨c1, c2⟩ := hs.c
      obtain ⟨op, p, l, c, d1, d2, d3, _⟩ := hs.three (first + k) (by omega)
      obtain ⟨cc, h1, h2, _⟩ := hs.row
      have f1 : ∀ i, wr.frozen? ⟨Q, i, none⟩ = false := fun i => by simp [World.frozen?, h1]
      have f2 := f1 ((first + k) * 3)
      have f3 := f1 ((first + k) * 3 + 1)
      have f4 := f1 ((first + k) * 3 + 2)
      have HJ := hid (And.intro hs hg)
      clear hs hg f1 h1 h2
      go_wp2
      go_roundw
      case rel =>
        exact ⟨k + 1, by omega, by go_num, HJ.out.1.set3 (first + k) (by omega) none _ _ _ (fun g j _ _ _ => by simp) (fun c W' a1 a2 a3 _ => ⟨a1, a2, a3⟩), grown_set (grown_set (grown_set HJ.out.2 _ _) _ _) _ _⟩
      case measure => simp [intOf]; omega
    · have hkc : k = count := by omega
      subst hkc
      have HJ := hid (And.intro hs hg)
      clear hs hg
      go_wp2
      go_end0
      exact ⟨rfl, HJ.out⟩
end Go.Proofs.Ytiddopgeomojbaa

namespace Go.Proofs.Ytiddopgeomojbaa
open Go.RowKit Go.Shelf
set_option linter.unusedVariables false

theorem Sx.setByte {T Q n : Nat} {bud : Int} {m : Nat → Option (Bool × List Int)} {W : World} (h : Sx T Q n bud m W) {k g : Nat} (hk : k < n) {l : Bool} {xs : List Int} (hm : m k = some (l, xs)) (hg : W.cell? ⟨Q, k * 3 + 2, none⟩ = some (.slice (some ⟨g, 0, none⟩) 1024 1024)) (i : Nat) (hi : i < 1024) (x : Int) :
    Sx T Q n bud (updM m k (some (l, xs.set i x))) (W.setCell ⟨g, i, none⟩ (.int .u8 x)) := by
  obtain ⟨c, h1, h2, h3, hinj⟩ := h.row
  have h4 := h3 k hk
  rw [hm] at h4
  obtain ⟨a1, a2, a4, g', a3, a5⟩ := h4
  have e0 : c[k * 3 + 2]? = some (.slice (some ⟨g, 0, none⟩) 1024 1024) := by simpa [World.cell?, h1] using hg
  have eg : g' = g := by rw [a3] at e0; simpa using e0
  subst eg
  have hT : T ≠ g' := by intro e; subst e; rw [h.box] at a5; simp at a5
  have hQ : Q ≠ g' := by intro e; subst e; rw [h1] at a5; simp at a5
  refine ⟨(Below.heap_setCell _ _ _ _ hT).trans h.box, ⟨c, (Below.heap_setCell _ _ _ _ hQ).trans h1, h2, ?_, hinj⟩, ?_⟩
  · intro j hj
    by_cases e : j = k
    · subst e
      rw [updM_same]
      refine ⟨a1, a2, by simpa using a4, g', a3, ?_⟩
      rw [heap_set_at a5]
      simp [Ns, List.map_set]
    · rw [updM_other m k j _ e]
      have h5 := h3 j hj
      cases hmj : m j with
      | none => rw [hmj] at h5; exact h5
      | some r =>
        obtain ⟨l2, xs2⟩ := r
        rw [hmj] at h5
        obtain ⟨b1, b2, b4, g2, b3, b5⟩ := h5
        refine ⟨b1, b2, b4, g2, b3, (Below.heap_setCell _ _ _ _ ?_).trans b5⟩
        intro e2
        simp at e2
        subst e2
        exact e (hinj j k _ hj hk b3 a3)
  · intro j hj
    rw [updM_other m k j _ (by omega)]
    exact h.out j hj

set_option maxHeartbeats 400000 in
theorem put_any (T Q n : Nat) (bud : Int) (m : Nat → Option (Bool × List Int)) (a : Nat) (x : Int) (w : World) (h : Sx T Q n bud m w) (hn : n ≤ 4096) (ha : a < 18446744073709551616) {l : Bool} {xs : List Int} (hm : m (a / 1024) = some (l, xs)) :
    Calls Try.prog 63 #[.pointer (some ⟨T, 0, none⟩), .int .u64 a, .int .u8 x] w fun e w' => e = .returned (.tuple #[]) ∧ Sx T Q n bud (updM m (a / 1024) (some (l, xs.set (a % 1024) x))) w' ∧ ∃ g c, w.heap[g]? = some (.cells c 5 (0, 0)) ∧ w.cell? ⟨Q, a / 1024 * 3 + 2, none⟩ = some (.slice (some ⟨g, 0, none⟩) 1024 1024) ∧ w.grownBy w' (some g) := by
  obtain ⟨c1, c2⟩ := h.c
  have hk : a / 1024 < n := by
    rcases Nat.lt_or_ge (a / 1024) n with e | e
    · exact e
    · rw [h.out _ e] at hm; cases hm
  obtain ⟨on, op, dt, d1, d2, d3, e1, e2, e3⟩ := h.page (a / 1024) hk
  obtain ⟨hx, g, rfl, hg⟩ := e3 l xs hm
  have hlt : a % 1024 < xs.length := by omega
  have hc : w.cell? ⟨g, a % 1024, none⟩ = some (.int .u8 (xs[a % 1024]?.getD 0)) := by simp [World.cell?, hg, Ns, hlt]
  have hf : w.frozen? ⟨g, a % 1024, none⟩ = false := by simp [World.frozen?, hg]
  have HE := hid (And.intro (h.setByte hk hm d3 (a % 1024) (by omega) x) (And.intro hg d3))
  clear e1 e2 e3 h hm hx hg d1 d2 hlt
  generalize xs[a % 1024]?.getD 0 = z at hc
  go_enter Try.func63, Try.ntmps63
  go_wp2
  go_end0
  exact ⟨rfl, HE.out.1, g, _, HE.out.2.1, HE.out.2.2, grown_set (grown_refl w g) _ _⟩
end Go.Proofs.Ytiddopgeomojbaa

namespace Go.Proofs.Ytiddopgeomojbaa
open Go.RowKit Go.Shelf
set_option linter.unusedVariables false

/-- the open pages below k -/
def opensM (m : Nat → Option (Bool × List Int)) : Nat → List Int
  | 0 => []
  | k + 1 => if isOpen (m k) then opensM m k ++ [(k : Int)] else opensM m k
theorem opensM_len (m : Nat → Option (Bool × List Int)) : ∀ k, (opensM m k).length ≤ k
  | 0 => Nat.le_refl _
  | k + 1 => by have := opensM_len m k; simp only [opensM]; split <;> simp <;> omega
theorem Try.info3Op : (Try.prog.info? 3).map (fun i => (i.zero, i.size, i.bytes)) = some (some (.int .i64 0), 1, 8) := by kernel_rfl

theorem one_new (W : World) (x : Value) (t : TypeId) (b : Nat) (hb : W.heap.size = b) : ∀ j u, [x][j]? = some u → (W.alloc (.cells #[x] t)).cell? ((⟨b, 0, none⟩ : Addr).add j) = some u := by
  subst hb
  intro j u h
  cases j with
  | zero =>
    simp at h
    subst h
    rw [show (⟨W.heap.size, 0, none⟩ : Addr).add 0 = ⟨W.heap.size, 0, none⟩ from rfl, World.cell?_alloc_at _ _ _ _ rfl]
    rfl
  | succ j => simp at h
theorem own_base {A : World} {base : Nat} {e : TypeId} {v : Value} {n : Nat} {xs : List Value} (h : A.ownsRow base e 1 v n xs) : ∀ r, v.ownBlock = some r → base ≤ r := by
  intro r e
  rcases h.2 with ⟨rfl, _⟩ | ⟨g, cap, cur, rfl, hg, hb, _⟩
  · cases e
  · cases e
    exact hg

set_option maxHeartbeats 400000 in
theorem opened_any (T Q n : Nat) (bud : Int) (m : Nat → Option (Bool × List Int)) (w : World) (h : Sx T Q n bud m w) (hn : n ≤ 4096) :
    Calls Try.prog 25 #[.pointer (some ⟨T, 0, none⟩)] w fun e w' => ∃ v, e = .returned v ∧ w'.ownsRow w.heap.size 3 1 v (opensM m n).length (Ns .i64 (opensM m n)) ∧ Below w.heap.size w w' := by
  obtain ⟨i0, hi0, hz0, hz1, hz2⟩ := info_parts Try.info3Op
  obtain ⟨c1, c2⟩ := h.c
  have HS := hid h
  clear h
  go_enter Try.func25, Try.ntmps25
  go_wp2
  go_loopw [3, 11] (fun v i wr => ∃ k : Nat, k ≤ n ∧ i = .int .i64 k ∧ Hid (wr.ownsRow w.heap.size 3 1 v (opensM m k).length (Ns .i64 (opensM m k))) ∧ Hid (Below w.heap.size w wr)) (fun _ i _ => n - (intOf i).toNat)
  case atStart => exact ⟨0, Nat.zero_le _, rfl, hid ⟨rfl, .inl ⟨rfl, rfl⟩⟩, hid (Below.refl _ _)⟩
  case round =>
    obtain ⟨k, hk, rfl, hrow, hbel⟩ := hrel
    by_cases hlt : k < n
    · obtain ⟨op, p, l, c, d1, d2, d3, e4⟩ := HS.out.three k hlt
      have d1 := below_cell hbel.out d1
      have d2 := below_cell hbel.out d2
      have d3 := below_cell hbel.out d3
      have hle := opensM_len m k
      have HB := hid (hbel.out.alloc hbel.out.size (.cells #[.bool (m k).isSome, .bool op, .slice p l c] 92))
      have HR := hid (hrow.out.alloc (.cells #[.bool (m k).isSome, .bool op, .slice p l c] 92))
      cases hm : isOpen (m k)
      · have HO := hid (show opensM m (k + 1) = opensM m k by simp only [opensM]; rw [hm]; rfl)
        rw [hm] at e4
        clear hm hrow hbel
        generalize (m k).isSome = on at *
        cases on
        · go_wp2
          go_roundw
          case rel => exact ⟨k + 1, by omega, by go_num, by rw [HO.out]; exact HR, HB⟩
          case measure => simp [intOf]; omega
        · simp only [Bool.true_and] at e4
          subst e4
          go_wp2
          go_roundw
          case rel => exact ⟨k + 1, by omega, by go_num, by rw [HO.out]; exact HR, HB⟩
          case measure => simp [intOf]; omega
      · have HO := hid (show opensM m (k + 1) = opensM m k ++ [(k : Int)] by simp only [opensM]; rw [hm]; rfl)
        rw [hm] at e4
        clear hm hrow hbel
        generalize (m k).isSome = on at *
        cases on
        · simp at e4
        · simp only [Bool.true_and] at e4
          subst e4
          have HR2 := hid (HR.out.alloc (.cells #[.int .i64 k] 3))
          have HB2 := hid (HB.out.alloc HB.out.size (.cells #[.int .i64 k] 3))
          go_wp2_with (at_builtin; refine wpList_append_own _ rfl _ _ 27 rfl w.heap.size 3 i0 (.int .i64 0) 1 8 Try.underlying27 hi0 hz0 hz1 hz2 rfl (by omega) _ _ _ rfl HR2.out _ 1 1 [.int .i64 k] rfl rfl ?hc ?h1c ?b1 ?b2 ?b3 ?_)
          case hc => exact one_new _ _ _ _ (by simp)
          case h1c => intro u hu; simp at hu; subst hu; rfl
          case b1 => unfold maxLen; omega
          case b2 => omega
          case b3 => exact HB2.out.size
          intro v1 w1 ho1 hg1 _
          have HN := hid (And.intro ho1 (HB2.out.grown hg1 HB2.out.size (own_base HR2.out)))
          clear ho1 hg1
          go_wp2
          go_roundw
          case rel => exact ⟨k + 1, by omega, by go_num, hid (by rw [HO.out]; simpa [Ns] using HN.out.1), hid HN.out.2⟩
          case measure => simp [intOf]; omega
    · have hkc : k = n := by omega
      subst hkc
      go_wp2
      go_ret
      exact ⟨_, rfl, hrow.out, hbel.out⟩
end Go.Proofs.Ytiddopgeomojbaa

namespace Go.Proofs.Ytiddopgeomojbaa
open Go.RowKit Go.Shelf
set_option linter.unusedVariables false

/-- block g holds a page of spec's space -/
def IsPg (Q : Nat) (w : World) (g : Nat) : Prop := ∃ k, w.cell? ⟨Q, k * 3 + 2, none⟩ = some (.slice (some ⟨g, 0, none⟩) 1024 1024)
/-- what an operation of spec's space may turn: its row of pages and the pages -/
structure Sf (Q : Nat) (w w' : World) : Prop where
  os : w'.os = w.os
  tape : w'.tape = w.tape
  output : w'.output = w.output
  size : w.heap.size ≤ w'.heap.size
  block : ∀ g, g < w.heap.size → g ≠ Q → ¬ IsPg Q w g → w'.heap[g]? = w.heap[g]?
  pg : ∀ g, IsPg Q w' g → IsPg Q w g ∨ w.heap.size ≤ g

theorem Sf.refl (Q : Nat) (w : World) : Sf Q w w := ⟨rfl, rfl, rfl, Nat.le_refl _, fun _ _ _ _ => rfl, fun _ h => .inl h⟩
theorem Sf.trans {Q : Nat} {a b c : World} (h : Sf Q a b) (k : Sf Q b c) : Sf Q a c :=
  ⟨k.os.trans h.os, k.tape.trans h.tape, k.output.trans h.output, Nat.le_trans h.size k.size,
   fun g h1 h2 h3 => (k.block g (Nat.lt_of_lt_of_le h1 h.size) h2 (fun h4 => by
     rcases h.pg g h4 with h5 | h5
     · exact h3 h5
     · omega)).trans (h.block g h1 h2 h3),
   fun g h1 => by
     rcases k.pg g h1 with h2 | h2
     · exact h.pg g h2
     · exact .inr (Nat.le_trans h.size h2)⟩
theorem Sf.ofBelow {Q : Nat} {w w' : World} (h : Below w.heap.size w w') (hQ : Q < w.heap.size) : Sf Q w w' :=
  ⟨h.os, h.tape, h.output, h.size, fun g h1 _ _ => h.block g h1, fun g ⟨k, hk⟩ => .inl ⟨k, by
    unfold World.cell? at hk ⊢
    rw [h.block Q hQ] at hk
    exact hk⟩⟩
theorem Sf.below {Q B : Nat} {w w' : World} (h : Sf Q w w') (hB : B ≤ w.heap.size) (hQ : B ≤ Q) (hp : ∀ g, IsPg Q w g → B ≤ g) : Below B w w' :=
  ⟨h.os, h.tape, h.output, h.size, fun g hg => h.block g (by omega) (by omega) (fun h1 => by have := hp g h1; omega)⟩

theorem lt_blk {W : World} {R : Nat} {o : Obj} (h : W.heap[R]? = some o) : R < W.heap.size := by
  by_cases hl : R < W.heap.size
  · exact hl
  · have : W.heap[R]? = none := Array.getElem?_eq_none (by omega)
    rw [this] at h; cases h
theorem Sx.below {T Q n : Nat} {bud : Int} {m : Nat → Option (Bool × List Int)} {W W' : World} (h : Sx T Q n bud m W) (hb : Below W.heap.size W W') : Sx T Q n bud m W' := by
  obtain ⟨c, h1, h2, h3, hinj⟩ := h.row
  refine ⟨by rw [hb.block _ (lt_blk h.box)]; exact h.box, ⟨c, by rw [hb.block _ (lt_blk h1)]; exact h1, h2, fun k hk => ?_, hinj⟩, h.out⟩
  have h4 := h3 k hk
  cases hm : m k with
  | none => rw [hm] at h4; exact h4
  | some q =>
    obtain ⟨l, xs⟩ := q
    rw [hm] at h4
    obtain ⟨a1, a2, a4, g, a3, a5⟩ := h4
    exact ⟨a1, a2, a4, g, a3, by rw [hb.block _ (lt_blk a5)]; exact a5⟩
theorem Sx.drew {T Q n : Nat} {bud : Int} {m : Nat → Option (Bool × List Int)} {W : World} (h : Sx T Q n bud m W) : Sx T Q n bud m W.drew := h.below (Below.refl _ _).drew
theorem Sx.ltQ {T Q n : Nat} {bud : Int} {m : Nat → Option (Bool × List Int)} {W : World} (h : Sx T Q n bud m W) : Q < W.heap.size := by
  obtain ⟨c, h1, _⟩ := h.row
  exact lt_blk h1

/-- one operation of a drawn region, carried out -/
theorem wpOp_do {P : Program} {ops : Array Oper} {Q : Exit → Act → World → Prop} {i : Nat} {o : Oper} {K : Act → World → Prop} {a : Act} {w : World} (hi : ops[i]? = some o) (hw : Region.wanted o (yielded ops a.tmps) = true)
    (h : ∀ K' : Act → World → Prop, Hid (∀ a w, K a w → K' a w) → o.wp P a w K' Q) : wpOp P ops Q i K a w := by
  unfold wpOp; simp only [hi, hw, if_true]; exact .inl (h K fun _ _ h => h)
theorem wpAnyH_one {P : Program} {md : Region.Mode} {ops : Array Oper} {Q : Exit → Act → World → Prop} {S : World → Prop} {r fuel : Nat} {listed : Array Bool} {a : Act} {w : World} (hr : Region.ready md ops listed = [r])
    (h : wpOp P ops Q r (fun a' w' => S w' ∧ wpAnyH P md ops Q S fuel (listed.setIfInBounds r true) a' w') a w) : wpAnyH P md ops Q S (fuel + 1) listed a w :=
  wpAnyH_all hr (by simp) (fun i hi => by
    obtain rfl : i = r := by simpa using hi
    exact h)

theorem wpAnyH_put {P : Program} {md : Region.Mode} {ops : Array Oper} {Q : Exit → Act → World → Prop} {S : World → Prop} {i d : Nat} {oi : Oper} {v : Value} {fuel : Nat} {listed : Array Bool} {a : Act} {w : World} (hi : ops[i]? = some oi) (hd : oi.dst = some d)
    (hs : Region.noSelect ops = true) (hf : Region.free md ops listed i = true) (hr : (Region.ready md ops listed).contains i = true)
    (hQ : ∀ c a w, Q (.panic c) (a.put oi.dst v) w → Q (.panic c) a w) (hy : YieldsIf P ops S oi v a) (hS : S w)
    (h : wpAnyH P md ops Q S fuel (listed.setIfInBounds i true) { a with tmps := a.tmps.setIfInBounds d v } w) : wpAnyH P md ops Q S (fuel + 1) listed a w :=
  wpAnyH_take hi hs hf hr hQ hy hS (by
    have e : a.put oi.dst v = { a with tmps := a.tmps.setIfInBounds d v } := by rw [hd]; rfl
    rw [e]; exact h)

theorem al_last (w : World) (o : Obj) : (w.alloc o).heap[w.heap.size]? = some o := (MapKept.heap_alloc w o).1
theorem al_old (w : World) (o : Obj) (k : Nat) (h : k < w.heap.size) : (w.alloc o).heap[k]? = w.heap[k]? := (MapKept.heap_alloc w o).2 k h
theorem al_size (w : World) (o : Obj) : (w.alloc o).heap.size = w.heap.size + 1 := by
  have e : (w.alloc o).heap = w.heap.push o := rfl
  rw [e, Array.size_push]
theorem Sx.pglt {T Q n : Nat} {bud : Int} {m : Nat → Option (Bool × List Int)} {W : World} (h : Sx T Q n bud m W) {j g : Nat} (hj : j < n) (hc : W.cell? ⟨Q, j * 3 + 2, none⟩ = some (.slice (some ⟨g, 0, none⟩) 1024 1024)) : g < W.heap.size := by
  obtain ⟨c, h1, h2, h3, _⟩ := h.row
  have h4 := h3 j hj
  have e0 : c[j * 3 + 2]? = some (.slice (some ⟨g, 0, none⟩) 1024 1024) := by simpa [World.cell?, h1] using hc
  cases hm : m j with
  | none => rw [hm] at h4; rw [h4.2.2] at e0; simp at e0
  | some q =>
    obtain ⟨l, xs⟩ := q
    rw [hm] at h4
    obtain ⟨_, _, _, g', a3, a5⟩ := h4
    rw [a3] at e0
    simp at e0
    subst e0
    exact lt_blk a5
theorem made_bytes (N : Nat) : madeCells #[Value.int .u8 0] N = (Ns .u8 (List.replicate N 0)).toArray := by
  apply Array.ext'
  simp [toList_madeCells_one, Ns]
/-- a fresh page is laid -/
theorem Sx.fresh {T Q n : Nat} {bud : Int} {m : Nat → Option (Bool × List Int)} {W : World} (h : Sx T Q n bud m W) (k : Nat) (hk : k < n) {mk : Array Value} (hmk : mk = (Ns .u8 (List.replicate 1024 0)).toArray) :
    Sx T Q n bud (updM m k (some (false, List.replicate 1024 0))) ((((W.alloc (.cells mk 5)).setCell ⟨Q, k * 3, none⟩ (.bool true)).setCell ⟨Q, k * 3 + 1, none⟩ (.bool true)).setCell ⟨Q, k * 3 + 2, none⟩ (.slice (some ⟨W.heap.size, 0, none⟩) 1024 1024)).drew ∧
    Sf Q W ((((W.alloc (.cells mk 5)).setCell ⟨Q, k * 3, none⟩ (.bool true)).setCell ⟨Q, k * 3 + 1, none⟩ (.bool true)).setCell ⟨Q, k * 3 + 2, none⟩ (.slice (some ⟨W.heap.size, 0, none⟩) 1024 1024)).drew := by
  have hb : Below W.heap.size W (W.alloc (.cells mk 5)) := (Below.refl _ _).alloc (Nat.le_refl _) _
  have h6 := h.below hb
  have hl := al_last W (.cells mk 5)
  have hQ := h.ltQ
  generalize W.alloc (.cells mk 5) = W6 at *
  have cQ : ∀ i, W6.cell? ⟨Q, i, none⟩ = W.cell? ⟨Q, i, none⟩ := fun i => by unfold World.cell?; rw [hb.block Q hQ]
  refine ⟨(h6.set3 k hk (some (false, List.replicate 1024 0)) (.bool true) (.bool true) (.slice (some ⟨W.heap.size, 0, none⟩) 1024 1024) (fun g j hj hne hc e => ?_) (fun c W' a1 a2 a3 ho => ⟨a1, a2, List.length_replicate, W.heap.size, a3, ?_⟩)).drew, ?_⟩
  · rw [cQ] at hc
    have h5 := h.pglt hj hc
    simp only [Value.slice.injEq, Option.some.injEq, Addr.mk.injEq, and_true] at e
    omega
  · rw [ho W.heap.size (by omega), hl, hmk]
  · have hc3 : ∀ g, g ≠ Q → (((W6.setCell ⟨Q, k * 3, none⟩ (.bool true)).setCell ⟨Q, k * 3 + 1, none⟩ (.bool true)).setCell ⟨Q, k * 3 + 2, none⟩ (.slice (some ⟨W.heap.size, 0, none⟩) 1024 1024)).heap[g]? = W6.heap[g]? := by
      intro g hg
      rw [Below.heap_setCell _ _ _ _ hg, Below.heap_setCell _ _ _ _ hg, Below.heap_setCell _ _ _ _ hg]
    have hbel : Below 0 W (((W6.setCell ⟨Q, k * 3, none⟩ (.bool true)).setCell ⟨Q, k * 3 + 1, none⟩ (.bool true)).setCell ⟨Q, k * 3 + 2, none⟩ (.slice (some ⟨W.heap.size, 0, none⟩) 1024 1024)) :=
      (((hb.mono (Nat.zero_le _)).setCell (Nat.zero_le _) _).setCell (Nat.zero_le _) _).setCell (Nat.zero_le _) _
    obtain ⟨c, h1, _⟩ := h6.row
    have e3 := heap_set_at (heap_set_at (heap_set_at h1 (i := k * 3) (.bool true)) (i := k * 3 + 1) (.bool true)) (i := k * 3 + 2) (.slice (some ⟨W.heap.size, 0, none⟩) 1024 1024)
    generalize ((W6.setCell ⟨Q, k * 3, none⟩ (.bool true)).setCell ⟨Q, k * 3 + 1, none⟩ (.bool true)).setCell ⟨Q, k * 3 + 2, none⟩ (.slice (some ⟨W.heap.size, 0, none⟩) 1024 1024) = W9 at *
    refine ⟨hbel.drew.os, hbel.drew.tape, hbel.drew.output, hbel.drew.size, fun g hg hne _ => (hc3 g hne).trans (hb.block g hg), ?_⟩
    rintro g ⟨j, hj⟩
    have hj' : W9.cell? ⟨Q, j * 3 + 2, none⟩ = some (.slice (some ⟨g, 0, none⟩) 1024 1024) := hj
    simp only [World.cell?, e3] at hj'
    by_cases ejk : j = k
    · subst ejk
      right
      rw [Array.getElem?_setIfInBounds] at hj'
      simp at hj'
      omega
    · left
      refine ⟨j, ?_⟩
      rw [← cQ]
      have q : (((c.setIfInBounds (k * 3) (.bool true)).setIfInBounds (k * 3 + 1) (.bool true)).setIfInBounds (k * 3 + 2) (.slice (some ⟨W.heap.size, 0, none⟩) 1024 1024))[j * 3 + 2]? = c[j * 3 + 2]? := by
        rw [Array.getElem?_setIfInBounds, if_neg (by omega), Array.getElem?_setIfInBounds, if_neg (by omega), Array.getElem?_setIfInBounds, if_neg (by omega)]
      rw [q] at hj'
      simp only [World.cell?, h1]
      exact hj'

set_option maxHeartbeats 400000 in
theorem sp_commit_yes (T Q n : Nat) (bud : Int) (m : Nat → Option (Bool × List Int)) (first count : Nat) (w : World) (h : Sx T Q n bud m w) (hn : n ≤ 4096) (hf : first + count ≤ n) (hb : (cntM m n : Int) + count ≤ bud) :
    Calls Try.prog 46 #[.pointer (some ⟨T, 0, none⟩), .int .i64 first, .int .i64 count] w fun e w' => e = .returned (.bool true) ∧ Sx T Q n bud (freshM m first count) w' ∧ Sf Q w w' := by
  have HC := hid (fun W (hW : Sx T Q n bud m W) => committed_any T Q n bud m W hW hn)
  have hcn := cntM_le m n
  have HD := hid (show Sx T Q n bud m w.drew ∧ Below w.heap.size w w.drew from ⟨h.drew, (Below.refl _ _).drew⟩)
  have SS : Hid (∀ W', (Sx T Q n bud m W' ∧ Below w.heap.size w W') → W'.cell? ⟨T, 1, none⟩ = some (.int .i64 bud) ∧ Hid (Sx T Q n bud m W' ∧ Below w.heap.size w W')) := fun W' h => ⟨h.1.c.2, h⟩
  have hQ := h.ltQ
  clear h
  generalize cntM m n = cn at *
  have m1 : IntKind.i64.wrap ((cn : Int) + (count : Int)) = (cn : Int) + (count : Int) := by rw [IntKind.wrap_i64]; omega
  have t1 : decide (bud < (cn : Int) + (count : Int)) = false := decide_eq_false (by omega)
  go_enter Try.func46, Try.ntmps46
  go_wp2
  refine wp_region_held (S := fun W' => W'.cell? ⟨T, 1, none⟩ = some (.int .i64 bud) ∧ Hid (Sx T Q n bud m W' ∧ Below w.heap.size w W')) (by kernel_rfl) ?_
  simp only [List.size_toArray, List.length_cons, List.length_nil, Nat.reduceAdd, Array.replicate_succ, Array.replicate_zero, List.push_toArray, List.nil_append, List.cons_append]
  have hS := SS.out _ HD.out
  refine wpAnyH_put (i := 0) (d := 8) (v := .pointer (some ⟨T, 0, none⟩)) rfl (by kernel_rfl) (by kernel_rfl) (by kernel_rfl) (by kernel_rfl) (fun _ _ _ h => h) (Or.inl ⟨by kernel_rfl, fun _ _ => by kernel_rfl⟩) hS ?_
  simp only [List.setIfInBounds_toArray, List.set_cons_zero, List.set_cons_succ]
  refine wpAnyH_put (i := 2) (d := 10) (v := .int .i64 (count : Int)) rfl (by kernel_rfl) (by kernel_rfl) (by kernel_rfl) (by kernel_rfl) (fun _ _ _ h => h) (Or.inl ⟨by kernel_rfl, fun _ _ => by kernel_rfl⟩) hS ?_
  simp only [List.setIfInBounds_toArray, List.set_cons_zero, List.set_cons_succ]
  refine wpAnyH_put (i := 4) (d := 12) (v := .pointer (some ⟨T, 0, none⟩)) rfl (by kernel_rfl) (by kernel_rfl) (by kernel_rfl) (by kernel_rfl) (fun _ _ _ h => h) (Or.inl ⟨by kernel_rfl, fun _ _ => by kernel_rfl⟩) hS ?_
  simp only [List.setIfInBounds_toArray, List.set_cons_zero, List.set_cons_succ]
  refine wpAnyH_put (i := 5) (d := 13) (v := .pointer (some ⟨T, 0, none⟩)) rfl (by kernel_rfl) (by kernel_rfl) (by kernel_rfl) (by kernel_rfl) (fun _ _ _ h => h) (Or.inl ⟨by kernel_rfl, fun _ _ => by kernel_rfl⟩) hS ?_
  simp only [List.setIfInBounds_toArray, List.set_cons_zero, List.set_cons_succ]
  refine wpAnyH_put (i := 6) (d := 14) (v := .pointer (some ⟨T, 1, none⟩)) rfl (by kernel_rfl) (by kernel_rfl) (by kernel_rfl) (by kernel_rfl) (fun _ _ _ h => h) (Or.inl ⟨by kernel_rfl, fun _ _ => by kernel_rfl⟩) hS ?_
  simp only [List.setIfInBounds_toArray, List.set_cons_zero, List.set_cons_succ]
  refine wpAnyH_put (i := 7) (d := 15) (v := .int .i64 bud) rfl (by kernel_rfl) (by kernel_rfl) (by kernel_rfl) (by kernel_rfl) (fun _ _ _ h => h) (Or.inl ⟨by kernel_rfl, fun W hS => by obtain ⟨h1, _⟩ := hS; go_simp⟩) hS ?_
  simp only [List.setIfInBounds_toArray, List.set_cons_zero, List.set_cons_succ]
  refine wpAnyH_one (r := 1) (by kernel_rfl) ?_
  refine wpOp_do rfl (by kernel_rfl) (fun K' hK => ?_)
  go_simp
  refine (HC.out _ hS.2.out.1).mono ?_
  rintro e w1 ⟨rfl, b1⟩
  have h1 := SS.out _ ⟨hS.2.out.1.below b1, bl_trans hS.2.out.2 b1⟩
  refine hK.out _ _ ⟨h1, ?_⟩
  clear hS
  have hS := h1
  clear hK K'
  refine wpAnyH_put (i := 3) (d := 11) (v := .int .i64 ((cn : Int) + (count : Int))) rfl (by kernel_rfl) (by kernel_rfl) (by kernel_rfl) (by kernel_rfl) (fun _ _ _ h => h) (Or.inl ⟨by kernel_rfl, fun W _ => by first | (go_simp; done) | (go_simp; omega)⟩) hS ?_
  simp only [List.setIfInBounds_toArray, List.set_cons_zero, List.set_cons_succ]
  refine wpAnyH_put (i := 8) (d := 16) (v := .bool false) rfl (by kernel_rfl) (by kernel_rfl) (by kernel_rfl) (by kernel_rfl) (fun _ _ _ h => h) (Or.inl ⟨by kernel_rfl, fun W _ => by first | (go_simp; done) | (go_simp; omega)⟩) hS ?_
  simp only [List.setIfInBounds_toArray, List.set_cons_zero, List.set_cons_succ]
  refine wpAnyH_done (by kernel_rfl) ?_ _
  clear m1 t1 HC SS HD
  have HS := hid hS.2.out.1
  have HF := hid (Sf.ofBelow hS.2.out.2 hQ)
  clear hS
  have hmk : ∀ w, (Instr.makeSlice 22 (.int .i64 1024) (.int .i64 1024)).run Try.prog w = .ok (.slice (some ⟨w.heap.size, 0, none⟩) 1024 1024) (w.alloc (.cells (madeCells #[Value.int .u8 0] 1024) 5)) := fun w => run_make_row' 22 5 (.int .u8 0) 1 Try.underlying22 Try.info5By rfl .i64 .i64 1024 (by omega) (by omega) w
  have HM := hid hmk
  clear hmk
  go_wp2
  go_loopw [7] (fun i wr => ∃ k : Nat, k ≤ count ∧ i = .int .i64 ((first : Int) + (k : Int)) ∧ Hid (Sx T Q n bud (freshM m first k) wr ∧ Sf Q w wr)) (fun i _ => first + count - (intOf i).toNat)
  case atStart => exact ⟨0, Nat.zero_le _, by go_num, HS.out, HF.out⟩
  case round =>
    obtain ⟨k, hk, rfl, HJ⟩ := hrel
    by_cases hlt : k < count
    · have HX := hid (HJ.out.1.fresh (first + k) (by omega) (made_bytes 1024))
      have q0 : wr.cell? ⟨T, 0, none⟩ = some (.slice (some ⟨Q, 0, none⟩) n n) := HJ.out.1.c.1
      have hb6 : Below wr.heap.size wr (wr.alloc (.cells (madeCells #[Value.int .u8 0] 1024) 5)) := (Below.refl _ _).alloc (Nat.le_refl _) _
      have q6 := (HJ.out.1.below hb6).c.1
      have q9 := HX.out.1.c.1
      obtain ⟨op, pp, l, cc, d1, d2, d3, _⟩ := (HJ.out.1.below hb6).three (first + k) (by omega)
      obtain ⟨c9, g1, g2, _⟩ := (HJ.out.1.below hb6).row
      have f1 : ∀ i, (wr.alloc (.cells (madeCells #[Value.int .u8 0] 1024) 5)).frozen? ⟨Q, i, none⟩ = false := fun i => by simp [World.frozen?, g1]
      have f2 := f1 ((first + k) * 3)
      have f3 := f1 ((first + k) * 3 + 1)
      have f4 := f1 ((first + k) * 3 + 2)
      have hmk : ∀ w, (Instr.makeSlice 22 (.int .i64 1024) (.int .i64 1024)).run Try.prog w = .ok (.slice (some ⟨w.heap.size, 0, none⟩) 1024 1024) (w.alloc (.cells (madeCells #[Value.int .u8 0] 1024) 5)) := HM.out
      have HF2 := hid HJ.out.2
      have tn : ((first : Int) + (k : Int)).toNat = first + k := by omega
      have tl : (first : Int) + (k : Int) < (n : Int) := by omega
      clear f1 g1 g2 hb6
      generalize madeCells #[Value.int .u8 0] 1024 = mk at *
      go_wp2
      refine wp_region_held (S := fun W' => W'.cell? ⟨T, 0, none⟩ = some (.slice (some ⟨Q, 0, none⟩) n n)) (by kernel_rfl) ?_
      simp only [List.size_toArray, List.length_cons, List.length_nil, Nat.reduceAdd, Array.replicate_succ, Array.replicate_zero, List.push_toArray, List.nil_append, List.cons_append]
      have hS := q0
      refine wpAnyH_put (i := 0) (d := 25) (v := .pointer (some ⟨T, 0, none⟩)) rfl (by kernel_rfl) (by kernel_rfl) (by kernel_rfl) (by kernel_rfl) (fun _ _ _ h => h) (Or.inl ⟨by kernel_rfl, fun _ _ => by kernel_rfl⟩) hS ?_
      simp only [List.setIfInBounds_toArray, List.set_cons_zero, List.set_cons_succ]
      refine wpAnyH_put (i := 1) (d := 26) (v := .pointer (some ⟨T, 0, none⟩)) rfl (by kernel_rfl) (by kernel_rfl) (by kernel_rfl) (by kernel_rfl) (fun _ _ _ h => h) (Or.inl ⟨by kernel_rfl, fun _ _ => by kernel_rfl⟩) hS ?_
      simp only [List.setIfInBounds_toArray, List.set_cons_zero, List.set_cons_succ]
      refine wpAnyH_put (i := 2) (d := 27) (v := .pointer (some ⟨T, 0, none⟩)) rfl (by kernel_rfl) (by kernel_rfl) (by kernel_rfl) (by kernel_rfl) (fun _ _ _ h => h) (Or.inl ⟨by kernel_rfl, fun _ _ => by kernel_rfl⟩) hS ?_
      simp only [List.setIfInBounds_toArray, List.set_cons_zero, List.set_cons_succ]
      refine wpAnyH_put (i := 3) (d := 28) (v := .slice (some ⟨Q, 0, none⟩) n n) rfl (by kernel_rfl) (by kernel_rfl) (by kernel_rfl) (by kernel_rfl) (fun _ _ _ h => h) (Or.inl ⟨by kernel_rfl, fun W hS => by obtain h1 := hS; go_simp⟩) hS ?_
      simp only [List.setIfInBounds_toArray, List.set_cons_zero, List.set_cons_succ]
      refine wpAnyH_put (i := 4) (d := 29) (v := .int .i64 ((first : Int) + (k : Int))) rfl (by kernel_rfl) (by kernel_rfl) (by kernel_rfl) (by kernel_rfl) (fun _ _ _ h => h) (Or.inl ⟨by kernel_rfl, fun _ _ => by kernel_rfl⟩) hS ?_
      simp only [List.setIfInBounds_toArray, List.set_cons_zero, List.set_cons_succ]
      refine wpAnyH_one (r := 5) (by kernel_rfl) ?_
      refine wpOp_do rfl (by kernel_rfl) (fun K' hK => ?_)
      go_simp
      refine hK.out _ _ ⟨q6, ?_⟩
      clear hS
      have hS := q6
      clear hK K'
      refine wpAnyH_put (i := 6) (d := 31) (v := .agg #[.bool true, .bool true, .slice (some ⟨wr.heap.size, 0, none⟩) 1024 1024]) rfl (by kernel_rfl) (by kernel_rfl) (by kernel_rfl) (by kernel_rfl) (fun _ _ _ h => h) (Or.inl ⟨by kernel_rfl, fun _ _ => by kernel_rfl⟩) hS ?_
      simp only [List.setIfInBounds_toArray, List.set_cons_zero, List.set_cons_succ]
      refine wpAnyH_put (i := 7) (d := 32) (v := .pointer (some ⟨Q, (first + k) * 3, none⟩)) rfl (by kernel_rfl) (by kernel_rfl) (by kernel_rfl) (by kernel_rfl) (fun _ _ _ h => h) (Or.inl ⟨by kernel_rfl, fun W _ => by first | (go_simp; done) | (go_simp; omega)⟩) hS ?_
      simp only [List.setIfInBounds_toArray, List.set_cons_zero, List.set_cons_succ]
      refine wpAnyH_one (r := 8) (by kernel_rfl) ?_
      refine wpOp_do rfl (by kernel_rfl) (fun K' hK => ?_)
      go_simp
      refine hK.out _ _ ⟨q9, ?_⟩
      clear hS
      clear hK K'
      refine wpAnyH_done (by kernel_rfl) ?_ _
      go_wp2
      go_roundw
      case rel => exact ⟨k + 1, by omega, by go_num, HX.out.1, HF2.out.trans HX.out.2⟩
      case measure => simp [intOf]; omega
    · have hkc : k = count := by omega
      subst hkc
      go_wp2
      go_ret
      exact ⟨rfl, HJ.out⟩

set_option maxHeartbeats 400000 in
theorem sp_commit_no (T Q n : Nat) (bud : Int) (m : Nat → Option (Bool × List Int)) (first count : Nat) (w : World) (h : Sx T Q n bud m w) (hn : n ≤ 4096) (hf : first + count ≤ n) (hb : bud < (cntM m n : Int) + count) :
    Calls Try.prog 46 #[.pointer (some ⟨T, 0, none⟩), .int .i64 first, .int .i64 count] w fun e w' => e = .returned (.bool false) ∧ Below w.heap.size w w' := by
  have HC := hid (fun W (hW : Sx T Q n bud m W) => committed_any T Q n bud m W hW hn)
  have hcn := cntM_le m n
  have HD := hid (show Sx T Q n bud m w.drew ∧ Below w.heap.size w w.drew from ⟨h.drew, (Below.refl _ _).drew⟩)
  have SS : Hid (∀ W', (Sx T Q n bud m W' ∧ Below w.heap.size w W') → W'.cell? ⟨T, 1, none⟩ = some (.int .i64 bud) ∧ Hid (Sx T Q n bud m W' ∧ Below w.heap.size w W')) := fun W' h => ⟨h.1.c.2, h⟩
  clear h
  generalize cntM m n = cn at *
  have m1 : IntKind.i64.wrap ((cn : Int) + (count : Int)) = (cn : Int) + (count : Int) := by rw [IntKind.wrap_i64]; omega
  have t1 : decide (bud < (cn : Int) + (count : Int)) = true := decide_eq_true (by omega)
  go_enter Try.func46, Try.ntmps46
  go_wp2
  refine wp_region_held (S := fun W' => W'.cell? ⟨T, 1, none⟩ = some (.int .i64 bud) ∧ Hid (Sx T Q n bud m W' ∧ Below w.heap.size w W')) (by kernel_rfl) ?_
  simp only [List.size_toArray, List.length_cons, List.length_nil, Nat.reduceAdd, Array.replicate_succ, Array.replicate_zero, List.push_toArray, List.nil_append, List.cons_append]
  have hS := SS.out _ HD.out
  refine wpAnyH_put (i := 0) (d := 8) (v := .pointer (some ⟨T, 0, none⟩)) rfl (by kernel_rfl) (by kernel_rfl) (by kernel_rfl) (by kernel_rfl) (fun _ _ _ h => h) (Or.inl ⟨by kernel_rfl, fun _ _ => by kernel_rfl⟩) hS ?_
  simp only [List.setIfInBounds_toArray, List.set_cons_zero, List.set_cons_succ]
  refine wpAnyH_put (i := 2) (d := 10) (v := .int .i64 (count : Int)) rfl (by kernel_rfl) (by kernel_rfl) (by kernel_rfl) (by kernel_rfl) (fun _ _ _ h => h) (Or.inl ⟨by kernel_rfl, fun _ _ => by kernel_rfl⟩) hS ?_
  simp only [List.setIfInBounds_toArray, List.set_cons_zero, List.set_cons_succ]
  refine wpAnyH_put (i := 4) (d := 12) (v := .pointer (some ⟨T, 0, none⟩)) rfl (by kernel_rfl) (by kernel_rfl) (by kernel_rfl) (by kernel_rfl) (fun _ _ _ h => h) (Or.inl ⟨by kernel_rfl, fun _ _ => by kernel_rfl⟩) hS ?_
  simp only [List.setIfInBounds_toArray, List.set_cons_zero, List.set_cons_succ]
  refine wpAnyH_put (i := 5) (d := 13) (v := .pointer (some ⟨T, 0, none⟩)) rfl (by kernel_rfl) (by kernel_rfl) (by kernel_rfl) (by kernel_rfl) (fun _ _ _ h => h) (Or.inl ⟨by kernel_rfl, fun _ _ => by kernel_rfl⟩) hS ?_
  simp only [List.setIfInBounds_toArray, List.set_cons_zero, List.set_cons_succ]
  refine wpAnyH_put (i := 6) (d := 14) (v := .pointer (some ⟨T, 1, none⟩)) rfl (by kernel_rfl) (by kernel_rfl) (by kernel_rfl) (by kernel_rfl) (fun _ _ _ h => h) (Or.inl ⟨by kernel_rfl, fun _ _ => by kernel_rfl⟩) hS ?_
  simp only [List.setIfInBounds_toArray, List.set_cons_zero, List.set_cons_succ]
  refine wpAnyH_put (i := 7) (d := 15) (v := .int .i64 bud) rfl (by kernel_rfl) (by kernel_rfl) (by kernel_rfl) (by kernel_rfl) (fun _ _ _ h => h) (Or.inl ⟨by kernel_rfl, fun W hS => by obtain ⟨h1, _⟩ := hS; go_simp⟩) hS ?_
  simp only [List.setIfInBounds_toArray, List.set_cons_zero, List.set_cons_succ]
  refine wpAnyH_one (r := 1) (by kernel_rfl) ?_
  refine wpOp_do rfl (by kernel_rfl) (fun K' hK => ?_)
  go_simp
  refine (HC.out _ hS.2.out.1).mono ?_
  rintro e w1 ⟨rfl, b1⟩
  have h1 := SS.out _ ⟨hS.2.out.1.below b1, bl_trans hS.2.out.2 b1⟩
  refine hK.out _ _ ⟨h1, ?_⟩
  clear hS
  have hS := h1
  clear hK K'
  refine wpAnyH_put (i := 3) (d := 11) (v := .int .i64 ((cn : Int) + (count : Int))) rfl (by kernel_rfl) (by kernel_rfl) (by kernel_rfl) (by kernel_rfl) (fun _ _ _ h => h) (Or.inl ⟨by kernel_rfl, fun W _ => by first | (go_simp; done) | (go_simp; omega)⟩) hS ?_
  simp only [List.setIfInBounds_toArray, List.set_cons_zero, List.set_cons_succ]
  refine wpAnyH_put (i := 8) (d := 16) (v := .bool true) rfl (by kernel_rfl) (by kernel_rfl) (by kernel_rfl) (by kernel_rfl) (fun _ _ _ h => h) (Or.inl ⟨by kernel_rfl, fun W _ => by first | (go_simp; done) | (go_simp; omega)⟩) hS ?_
  simp only [List.setIfInBounds_toArray, List.set_cons_zero, List.set_cons_succ]
  refine wpAnyH_done (by kernel_rfl) ?_ _
  clear m1 t1 HC SS HD
  have HF := hid hS.2.out.2
  clear hS
  go_wp2
  go_ret
  exact ⟨rfl, HF.out⟩
end Go.Proofs.Ytiddopgeomojbaa

namespace Go.Proofs.Ytiddopgeomojbaa
open Go.RowKit Go.Shelf
set_option linter.unusedVariables false

theorem wpAny_one {P : Program} {md : Region.Mode} {ops : Array Oper} {Q : Exit → Act → World → Prop} {r fuel : Nat} {listed : Array Bool} {a : Act} {w : World} (hr : Region.ready md ops listed = [r])
    (h : wpOp P ops Q r (wpAny P md ops Q fuel (listed.setIfInBounds r true)) a w) : wpAny P md ops Q (fuel + 1) listed a w :=
  wpAny_all hr (by simp) (fun i hi => by
    obtain rfl : i = r := by simpa using hi
    exact h)
theorem wpAny_put {P : Program} {md : Region.Mode} {ops : Array Oper} {Q : Exit → Act → World → Prop} {i d : Nat} {oi : Oper} {v : Value} {fuel : Nat} {listed : Array Bool} {a : Act} {w : World} (hi : ops[i]? = some oi) (hd : oi.dst = some d)
    (hs : Region.noSelect ops = true) (hf : Region.free md ops listed i = true) (hr : (Region.ready md ops listed).contains i = true)
    (hQ : ∀ c a w, Q (.panic c) (a.put oi.dst v) w → Q (.panic c) a w) (hy : Yields P ops oi v a)
    (h : wpAny P md ops Q fuel (listed.setIfInBounds i true) { a with tmps := a.tmps.setIfInBounds d v } w) : wpAny P md ops Q (fuel + 1) listed a w :=
  wpAny_take hi hs hf hr hQ hy (by
    have e : a.put oi.dst v = { a with tmps := a.tmps.setIfInBounds d v } := by rw [hd]; rfl
    rw [e]; exact h)

/-- the bytes from a on -/
def loadB (m : Nat → Option (Bool × List Int)) (a n : Nat) : List Int := (List.range n).map fun i => byteAt m (a + i)
theorem loadB_succ (m : Nat → Option (Bool × List Int)) (a k : Nat) : loadB m a (k + 1) = loadB m a k ++ [byteAt m (a + k)] := by
  simp [loadB, List.range_succ]

/-- the answer under way -/
structure La (w : World) (Rb A : Nat) (v : Value) (k : Nat) (xs : List Value) (W : World) : Prop where
  own : W.ownsRow (w.heap.size + 2) 5 1 v k xs
  at_ : W.heap[A]? = some (.cells #[.int .i64 0, v] 36 (0, 0))
  res : W.heap[Rb]? = some (.cells #[.int .i64 0, .slice none 0 0] 36 (0, 0))
  bel : Below w.heap.size w W
  big : w.heap.size + 2 ≤ W.heap.size
  hA : A = w.heap.size + 1
  hR : Rb = w.heap.size
theorem La.next {w W w9 : World} {Rb A : Nat} {v : Value} {k : Nat} {xs : List Value} (h : La w Rb A v k xs W) (b : Value) (g cap : Nat)
    (ho : w9.ownsRow (w.heap.size + 2) 5 1 (.slice (some ⟨g, 0, none⟩) (k + 1) cap) (k + 1) (xs ++ [b])) (hg : ((W.alloc (.cells #[b] 5)).drew).grownBy w9 v.ownBlock) :
    w9.cell? ⟨A, 1, none⟩ = some v ∧ w9.frozen? ⟨A, 1, none⟩ = false ∧ La w Rb A (.slice (some ⟨g, 0, none⟩) (k + 1) cap) (k + 1) (xs ++ [b]) (w9.setCell ⟨A, 1, none⟩ (.slice (some ⟨g, 0, none⟩) (k + 1) cap)) := by
  have hlA : A < W.heap.size := by have := h.hA; have := h.big; omega
  have hlR : Rb < W.heap.size := by have := h.hR; have := h.big; omega
  have nA : v.ownBlock ≠ some A := by
    intro e
    have := own_base h.own A e
    have := h.hA
    omega
  have nR : v.ownBlock ≠ some Rb := by
    intro e
    have := own_base h.own Rb e
    have := h.hR
    omega
  have sz : ((W.alloc (.cells #[b] 5)).drew).heap.size = W.heap.size + 1 := al_size W _
  have eA : w9.heap[A]? = some (.cells #[.int .i64 0, v] 36 (0, 0)) := by
    rw [hg.block A (by rw [sz]; omega) (Ne.symm nA)]
    exact (al_old W _ A hlA).trans h.at_
  have eR : w9.heap[Rb]? = some (.cells #[.int .i64 0, .slice none 0 0] 36 (0, 0)) := by
    rw [hg.block Rb (by rw [sz]; omega) (Ne.symm nR)]
    exact (al_old W _ Rb hlR).trans h.res
  have hgA : g ≠ A := by
    have := own_base ho g rfl
    have := h.hA
    omega
  have b9 : Below w.heap.size w w9 := by
    have b8 : Below w.heap.size w (W.alloc (.cells #[b] 5)).drew := (h.bel.alloc h.bel.size _).drew
    exact b8.grown hg b8.size (fun r hr => by have := own_base h.own r hr; omega)
  refine ⟨by simp [World.cell?, eA], by simp [World.frozen?, eA], ?_⟩
  refine ⟨ho.kept (grown_set (grown_refl w9 A) 1 _) (.inr (by simpa [Value.ownBlock] using hgA)), ?_, ?_, ?_, ?_, h.hA, h.hR⟩
  · rw [heap_set_at eA]; rfl
  · rw [Below.heap_setCell _ _ _ _ (by have := h.hA; have := h.hR; show Rb ≠ A; omega)]
    exact eR
  · exact b9.setCell (by have := h.hA; show w.heap.size ≤ A; omega) _
  · have : w9.heap.size ≤ (w9.setCell ⟨A, 1, none⟩ (.slice (some ⟨g, 0, none⟩) (k + 1) cap)).heap.size := (grown_set (grown_refl w9 A) 1 _).size
    have := hg.size
    have := h.big
    rw [sz] at *
    omega

theorem setRow_at {v : World} {g : Nat} {old : Array Value} {t : TypeId} (h : v.heap[g]? = some (.cells old t (0, 0))) (cs : Array Value) : (v.setRow g cs).heap[g]? = some (.cells cs t (0, 0)) := by
  simp [World.setRow, Array.getElem?_modify, h]
theorem grown_setRow (w : World) (g : Nat) (cs : Array Value) : w.grownBy (w.setRow g cs) (some g) :=
  ⟨rfl, rfl, rfl, by simp [World.setRow], fun k _ hne => by
    have : g ≠ k := fun e => hne (by rw [e])
    simp [World.setRow, Array.getElem?_modify, this]⟩
theorem own_mono {w : World} {base base' : Nat} {e : TypeId} {size : Nat} {v : Value} {n : Nat} {xs : List Value} (h : w.ownsRow base e size v n xs) (hb : base' ≤ base) : w.ownsRow base' e size v n xs :=
  ⟨h.1, h.2.imp id fun ⟨g, cap, cur, h1, h2, h3⟩ => ⟨g, cap, cur, h1, Nat.le_trans hb h2, h3⟩⟩
theorem La.one {w W : World} {Rb A : Nat} {v : Value} {k : Nat} {xs : List Value} (h : La w Rb A v k xs W) : (#[Value.int IntKind.i64 0, v].all fun x => x.oneCell') = true := by
  rcases h.own.2 with ⟨rfl, _⟩ | ⟨g, cap, cur, rfl, _⟩ <;> simp [Value.oneCell']
theorem La.done {w W : World} {Rb A : Nat} {v : Value} {k : Nat} {xs : List Value} (h : La w Rb A v k xs W) : (W.setRow Rb #[Value.int IntKind.i64 0, v]).ownsRow w.heap.size 5 1 v k xs ∧ Below w.heap.size w (W.setRow Rb #[Value.int IntKind.i64 0, v]) := by
  have hg := grown_setRow W Rb #[Value.int IntKind.i64 0, v]
  refine ⟨own_mono (h.own.kept hg ?_) (by omega), h.bel.grown hg h.bel.size (fun r hr => by have := h.hR; simp at hr; omega)⟩
  right
  intro e
  have := own_base h.own Rb e
  have := h.hR
  omega

set_option maxHeartbeats 1000000 in
theorem sp_load_yes (T Q nn : Nat) (bud : Int) (m : Nat → Option (Bool × List Int)) (a n : Nat) (w : World) (hs : Sx T Q nn bud m w) (hnn : nn ≤ 4096) (h2 : n ≤ 4096) (ha : a + n < 18446744073709551616) (ho : ∀ i, i < n → isOpen (m ((a + i) / 1024)) = true) (hacc : ∀ W, Below w.heap.size w W → Calls Try.prog 61 #[.pointer (some ⟨T, 0, none⟩), .int .u64 a, .int .i64 n] W fun e w' => e = .returned (.int .i64 0) ∧ w' = W) :
    Calls Try.prog 44 #[.pointer (some ⟨T, 0, none⟩), .int .u64 a, .int .i64 n] w fun e w' => ∃ v, e = .returned (.agg #[.int .i64 0, v]) ∧ w'.ownsRow w.heap.size 5 1 v n (Ns .u8 (loadB m a n)) ∧ Below w.heap.size w w' := by
  obtain ⟨i0, hi0, hz0, hz1, hz2⟩ := info_parts Try.info5By
  have H1 := hid hacc
  have HS := hid hs
  have HO := hid ho
  clear hacc hs ho
  go_enter Try.func44, Try.ntmps44
  go_wp2_with fail
  refine (H1.out _ ((Below.refl _ _).alloc (Nat.le_refl _) _)).mono ?_
  rintro _ w1 ⟨rfl, rfl⟩
  have L0 : Hid (La w w.heap.size (w.heap.size + 1) (.slice none 0 0) 0 [] ((w.alloc (.cells #[.int .i64 0, .slice none 0 0] 36)).alloc (.cells #[.int .i64 0, .slice none 0 0] 36))) :=
    ⟨⟨rfl, .inl ⟨rfl, rfl⟩⟩, by rw [← al_size w]; exact al_last _ _, by rw [al_old _ _ _ (by rw [al_size]; omega)]; exact al_last _ _, ((Below.refl _ _).alloc (Nat.le_refl _) _).alloc (by rw [al_size]; omega) _, by rw [al_size, al_size]; omega, rfl, rfl⟩
  go_wp2
  generalize (w.alloc (Obj.cells #[Value.int IntKind.i64 0, Value.slice none 0 0] 36)).alloc (Obj.cells #[Value.int IntKind.i64 0, Value.slice none 0 0] 36) = W0 at L0 ⊢
  generalize hAe : w.heap.size + 1 = A at L0 ⊢
  generalize hRe : w.heap.size = Rb at L0 ⊢
  go_loopw [8] (fun i wr => ∃ k : Nat, k ≤ n ∧ i = .int .i64 k ∧ Hid (∃ v, La w Rb A v k (Ns .u8 (loadB m a k)) wr)) (fun i _ => n - (intOf i).toNat)
  case atStart => exact ⟨0, Nat.zero_le _, rfl, _, L0.out⟩
  case round =>
    obtain ⟨k, hk, rfl, HL⟩ := hrel
    obtain ⟨v, hl⟩ := HL.out
    clear HL
    have cA0 : wr.cell? ⟨A, 0, none⟩ = some (.int .i64 0) := by simp [World.cell?, hl.at_]
    have cA1 : wr.cell? ⟨A, 1, none⟩ = some v := by simp [World.cell?, hl.at_]
    by_cases hlt : k < n
    · have fA : wr.frozen? ⟨A, 1, none⟩ = false := by simp [World.frozen?, hl.at_]
      have HG := hid (get_any T Q nn bud m (a + k) wr.drew (HS.out.below hl.bel).drew hnn (by omega) (HO.out k hlt))
      have NX := hid (fun b g cap w9 h1 h2 => hl.next (w9 := w9) (.int .u8 b) g cap h1 h2)
      have HE := hid (loadB_succ m a k)
      have HR8' := hid (fun b => (hl.own.alloc (.cells #[.int .u8 b] 5)).drew)
      have HN8' := hid (fun (b : Int) => one_new wr (.int .u8 b) 5 wr.heap.size rfl)
      have HZ8' := hid (show ∀ b : Int, w.heap.size + 2 ≤ ((wr.alloc (.cells #[.int .u8 b] 5)).drew).heap.size from fun b => by
        have := hl.big
        have e : ((wr.alloc (.cells #[.int .u8 b] 5)).drew).heap.size = wr.heap.size + 1 := al_size wr _
        omega)
      generalize byteAt m (a + k) = b at *
      have NX := hid (NX.out b)
      have HR8 := hid (HR8'.out b)
      have HN8 := hid (HN8'.out b)
      have HZ8 := hid (HZ8'.out b)
      have cA8 : (wr.alloc (.cells #[.int .u8 b] 5)).cell? ⟨A, 1, none⟩ = some v := by
        have hlA : A < wr.heap.size := by have := hl.hA; have := hl.big; omega
        have e := (al_old wr (.cells #[.int .u8 b] 5) A hlA).trans hl.at_
        simp [World.cell?, e]
      have m1 : IntKind.u64.wrap (k : Int) = (k : Int) := by rw [IntKind.wrap_u64]; omega
      have m2 : IntKind.u64.wrap ((a : Int) + (k : Int)) = ((a + k : Nat) : Int) := by rw [IntKind.wrap_u64]; omega
      clear hl HR8' HN8' HZ8' L0
      go_wp2
      refine wp_region_any (by kernel_rfl) ?_
      simp only [List.size_toArray, List.length_cons, List.length_nil, Nat.reduceAdd, Array.replicate_succ, Array.replicate_zero, List.push_toArray, List.nil_append, List.cons_append]
      refine wpAny_put (i := 0) (d := 24) (v := .pointer (some ⟨A, 1, none⟩)) rfl (by kernel_rfl) (by kernel_rfl) (by kernel_rfl) (by kernel_rfl) (fun _ _ _ h => h) (Or.inl ⟨by kernel_rfl, fun _ => by kernel_rfl⟩) ?_
      simp only [List.setIfInBounds_toArray, List.set_cons_zero, List.set_cons_succ]
      refine wpAny_put (i := 2) (d := 26) (v := .pointer (some ⟨T, 0, none⟩)) rfl (by kernel_rfl) (by kernel_rfl) (by kernel_rfl) (by kernel_rfl) (fun _ _ _ h => h) (Or.inl ⟨by kernel_rfl, fun _ => by kernel_rfl⟩) ?_
      simp only [List.setIfInBounds_toArray, List.set_cons_zero, List.set_cons_succ]
      refine wpAny_put (i := 3) (d := 27) (v := .int .u64 (a : Int)) rfl (by kernel_rfl) (by kernel_rfl) (by kernel_rfl) (by kernel_rfl) (fun _ _ _ h => h) (Or.inl ⟨by kernel_rfl, fun _ => by kernel_rfl⟩) ?_
      simp only [List.setIfInBounds_toArray, List.set_cons_zero, List.set_cons_succ]
      refine wpAny_put (i := 4) (d := 28) (v := .int .i64 (k : Int)) rfl (by kernel_rfl) (by kernel_rfl) (by kernel_rfl) (by kernel_rfl) (fun _ _ _ h => h) (Or.inl ⟨by kernel_rfl, fun _ => by kernel_rfl⟩) ?_
      simp only [List.setIfInBounds_toArray, List.set_cons_zero, List.set_cons_succ]
      refine wpAny_put (i := 5) (d := 29) (v := .int .u64 (k : Int)) rfl (by kernel_rfl) (by kernel_rfl) (by kernel_rfl) (by kernel_rfl) (fun _ _ _ h => h) (Or.inl ⟨by kernel_rfl, fun W => by first | (go_simp; done) | (go_simp; omega)⟩) ?_
      simp only [List.setIfInBounds_toArray, List.set_cons_zero, List.set_cons_succ]
      refine wpAny_put (i := 6) (d := 30) (v := .int .u64 ((a + k : Nat) : Int)) rfl (by kernel_rfl) (by kernel_rfl) (by kernel_rfl) (by kernel_rfl) (fun _ _ _ h => h) (Or.inl ⟨by kernel_rfl, fun W => by first | (go_simp; done) | (go_simp; omega)⟩) ?_
      simp only [List.setIfInBounds_toArray, List.set_cons_zero, List.set_cons_succ]
      refine wpAny_all (rs := [1, 7]) (by kernel_rfl) (by simp) (fun i hi => ?_)
      have hi2 : i = 1 ∨ i = 7 := by simpa using hi
      clear hi
      rcases hi2 with rfl | rfl
      · skip
        refine wpOp_do rfl (by kernel_rfl) (fun K' hK => ?_)
        go_simp
        refine hK.out _ _ ?_
        clear hK K'
        refine wpAny_one (r := 7) (by kernel_rfl) ?_
        refine wpOp_do rfl (by kernel_rfl) (fun K' hK => ?_)
        go_simp
        refine (HG.out).mono ?_
        rintro e w' ⟨rfl, rfl⟩
        refine hK.out _ _ ?_
        clear hK K'
        refine wpAny_one (r := 8) (by kernel_rfl) ?_
        refine wpOp_do rfl (by kernel_rfl) (fun K' hK => ?_)
        go_simp
        refine hK.out _ _ ?_
        clear hK K'
        refine wpAny_one (r := 9) (by kernel_rfl) ?_
        refine wpOp_do rfl (by kernel_rfl) (fun K' hK => ?_)
        refine wp_append_lies _ (.tmp 25) (.tmp 32) 22 rfl (w.heap.size + 2) 5 i0 (.int .u8 0) 1 1 Try.underlying22 hi0 hz0 hz1 hz2 rfl (by omega) v k _ (by rfl) HR8.out ⟨wr.heap.size, 0, none⟩ 1 1 [.int .u8 b] (by rfl) rfl HN8.out ?h1c (by omega) ?b1 ?b2 ?b3 _ rfl ?_
        case h1c => intro u hu; simp at hu; subst hu; rfl
        case b1 => unfold maxLen; omega
        case b2 => omega
        case b3 => exact HZ8.out
        intro g cap w9 ho9 hg9 hgo hgl
        have HQ9 := hid (NX.out g cap w9 ho9 hg9)
        obtain ⟨cA1', fA', _⟩ := HQ9.out
        clear ho9 hg9 hgo hgl cA1 fA cA8
        refine hK.out _ _ ?_
        clear hK K'
        simp only [Act.put, List.setIfInBounds_toArray, List.set_cons_zero, List.set_cons_succ]
        refine wpAny_put (i := 10) (d := 34) (v := .pointer (some ⟨A, 1, none⟩)) rfl (by kernel_rfl) (by kernel_rfl) (by kernel_rfl) (by kernel_rfl) (fun _ _ _ h => h) (Or.inl ⟨by kernel_rfl, fun _ => by kernel_rfl⟩) ?_
        refine wpAny_one (r := 11) (by kernel_rfl) ?_
        refine wpOp_do rfl (by kernel_rfl) (fun K' hK => ?_)
        go_simp
        refine hK.out _ _ ?_
        clear hK K'
        refine wpAny_done (by kernel_rfl) ?_ _
        go_wp2
        go_roundw
        case rel => exact ⟨k + 1, by omega, by go_num, _, by rw [HE.out]; simpa [Ns] using HQ9.out.2.2⟩
        case measure => simp [intOf]; omega
      · skip
        refine wpOp_do rfl (by kernel_rfl) (fun K' hK => ?_)
        go_simp
        refine (HG.out).mono ?_
        rintro e w' ⟨rfl, rfl⟩
        refine hK.out _ _ ?_
        clear hK K'
        refine wpAny_all (rs := [1, 8]) (by kernel_rfl) (by simp) (fun i hi => ?_)
        have hi2 : i = 1 ∨ i = 8 := by simpa using hi
        clear hi
        rcases hi2 with rfl | rfl
        · skip
          refine wpOp_do rfl (by kernel_rfl) (fun K' hK => ?_)
          go_simp
          refine hK.out _ _ ?_
          clear hK K'
          refine wpAny_one (r := 8) (by kernel_rfl) ?_
          refine wpOp_do rfl (by kernel_rfl) (fun K' hK => ?_)
          go_simp
          refine hK.out _ _ ?_
          clear hK K'
          refine wpAny_one (r := 9) (by kernel_rfl) ?_
          refine wpOp_do rfl (by kernel_rfl) (fun K' hK => ?_)
          refine wp_append_lies _ (.tmp 25) (.tmp 32) 22 rfl (w.heap.size + 2) 5 i0 (.int .u8 0) 1 1 Try.underlying22 hi0 hz0 hz1 hz2 rfl (by omega) v k _ (by rfl) HR8.out ⟨wr.heap.size, 0, none⟩ 1 1 [.int .u8 b] (by rfl) rfl HN8.out ?h1c (by omega) ?b1 ?b2 ?b3 _ rfl ?_
          case h1c => intro u hu; simp at hu; subst hu; rfl
          case b1 => unfold maxLen; omega
          case b2 => omega
          case b3 => exact HZ8.out
          intro g cap w9 ho9 hg9 hgo hgl
          have HQ9 := hid (NX.out g cap w9 ho9 hg9)
          obtain ⟨cA1', fA', _⟩ := HQ9.out
          clear ho9 hg9 hgo hgl cA1 fA cA8
          refine hK.out _ _ ?_
          clear hK K'
          simp only [Act.put, List.setIfInBounds_toArray, List.set_cons_zero, List.set_cons_succ]
          refine wpAny_put (i := 10) (d := 34) (v := .pointer (some ⟨A, 1, none⟩)) rfl (by kernel_rfl) (by kernel_rfl) (by kernel_rfl) (by kernel_rfl) (fun _ _ _ h => h) (Or.inl ⟨by kernel_rfl, fun _ => by kernel_rfl⟩) ?_
          refine wpAny_one (r := 11) (by kernel_rfl) ?_
          refine wpOp_do rfl (by kernel_rfl) (fun K' hK => ?_)
          go_simp
          refine hK.out _ _ ?_
          clear hK K'
          refine wpAny_done (by kernel_rfl) ?_ _
          go_wp2
          go_roundw
          case rel => exact ⟨k + 1, by omega, by go_num, _, by rw [HE.out]; simpa [Ns] using HQ9.out.2.2⟩
          case measure => simp [intOf]; omega
        · skip
          refine wpOp_do rfl (by kernel_rfl) (fun K' hK => ?_)
          go_simp
          refine hK.out _ _ ?_
          clear hK K'
          refine wpAny_one (r := 1) (by kernel_rfl) ?_
          refine wpOp_do rfl (by kernel_rfl) (fun K' hK => ?_)
          go_simp
          refine hK.out _ _ ?_
          clear hK K'
          refine wpAny_one (r := 9) (by kernel_rfl) ?_
          refine wpOp_do rfl (by kernel_rfl) (fun K' hK => ?_)
          refine wp_append_lies _ (.tmp 25) (.tmp 32) 22 rfl (w.heap.size + 2) 5 i0 (.int .u8 0) 1 1 Try.underlying22 hi0 hz0 hz1 hz2 rfl (by omega) v k _ (by rfl) HR8.out ⟨wr.heap.size, 0, none⟩ 1 1 [.int .u8 b] (by rfl) rfl HN8.out ?h1c (by omega) ?b1 ?b2 ?b3 _ rfl ?_
          case h1c => intro u hu; simp at hu; subst hu; rfl
          case b1 => unfold maxLen; omega
          case b2 => omega
          case b3 => exact HZ8.out
          intro g cap w9 ho9 hg9 hgo hgl
          have HQ9 := hid (NX.out g cap w9 ho9 hg9)
          obtain ⟨cA1', fA', _⟩ := HQ9.out
          clear ho9 hg9 hgo hgl cA1 fA cA8
          refine hK.out _ _ ?_
          clear hK K'
          simp only [Act.put, List.setIfInBounds_toArray, List.set_cons_zero, List.set_cons_succ]
          refine wpAny_put (i := 10) (d := 34) (v := .pointer (some ⟨A, 1, none⟩)) rfl (by kernel_rfl) (by kernel_rfl) (by kernel_rfl) (by kernel_rfl) (fun _ _ _ h => h) (Or.inl ⟨by kernel_rfl, fun _ => by kernel_rfl⟩) ?_
          refine wpAny_one (r := 11) (by kernel_rfl) ?_
          refine wpOp_do rfl (by kernel_rfl) (fun K' hK => ?_)
          go_simp
          refine hK.out _ _ ?_
          clear hK K'
          refine wpAny_done (by kernel_rfl) ?_ _
          go_wp2
          go_roundw
          case rel => exact ⟨k + 1, by omega, by go_num, _, by rw [HE.out]; simpa [Ns] using HQ9.out.2.2⟩
          case measure => simp [intOf]; omega
    · have hkn : k = n := by omega
      subst hkn
      have HL := hid hl
      clear hl L0
      go_wp2_with (first | (refine wpList_load_row rfl 36 _ rfl _ rfl _ _ _ _ HL.out.at_ Try.underlying36 rfl (by kernel_rfl) ?_) | (refine wpList_store_row rfl 36 _ _ rfl _ _ rfl rfl 36 _ HL.out.res (by kernel_rfl) rfl ?o1 ?_))
      case o1 => exact HL.out.one
      refine bodyPost_ret (results_cell_row (by rfl) _ _ Rb 36 _ (0, 0) _ (by rfl) (setRow_at HL.out.res _) Try.underlying36 rfl (by kernel_rfl)) (by rfl) ?_
      exact ⟨v, rfl, HL.out.done⟩
end Go.Proofs.Ytiddopgeomojbaa
