import Derived.Test.YtamfbplchblkbaaImJ
namespace Go.Proofs.Ytamfbplchblkbaa
open Go.RowKit Go.Shelf
set_option linter.unusedVariables false

/-- page k of spec's row c -/
def PageAt (W : World) (c : Array Value) (k : Nat) : Option (Bool × List Int) → Prop
  | none => c[k * 3]? = some (.bool false) ∧ c[k * 3 + 1]? = some (.bool false) ∧ c[k * 3 + 2]? = some (.slice none 0 0)
  | some (l, xs) => c[k * 3]? = some (.bool true) ∧ c[k * 3 + 1]? = some (.bool (!l)) ∧ xs.length = 1024 ∧ ∃ g, c[k * 3 + 2]? = some (.slice (some ⟨g, 0, none⟩) 1024 1024) ∧ W.heap[g]? = some (.cells (Ns .u8 xs).toArray 5 (0, 0))
/-- the space of spec in block T, its pages in block Q -/
structure Sx (T Q n : Nat) (bud : Int) (m : Nat → Option (Bool × List Int)) (W : World) : Prop where
  box : W.heap[T]? = some (.cells #[.slice (some ⟨Q, 0, none⟩) n n, .int .i64 bud] 89 (0, 0))
  row : ∃ c, W.heap[Q]? = some (.cells c 92 (0, 0)) ∧ c.size = n * 3 ∧ (∀ k, k < n → PageAt W c k (m k)) ∧ ∀ j k g, j < n → k < n → c[j * 3 + 2]? = some (.slice (some ⟨g, 0, none⟩) 1024 1024) → c[k * 3 + 2]? = some (.slice (some ⟨g, 0, none⟩) 1024 1024) → j = k
  out : ∀ k, n ≤ k → m k = none

theorem Sx.c {T Q n : Nat} {bud : Int} {m : Nat → Option (Bool × List Int)} {W : World} (h : Sx T Q n bud m W) :
    W.cell? ⟨T, 0, none⟩ = some (.slice (some ⟨Q, 0, none⟩) n n) ∧ W.cell? ⟨T, 1, none⟩ = some (.int .i64 bud) := by
  have h1 := h.box
  exact ⟨by simp [World.cell?, h1], by simp [World.cell?, h1]⟩
theorem Sx.page {T Q n : Nat} {bud : Int} {m : Nat → Option (Bool × List Int)} {W : World} (h : Sx T Q n bud m W) (k : Nat) (hk : k < n) :
    ∃ on op dt, W.cell? ⟨Q, k * 3, none⟩ = some (.bool on) ∧ W.cell? ⟨Q, k * 3 + 1, none⟩ = some (.bool op) ∧ W.cell? ⟨Q, k * 3 + 2, none⟩ = some dt ∧ on = (m k).isSome ∧ (on && op) = isOpen (m k) ∧
      (∀ l xs, m k = some (l, xs) → xs.length = 1024 ∧ ∃ g, dt = .slice (some ⟨g, 0, none⟩) 1024 1024 ∧ W.heap[g]? = some (.cells (Ns .u8 xs).toArray 5 (0, 0))) := by
  obtain ⟨c, h1, h2, h3, _⟩ := h.row
  have h4 := h3 k hk
  cases hm : m k with
  | none =>
    rw [hm] at h4
    obtain ⟨a1, a2, a3⟩ := h4
    exact ⟨false, false, .slice none 0 0, by simp [World.cell?, h1, a1], by simp [World.cell?, h1, a2], by simp [World.cell?, h1, a3], rfl, rfl, fun l xs e => by cases e⟩
  | some q =>
    obtain ⟨l, xs⟩ := q
    rw [hm] at h4
    obtain ⟨a1, a2, a4, g, a3, a5⟩ := h4
    exact ⟨true, !l, .slice (some ⟨g, 0, none⟩) 1024 1024, by simp [World.cell?, h1, a1], by simp [World.cell?, h1, a2], by simp [World.cell?, h1, a3], rfl, by simp [isOpen], fun l' xs' e => by cases e; exact ⟨a4, g, rfl, a5⟩⟩

set_option maxHeartbeats 400000 in
theorem reach_any (T Q n : Nat) (bud : Int) (m : Nat → Option (Bool × List Int)) (a : Nat) (w : World) (h : Sx T Q n bud m w) (hn : n ≤ 4096) (ha : a < 18446744073709551616) :
    Calls Try.prog 86 #[.pointer (some ⟨T, 0, none⟩), .int .u64 a] w fun e w' => e = .returned (.bool (isOpen (m (a / 1024)))) ∧ w' = w := by
  obtain ⟨c1, c2⟩ := h.c
  by_cases hk : a / 1024 < n
  · obtain ⟨on, op, dt, d1, d2, d3, e1, e2, _⟩ := h.page (a / 1024) hk
    have HE := hid e2
    clear e1 e2 h
    cases on
    · go_enter Try.func86, Try.ntmps86
      go_wp2
      go_ret
      exact ⟨ret_bool HE.out, rfl⟩
    · go_enter Try.func86, Try.ntmps86
      go_wp2
      go_ret
      exact ⟨ret_bool (by rw [← HE.out]; rfl), rfl⟩
  · have HE := hid (h.out (a / 1024) (by omega))
    have hk' : ¬ ((a : Int) / 1024 < (n : Int)) := by omega
    clear h
    go_enter Try.func86, Try.ntmps86
    go_wp2
    go_ret
    exact ⟨ret_bool (by rw [HE.out]; rfl), rfl⟩

set_option maxHeartbeats 400000 in
theorem get_any (T Q n : Nat) (bud : Int) (m : Nat → Option (Bool × List Int)) (a : Nat) (w : World) (h : Sx T Q n bud m w) (hn : n ≤ 4096) (ha : a < 18446744073709551616) (ho : isOpen (m (a / 1024)) = true) :
    Calls Try.prog 62 #[.pointer (some ⟨T, 0, none⟩), .int .u64 a] w fun e w' => e = .returned (.int .u8 (byteAt m a)) ∧ w' = w := by
  obtain ⟨c1, c2⟩ := h.c
  have hk : a / 1024 < n := by
    rcases Nat.lt_or_ge (a / 1024) n with e | e
    · exact e
    · rw [h.out _ e] at ho; cases ho
  obtain ⟨on, op, dt, d1, d2, d3, e1, e2, e3⟩ := h.page (a / 1024) hk
  cases hm : m (a / 1024) with
  | none => rw [hm] at ho; cases ho
  | some q =>
    obtain ⟨l, xs⟩ := q
    obtain ⟨hx, g, rfl, hg⟩ := e3 l xs hm
    have hc : w.cell? ⟨g, a % 1024, none⟩ = some (.int .u8 (xs[a % 1024]?.getD 0)) := by
      have hlt : a % 1024 < xs.length := by omega
      simp [World.cell?, hg, Ns, hlt]
    have HE := hid (show byteAt m a = xs[a % 1024]?.getD 0 by simp [byteAt, hm])
    clear e1 e2 e3 h ho hm hx hg d1 d2
    generalize xs[a % 1024]?.getD 0 = z at *
    go_enter Try.func62, Try.ntmps62
    go_wp2
    go_ret
    exact ⟨ret_int HE.out.symm, rfl⟩
end Go.Proofs.Ytamfbplchblkbaa
