import Derived.Test.YtamfbplchblkbaaImB
namespace Go.Proofs.Ytamfbplchblkbaa
open Go.ChangeShapes Go.WideShapes Go.ChangeAt Go.RowKit Go.Maps
set_option linter.unusedVariables false

/-- the pages first .. first + k - 1 are let go -/
def without (f : Nat → Option Nat) (first : Nat) : Nat → (Nat → Option Nat)
  | 0 => f
  | k + 1 => upd (without f first k) (first + k) none

theorem turned_refl {S M : Nat} {st n bud : Int} {f : Nat → Option Nat} {W : World} (h : Im S M st n bud f W) : W.mapTurned W M := by
  obtain ⟨D, hown, _⟩ := h.map
  exact hown.turned_refl

set_option maxHeartbeats 400000 in
theorem decommit_no (S M : Nat) (st n bud : Int) (f : Nat → Option Nat) (first count : Int) (w : World) (h : Im S M st n bud f w) (hn : 0 ≤ n) (hn' : n ≤ 4096) (hf : first ≤ 9223372036854775807)
    (hno : insideB n first count = false) :
    Calls Try.prog 39 #[.pointer (some ⟨S, 0, none⟩), .int .i64 first, .int .i64 count] w fun e w' => e = .returned (.int .i64 6) ∧ w' = w := by
  have H1 := hid (inside_any S M st n bud f first count w h hn hn' hf)
  rw [hno] at H1
  clear hno h
  go_enter Try.func39, Try.ntmps39
  go_wp2_with fail
  refine H1.out.mono ?_
  rintro _ _ ⟨rfl, rfl⟩
  go_wp2_with fail
  go_ret
  exact ⟨rfl, rfl⟩

set_option maxHeartbeats 400000 in
theorem decommit_part (S M : Nat) (st n bud : Int) (f : Nat → Option Nat) (first count h0 : Nat) (w : World) (h : Im S M st n bud f w) (hn : 0 ≤ n) (hn' : n ≤ 4096) (hin : insideB n first count = true) (h0e : heldN f first count = h0) (hlt : h0 < count) :
    Calls Try.prog 39 #[.pointer (some ⟨S, 0, none⟩), .int .i64 first, .int .i64 count] w fun e w' => e = .returned (.int .i64 6) ∧ w' = w := by
  have hr : 1 ≤ count ∧ first + count ≤ 4096 := by simp [insideB] at hin; omega
  have H1 := hid (inside_any S M st n bud f first count w h hn hn' (by omega))
  rw [hin] at H1
  have H2 := hid (heldOf_any S M st n bud f first count w h (by omega) (by omega))
  rw [h0e] at H2
  clear hin h0e h
  go_enter Try.func39, Try.ntmps39
  go_wp2_with fail
  refine H1.out.mono ?_
  rintro _ _ ⟨rfl, rfl⟩
  go_wp2_with fail
  refine H2.out.mono ?_
  rintro _ w0 ⟨rfl, rfl⟩
  go_wp2_with fail
  go_ret
  exact ⟨rfl, rfl⟩

set_option maxHeartbeats 400000 in
theorem decommit_yes (S M : Nat) (st n bud : Int) (f : Nat → Option Nat) (first count : Nat) (w : World) (h : Im S M st n bud f w) (hn : 0 ≤ n) (hn' : n ≤ 4096) (hin : insideB n first count = true) (hall : heldN f first count = count) :
    Calls Try.prog 39 #[.pointer (some ⟨S, 0, none⟩), .int .i64 first, .int .i64 count] w fun e w' => e = .returned (.int .i64 0) ∧ Im S M st n bud (without f first count) w' ∧ w.mapTurned w' M := by
  have hr : 1 ≤ count ∧ first + count ≤ 4096 := by simp [insideB] at hin; omega
  have H1 := hid (inside_any S M st n bud f first count w h hn hn' (by omega))
  rw [hin] at H1
  have H2 := hid (heldOf_any S M st n bud f first count w h (by omega) (by omega))
  rw [hall] at H2
  have HI := hid h
  obtain ⟨_, _, _, c4⟩ := h.c
  clear hin hall h
  go_enter Try.func39, Try.ntmps39
  go_wp2_with fail
  refine H1.out.mono ?_
  rintro _ _ ⟨rfl, rfl⟩
  go_wp2_with fail
  refine H2.out.mono ?_
  rintro _ w0 ⟨rfl, rfl⟩
  go_wp2_with fail
  go_loopw [22] (fun i wr => ∃ k : Nat, k ≤ count ∧ i = .int .i64 k ∧ Im S M st n bud (without f first k) wr ∧ w0.mapTurned wr M) (fun i _ => count - (intOf i).toNat)
  case atStart => exact ⟨0, Nat.zero_le _, rfl, HI.out, turned_refl HI.out⟩
  case round =>
    obtain ⟨k, hk, rfl, him, ht⟩ := hrel
    by_cases hlt : k < count
    · obtain ⟨_, _, _, c4⟩ := him.c
      have HJ := hid (And.intro him ht)
      clear him ht
      go_wp2_with (at_delete; refine wpList_delete_im _ rfl _ _ rfl HJ.out.1 (first + k) (by omega) rfl (by go_num) ?_)
      intro w1 him1 ht1
      have HK := hid (And.intro him1 (HJ.out.2.trans ht1))
      clear HJ him1 ht1 c4
      go_wp2_with fail
      go_roundw
      case rel => exact ⟨k + 1, by omega, by go_num, HK.out.1, HK.out.2⟩
      case measure => simp [intOf]; omega
    · have hkc : k = count := by omega
      subst hkc
      have HJ := hid (And.intro him ht)
      clear him ht
      go_wp2_with fail
      go_ret
      exact ⟨rfl, HJ.out⟩

/-- the cells of a page -/
def pageC (l : Bool) (xs : List Int) : Array Value := (Ns .u8 xs ++ [Value.bool l]).toArray
/-- the pages: page k of m lies in block f k -/
structure Pg (f : Nat → Option Nat) (m : Nat → Option (Bool × List Int)) (W : World) : Prop where
  at' : ∀ k, (f k = none ∧ m k = none) ∨ ∃ b l xs, f k = some b ∧ m k = some (l, xs) ∧ xs.length = 1024 ∧ W.heap[b]? = some (.cells (pageC l xs) 85 (0, 0))
  inj : ∀ j k b, f j = some b → f k = some b → j = k
/-- what a call may turn: the space and its pages -/
structure Fr (S M : Nat) (f f' : Nat → Option Nat) (W W' : World) : Prop where
  os : W'.os = W.os
  tape : W'.tape = W.tape
  output : W'.output = W.output
  size : W.heap.size ≤ W'.heap.size
  block : ∀ g, g < W.heap.size → g ≠ S → g ≠ M → (∀ k, f k ≠ some g) → W'.heap[g]? = W.heap[g]?
  made : ∀ k g, f' k = some g → (∃ j, f j = some g) ∨ W.heap.size ≤ g
theorem Fr.refl (S M : Nat) (f : Nat → Option Nat) (W : World) : Fr S M f f W W := ⟨rfl, rfl, rfl, Nat.le_refl _, fun _ _ _ _ _ => rfl, fun k g h => .inl ⟨k, h⟩⟩
theorem Fr.trans {S M : Nat} {f f' f'' : Nat → Option Nat} {W W' W'' : World} (h : Fr S M f f' W W') (h' : Fr S M f' f'' W' W'') : Fr S M f f'' W W'' := by
  refine ⟨h'.os.trans h.os, h'.tape.trans h.tape, h'.output.trans h.output, Nat.le_trans h.size h'.size, ?_, ?_⟩
  · intro g hg h1 h2 h3
    rw [h'.block g (Nat.lt_of_lt_of_le hg h.size) h1 h2 ?_]
    · exact h.block g hg h1 h2 h3
    · intro k e
      rcases h.made k g e with ⟨j, hj⟩ | hj
      · exact h3 j hj
      · omega
  · intro k g e
    rcases h'.made k g e with ⟨j, hj⟩ | hj
    · exact h.made j g hj
    · right; have := h.size; omega
theorem Pg.none_iff {f : Nat → Option Nat} {m : Nat → Option (Bool × List Int)} {W : World} (h : Pg f m W) (k : Nat) : (f k).isSome = (m k).isSome := by
  rcases h.at' k with ⟨h1, h2⟩ | ⟨b, l, xs, h1, h2, _⟩ <;> rw [h1, h2] <;> rfl
theorem Pg.cell {f : Nat → Option Nat} {m : Nat → Option (Bool × List Int)} {W : World} (h : Pg f m W) {k b : Nat} (hf : f k = some b) :
    ∃ l xs, m k = some (l, xs) ∧ xs.length = 1024 ∧ W.heap[b]? = some (.cells (pageC l xs) 85 (0, 0)) := by
  rcases h.at' k with ⟨h1, h2⟩ | ⟨b', l, xs, h1, h2, h3⟩
  · rw [h1] at hf; cases hf
  · rw [h1] at hf; cases hf; exact ⟨l, xs, h2, h3⟩
theorem pageC_lock (l : Bool) (xs : List Int) (h : xs.length = 1024) : (pageC l xs)[1024]? = some (.bool l) := by
  simp [pageC, Ns, h]
theorem pageC_byte (l : Bool) (xs : List Int) (i : Nat) (h : i < xs.length) : (pageC l xs)[i]? = some (.int .u8 (xs[i]?.getD 0)) := by
  simp [pageC, Ns, List.getElem?_append, h]
theorem Pg.lockCell {f : Nat → Option Nat} {m : Nat → Option (Bool × List Int)} {W : World} (h : Pg f m W) {k b : Nat} (hf : f k = some b) {l : Bool} {xs : List Int} (hm : m k = some (l, xs)) :
    W.cell? ⟨b, 1024, none⟩ = some (.bool l) ∧ W.frozen? ⟨b, 1024, none⟩ = false := by
  obtain ⟨l', xs', h1, h2, h3⟩ := h.cell hf
  rw [hm] at h1
  cases h1
  exact ⟨by simp [World.cell?, h3, pageC_lock _ _ h2], by simp [World.frozen?, h3]⟩
end Go.Proofs.Ytamfbplchblkbaa
