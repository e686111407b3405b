import Derived.Test.YtamfbplchblkbaaImC
namespace Go.Proofs.Ytamfbplchblkbaa
open Go.ChangeShapes Go.WideShapes Go.ChangeAt Go.RowKit Go.Maps
set_option linter.unusedVariables false

set_option maxHeartbeats 400000 in
theorem setLock_no (S M : Nat) (st n bud : Int) (f : Nat → Option Nat) (first count : Int) (v : Bool) (w : World) (h : Im S M st n bud f w) (hn : 0 ≤ n) (hn' : n ≤ 4096) (hf : first ≤ 9223372036854775807)
    (hno : insideB n first count = false) :
    Calls Try.prog 40 #[.pointer (some ⟨S, 0, none⟩), .int .i64 first, .int .i64 count, .bool v] w fun e w' => e = .returned (.int .i64 6) ∧ w' = w := by
  have H1 := hid (inside_any S M st n bud f first count w h hn hn' hf)
  rw [hno] at H1
  clear hno h
  go_enter Try.func40, Try.ntmps40
  go_wp2_with fail
  refine H1.out.mono ?_
  rintro _ _ ⟨rfl, rfl⟩
  go_wp2_with fail
  go_ret
  exact ⟨rfl, rfl⟩

set_option maxHeartbeats 400000 in
theorem setLock_part (S M : Nat) (st n bud : Int) (f : Nat → Option Nat) (first count h0 : Nat) (v : Bool) (w : World) (h : Im S M st n bud f w) (hn : 0 ≤ n) (hn' : n ≤ 4096) (hin : insideB n first count = true) (h0e : heldN f first count = h0) (hlt : h0 < count) :
    Calls Try.prog 40 #[.pointer (some ⟨S, 0, none⟩), .int .i64 first, .int .i64 count, .bool v] w fun e w' => e = .returned (.int .i64 6) ∧ w' = w := by
  have hr : 1 ≤ count ∧ first + count ≤ 4096 := by simp [insideB] at hin; omega
  have H1 := hid (inside_any S M st n bud f first count w h hn hn' (by omega))
  rw [hin] at H1
  have H2 := hid (heldOf_any S M st n bud f first count w h (by omega) (by omega))
  rw [h0e] at H2
  clear hin h0e h
  go_enter Try.func40, Try.ntmps40
  go_wp2_with fail
  refine H1.out.mono ?_
  rintro _ _ ⟨rfl, rfl⟩
  go_wp2_with fail
  refine H2.out.mono ?_
  rintro _ w0 ⟨rfl, rfl⟩
  go_wp2_with fail
  go_ret
  exact ⟨rfl, rfl⟩


/-- one page turned -/
def updM (m : Nat → Option (Bool × List Int)) (k : Nat) (v : Option (Bool × List Int)) : Nat → Option (Bool × List Int) := fun j => if j = k then v else m j
theorem updM_same (m : Nat → Option (Bool × List Int)) (k : Nat) (v : Option (Bool × List Int)) : updM m k v k = v := by simp [updM]
theorem updM_other (m : Nat → Option (Bool × List Int)) (k j : Nat) (v : Option (Bool × List Int)) (h : j ≠ k) : updM m k v j = m j := by simp [updM, h]
/-- the pages first .. first + k - 1 are locked, or opened -/
def lockedM (m : Nat → Option (Bool × List Int)) (first : Nat) (v : Bool) : Nat → (Nat → Option (Bool × List Int))
  | 0 => m
  | k + 1 => updM (lockedM m first v k) (first + k) ((lockedM m first v k (first + k)).map fun p => (v, p.2))

theorem Im.setCell {S M : Nat} {st n bud : Int} {f : Nat → Option Nat} {W : World} (h : Im S M st n bud f W) {p : Addr} (h1 : p.block ≠ S) (h2 : p.block ≠ M) (v : Value) : Im S M st n bud f (W.setCell p v) := by
  obtain ⟨D, hown, r⟩ := h.map
  exact ⟨by rw [Below.heap_setCell _ _ _ _ (Ne.symm h1)]; exact h.box, D, hown.setCell (Ne.symm h2) v, r⟩
theorem Pg.apart {S M : Nat} {st n bud : Int} {f : Nat → Option Nat} {m : Nat → Option (Bool × List Int)} {W : World} (h : Pg f m W) (hi : Im S M st n bud f W) {k b : Nat} (hf : f k = some b) : b ≠ S ∧ b ≠ M := by
  obtain ⟨l, xs, _, _, h3⟩ := h.cell hf
  constructor
  · intro e
    subst e
    rw [hi.box] at h3
    simp at h3
  · intro e
    subst e
    obtain ⟨D, ⟨es, c, hb, _⟩, _⟩ := hi.map
    rw [hb] at h3
    cases h3
theorem pageC_setLock (l v : Bool) (xs : List Int) (h : xs.length = 1024) : (pageC l xs).setIfInBounds 1024 (.bool v) = pageC v xs := by
  apply Array.ext_getElem?
  intro i
  rw [Array.getElem?_setIfInBounds]
  by_cases e : 1024 = i
  · subst e
    rw [if_pos rfl, if_pos (by simp [pageC, Ns, h]), pageC_lock _ _ h]
  · rw [if_neg e]
    by_cases hi : i < xs.length
    · rw [pageC_byte _ _ _ hi, pageC_byte _ _ _ hi]
    · rw [Array.getElem?_eq_none (by simp [pageC, Ns]; omega), Array.getElem?_eq_none (by simp [pageC, Ns]; omega)]
theorem pageC_setByte (l : Bool) (xs : List Int) (i : Nat) (x : Int) (h : i < xs.length) : (pageC l xs).setIfInBounds i (.int .u8 x) = pageC l (xs.set i x) := by
  simp [pageC, Ns, List.map_set, h]
theorem heap_set_at {W : World} {b : Nat} {c : Array Value} {t : TypeId} {i : Nat} (h : W.heap[b]? = some (.cells c t (0, 0))) (v : Value) : (W.setCell ⟨b, i, none⟩ v).heap[b]? = some (.cells (c.setIfInBounds i v) t (0, 0)) := by
  simp [World.setCell, Array.getElem?_modify, h]
/-- a page's cells are turned -/
theorem Pg.set {f : Nat → Option Nat} {m : Nat → Option (Bool × List Int)} {W : World} (h : Pg f m W) {k b i : Nat} (hf : f k = some b) {v : Value} {l l' : Bool} {xs xs' : List Int}
    (hm : m k = some (l, xs)) (hx : xs'.length = 1024) (hc : (pageC l xs).setIfInBounds i v = pageC l' xs') : Pg f (updM m k (some (l', xs'))) (W.setCell ⟨b, i, none⟩ v) := by
  refine ⟨?_, h.inj⟩
  intro j
  by_cases e : j = k
  · subst e
    obtain ⟨l2, xs2, h1, h2, h3⟩ := h.cell hf
    rw [hm] at h1
    cases h1
    exact .inr ⟨b, l', xs', hf, updM_same _ _ _, hx, by rw [heap_set_at h3, hc]⟩
  · rw [updM_other m k j _ e]
    rcases h.at' j with h1 | ⟨b2, l2, xs2, h1, h2, h3, h4⟩
    · exact .inl h1
    · refine .inr ⟨b2, l2, xs2, h1, h2, h3, ?_⟩
      rw [Below.heap_setCell _ _ _ _ ?_]
      · exact h4
      · intro e2
        simp at e2
        subst e2
        exact e (h.inj j k _ h1 hf)
theorem Fr.set {S M : Nat} {f : Nat → Option Nat} {W W' : World} (h : Fr S M f f W W') {k b i : Nat} (hf : f k = some b) (v : Value) : Fr S M f f W (W'.setCell ⟨b, i, none⟩ v) := by
  refine ⟨h.os, h.tape, h.output, by simp [World.setCell]; exact h.size, ?_, h.made⟩
  intro g hg h1 h2 h3
  rw [Below.heap_setCell _ _ _ _ ?_]
  · exact h.block g hg h1 h2 h3
  · intro e
    simp at e
    subst e
    exact h3 k hf
theorem heldN_all {f : Nat → Option Nat} {first : Nat} : ∀ {N : Nat}, heldN f first N = N → ∀ k, k < N → ∃ b, f (first + k) = some b
  | 0, _, k, hk => by omega
  | N + 1, h, k, hk => by
    have h1 := heldN_le f first N
    simp only [heldN] at h
    cases hf : f (first + N) with
    | none => rw [hf] at h; simp at h; omega
    | some b =>
      rw [hf] at h
      simp at h
      by_cases e : k = N
      · subst e; exact ⟨b, hf⟩
      · exact heldN_all h k (by omega)

set_option maxHeartbeats 400000 in
theorem setLock_yes (S M : Nat) (st n bud : Int) (f : Nat → Option Nat) (m : Nat → Option (Bool × List Int)) (first count : Nat) (v : Bool) (w : World) (h : Im S M st n bud f w) (hp : Pg f m w) (hn : 0 ≤ n) (hn' : n ≤ 4096) (hin : insideB n first count = true) (hall : heldN f first count = count) :
    Calls Try.prog 40 #[.pointer (some ⟨S, 0, none⟩), .int .i64 first, .int .i64 count, .bool v] w fun e w' => e = .returned (.int .i64 0) ∧ Im S M st n bud f w' ∧ Pg f (lockedM m first v count) w' ∧ Fr S M f f w w' := by
  have hr : 1 ≤ count ∧ first + count ≤ 4096 := by simp [insideB] at hin; omega
  have H1 := hid (inside_any S M st n bud f first count w h hn hn' (by omega))
  rw [hin] at H1
  have H2 := hid (heldOf_any S M st n bud f first count w h (by omega) (by omega))
  rw [hall] at H2
  have HA := hid (heldN_all hall)
  have HI := hid (And.intro h hp)
  obtain ⟨_, _, _, c4⟩ := h.c
  clear hin hall h hp
  go_enter Try.func40, Try.ntmps40
  go_wp2_with fail
  refine H1.out.mono ?_
  rintro _ _ ⟨rfl, rfl⟩
  go_wp2_with fail
  refine H2.out.mono ?_
  rintro _ w0 ⟨rfl, rfl⟩
  go_wp2_with fail
  clear H1 H2
  go_loopw [24] (fun i wr => ∃ k : Nat, k ≤ count ∧ i = .int .i64 k ∧ Im S M st n bud f wr ∧ Pg f (lockedM m first v k) wr ∧ Fr S M f f w0 wr) (fun i _ => count - (intOf i).toNat)
  case atStart => exact ⟨0, Nat.zero_le _, rfl, HI.out.1, HI.out.2, Fr.refl S M f _⟩
  case round =>
    obtain ⟨k, hk, rfl, him, hpg, hfr⟩ := hrel
    by_cases hlt : k < count
    · obtain ⟨_, _, _, c4⟩ := him.c
      obtain ⟨b, hb⟩ := HA.out k hlt
      obtain ⟨l, xs, hm, hx, _⟩ := hpg.cell hb
      obtain ⟨cl, fl⟩ := hpg.lockCell hb hm
      obtain ⟨hbS, hbM⟩ := hpg.apart him hb
      have hrun := him.look (first + k) (by omega)
      rw [hb] at hrun
      simp only [Option.map_some] at hrun
      have ec : ((first + k : Nat) : Int) = (first : Int) + (k : Int) := by omega
      rw [ec] at hrun
      have P1 := hpg.set hb hm hx (pageC_setLock l v xs hx)
      have HJ := hid (And.intro (him.setCell (p := ⟨b, 1024, none⟩) hbS hbM (.bool v)) (And.intro P1 (And.intro hm (hfr.set (i := 1024) hb (.bool v)))))
      clear him hpg hfr ec hbS hbM hm hx hb P1 HI
      go_wp2
      go_roundw
      case rel =>
        refine ⟨k + 1, by omega, by go_num, HJ.out.1, ?_, HJ.out.2.2.2⟩
        simp only [lockedM]
        rw [HJ.out.2.2.1]
        exact HJ.out.2.1
      case measure => simp [intOf]; omega
    · have hkc : k = count := by omega
      subst hkc
      have HJ := hid (And.intro him (And.intro hpg hfr))
      clear him hpg hfr
      go_wp2_with fail
      go_ret
      exact ⟨rfl, HJ.out⟩
end Go.Proofs.Ytamfbplchblkbaa
