import Derived.Test.YtamfbplchblkbaaImE
namespace Go.Proofs.Ytamfbplchblkbaa
open Go.ChangeShapes Go.WideShapes Go.ChangeAt Go.RowKit Go.Maps
set_option linter.unusedVariables false


theorem Im.drew {S M : Nat} {st n bud : Int} {f : Nat → Option Nat} {W : World} (h : Im S M st n bud f W) : Im S M st n bud f W.drew := ⟨h.box, h.map⟩

/-- an empty page -/
def page0 : Array Value := pageC false (List.replicate 1024 0)
theorem build85 (w : World) : (Instr.build 85 #[]).run Try.prog w = .ok (.agg page0) w := by kernel_rfl
theorem box85 (w : World) : (Instr.box 85 (.agg page0)).run Try.prog w = .ok (.pointer (some ⟨w.heap.size, 0, none⟩)) (w.alloc (.cells page0 85 (0, 0))) := by kernel_rfl
section
variable {ops : Array Oper} {rest : List Oper} {o : Oper} {a : Act} {Q : Exit → Act → World → Prop}
theorem wpList_build_page (w : World) (hg : o.guard = none) (hop : o.op = Op.build 85 #[])
    (hK : ∀ v, Hid (v = .agg page0) → wpList Try.prog ops Q rest (a.put o.dst v) w) :
    wpList Try.prog ops Q (o :: rest) a w := by
  refine wpList_plain hg fun K' hK' => ?_
  unfold Oper.wp
  simp [execOp, hop, build85 w, Result.andThen]
  exact hK' _ _ (hK _ (hid rfl))
theorem wpList_box_page (w : World) (hg : o.guard = none) (x : Operand) (hop : o.op = Op.box 85 x) (v : Value) (hx : a.eval x = v) (hv : Hid (v = .agg page0))
    (hK : ∀ w', Hid (w' = w.alloc (.cells page0 85 (0, 0))) → wpList Try.prog ops Q rest (a.put o.dst (.pointer (some ⟨w.heap.size, 0, none⟩))) w') :
    wpList Try.prog ops Q (o :: rest) a w := by
  refine wpList_plain hg fun K' hK' => ?_
  unfold Oper.wp
  simp [execOp, hop, hx, hv.out, box85 w, Result.andThen]
  exact hK' _ _ (hK _ (hid rfl))
end

theorem Im.alloc {S M : Nat} {st n bud : Int} {f : Nat → Option Nat} {W : World} (h : Im S M st n bud f W) (o : Obj) : Im S M st n bud f (W.alloc o) := by
  obtain ⟨D, hown, r⟩ := h.map
  exact ⟨by rw [(World.grownBy_alloc W o none).block S (lt_of_block h.box) (by simp)]; exact h.box, D, hown.alloc o, r⟩
theorem Pg.drew {f : Nat → Option Nat} {m : Nat → Option (Bool × List Int)} {W : World} (h : Pg f m W) : Pg f m W.drew := ⟨h.at', h.inj⟩
theorem Fr.drew {S M : Nat} {f f' : Nat → Option Nat} {W W' : World} (h : Fr S M f f' W W') : Fr S M f f' W W'.drew := ⟨h.os, h.tape, h.output, h.size, h.block, h.made⟩
/-- new pages -/
def freshM (m : Nat → Option (Bool × List Int)) (first : Nat) : Nat → (Nat → Option (Bool × List Int))
  | 0 => m
  | k + 1 => updM (freshM m first k) (first + k) (some (false, List.replicate 1024 0))
theorem Pg.made {S M : Nat} {st n bud : Int} {f : Nat → Option Nat} {m : Nat → Option (Bool × List Int)} {W W1 W2 : World} (h : Pg f m W) (hi : Im S M st n bud f W) (k : Nat) (e1 : W1 = W.alloc (.cells page0 85 (0, 0))) (ht : W1.mapTurned W2 M) :
    Pg (upd f k (some W.heap.size)) (updM m k (some (false, List.replicate 1024 0))) W2 := by
  subst e1
  have hM : M < W.heap.size := by obtain ⟨D, hown, _⟩ := hi.map; exact hown.lt
  have hnew : ∀ j b, f j = some b → b < W.heap.size := by
    intro j b e
    obtain ⟨l, xs, _, _, h3⟩ := h.cell e
    exact lt_of_block h3
  constructor
  · intro j
    by_cases e : j = k
    · subst e
      refine .inr ⟨W.heap.size, false, List.replicate 1024 0, upd_same _ _ _, updM_same _ _ _, List.length_replicate, ?_⟩
      rw [turned_other ht (by omega)]
      exact (MapKept.heap_alloc W _).1
    · rw [updM_other m k j _ e, upd_other f k j _ e]
      rcases h.at' j with h1 | ⟨b2, l2, xs2, h1, h2, h3, h4⟩
      · exact .inl h1
      · refine .inr ⟨b2, l2, xs2, h1, h2, h3, ?_⟩
        rw [turned_other ht (h.apart hi h1).2, (World.grownBy_alloc W _ none).block b2 (lt_of_block h4) (by simp)]
        exact h4
  · intro i j b ei ej
    by_cases e : i = k
    · subst e
      rw [upd_same] at ei
      cases ei
      by_cases e2 : j = i
      · exact e2.symm
      · rw [upd_other f i j _ e2] at ej
        have := hnew j _ ej
        omega
    · rw [upd_other f k i _ e] at ei
      by_cases e2 : j = k
      · subst e2
        rw [upd_same] at ej
        cases ej
        have := hnew i _ ei
        omega
      · rw [upd_other f k j _ e2] at ej
        exact h.inj i j b ei ej
theorem Fr.turned {S M : Nat} {f f' : Nat → Option Nat} {W W1 W2 : World} (h : Fr S M f f' W W1) (ht : W1.mapTurned W2 M) : Fr S M f f' W W2 := by
  have hg := ht.grown
  refine ⟨hg.os.trans h.os, hg.tape.trans h.tape, hg.output.trans h.output, Nat.le_trans h.size hg.size, ?_, h.made⟩
  intro g h0 h1 h2 h3
  rw [turned_other ht h2]
  exact h.block g h0 h1 h2 h3
theorem Fr.fresh {S M : Nat} {f f' : Nat → Option Nat} {W W1 W2 W3 : World} (h : Fr S M f f' W W1) (k : Nat) (e1 : W2 = W1.alloc (.cells page0 85 (0, 0))) (ht : W2.mapTurned W3 M) : Fr S M f (upd f' k (some W1.heap.size)) W W3 := by
  subst e1
  refine Fr.turned ?_ ht
  have hg := World.grownBy_alloc W1 (.cells page0 85 (0, 0)) none
  refine ⟨hg.os.trans h.os, hg.tape.trans h.tape, hg.output.trans h.output, Nat.le_trans h.size hg.size, ?_, ?_⟩
  · intro g h0 h1 h2 h3
    rw [hg.block g (Nat.lt_of_lt_of_le h0 h.size) (by simp)]
    exact h.block g h0 h1 h2 h3
  · intro j g e
    by_cases ej : j = k
    · subst ej
      rw [upd_same] at e
      cases e
      exact .inr h.size
    · rw [upd_other f' k j _ ej] at e
      exact h.made j g e


set_option maxHeartbeats 400000 in
theorem commit_no (S M : Nat) (st n bud : Int) (f : Nat → Option Nat) (first count : Int) (w : World) (h : Im S M st n bud f w) (hn : 0 ≤ n) (hn' : n ≤ 4096) (hf : first ≤ 9223372036854775807)
    (hno : insideB n first count = false) :
    Calls Try.prog 38 #[.pointer (some ⟨S, 0, none⟩), .int .i64 first, .int .i64 count] w fun e w' => e = .returned (.int .i64 6) ∧ w' = w := by
  have H1 := hid (inside_any S M st n bud f first count w h hn hn' hf)
  rw [hno] at H1
  clear hno h
  go_enter Try.func38, Try.ntmps38
  go_wp2_with fail
  refine H1.out.mono ?_
  rintro _ _ ⟨rfl, rfl⟩
  go_wp2_with fail
  go_ret
  exact ⟨rfl, rfl⟩

set_option maxHeartbeats 400000 in
theorem commit_part (S M : Nat) (st n bud : Int) (f : Nat → Option Nat) (first count h0 : Nat) (w : World) (h : Im S M st n bud f w) (hn : 0 ≤ n) (hn' : n ≤ 4096) (hin : insideB n first count = true) (h0e : heldN f first count = h0) (hlt : 0 < h0) :
    Calls Try.prog 38 #[.pointer (some ⟨S, 0, none⟩), .int .i64 first, .int .i64 count] w fun e w' => e = .returned (.int .i64 6) ∧ w' = w := by
  have hr : 1 ≤ count ∧ first + count ≤ 4096 := by simp [insideB] at hin; omega
  have H1 := hid (inside_any S M st n bud f first count w h hn hn' (by omega))
  rw [hin] at H1
  have H2 := hid (heldOf_any S M st n bud f first count w h (by omega) (by omega))
  rw [h0e] at H2
  clear hin h0e h
  go_enter Try.func38, Try.ntmps38
  go_wp2_with fail
  refine H1.out.mono ?_
  rintro _ _ ⟨rfl, rfl⟩
  go_wp2_with fail
  refine H2.out.mono ?_
  rintro _ w0 ⟨rfl, rfl⟩
  go_wp2_with fail
  go_ret
  exact ⟨rfl, rfl⟩

set_option maxHeartbeats 400000 in
theorem commit_full (S M : Nat) (st n bud : Int) (f : Nat → Option Nat) (first count h0 : Nat) (w : World) (h : Im S M st n bud f w) (hn : 0 ≤ n) (hn' : n ≤ 4096) (hin : insideB n first count = true) (hz : heldN f first count = 0) (h0e : heldN f 0 4096 = h0) (hlt : bud < h0 + count) :
    Calls Try.prog 38 #[.pointer (some ⟨S, 0, none⟩), .int .i64 first, .int .i64 count] w fun e w' => e = .returned (.int .i64 1) ∧ w' = w.drew := by
  have hr : 1 ≤ count ∧ first + count ≤ 4096 := by simp [insideB] at hin; omega
  have H1 := hid (inside_any S M st n bud f first count w h hn hn' (by omega))
  rw [hin] at H1
  have H2 := hid (heldOf_any S M st n bud f first count w h (by omega) (by omega))
  rw [hz] at H2
  have hle : h0 ≤ 4096 := h0e ▸ heldN_le f 0 4096
  obtain ⟨_, _, c3, c4⟩ := h.c
  have HI := hid h
  have HE := hid h0e
  clear hin h0e h hz
  go_enter Try.func38, Try.ntmps38
  go_wp2_with fail
  refine H1.out.mono ?_
  rintro _ _ ⟨rfl, rfl⟩
  go_wp2_with fail
  refine H2.out.mono ?_
  rintro _ w0 ⟨rfl, rfl⟩
  have hlen := HI.out.len 3
  have hlen' := HI.out.drew.len 3
  rw [HE.out] at hlen hlen'
  go_wp2_with fail
  go_region
  go_wp2
  go_ret
  exact ⟨rfl, rfl⟩

set_option maxHeartbeats 400000 in
theorem commit_yes (S M : Nat) (st n bud : Int) (f : Nat → Option Nat) (m : Nat → Option (Bool × List Int)) (first count h0 : Nat) (w : World) (h : Im S M st n bud f w) (hp : Pg f m w) (hn : 0 ≤ n) (hn' : n ≤ 4096) (hin : insideB n first count = true) (hz : heldN f first count = 0) (h0e : heldN f 0 4096 = h0) (hle' : h0 + count ≤ bud) :
    Calls Try.prog 38 #[.pointer (some ⟨S, 0, none⟩), .int .i64 first, .int .i64 count] w fun e w' => e = .returned (.int .i64 0) ∧ ∃ f', Im S M st n bud f' w' ∧ Pg f' (freshM m first count) w' ∧ Fr S M f f' w w' := by
  have hr : 1 ≤ count ∧ first + count ≤ 4096 := by simp [insideB] at hin; omega
  have H1 := hid (inside_any S M st n bud f first count w h hn hn' (by omega))
  rw [hin] at H1
  have H2 := hid (heldOf_any S M st n bud f first count w h (by omega) (by omega))
  rw [hz] at H2
  have hle : h0 ≤ 4096 := h0e ▸ heldN_le f 0 4096
  obtain ⟨_, _, c3, c4⟩ := h.c
  have HI := hid h
  have HP := hid hp
  have HE := hid h0e
  clear hin h0e h hz hp
  go_enter Try.func38, Try.ntmps38
  go_wp2_with fail
  refine H1.out.mono ?_
  rintro _ _ ⟨rfl, rfl⟩
  go_wp2_with fail
  refine H2.out.mono ?_
  rintro _ w0 ⟨rfl, rfl⟩
  have hlen := HI.out.len 3
  have hlen' := HI.out.drew.len 3
  rw [HE.out] at hlen hlen'
  go_wp2_with fail
  go_region
  clear hlen hlen' H1 H2
  go_wp2_with fail
  go_loopw [33] (fun i wr => ∃ k : Nat, k ≤ count ∧ i = .int .i64 k ∧ ∃ f', Im S M st n bud f' wr ∧ Pg f' (freshM m first k) wr ∧ Fr S M f f' w0 wr) (fun i _ => count - (intOf i).toNat)
  case atStart => exact ⟨0, Nat.zero_le _, rfl, f, HI.out.drew, HP.out.drew, (Fr.refl S M f _).drew⟩
  case round =>
    obtain ⟨k, hk, rfl, f', him, hpg, hfr⟩ := hrel
    by_cases hlt : k < count
    · obtain ⟨_, _, _, c4⟩ := him.c
      have HJ := hid (And.intro him (And.intro hpg hfr))
      have HA := hid (him.alloc (.cells page0 85 (0, 0)))
      clear him hpg hfr HI HP
      go_wp2_with (refine wpList_build_page _ rfl rfl ?_)
      intro v0 hv0
      go_wp2_with (refine wpList_box_page _ rfl _ rfl _ rfl hv0 ?_)
      intro w1 hw1
      rw [← hw1.out] at HA
      go_wp2_with (refine wpList_put_im _ rfl _ _ _ rfl HA.out (first + k) _ (by omega) rfl (by go_num) rfl ?_)
      intro w2 him2 ht2
      have HK := hid (And.intro him2 (And.intro (HJ.out.2.1.made HJ.out.1 (first + k) hw1.out ht2) (HJ.out.2.2.fresh (first + k) hw1.out ht2)))
      clear HJ HA him2 ht2 hw1 hv0 c4
      go_wp2_with fail
      go_roundw
      case rel => exact ⟨k + 1, by omega, by go_num, _, HK.out.1, HK.out.2.1, HK.out.2.2⟩
      case measure => simp [intOf]; omega
    · have hkc : k = count := by omega
      subst hkc
      have HJ := hid (And.intro him (And.intro hpg hfr))
      clear him hpg hfr
      go_wp2_with fail
      go_ret
      exact ⟨rfl, f', HJ.out⟩
end Go.Proofs.Ytamfbplchblkbaa
