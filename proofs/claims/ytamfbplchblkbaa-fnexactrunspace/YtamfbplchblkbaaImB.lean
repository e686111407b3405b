import Derived.Test.YtamfbplchblkbaaImA
namespace Go.Proofs.Ytamfbplchblkbaa
open Go.ChangeShapes Go.WideShapes Go.ChangeAt Go.RowKit Go.Maps
set_option linter.unusedVariables false

/-- are the pages some of the space's -/
def insideB (n first count : Int) : Bool := decide (1 ≤ count ∧ 0 ≤ first ∧ count ≤ n - first)

set_option maxHeartbeats 400000 in
theorem inside_any (S M : Nat) (st n bud : Int) (f : Nat → Option Nat) (first count : Int) (w : World) (h : Im S M st n bud f w) (hn : 0 ≤ n) (hn' : n ≤ 4096) (hf : first ≤ 9223372036854775807) :
    Calls Try.prog 55 #[.pointer (some ⟨S, 0, none⟩), .int .i64 first, .int .i64 count] w fun e w' => e = .returned (.bool (insideB n first count)) ∧ w' = w := by
  obtain ⟨_, c2, _, _⟩ := h.c
  clear h
  by_cases h1 : 1 ≤ count
  · by_cases h2 : 0 ≤ first
    · by_cases h3 : count ≤ n - first
      · go_enter Try.func55, Try.ntmps55
        go_wp2
        go_ret
        exact ⟨ret_bool (by simp [insideB]; omega), rfl⟩
      · go_enter Try.func55, Try.ntmps55
        go_wp2
        go_ret
        exact ⟨ret_bool (by simp [insideB]; omega), rfl⟩
    · go_enter Try.func55, Try.ntmps55
      go_wp2
      go_ret
      exact ⟨ret_bool (by simp [insideB]; omega), rfl⟩
  · go_enter Try.func55, Try.ntmps55
    go_wp2
    go_ret
    exact ⟨ret_bool (by simp [insideB]; omega), rfl⟩

theorem tight {W : World} {b n : Nat} {D : DataW Unit} {R : Value → Option (DataW Unit × List MemPlace)} (h : W.ownsMap Try.prog 3 R b n D) {n' : Nat} (hn : Maps.size D ≤ n') : W.ownsMap Try.prog 3 R b n' D := by
  obtain ⟨es, clock, hb, F, hs, rfl⟩ := h
  exact ⟨es, clock, hb, F, by simpa [Maps.size, length_sorted] using hn, rfl⟩

theorem turned_other {w w' : World} {M b : Nat} (h : w.mapTurned w' M) (hb : b ≠ M) : w'.heap[b]? = w.heap[b]? := by
  obtain ⟨es, c, es', c', h1, rfl⟩ := h
  exact ChangeMaps.heap_setBlock_other h1 _ hb
theorem Im.ne {S M : Nat} {st n bud : Int} {f : Nat → Option Nat} {W : World} (h : Im S M st n bud f W) : S ≠ M := by
  intro e
  subst e
  obtain ⟨D, ⟨es, c, hb, _⟩, _⟩ := h.map
  rw [h.box] at hb
  cases hb

theorem key_ne {j k : Nat} (h : j ≠ k) : (Lit.int .i64 (j : Int)) ≠ .int .i64 (k : Int) := by
  intro e
  injection e with _ e
  omega

theorem Im.del {S M : Nat} {st n bud : Int} {f : Nat → Option Nat} {W : World} (h : Im S M st n bud f W) (k : Nat) (hk : k < 4096) (ty : TypeId) :
    ∃ W', (Builtin.delete_ #[68, 3] ty #[.map (some M), .int .i64 k]).run Try.prog W = .ok (.tuple #[]) W' ∧ Im S M st n bud (upd f k none) W' ∧ W.mapTurned W' M := by
  obtain ⟨D, hown, hsz, hat, hhas⟩ := h.map
  obtain ⟨W', hrun, hown', ht⟩ := hown.drop keyed3 Try.underlying68 (key3 k (by omega)) ty
  refine ⟨W', hrun, ⟨by rw [turned_other ht h.ne]; exact h.box, D.del (.int .i64 k), hown', ?_, ?_, ?_⟩, ht⟩
  · have e1 := Maps.size_del (k := .int .i64 k) (hown.tidy keyed3)
    have e2 := heldN_upd f k none 0 4096 (by omega) (by omega)
    rw [hhas k (by omega)] at e1
    cases hf : f k <;> rw [hf] at e1 e2 <;> simp at e1 e2 <;> omega
  · intro j hj
    by_cases e : j = k
    · subst e
      rw [Maps.atKey_del_same, upd_same]; rfl
    · rw [Maps.atKey_del_other (key_ne e), upd_other f k j _ e]
      exact hat j hj
  · intro j hj
    by_cases e : j = k
    · subst e
      rw [Maps.has_del_same, upd_same]; rfl
    · rw [Maps.has_del_other (key_ne e), upd_other f k j _ e]
      exact hhas j hj

theorem Im.put {S M : Nat} {st n bud : Int} {f : Nat → Option Nat} {W : World} (h : Im S M st n bud f W) (k b : Nat) (hk : k < 4096) :
    ∃ W', (Instr.mapUpdate 68 (.map (some M)) (.int .i64 k) (.pointer (some ⟨b, 0, none⟩))).run Try.prog W = .ok () W' ∧ Im S M st n bud (upd f k (some b)) W' ∧ W.mapTurned W' M := by
  obtain ⟨D, hown, hsz, hat, hhas⟩ := h.map
  obtain ⟨W', hrun, hown', ht⟩ := hown.store keyed3 Try.underlying68 (by decide) (key3 k (by omega)) (ptrE_some b)
  have hlit : WideAt.IsKeyLit (.int .i64 (k : Int)) := by simp [WideAt.IsKeyLit]
  have e0 : Maps.size (D.put (.int .i64 k) (.lit (.int .i64 b))) = heldN (upd f k (some b)) 0 4096 := by
    have e1 := Maps.size_put (k := .int .i64 k) (hown.tidy keyed3) (.lit (.int .i64 b))
    have e2 := heldN_upd f k (some b) 0 4096 (by omega) (by omega)
    rw [hhas k (by omega)] at e1
    cases hf : f k <;> rw [hf] at e1 e2 <;> simp at e1 e2 <;> omega
  refine ⟨W', hrun, ⟨by rw [turned_other ht h.ne]; exact h.box, _, tight hown' (by rw [e0]; exact heldN_le _ _ _), e0, ?_, ?_⟩, ht⟩
  · intro j hj
    by_cases e : j = k
    · subst e
      rw [Maps.atKey_put_same hown.isMap hlit, upd_same]; rfl
    · rw [Maps.atKey_put_other (key_ne e), upd_other f k j _ e]
      exact hat j hj
  · intro j hj
    by_cases e : j = k
    · subst e
      rw [Maps.has_put_same hown.isMap hlit, upd_same]; rfl
    · rw [Maps.has_put_other (key_ne e), upd_other f k j _ e]
      exact hhas j hj

theorem Im.len {S M : Nat} {st n bud : Int} {f : Nat → Option Nat} {W : World} (h : Im S M st n bud f W) (ty : TypeId) :
    (Builtin.len_ #[68] ty #[.map (some M)]).run Try.prog W = .ok (.int .i64 (heldN f 0 4096)) W := by
  obtain ⟨D, hown, hsz, _⟩ := h.map
  rw [hown.len Try.underlying68 ty, hsz]

section
variable {ops : Array Oper} {rest : List Oper} {o : Oper} {a : Act} {Q : Exit → Act → World → Prop}
theorem wpList_delete_im (w : World) (hg : o.guard = none) (m x : Operand) (hop : o.op = Op.call { callee := Callee.builtin Builtin.delete, args := #[m, x], argTypes := #[68, 3] })
    {S M : Nat} {st n bud : Int} {f : Nat → Option Nat} (h : Im S M st n bud f w) (k : Nat) (hk : k < 4096) (hm : a.eval m = .map (some M)) (hx : a.eval x = .int .i64 k)
    (hK : ∀ w', Im S M st n bud (upd f k none) w' → w.mapTurned w' M → wpList Try.prog ops Q rest (a.put o.dst (.tuple #[])) w') :
    wpList Try.prog ops Q (o :: rest) a w := by
  refine wpList_plain hg fun K' hK' => ?_
  obtain ⟨w', hrun, r1, r2⟩ := h.del k hk o.type
  unfold Oper.wp
  simp [execOp, hop, resolve, invoke, builtin, hm, hx, hrun, Result.andThen]
  exact hK' _ _ (hK w' r1 r2)
theorem wpList_put_im (w : World) (hg : o.guard = none) (m x v : Operand) (hop : o.op = Op.mapUpdate 68 m x v)
    {S M : Nat} {st n bud : Int} {f : Nat → Option Nat} (h : Im S M st n bud f w) (k b : Nat) (hk : k < 4096) (hm : a.eval m = .map (some M)) (hx : a.eval x = .int .i64 k) (hv : a.eval v = .pointer (some ⟨b, 0, none⟩))
    (hK : ∀ w', Im S M st n bud (upd f k (some b)) w' → w.mapTurned w' M → wpList Try.prog ops Q rest (a.put o.dst undef) w') :
    wpList Try.prog ops Q (o :: rest) a w := by
  refine wpList_plain hg fun K' hK' => ?_
  obtain ⟨w', hrun, r1, r2⟩ := h.put k b hk
  unfold Oper.wp
  simp [execOp, hop, hm, hx, hv, hrun, Result.andThen]
  exact hK' _ _ (hK w' r1 r2)
theorem wpList_len_im (w : World) (hg : o.guard = none) (m : Operand) (hop : o.op = Op.call { callee := Callee.builtin Builtin.len, args := #[m], argTypes := #[68] })
    {S M : Nat} {st n bud : Int} {f : Nat → Option Nat} (h : Im S M st n bud f w) (hm : a.eval m = .map (some M))
    (hK : wpList Try.prog ops Q rest (a.put o.dst (.int .i64 (heldN f 0 4096))) w) :
    wpList Try.prog ops Q (o :: rest) a w := by
  refine wpList_plain hg fun K' hK' => ?_
  unfold Oper.wp
  simp [execOp, hop, resolve, invoke, builtin, hm, h.len o.type, Result.andThen]
  exact hK' _ _ hK
end
end Go.Proofs.Ytamfbplchblkbaa
