import Derived.Test.YtcefihmnnndleaaDoorBytes
import Derived.Test.YtcefihmnnndleaaDoorInts
import Derived.Test.YtcefihmnnndleaaDoorRsA
import Derived.Deep.MidRow
namespace Go.Proofs.YtcefihmnnndleaaDoor
open Go.ChangeShapes Go.WideShapes Go.ChangeAt Go.RowKit
set_option linter.unusedVariables false
set_option maxRecDepth 20000
set_option linter.unusedSimpArgs false

theorem al_size (w : World) (o : Obj) : (w.alloc o).heap.size = w.heap.size + 1 := by simp
theorem below_trans {a : Nat} {w W W' : World} (h : Below a w W) (k : Below W.heap.size W W') (ha : a ≤ W.heap.size) : Below a w W' :=
  ⟨k.os.trans h.os, k.tape.trans h.tape, k.output.trans h.output, Nat.le_trans h.size k.size, fun g hg => (k.block g (by omega)).trans (h.block g hg)⟩
theorem range_below {w W : World} {b o : Nat} {cs : List Value} (h : w.rangeAt b o cs) (hb : Below w.heap.size w W) : W.rangeAt b o cs := fun j v hv => below_cell hb (h j v hv)
theorem load_mid_at {o : Oper} {a : Act} {w : World} {ty : TypeId} {x : Operand} (ho : o.op = .load ty x) (g i : Nat) (hx : a.eval x = .pointer (some ⟨g, i, none⟩)) {cs : Array Value} (hl : (loadVar ty ⟨g, i, none⟩).run Tryd.prog w = .ok (.agg cs) w) : (execOp a.eval o).run Tryd.prog w = .ok (.value (.agg cs)) w := by
  unfold execOp
  simp only [ho, hx, Instr.loadAt, Instr.sureAddr, Sem.run_bind, Sem.run_pure, Result.andThen_ok, hl]
/-- the bytes of an operation as numbers -/
def dI (l : List Nat) : List Int := l.map (fun n : Nat => (n : Int))
theorem dI_len (l : List Nat) : (dI l).length = l.length := by simp [dI]
theorem dv8_Ns (l : List Nat) : dv8 l = Ns .u8 (dI l) := by simp [dv8, Ns, dI]
theorem iv_Ns (l : List Int) : iv l = Ns .i64 l := rfl
/-- a slice of bytes that reads as data -/
def Bs (w : World) (u : Value) (data : List Int) : Prop := ∃ a c, u = .slice a data.length c ∧ ∀ i, i < data.length → ∃ g, a = some ⟨g, 0, none⟩ ∧ w.cell? ⟨g, i, none⟩ = some (.int .u8 (data[i]?.getD 0))
theorem Bs.below {w W : World} {u : Value} {data : List Int} (h : Bs w u data) (hb : Below w.heap.size w W) : Bs W u data := by
  obtain ⟨a, c, e, h1⟩ := h
  exact ⟨a, c, e, fun i hi => by obtain ⟨g, e1, e2⟩ := h1 i hi; exact ⟨g, e1, below_cell hb e2⟩⟩
/-- a slice of numbers that reads as os -/
def Zs (w : World) (u : Value) (os : List Int) : Prop := ∃ a c, u = .slice a os.length c ∧ ∀ i, i < os.length → ∃ g, a = some ⟨g, 0, none⟩ ∧ w.cell? ⟨g, i, none⟩ = some (.int .i64 (os[i]?.getD 0))
theorem Zs.below {w W : World} {u : Value} {data : List Int} (h : Zs w u data) (hb : Below w.heap.size w W) : Zs W u data := by
  obtain ⟨a, c, e, h1⟩ := h
  exact ⟨a, c, e, fun i hi => by obtain ⟨g, e1, e2⟩ := h1 i hi; exact ⟨g, e1, below_cell hb e2⟩⟩
/-- a slice of operations that reads as ops -/
def Os (w : World) (v : Value) (ops : List OpS) : Prop := ∃ a c, v = .slice a ops.length c ∧ ∀ k o, ops[k]? = some o → ∃ g u, a = some ⟨g, 0, none⟩ ∧ w.rangeAt g (k * 6) (opC o u) ∧ Bs w u (dI o.data)
theorem Os.below {w W : World} {v : Value} {ops : List OpS} (h : Os w v ops) (hb : Below w.heap.size w W) : Os W v ops := by
  obtain ⟨a, c, e, h1⟩ := h
  exact ⟨a, c, e, fun k r hr => by obtain ⟨g, u, e1, e2, e3⟩ := h1 k r hr; exact ⟨g, u, e1, range_below e2 hb, e3.below hb⟩⟩
theorem bs_own {W : World} {B : Nat} {u : Value} {l : List Nat} (h : W.ownsRow B 5 1 u l.length (dv8 l)) : Bs W u (dI l) := by
  rcases h.2 with ⟨e, h0⟩ | ⟨g, cap, cur, e, _⟩
  · have : l = [] := List.eq_nil_of_length_eq_zero (by simpa using h0)
    subst this
    exact ⟨none, 0, e, fun i hi => by simp [dI] at hi⟩
  · subst e
    have r := RowV.ofOwns h
    rw [dv8_Ns] at r
    exact ⟨some ⟨g, 0, none⟩, cap, by rw [dI_len], slByR r rfl⟩
theorem zs_own {W : World} {B : Nat} {u : Value} {l : List Int} (h : W.ownsRow B 3 1 u l.length (iv l)) : Zs W u l := by
  rcases h.2 with ⟨e, h0⟩ | ⟨g, cap, cur, e, _⟩
  · have : l = [] := List.eq_nil_of_length_eq_zero (by simpa using h0)
    subst this
    exact ⟨none, 0, e, fun i hi => by simp at hi⟩
  · subst e
    have r := RowV.ofOwns h
    rw [iv_Ns] at r
    exact ⟨some ⟨g, 0, none⟩, cap, rfl, slInR r rfl⟩
theorem flatP_at : ∀ (ps : List (OpS × Value)) (k : Nat) (p : OpS × Value), ps[k]? = some p → ∀ j v, (opC p.1 p.2)[j]? = some v → (flatP ps)[k * 6 + j]? = some v
  | [], k, p, h => by simp at h
  | q :: r, 0, p, h => by
    simp at h
    subst h
    intro j v hv
    have hj := (List.getElem?_eq_some_iff.1 hv).1
    rw [show flatP (q :: r) = opC q.1 q.2 ++ flatP r from rfl, List.getElem?_append_left (by simpa using hj)]
    simpa using hv
  | q :: r, k + 1, p, h => by
    intro j v hv
    have ih := flatP_at r k p (by simpa using h) j v hv
    rw [show flatP (q :: r) = opC q.1 q.2 ++ flatP r from rfl, List.getElem?_append_right (by simp [opC]; omega)]
    rw [show (k + 1) * 6 + j - (opC q.1 q.2).length = k * 6 + j by simp [opC]; omega]
    exact ih
theorem flatP_len : ∀ (ps : List (OpS × Value)), (flatP ps).length = ps.length * 6
  | [] => rfl
  | q :: r => by
    rw [show flatP (q :: r) = opC q.1 q.2 ++ flatP r from rfl, List.length_append, flatP_len r]
    simp [opC]; omega
theorem os_own {W : World} {B : Nat} {v : Value} {ps : List (OpS × Value)} (h : W.ownsRow B 45 6 v ps.length (flatP ps)) (hd : ∀ p ∈ ps, W.ownsRow B 5 1 p.2 p.1.data.length (dv8 p.1.data)) : Os W v (ps.map (·.1)) := by
  rcases h.2 with ⟨e, h0⟩ | ⟨g, cap, cur, e, _, h1, h2, h3, h4, h5⟩
  · have : ps = [] := List.eq_nil_of_length_eq_zero (by simpa using h0)
    subst this
    exact ⟨none, 0, e, fun k o ho => by simp at ho⟩
  · subst e
    refine ⟨some ⟨g, 0, none⟩, cap, by simp, fun k o ho => ?_⟩
    obtain ⟨p, hp, rfl⟩ : ∃ p, ps[k]? = some p ∧ p.1 = o := by simpa [List.getElem?_map] using ho
    refine ⟨g, p.2, rfl, fun j u hu => ?_, bs_own (hd p (List.mem_of_getElem? hp))⟩
    have e1 := flatP_at ps k p hp j u hu
    have hl := (List.getElem?_eq_some_iff.1 e1).1
    rw [← h5] at e1
    rw [flatP_len] at hl
    rw [List.getElem?_take_of_lt hl, Array.getElem?_toList] at e1
    rw [cell_of_row _ _ _ _ _ _ h1]
    exact e1

set_option maxHeartbeats 1000000 in
theorem eqCf (c : CfS) (u1 u2 : Value) (w : World) (h1 : Zs w u1 c.draws) (h2 : Zs w u2 c.draws) (hl : c.draws.length ≤ 1048576) :
    Calls Tryd.prog 7 #[.agg (cfC c u1).toArray, .agg (cfC c u2).toArray] w fun e w' => e = .returned (.bool true) ∧ Below w.heap.size w w' := by
  have B0 := hid (((Below.refl w.heap.size w).alloc (Nat.le_refl _) (.cells (cfC c u1).toArray 26)).alloc (by rw [al_size]; omega) (.cells (cfC c u2).toArray 26))
  obtain ⟨a, ca, e1, h3⟩ := h1.below B0.out
  obtain ⟨b, cb, e2, h4⟩ := h2.below B0.out
  subst e1 e2
  have HE := hid (eqIn a b c.draws.length ca cb c.draws _ hl h3 h4)
  unfold cfC at *
  generalize c.draws.length = n at *
  generalize c.mix = x1 at *
  generalize c.fifo = x2 at *
  generalize c.large = x3 at *
  generalize c.budget = x4 at *
  generalize c.key = x5 at *
  clear h3 h4 h1 h2
  go_enter Tryd.func7, Tryd.ntmps7
  go_wp2_with fail
  refine (HE.out).mono ?_
  rintro e w1 ⟨rfl, b1⟩
  have B1 := hid (bl_trans B0.out b1)
  clear b1 B0 HE
  go_wp2
  go_ret
  exact ⟨rfl, B1.out⟩
set_option maxHeartbeats 1000000 in
theorem eqOp (o : OpS) (u1 u2 : Value) (w : World) (h1 : Bs w u1 (dI o.data)) (h2 : Bs w u2 (dI o.data)) (hl : o.data.length ≤ 1048576) :
    Calls Tryd.prog 24 #[.agg (opC o u1).toArray, .agg (opC o u2).toArray] w fun e w' => e = .returned (.bool true) ∧ Below w.heap.size w w' := by
  have B0 := hid (((Below.refl w.heap.size w).alloc (Nat.le_refl _) (.cells (opC o u1).toArray 45)).alloc (by rw [al_size]; omega) (.cells (opC o u2).toArray 45))
  obtain ⟨a, ca, e1, h3⟩ := h1.below B0.out
  obtain ⟨b, cb, e2, h4⟩ := h2.below B0.out
  subst e1 e2
  have HE := hid (eqBy a b (dI o.data).length ca cb (dI o.data) _ (by rw [dI_len]; exact hl) h3 h4)
  unfold opC at *
  generalize (dI o.data).length = n at *
  generalize o.kind = x1 at *
  generalize o.ref = x2 at *
  generalize o.p = x3 at *
  generalize o.a = x4 at *
  generalize o.b = x5 at *
  clear h3 h4 h1 h2
  go_enter Tryd.func24, Tryd.ntmps24
  go_wp2_with fail
  refine (HE.out).mono ?_
  rintro e w1 ⟨rfl, b1⟩
  have B1 := hid (bl_trans B0.out b1)
  clear b1 B0 HE
  go_wp2
  go_ret
  exact ⟨rfl, B1.out⟩
set_option maxHeartbeats 4000000 in
theorem eqOs (v1 v2 : Value) (ops : List OpS) (w : World) (h1 : Os w v1 ops) (h2 : Os w v2 ops) (hn : ops.length ≤ 1048576) (hl : ∀ o ∈ ops, o.data.length ≤ 1048576) :
    Calls Tryd.prog 8 #[v1, v2] w fun e w' => e = .returned (.bool true) ∧ Below w.heap.size w w' := by
  obtain ⟨a, ca, rfl, h3⟩ := h1
  obtain ⟨b, cb, rfl, h4⟩ := h2
  obtain ⟨n, hn'⟩ : ∃ n, ops.length = n := ⟨_, rfl⟩
  rw [hn'] at hn ⊢
  have H3 := hid h3
  have H4 := hid h4
  have HL := hid hl
  have HN := hid hn'
  clear h3 h4 hl hn'
  go_enter Tryd.func8, Tryd.ntmps8
  go_wp2
  go_loopw [5] (fun i wr => ∃ (k : Nat), k ≤ n ∧ i = .int .i64 k ∧ Hid (Below w.heap.size w wr)) (fun i _ => n - (intOf i).toNat)
  case atStart => exact ⟨0, Nat.zero_le _, rfl, hid (Below.refl _ _)⟩
  case round =>
    obtain ⟨k, hk, rfl, HB⟩ := hrel
    by_cases hlt : k < n
    · obtain ⟨o, ho⟩ : ∃ o, ops[k]? = some o := ⟨_, List.getElem?_eq_getElem (by have := HN.out; omega)⟩
      obtain ⟨g1, x1, rfl, r1, b1⟩ := H3.out k o ho
      obtain ⟨g2, x2, rfl, r2, b2⟩ := H4.out k o ho
      have RA := hid (range_below r1 HB.out.drew)
      have RB := hid (range_below r2 HB.out.drew)
      have HE := hid (eqOp o x1 x2 wr.drew (b1.below HB.out.drew) (b2.below HB.out.drew) (HL.out o (List.mem_of_getElem? ho)))
      clear r1 r2 b1 b2 ho
      go_wp2
      refine wp_region_held (S := fun W => Hid (W.rangeAt g1 (k * 6) (opC o x1)) ∧ Hid (W.rangeAt g2 (k * 6) (opC o x2))) (by kernel_rfl) ?_
      simp only [List.size_toArray, List.length_cons, List.length_nil, Nat.reduceAdd, Array.replicate_succ, Array.replicate_zero, List.push_toArray, List.nil_append, List.cons_append]
      have hS : Hid (wr.drew.rangeAt g1 (k * 6) (opC o x1)) ∧ Hid (wr.drew.rangeAt g2 (k * 6) (opC o x2)) := ⟨RA, RB⟩
      refine wpAnyH_put (i := 0) (d := 17) (v := .slice (some ⟨g1, 0, none⟩) n ca) rfl (by kernel_rfl) (by kernel_rfl) (by kernel_rfl) (by kernel_rfl) (fun _ _ _ h => h) (Or.inl ⟨by kernel_rfl, fun _ _ => by kernel_rfl⟩) hS ?_
      simp only [List.setIfInBounds_toArray, List.set_cons_zero, List.set_cons_succ]
      refine wpAnyH_put (i := 1) (d := 18) (v := .int .i64 k) rfl (by kernel_rfl) (by kernel_rfl) (by kernel_rfl) (by kernel_rfl) (fun _ _ _ h => h) (Or.inl ⟨by kernel_rfl, fun _ _ => by kernel_rfl⟩) hS ?_
      simp only [List.setIfInBounds_toArray, List.set_cons_zero, List.set_cons_succ]
      refine wpAnyH_put (i := 2) (d := 19) (v := .pointer (some ⟨g1, k * 6, none⟩)) rfl (by kernel_rfl) (by kernel_rfl) (by kernel_rfl) (by kernel_rfl) (fun _ _ _ h => h) (Or.inl ⟨by kernel_rfl, fun W _ => by first | (go_simp; done) | (go_simp; omega)⟩) hS ?_
      simp only [List.setIfInBounds_toArray, List.set_cons_zero, List.set_cons_succ]
      refine wpAnyH_put (i := 3) (d := 20) (v := .agg (opC o x1).toArray) rfl (by kernel_rfl) (by kernel_rfl) (by kernel_rfl) (by kernel_rfl) (fun _ _ _ h => h) (Or.inl ⟨by kernel_rfl, fun W hS => load_mid_at rfl g1 (k * 6) (by rfl) (run_loadVar_mid W g1 (k * 6) 45 _ _ hS.1.out Tryd.underlying45 rfl (by kernel_rfl))⟩) hS ?_
      simp only [List.setIfInBounds_toArray, List.set_cons_zero, List.set_cons_succ]
      refine wpAnyH_put (i := 4) (d := 21) (v := .slice (some ⟨g2, 0, none⟩) n cb) rfl (by kernel_rfl) (by kernel_rfl) (by kernel_rfl) (by kernel_rfl) (fun _ _ _ h => h) (Or.inl ⟨by kernel_rfl, fun _ _ => by kernel_rfl⟩) hS ?_
      simp only [List.setIfInBounds_toArray, List.set_cons_zero, List.set_cons_succ]
      refine wpAnyH_put (i := 5) (d := 22) (v := .int .i64 k) rfl (by kernel_rfl) (by kernel_rfl) (by kernel_rfl) (by kernel_rfl) (fun _ _ _ h => h) (Or.inl ⟨by kernel_rfl, fun _ _ => by kernel_rfl⟩) hS ?_
      simp only [List.setIfInBounds_toArray, List.set_cons_zero, List.set_cons_succ]
      refine wpAnyH_put (i := 6) (d := 23) (v := .pointer (some ⟨g2, k * 6, none⟩)) rfl (by kernel_rfl) (by kernel_rfl) (by kernel_rfl) (by kernel_rfl) (fun _ _ _ h => h) (Or.inl ⟨by kernel_rfl, fun W _ => by first | (go_simp; done) | (go_simp; omega)⟩) hS ?_
      simp only [List.setIfInBounds_toArray, List.set_cons_zero, List.set_cons_succ]
      refine wpAnyH_put (i := 7) (d := 24) (v := .agg (opC o x2).toArray) rfl (by kernel_rfl) (by kernel_rfl) (by kernel_rfl) (by kernel_rfl) (fun _ _ _ h => h) (Or.inl ⟨by kernel_rfl, fun W hS => load_mid_at rfl g2 (k * 6) (by rfl) (run_loadVar_mid W g2 (k * 6) 45 _ _ hS.2.out Tryd.underlying45 rfl (by kernel_rfl))⟩) hS ?_
      simp only [List.setIfInBounds_toArray, List.set_cons_zero, List.set_cons_succ]
      refine wpAnyH_one (r := 8) (by kernel_rfl) ?_
      refine wpOp_do rfl (by kernel_rfl) (fun K' hK => ?_)
      go_simp
      refine (HE.out).mono ?_
      rintro e w3 ⟨rfl, b3⟩
      have hS3 : Hid (w3.rangeAt g1 (k * 6) (opC o x1)) ∧ Hid (w3.rangeAt g2 (k * 6) (opC o x2)) := ⟨hid (range_below RA.out b3), hid (range_below RB.out b3)⟩
      have B3 := hid (below_trans HB.out.drew b3 HB.out.size)
      clear b3 hS
      refine hK.out _ _ ⟨hS3, ?_⟩
      clear hK K'
      simp only [List.setIfInBounds_toArray, List.set_cons_zero, List.set_cons_succ]
      refine wpAnyH_put (i := 9) (d := 26) (v := .bool false) rfl (by kernel_rfl) (by kernel_rfl) (by kernel_rfl) (by kernel_rfl) (fun _ _ _ h => h) (Or.inl ⟨by kernel_rfl, fun _ _ => by kernel_rfl⟩) hS3 ?_
      simp only [List.setIfInBounds_toArray, List.set_cons_zero, List.set_cons_succ]
      refine wpAnyH_done (by kernel_rfl) ?_ _
      go_wp2
      go_roundw
      case rel => exact ⟨k + 1, by omega, by go_num, B3⟩
      case measure => simp [intOf]; omega
    · go_wp2
      go_ret
      exact ⟨rfl, HB.out⟩
end Go.Proofs.YtcefihmnnndleaaDoor
