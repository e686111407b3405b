import Derived.Test.YtiddopgeomojbaaMm
import Derived.Laws.OwnMore
namespace Go.Proofs.Ytiddopgeomojbaa
open Go.RowKit Go.Shelf Go.Maps
set_option linter.unusedVariables false

/-- an operation whose bytes can be read -/
structure Dt9 (W : World) (o : Op9) : Prop where
  a : o.a < 18446744073709551616
  p : o.p ≤ 9223372036854775807
  l : o.dl ≤ o.dc
  y : o.ys.length = o.dl
  d : ∀ i, i < o.dl → ∃ x, o.d = some x ∧ W.cell? (x.add i) = some (.int .u8 (o.ys[i]?.getD 0)) ∧ (x.add i).block < W.heap.size
theorem Dt9.below {W W' : World} {o : Op9} (h : Dt9 W o) {B : Nat} (hb : Below B W W') (hB : ∀ i, i < o.dl → ∀ x, o.d = some x → (x.add i).block < B) : Dt9 W' o :=
  ⟨h.a, h.p, h.l, h.y, fun i hi => by
    obtain ⟨x, e1, e2, e3⟩ := h.d i hi
    refine ⟨x, e1, ?_, Nat.lt_of_lt_of_le e3 hb.size⟩
    rw [hb.cell (hB i hi x e1)]
    exact e2⟩
theorem Dt9.up {W W' : World} {o : Op9} (h : Dt9 W o) (hb : Below W.heap.size W W') : Dt9 W' o :=
  h.below hb (fun i hi x e => by obtain ⟨y, e1, _, e3⟩ := h.d i hi; rw [e] at e1; cases e1; exact e3)
theorem Od.dt {B : Nat} {o : Op9} {W : World} (h : Od B o W) : Dt9 W o := by
  have hl : o.ys.length = o.dl := by have := h.d.1; simpa [Ns] using this
  refine ⟨h.a, h.p, ?_, hl, fun i hi => ?_⟩
  · rcases h.d.2 with ⟨e, h0⟩ | ⟨g, cap, cur, e, hg, h1, h2, h3, h4, h5⟩
    · omega
    · simp at e
      omega
  · rcases h.d.2 with ⟨e, h0⟩ | ⟨g, cap, cur, e, hg, h1, h2, h3, h4, h5⟩
    · omega
    · have hr := RowV.ofOwns (g := g) (n := o.dl) (cap := cap) (base := B) (xs := Ns .u8 o.ys) ⟨h.d.1, .inr ⟨g, cap, cur, rfl, hg, h1, h2, h3, h4, h5⟩⟩
      simp at e
      refine ⟨⟨g, 0, none⟩, e.1, ?_, ?_⟩
      · rw [Addr.add_mid, Nat.zero_add]
        exact cell_n hr i (by omega)
      · rw [Addr.add_mid]; exact hr.lt

theorem flatO_at {ops : List Op9} {i : Nat} {o : Op9} (h : ops[i]? = some o) (j : Nat) (hj : j < 6) : (flatO ops)[i * 6 + j]? = (opC o)[j]? := by
  induction ops generalizing i with
  | nil => simp at h
  | cons x r ih =>
    have e : flatO (x :: r) = opC x ++ flatO r := by simp [flatO]
    have hl : (opC x).length = 6 := rfl
    cases i with
    | zero =>
      simp at h
      subst h
      rw [e, Nat.zero_mul, Nat.zero_add, List.getElem?_append_left (by rw [hl]; exact hj)]
    | succ i =>
      simp at h
      rw [e, List.getElem?_append_right (by rw [hl]; omega), hl, show (i + 1) * 6 + j - 6 = i * 6 + j by omega]
      exact ih h

/-- a slice of operations -/
structure Lo (W : World) (v : Value) (ops : List Op9) : Prop where
  row : ∃ B, W.ownsRow B 34 6 v ops.length (flatO ops)
  dat : ∀ o ∈ ops, Dt9 W o
theorem own_up {W W' : World} {B : Nat} {e : TypeId} {sz : Nat} {v : Value} {n : Nat} {xs : List Value} (h : W.ownsRow B e sz v n xs) (hb : Below W.heap.size W W') : W'.ownsRow B e sz v n xs :=
  h.kept (below_none hb) (by
    cases hv : v.ownBlock with
    | none => exact .inl rfl
    | some x => exact .inr (by simp))
theorem Lo.below {W W' : World} {v : Value} {ops : List Op9} (h : Lo W v ops) (hb : Below W.heap.size W W') : Lo W' v ops := by
  obtain ⟨B, hr⟩ := h.row
  exact ⟨⟨B, own_up hr hb⟩, fun o ho => (h.dat o ho).up hb⟩
theorem Dr.lo {B : Nat} {v : Value} {ops : List Op9} {W : World} (h : Dr B v ops W) : Lo W v ops := ⟨⟨B, h.row⟩, fun o ho => (h.dat o ho).dt⟩
theorem Lo.oi {W : World} {v : Value} {ops : List Op9} (h : Lo W v ops) : ∃ d cap G, v = .slice d ops.length cap ∧ (0 < ops.length → d = some ⟨G, 0, none⟩) ∧ Oi W G ops := by
  obtain ⟨B, h1, h2⟩ := h.row
  have dat : ∀ o ∈ ops, o.a < 18446744073709551616 ∧ o.ys.length = o.dl ∧ ∀ i, i < o.dl → ∃ x, o.d = some x ∧ W.cell? (x.add i) = some (.int .u8 (o.ys[i]?.getD 0)) ∧ (x.add i).block < W.heap.size := fun o ho => ⟨(h.dat o ho).a, (h.dat o ho).y, (h.dat o ho).d⟩
  rcases h2 with ⟨e, h0⟩ | ⟨g, cap, cur, e, hg, hh, h3, h4, h5, h6⟩
  · obtain rfl : ops = [] := List.eq_nil_of_length_eq_zero h0
    exact ⟨none, 0, 0, e, fun h => by simp at h, ⟨fun h => absurd rfl h, dat⟩⟩
  · refine ⟨_, cap, g, e, fun _ => rfl, ⟨fun _ => ⟨cur, (0, 0), hh, fun i o ho => ?_⟩, dat⟩⟩
    have hi := (List.getElem?_eq_some_iff.1 ho).1
    have key : ∀ j, j < 6 → cur[i * 6 + j]? = (opC o)[j]? := fun j hj => by
      rw [← flatO_at ho j hj, ← h6, List.getElem?_take_of_lt (by omega), Array.getElem?_toList]
    exact ⟨key 0 (by omega), key 1 (by omega), key 2 (by omega), key 3 (by omega), key 4 (by omega), key 5 (by omega)⟩
/-- a run's report, read -/
def Rq (W : World) (nn : Nat) (bud : Int) (ops : List Op9) (e : Ending) (W' : World) : Prop :=
  ∃ a c b c', e = .returned (.agg #[.bool true, .slice a ops.length c, .int .i64 (cntM (runM nn bud ops ops.length).1 nn : Nat), .slice b (opensM (runM nn bud ops ops.length).1 nn).length c']) ∧ As W' (.slice a ops.length c) (runM nn bud ops ops.length).2 ∧ Zs W' (.slice b (opensM (runM nn bud ops ops.length).1 nn).length c') (opensM (runM nn bud ops ops.length).1 nn) ∧ Below W.heap.size W W'
theorem Rep.rq {W W' : World} {nn : Nat} {bud : Int} {ops : List Op9} {r : Value} (h : Rep W (runM nn bud ops ops.length).2 (cntM (runM nn bud ops ops.length).1 nn) (opensM (runM nn bud ops ops.length).1 nn) r W') : Rq W nn bud ops (.returned r) W' := by
  obtain ⟨l, v, vo, rfl, hl, h1, h2, _, h3, h4⟩ := h
  obtain ⟨v', vo', e, ha, hz⟩ := rr_own (ok := true) (cm := 0) h1 h2 h3
  simp at e
  obtain ⟨rfl, rfl⟩ := e
  rw [hl] at ha
  obtain ⟨a, c, rfl, ha'⟩ := ha
  obtain ⟨b, c', rfl, hz'⟩ := hz
  have hlen := runM_len nn bud ops ops.length (Nat.le_refl _)
  refine ⟨a, c, b, c', by rw [hlen], ⟨a, c, by rw [hlen], ha'⟩, ⟨b, c', rfl, hz'⟩, h4⟩
theorem Lo.run6 {W : World} {v : Value} {ops : List Op9} (h : Lo W v ops) (nn : Nat) (bud : Int) (h1 : nn ≤ 4096) (h2 : 0 ≤ bud) (h3 : ops.length ≤ 400) :
    Calls Try.prog 6 #[.int .i64 nn, .int .i64 bud, v] W fun e W' => Rq W nn bud ops e W' := by
  obtain ⟨d, cap, G, rfl, hd, hO⟩ := h.oi
  refine (im_run nn bud G _ cap d ops W rfl hd hO (fun o ho => ⟨(h.dat o ho).p, (h.dat o ho).l⟩) h1 h2 h3).mono ?_
  rintro e W' ⟨r, rfl, hr⟩
  exact hr.rq
theorem Lo.run7 {W : World} {v : Value} {ops : List Op9} (h : Lo W v ops) (nn : Nat) (bud : Int) (h1 : nn ≤ 4096) (h2 : 0 ≤ bud) (h3 : ops.length ≤ 400) :
    Calls Try.prog 7 #[.int .i64 nn, .int .i64 bud, v] W fun e W' => Rq W nn bud ops e W' := by
  obtain ⟨d, cap, G, rfl, hd, hO⟩ := h.oi
  refine (sp_run nn bud G _ cap d ops W rfl hd hO h1 h2 h3).mono ?_
  rintro e W' ⟨r, rfl, hr⟩
  exact hr.rq
/-- those that were answered by 0 -/
theorem okL_zero (nn : Nat) (bud : Int) (ops : List Op9) : ∀ k, ∀ r ∈ (okL nn bud ops k).2, r.1 = 0
  | 0 => fun r hr => by cases hr
  | k + 1 => fun r hr => by
    simp only [okL] at hr
    cases ho : ops[k]? with
    | none => rw [ho] at hr; exact okL_zero nn bud ops k r hr
    | some o =>
      rw [ho] at hr
      dsimp only at hr
      split at hr
      · rename_i h0
        dsimp only at hr
        rcases List.mem_append.1 hr with hr | hr
        · exact okL_zero nn bud ops k r hr
        · simp at hr
          rw [hr]
          exact h0
      · exact okL_zero nn bud ops k r hr
theorem okL_len (nn : Nat) (bud : Int) (ops : List Op9) : ∀ k, (okL nn bud ops k).1.length ≤ k ∧ (okL nn bud ops k).2.length = (okL nn bud ops k).1.length ∧ ∀ o ∈ (okL nn bud ops k).1, o ∈ ops
  | 0 => ⟨Nat.le_refl _, rfl, fun o ho => by cases ho⟩
  | k + 1 => by
    obtain ⟨h1, h2, h3⟩ := okL_len nn bud ops k
    simp only [okL]
    cases ho : ops[k]? with
    | none => exact ⟨Nat.le_succ_of_le h1, h2, h3⟩
    | some o =>
      dsimp only
      split
      · refine ⟨by simp; omega, by simp [h2], fun x hx => ?_⟩
        rcases List.mem_append.1 hx with hx | hx
        · exact h3 x hx
        · simp at hx
          rw [hx]
          exact List.mem_of_getElem? ho
      · exact ⟨by omega, h2, h3⟩
theorem runM_get (nn : Nat) (bud : Int) (ops : List Op9) (i : Nat) (o : Op9) (ho : ops[i]? = some o) : ∀ k, i < k → k ≤ ops.length → (runM nn bud ops k).2[i]? = some (stepM nn bud (runM nn bud ops i).1 o.kd o.p o.c o.a o.n o.ys).2
  | 0, h, _ => by omega
  | k + 1, h, hk => by
    have hl := runM_len nn bud ops k (by omega)
    obtain ⟨x, hx⟩ : ∃ x, ops[k]? = some x := ⟨_, List.getElem?_eq_getElem (by omega)⟩
    rw [runM_succ nn bud ops k x hx]
    dsimp only
    by_cases e : i = k
    · subst e
      rw [ho] at hx
      cases hx
      rw [List.getElem?_append_right (by omega), hl, Nat.sub_self]
      rfl
    · rw [List.getElem?_append_left (by omega)]
      exact runM_get nn bud ops i o ho k (by omega) (by omega)
theorem okL_yes (nn : Nat) (bud : Int) (ops : List Op9) (k : Nat) (o : Op9) (ho : ops[k]? = some o) (h : (stepM nn bud (runM nn bud ops k).1 o.kd o.p o.c o.a o.n o.ys).2.1 = 0) : okL nn bud ops (k + 1) = ((okL nn bud ops k).1 ++ [o], (okL nn bud ops k).2 ++ [(stepM nn bud (runM nn bud ops k).1 o.kd o.p o.c o.a o.n o.ys).2]) := by
  simp only [okL, ho, h, if_true]
theorem okL_no (nn : Nat) (bud : Int) (ops : List Op9) (k : Nat) (o : Op9) (ho : ops[k]? = some o) (h : (stepM nn bud (runM nn bud ops k).1 o.kd o.p o.c o.a o.n o.ys).2.1 ≠ 0) : okL nn bud ops (k + 1) = okL nn bud ops k := by
  simp only [okL, ho, h, if_false]
end Go.Proofs.Ytiddopgeomojbaa

namespace Go.Proofs.Ytiddopgeomojbaa
open Go.ChangeShapes Go.WideShapes Go.ChangeAt Go.RowKit Go.Shelf Go.Maps
set_option linter.unusedVariables false

theorem wpList_app {t : TypeId} {ops : Array Oper} {rest : List Oper} {o : Oper} {a : Act} {w : World} {Q : Exit → Act → World → Prop} (hgd : o.guard = none) (s x : Operand)
    (ho : o.op = .call { callee := .builtin .append, args := #[s, x], argTypes := #[t, t] }) (ht : o.type = t) {v v2 v' : Value} {w' : World} (hs : a.eval s = v) (hx : a.eval x = v2)
    (hr : (Builtin.append_ #[t, t] t #[v, v2]).run Try.prog w = .ok v' w') (h : wpList Try.prog ops Q rest (a.put o.dst v') w') : wpList Try.prog ops Q (o :: rest) a w := by
  refine wpList_plain hgd fun K hK => ?_
  unfold Oper.wp
  simp [execOp, ho, ht, resolve, invoke, builtin, hs, hx, hr, Result.andThen]
  exact hK _ _ h

theorem app5 (W : World) (B : Nat) (v : Value) (n : Nat) (ys : List Int) (hown : W.ownsRow B 5 1 v n (Ns .u8 ys)) (a : Option Addr) (m c : Nat) (zs : List Int) (hr : IsRow .u8 W a m c zs) (hm : n + m ≤ 2000000) (hB : B ≤ W.heap.size) :
    ∃ v' w', (Builtin.append_ #[22, 22] 22 #[v, .slice a m c]).run Try.prog W = .ok v' w' ∧ w'.ownsRow B 5 1 v' (n + m) (Ns .u8 (ys ++ zs.take m)) ∧ W.grownBy w' v.ownBlock := by
  obtain ⟨i0, hi0, hz0, hz1, hz2⟩ := info_parts Try.info5By
  rcases hr with ⟨rfl, rfl, rfl, rfl⟩ | ⟨x, rfl, h2, h3, h4, h5, h6⟩
  · refine ⟨v, W, run_append_owned_none (P := Try.prog) (w := W) B 22 22 5 i0 1 Try.underlying22 hi0 v n _ hown, by simpa using hown, ⟨rfl, rfl, rfl, Nat.le_refl _, fun _ _ _ => rfl⟩⟩
  · have hl : (zs.take m).length = m := by simp; omega
    have hnw : ∀ j u, (Ns .u8 (zs.take m))[j]? = some u → W.cell? (x.add j) = some u := fun j u hj => by
      have hj' := (List.getElem?_eq_some_iff.1 hj).1
      rw [Ns_len, hl] at hj'
      have hjz : j < zs.length := by omega
      rw [h5 j hjz]
      simp [Ns, hj', hjz] at hj ⊢
      exact hj
    have h1 : ∀ u ∈ Ns .u8 (zs.take m), u.oneCell' = true := fun u hu => by
      simp only [Ns, List.mem_map] at hu
      obtain ⟨_, _, rfl⟩ := hu
      rfl
    obtain ⟨v', w', e1, e2, e3, _⟩ := run_append_own (P := Try.prog) W B 22 22 5 i0 (.int .u8 0) 1 1 Try.underlying22 hi0 hz0 hz1 hz2 rfl (by omega) v n _ hown x m c (Ns .u8 (zs.take m)) (by rw [Ns_len, hl, Nat.mul_one]) hnw h1 (by unfold maxLen; omega) (by omega) hB
    exact ⟨v', w', e1, by simpa [Ns] using e2, e3⟩
theorem flatO_one {ops : List Op9} {u : Value} (h : u ∈ flatO ops) : u.oneCell' = true := by
  simp only [flatO, List.mem_flatMap] at h
  obtain ⟨o, _, ho⟩ := h
  simp only [opC, List.mem_cons, List.not_mem_nil, or_false] at ho
  rcases ho with rfl | rfl | rfl | rfl | rfl | rfl <;> rfl
theorem flatO_len (ops : List Op9) : (flatO ops).length = ops.length * 6 := by
  induction ops with
  | nil => rfl
  | cons o r ih => simp only [flatO, List.flatMap_cons, List.length_append, List.length_cons] at ih ⊢; rw [ih]; simp [opC]; omega
theorem app34 (W : World) (B : Nat) (v : Value) (qs : List Op9) (hown : W.ownsRow B 34 6 v qs.length (flatO qs)) (v2 : Value) (ops : List Op9) {B2 : Nat} (h2 : W.ownsRow B2 34 6 v2 ops.length (flatO ops)) (hm : qs.length + ops.length ≤ 1000) (hB : B ≤ W.heap.size) :
    ∃ v' w', (Builtin.append_ #[23, 23] 23 #[v, v2]).run Try.prog W = .ok v' w' ∧ w'.ownsRow B 34 6 v' (qs.length + ops.length) (flatO (qs ++ ops)) ∧ W.grownBy w' v.ownBlock := by
  obtain ⟨i0, hi0, hz0, hz1, hz2⟩ := info_parts Try.info34
  have hf : flatO (qs ++ ops) = flatO qs ++ flatO ops := by simp [flatO]
  rcases h2.2 with ⟨rfl, h0⟩ | ⟨g, cap, cur, rfl, hg, hh, h3, h4, h5, h6⟩
  · have : ops = [] := List.eq_nil_of_length_eq_zero h0
    subst this
    refine ⟨v, W, run_append_owned_none (P := Try.prog) (w := W) B 23 23 34 i0 6 Try.underlying23 hi0 v _ _ hown, by simpa using hown, ⟨rfl, rfl, rfl, Nat.le_refl _, fun _ _ _ => rfl⟩⟩
  · have hnw : ∀ j u, (flatO ops)[j]? = some u → W.cell? ((⟨g, 0, none⟩ : Addr).add j) = some u := fun j u hj => by
      have hj' := (List.getElem?_eq_some_iff.1 hj).1
      rw [flatO_len] at hj'
      rw [Addr.add_mid, Nat.zero_add, cell_of_row _ _ j _ _ _ hh, ← hj, ← h6, List.getElem?_take_of_lt (by omega), Array.getElem?_toList]
    obtain ⟨v', w', e1, e2, e3, _⟩ := run_append_own (P := Try.prog) W B 23 23 34 i0 _ 6 64 Try.underlying23 hi0 hz0 hz1 hz2 rfl (by omega) v _ _ hown ⟨g, 0, none⟩ ops.length cap (flatO ops) (flatO_len ops) hnw (fun u hu => flatO_one hu) (by unfold maxLen; omega) (by omega) hB
    exact ⟨v', w', e1, by rw [hf]; exact e2, e3⟩
theorem owns_ops (w : World) (qs : List Op9) (hq : qs.length ≤ maxLen) : (w.alloc (.cells (flatO qs).toArray 34)).ownsRow w.heap.size 34 6 (.slice (some ⟨w.heap.size, 0, none⟩) qs.length qs.length) qs.length (flatO qs) := by
  refine ⟨flatO_len qs, .inr ⟨w.heap.size, qs.length, (flatO qs).toArray, rfl, Nat.le_refl _, al_last _ _, Nat.le_refl _, hq, by simp [flatO_len], ?_⟩⟩
  rw [← flatO_len qs]
  simp
theorem lo_below {Wd w6 w7 : World} {v v6 : Value} {ops : List Op9} {O : Obj} (hl : Lo Wd v ops) (b : Below Wd.heap.size Wd w6) (hq : (w6.alloc O).ownsRow Wd.heap.size 34 6 v6 ops.length (flatO ops)) (hg : (w6.alloc O).grownBy w7 v6.ownBlock) : Below Wd.heap.size Wd w7 := by
  have b8 := bl_trans b ((Below.refl _ w6).alloc (Nat.le_refl _) O)
  exact b8.grown hg b8.size (fun r e => (hq.lt r e).1)
theorem lo_more {Wd w6 w7 : World} {v v6 v7 : Value} {ops : List Op9} {ad g yl sc n : Nat} {ys : List Int} {O : Obj} (hl : Lo Wd v ops) (b : Below Wd.heap.size Wd w6) (hq : (w6.alloc O).ownsRow Wd.heap.size 34 6 v6 ops.length (flatO ops))
    (ho : w7.ownsRow Wd.heap.size 34 6 v7 (ops.length + n) (flatO (ops ++ [(⟨5, 0, 0, ad, 0, some ⟨g, 0, none⟩, yl, sc, ys⟩ : Op9), ⟨4, 0, 0, ad, (yl : Nat), none, 0, 0, []⟩]))) (hg : (w6.alloc O).grownBy w7 v6.ownBlock) (hr : RowV Wd g 5 (Ns .u8 ys)) (hy : ys.length = yl) (hc : yl ≤ sc) (hn : n = 2 ∧ ad < 4194304) :
    Lo w7 v7 (ops ++ [(⟨5, 0, 0, ad, 0, some ⟨g, 0, none⟩, yl, sc, ys⟩ : Op9), ⟨4, 0, 0, ad, (yl : Nat), none, 0, 0, []⟩]) := by
  obtain ⟨rfl, had⟩ := hn
  have b7 := lo_below hl b hq hg
  refine ⟨⟨Wd.heap.size, by rw [List.length_append]; exact ho⟩, fun o hx => ?_⟩
  rcases List.mem_append.1 hx with hx | hx
  · exact (hl.dat o hx).up b7
  · simp only [List.mem_cons, List.not_mem_nil, or_false] at hx
    rcases hx with rfl | rfl
    · refine ⟨by dsimp only; omega, by dsimp only; omega, hc, hy, fun i hi => ⟨⟨g, 0, none⟩, rfl, ?_, ?_⟩⟩
      · rw [Addr.add_mid, Nat.zero_add]
        exact cell_n (hr.below b7 hr.lt) i (by dsimp only at hi; omega)
      · rw [Addr.add_mid]; exact (hr.below b7 hr.lt).lt
    · exact ⟨by dsimp only; omega, by dsimp only; omega, Nat.le_refl _, rfl, fun i hi => by dsimp only at hi; omega⟩
/-- the two more operations -/
def op1 (ad g yl sc : Nat) (ys : List Int) : Op9 := ⟨5, 0, 0, ad, 0, some ⟨g, 0, none⟩, yl, sc, ys⟩
def op2 (ad yl : Nat) : Op9 := ⟨4, 0, 0, ad, (yl : Nat), none, 0, 0, []⟩
theorem tail_more (Wd : World) (d : Option Addr) (k cp ad g yl sc : Nat) (ops : List Op9) (ys : List Int) (hl : Lo Wd (.slice d k cp) ops) (hr : RowV Wd g 5 (Ns .u8 ys)) (hy : ys.length = yl) (hc : yl ≤ sc) (had : ad < 4194304) (hk : ops.length = k) (hk4 : k ≤ 400) :
    ∃ (pa : Option Addr) (pc : Nat) (w6 : World) (v7 : Value) (w7 : World), (Builtin.append_ #[23, 23] 23 #[.slice none 0 0, .slice d k cp]).run Try.prog Wd = .ok (.slice pa k pc) w6 ∧
      (Builtin.append_ #[23, 23] 23 #[.slice pa k pc, .slice (some ⟨w6.heap.size, 0, none⟩) 2 2]).run Try.prog (w6.alloc (.cells #[.int .i64 5, .int .i64 0, .int .i64 0, .int .u64 ad, .int .i64 0, .slice (some ⟨g, 0, none⟩) yl sc, .int .i64 4, .int .i64 0, .int .i64 0, .int .u64 ad, .int .i64 (yl : Nat), .slice none 0 0] 34)) = .ok v7 w7 ∧
      Lo w7 v7 (ops ++ [op1 ad g yl sc ys, op2 ad yl]) ∧ Below Wd.heap.size Wd w7 ∧ ∃ sa sc', v7 = .slice sa (k + 2) sc' := by
  obtain ⟨B2, hrow⟩ := hl.row
  obtain ⟨v6, w6, happ6, ho6, hg6⟩ := app34 Wd Wd.heap.size (.slice none 0 0) [] ⟨rfl, .inl ⟨rfl, rfl⟩⟩ (.slice d k cp) ops hrow (by simp; omega) (Nat.le_refl _)
  have P6 : w6.ownsRow Wd.heap.size 34 6 v6 ops.length (flatO ops) := by simpa using ho6
  have B7 := none_below (show Wd.grownBy w6 none from hg6)
  have Q6 := P6.alloc (.cells (flatO [op1 ad g yl sc ys, op2 ad yl]).toArray 34)
  obtain ⟨v7, w7, happ7, ho7, hg7⟩ := app34 _ Wd.heap.size _ ops Q6 _ [op1 ad g yl sc ys, op2 ad yl] (owns_ops w6 [op1 ad g yl sc ys, op2 ad yl] (by simp [maxLen])) (by simp; omega) (by have := B7.size; rw [al_size]; omega)
  have LM := lo_more (n := 2) (yl := yl) hl B7 Q6 ho7 hg7 hr hy hc ⟨rfl, had⟩
  obtain ⟨pa, pl, pc, rfl⟩ := own_sl P6
  have e6 := own_len P6
  rw [hk] at e6
  subst e6
  obtain ⟨sa, sb, sc', rfl⟩ := own_sl ho7
  have e7 := own_len ho7
  rw [hk] at e7
  have e8 : sb = k + 2 := by rw [← e7]; rfl
  subst e8
  exact ⟨pa, pc, w6, _, w7, happ6, happ7, LM, lo_below hl B7 Q6 hg7, sa, sc', rfl⟩
/-- the last run -/
theorem tail_run (nn k : Nat) (bud : Int) (ops : List Op9) (ad g yl sc pg : Nat) (ys : List Int) (h1 : nn ≤ 4096) (h2 : 0 ≤ bud) (hk : ops.length = k) (hk4 : k + 2 ≤ 400) (hp : isOpen ((runM nn bud ops k).1 pg) = true) (hp4 : pg < 4096) (hy : ys.length = yl) (hy1 : 1 ≤ yl) (hy2 : yl ≤ 1024) (had : pg * 1024 = ad) (W : World) (v : Value) (hl : Lo W v (ops ++ [op1 ad g yl sc ys, op2 ad yl])) :
    Calls Try.prog 6 #[.int .i64 nn, .int .i64 bud, v] W fun e W' => ∃ a c c1 b1 d1 e1 rs, e = .returned (.agg #[.bool true, .slice a (k + 2) c, .int .i64 c1, .slice b1 d1 e1]) ∧ As W' (.slice a (k + 2) c) (rs ++ [(0, []), (0, ys)]) ∧ rs.length = k ∧ Below W.heap.size W W' := by
  subst hk
  have hlm : (ops ++ [op1 ad g yl sc ys, op2 ad yl]).length = ops.length + 2 := by rw [List.length_append]; rfl
  obtain ⟨rs, hrs, hrl⟩ := run_more nn bud ops (op1 ad g yl sc ys) (op2 ad yl) pg ys hp hp4 (by omega) (by omega) ⟨rfl, had.symm, rfl⟩ ⟨rfl, had.symm, by rw [hy]; rfl⟩
  refine (hl.run6 nn bud h1 h2 (by rw [hlm]; omega)).mono ?_
  rintro e W' ⟨a, c, b, c', rfl, e1, e2, e3⟩
  rw [hlm] at e1
  rw [hrs] at e1
  exact ⟨a, c, _, _, _, _, rs, by rw [hlm], e1, hrl, e3⟩
end Go.Proofs.Ytiddopgeomojbaa
