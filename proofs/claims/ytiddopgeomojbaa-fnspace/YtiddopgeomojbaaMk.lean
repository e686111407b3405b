import Derived.Test.YtiddopgeomojbaaMj
namespace Go.Proofs.Ytiddopgeomojbaa
open Go.RowKit Go.Shelf Go.Maps
set_option linter.unusedVariables false

theorem load_mid_at {o : Oper} {a : Act} {w : World} {ty : TypeId} {x : Operand} (ho : o.op = .load ty x) (g i : Nat) (hx : a.eval x = .pointer (some ⟨g, i, none⟩)) {cs : Array Value} (hl : (loadVar ty ⟨g, i, none⟩).run Try.prog w = .ok (.agg cs) w) : (execOp a.eval o).run Try.prog w = .ok (.value (.agg cs)) w := by
  unfold execOp
  simp only [ho, hx, Instr.loadAt, Instr.sureAddr, Sem.run_bind, Sem.run_pure, Result.andThen_ok, hl]
/-- a slice of bytes that reads as data -/
def Bs (w : World) (u : Value) (data : List Int) : Prop := ∃ a c, u = .slice a data.length c ∧ ∀ i, i < data.length → ∃ g, a = some ⟨g, 0, none⟩ ∧ w.cell? ⟨g, i, none⟩ = some (.int .u8 (data[i]?.getD 0))
theorem Bs.below {w W : World} {u : Value} {data : List Int} (h : Bs w u data) (hb : Below w.heap.size w W) : Bs W u data := by
  obtain ⟨a, c, e, h1⟩ := h
  exact ⟨a, c, e, fun i hi => by obtain ⟨g, e1, e2⟩ := h1 i hi; exact ⟨g, e1, below_cell hb e2⟩⟩
/-- a slice of answers that reads as rs -/
def As (w : World) (v : Value) (rs : List (Int × List Int)) : Prop := ∃ a c, v = .slice a rs.length c ∧ ∀ k r, rs[k]? = some r → ∃ g u, a = some ⟨g, 0, none⟩ ∧ w.rangeAt g (k * 2) [.int .i64 r.1, u] ∧ Bs w u r.2
theorem As.below {w W : World} {v : Value} {rs : List (Int × List Int)} (h : As w v rs) (hb : Below w.heap.size w W) : As W v rs := by
  obtain ⟨a, c, e, h1⟩ := h
  exact ⟨a, c, e, fun k r hr => by obtain ⟨g, u, e1, e2, e3⟩ := h1 k r hr; exact ⟨g, u, e1, range_below e2 hb, e3.below hb⟩⟩

set_option maxHeartbeats 1000000 in
theorem eqA (code : Int) (u1 u2 : Value) (data : List Int) (w : World) (h1 : Bs w u1 data) (h2 : Bs w u2 data) (hl : data.length ≤ 1048576) :
    Calls Try.prog 50 #[.agg #[.int .i64 code, u1], .agg #[.int .i64 code, u2]] w fun e w' => e = .returned (.bool true) ∧ Below w.heap.size w w' := by
  have B0 := hid (((Below.refl w.heap.size w).alloc (Nat.le_refl _) (.cells #[.int .i64 code, u1] 36)).alloc (by rw [al_size]; omega) (.cells #[.int .i64 code, u2] 36))
  obtain ⟨a, ca, e1, h3⟩ := h1.below B0.out
  obtain ⟨b, cb, e2, h4⟩ := h2.below B0.out
  subst e1 e2
  have HE := hid (eqBy a b data.length ca cb data _ hl h3 h4)
  clear h3 h4 h1 h2
  go_enter Try.func50, Try.ntmps50
  go_wp2_with fail
  refine (HE.out).mono ?_
  rintro e w1 ⟨rfl, b1⟩
  have B1 := hid (bl_trans B0.out b1)
  clear b1 B0 HE
  go_wp2
  go_ret
  exact ⟨rfl, B1.out⟩

set_option maxHeartbeats 4000000 in
theorem eqAs (v1 v2 : Value) (rs : List (Int × List Int)) (w : World) (h1 : As w v1 rs) (h2 : As w v2 rs) (hn : rs.length ≤ 1048576) (hl : ∀ r ∈ rs, r.2.length ≤ 1048576) :
    Calls Try.prog 28 #[v1, v2] w fun e w' => e = .returned (.bool true) ∧ Below w.heap.size w w' := by
  obtain ⟨a, ca, rfl, h3⟩ := h1
  obtain ⟨b, cb, rfl, h4⟩ := h2
  obtain ⟨n, hn'⟩ : ∃ n, rs.length = n := ⟨_, rfl⟩
  rw [hn'] at hn ⊢
  have H3 := hid h3
  have H4 := hid h4
  have HL := hid hl
  have HN := hid hn'
  clear h3 h4 hl hn'
  go_enter Try.func28, Try.ntmps28
  go_wp2
  go_loopw [5] (fun i wr => ∃ (k : Nat), k ≤ n ∧ i = .int .i64 k ∧ Hid (Below w.heap.size w wr)) (fun i _ => n - (intOf i).toNat)
  case atStart => exact ⟨0, Nat.zero_le _, rfl, hid (Below.refl _ _)⟩
  case round =>
    obtain ⟨k, hk, rfl, HB⟩ := hrel
    by_cases hlt : k < n
    · obtain ⟨r, hr⟩ : ∃ r, rs[k]? = some r := ⟨_, List.getElem?_eq_getElem (by have := HN.out; omega)⟩
      obtain ⟨g1, x1, rfl, r1, b1⟩ := H3.out k r hr
      obtain ⟨g2, x2, rfl, r2, b2⟩ := H4.out k r hr
      have RA := hid (range_below r1 HB.out.drew)
      have RB := hid (range_below r2 HB.out.drew)
      have HE := hid (eqA r.1 x1 x2 r.2 wr.drew (b1.below HB.out.drew) (b2.below HB.out.drew) (HL.out r (List.mem_of_getElem? hr)))
      clear r1 r2 b1 b2 hr
      go_wp2
      refine wp_region_held (S := fun W => Hid (W.rangeAt g1 (k * 2) [.int .i64 r.1, x1]) ∧ Hid (W.rangeAt g2 (k * 2) [.int .i64 r.1, x2])) (by kernel_rfl) ?_
      simp only [List.size_toArray, List.length_cons, List.length_nil, Nat.reduceAdd, Array.replicate_succ, Array.replicate_zero, List.push_toArray, List.nil_append, List.cons_append]
      have hS : Hid (wr.drew.rangeAt g1 (k * 2) [.int .i64 r.1, x1]) ∧ Hid (wr.drew.rangeAt g2 (k * 2) [.int .i64 r.1, x2]) := ⟨RA, RB⟩
      refine wpAnyH_put (i := 0) (d := 17) (v := .slice (some ⟨g1, 0, none⟩) n ca) rfl (by kernel_rfl) (by kernel_rfl) (by kernel_rfl) (by kernel_rfl) (fun _ _ _ h => h) (Or.inl ⟨by kernel_rfl, fun _ _ => by kernel_rfl⟩) hS ?_
      simp only [List.setIfInBounds_toArray, List.set_cons_zero, List.set_cons_succ]
      refine wpAnyH_put (i := 1) (d := 18) (v := .int .i64 k) rfl (by kernel_rfl) (by kernel_rfl) (by kernel_rfl) (by kernel_rfl) (fun _ _ _ h => h) (Or.inl ⟨by kernel_rfl, fun _ _ => by kernel_rfl⟩) hS ?_
      simp only [List.setIfInBounds_toArray, List.set_cons_zero, List.set_cons_succ]
      refine wpAnyH_put (i := 2) (d := 19) (v := .pointer (some ⟨g1, k * 2, none⟩)) rfl (by kernel_rfl) (by kernel_rfl) (by kernel_rfl) (by kernel_rfl) (fun _ _ _ h => h) (Or.inl ⟨by kernel_rfl, fun W _ => by first | (go_simp; done) | (go_simp; omega)⟩) hS ?_
      simp only [List.setIfInBounds_toArray, List.set_cons_zero, List.set_cons_succ]
      refine wpAnyH_put (i := 3) (d := 20) (v := .agg ([.int .i64 r.1, x1]).toArray) rfl (by kernel_rfl) (by kernel_rfl) (by kernel_rfl) (by kernel_rfl) (fun _ _ _ h => h) (Or.inl ⟨by kernel_rfl, fun W hS => load_mid_at rfl g1 (k * 2) (by rfl) (run_loadVar_mid W g1 (k * 2) 36 _ _ hS.1.out Try.underlying36 rfl (by kernel_rfl))⟩) hS ?_
      simp only [List.setIfInBounds_toArray, List.set_cons_zero, List.set_cons_succ]
      refine wpAnyH_put (i := 4) (d := 21) (v := .slice (some ⟨g2, 0, none⟩) n cb) rfl (by kernel_rfl) (by kernel_rfl) (by kernel_rfl) (by kernel_rfl) (fun _ _ _ h => h) (Or.inl ⟨by kernel_rfl, fun _ _ => by kernel_rfl⟩) hS ?_
      simp only [List.setIfInBounds_toArray, List.set_cons_zero, List.set_cons_succ]
      refine wpAnyH_put (i := 5) (d := 22) (v := .int .i64 k) rfl (by kernel_rfl) (by kernel_rfl) (by kernel_rfl) (by kernel_rfl) (fun _ _ _ h => h) (Or.inl ⟨by kernel_rfl, fun _ _ => by kernel_rfl⟩) hS ?_
      simp only [List.setIfInBounds_toArray, List.set_cons_zero, List.set_cons_succ]
      refine wpAnyH_put (i := 6) (d := 23) (v := .pointer (some ⟨g2, k * 2, none⟩)) rfl (by kernel_rfl) (by kernel_rfl) (by kernel_rfl) (by kernel_rfl) (fun _ _ _ h => h) (Or.inl ⟨by kernel_rfl, fun W _ => by first | (go_simp; done) | (go_simp; omega)⟩) hS ?_
      simp only [List.setIfInBounds_toArray, List.set_cons_zero, List.set_cons_succ]
      refine wpAnyH_put (i := 7) (d := 24) (v := .agg ([.int .i64 r.1, x2]).toArray) rfl (by kernel_rfl) (by kernel_rfl) (by kernel_rfl) (by kernel_rfl) (fun _ _ _ h => h) (Or.inl ⟨by kernel_rfl, fun W hS => load_mid_at rfl g2 (k * 2) (by rfl) (run_loadVar_mid W g2 (k * 2) 36 _ _ hS.2.out Try.underlying36 rfl (by kernel_rfl))⟩) hS ?_
      simp only [List.setIfInBounds_toArray, List.set_cons_zero, List.set_cons_succ]
      refine wpAnyH_one (r := 8) (by kernel_rfl) ?_
      refine wpOp_do rfl (by kernel_rfl) (fun K' hK => ?_)
      go_simp
      refine (HE.out).mono ?_
      rintro e w3 ⟨rfl, b3⟩
      have hS3 : Hid (w3.rangeAt g1 (k * 2) [.int .i64 r.1, x1]) ∧ Hid (w3.rangeAt g2 (k * 2) [.int .i64 r.1, x2]) := ⟨hid (range_below RA.out b3), hid (range_below RB.out b3)⟩
      have B3 := hid (below_trans HB.out.drew b3 HB.out.size)
      clear b3 hS
      refine hK.out _ _ ⟨hS3, ?_⟩
      clear hK K'
      simp only [List.setIfInBounds_toArray, List.set_cons_zero, List.set_cons_succ]
      refine wpAnyH_put (i := 9) (d := 26) (v := .bool false) rfl (by kernel_rfl) (by kernel_rfl) (by kernel_rfl) (by kernel_rfl) (fun _ _ _ h => h) (Or.inl ⟨by kernel_rfl, fun _ _ => by kernel_rfl⟩) hS3 ?_
      simp only [List.setIfInBounds_toArray, List.set_cons_zero, List.set_cons_succ]
      refine wpAnyH_done (by kernel_rfl) ?_ _
      go_wp2
      go_roundw
      case rel => exact ⟨k + 1, by omega, by go_num, B3⟩
      case measure => simp [intOf]; omega
    · go_wp2
      go_ret
      exact ⟨rfl, HB.out⟩
end Go.Proofs.Ytiddopgeomojbaa

namespace Go.Proofs.Ytiddopgeomojbaa
open Go.RowKit Go.Shelf Go.Maps
set_option linter.unusedVariables false

/-- a slice of numbers that reads as os -/
def Zs (w : World) (u : Value) (os : List Int) : Prop := ∃ a c, u = .slice a os.length c ∧ ∀ i, i < os.length → ∃ g, a = some ⟨g, 0, none⟩ ∧ w.cell? ⟨g, i, none⟩ = some (.int .i64 (os[i]?.getD 0))
theorem Zs.below {w W : World} {u : Value} {data : List Int} (h : Zs w u data) (hb : Below w.heap.size w W) : Zs W u data := by
  obtain ⟨a, c, e, h1⟩ := h
  exact ⟨a, c, e, fun i hi => by obtain ⟨g, e1, e2⟩ := h1 i hi; exact ⟨g, e1, below_cell hb e2⟩⟩
/-- a report that reads so -/
def Rr (w : World) (r : Value) (ok : Bool) (rs : List (Int × List Int)) (cm : Int) (os : List Int) : Prop := ∃ v vo, r = .agg #[.bool ok, v, .int .i64 cm, vo] ∧ As w v rs ∧ Zs w vo os
theorem Rr.below {w W : World} {r : Value} {ok : Bool} {rs : List (Int × List Int)} {cm : Int} {os : List Int} (h : Rr w r ok rs cm os) (hb : Below w.heap.size w W) : Rr W r ok rs cm os := by
  obtain ⟨v, vo, e, h1, h2⟩ := h
  exact ⟨v, vo, e, h1.below hb, h2.below hb⟩

set_option maxHeartbeats 1000000 in
theorem eqR (r1 r2 : Value) (ok : Bool) (rs : List (Int × List Int)) (cm : Int) (os : List Int) (w : World) (h1 : Rr w r1 ok rs cm os) (h2 : Rr w r2 ok rs cm os) (hn : rs.length ≤ 1048576) (hl : ∀ r ∈ rs, r.2.length ≤ 1048576) (ho : os.length ≤ 1048576) :
    Calls Try.prog 12 #[r1, r2] w fun e w' => e = .returned (.bool true) ∧ Below w.heap.size w w' := by
  obtain ⟨v1, o1, rfl, a1, z1⟩ := h1
  obtain ⟨v2, o2, rfl, a2, z2⟩ := h2
  have T0 := hid (show Below w.heap.size w ((w.alloc (.cells #[.bool ok, v1, .int .i64 cm, o1] 29)).alloc (.cells #[.bool ok, v2, .int .i64 cm, o2] 29)) from ((Below.refl _ _).alloc (Nat.le_refl _) _).alloc (by rw [al_size]; omega) _)
  have X1 := hid (show ((w.alloc (.cells #[.bool ok, v1, .int .i64 cm, o1] 29)).alloc (.cells #[.bool ok, v2, .int .i64 cm, o2] 29)).heap[w.heap.size]? = some (.cells #[.bool ok, v1, .int .i64 cm, o1] 29) by rw [al_old _ _ _ (by rw [al_size]; omega)]; exact al_last _ _)
  have X2 := hid (show ((w.alloc (.cells #[.bool ok, v1, .int .i64 cm, o1] 29)).alloc (.cells #[.bool ok, v2, .int .i64 cm, o2] 29)).heap[w.heap.size + 1]? = some (.cells #[.bool ok, v2, .int .i64 cm, o2] 29) by rw [← al_size w (.cells #[.bool ok, v1, .int .i64 cm, o1] 29)]; exact al_last _ _)
  have HE := hid (eqAs v1 v2 rs _ (a1.below T0.out) (a2.below T0.out) hn hl)
  have HZ := hid (fun W (hW : Below w.heap.size w W) => (show Calls Try.prog 29 #[o1, o2] W fun e w' => e = .returned (.bool true) ∧ Below W.heap.size W w' by
    obtain ⟨a, ca, rfl, h3⟩ := z1.below hW
    obtain ⟨b, cb, rfl, h4⟩ := z2.below hW
    exact eqIn a b os.length ca cb os W ho h3 h4))
  obtain ⟨p1, l1, c1, rfl⟩ : ∃ a b c, v1 = .slice a b c := by obtain ⟨a, c, e, _⟩ := a1; exact ⟨_, _, _, e⟩
  obtain ⟨p2, l2, c2, rfl⟩ : ∃ a b c, v2 = .slice a b c := by obtain ⟨a, c, e, _⟩ := a2; exact ⟨_, _, _, e⟩
  obtain ⟨p3, l3, c3, rfl⟩ : ∃ a b c, o1 = .slice a b c := by obtain ⟨a, c, e, _⟩ := z1; exact ⟨_, _, _, e⟩
  obtain ⟨p4, l4, c4, rfl⟩ : ∃ a b c, o2 = .slice a b c := by obtain ⟨a, c, e, _⟩ := z2; exact ⟨_, _, _, e⟩
  clear a1 a2 z1 z2
  have tb : (ok != ok) = false := by simp
  have tc : (cm != cm) = false := by simp
  go_enter Try.func12, Try.ntmps12
  go_wp2_with fail
  refine (HE.out).mono ?_
  rintro e w1 ⟨rfl, b1⟩
  have y1 := (b1.block _ (lt_blk X1.out)).trans X1.out
  have y2 := (b1.block _ (lt_blk X2.out)).trans X2.out
  have B1 := hid (bl_trans T0.out b1)
  have c12 : w1.cell? ⟨w.heap.size, 2, none⟩ = some (.int .i64 cm) := by simp [World.cell?, y1]
  have c13 : w1.cell? ⟨w.heap.size, 3, none⟩ = some (.slice p3 l3 c3) := by simp [World.cell?, y1]
  have c22 : w1.cell? ⟨w.heap.size + 1, 2, none⟩ = some (.int .i64 cm) := by simp [World.cell?, y2]
  have c23 : w1.cell? ⟨w.heap.size + 1, 3, none⟩ = some (.slice p4 l4 c4) := by simp [World.cell?, y2]
  clear b1 y1 y2 T0 X1 X2 HE
  go_wp2_with fail
  refine (HZ.out _ B1.out).mono ?_
  rintro e w2 ⟨rfl, b2⟩
  have B2 := hid (bl_trans B1.out b2)
  clear b2 B1 HZ c12 c13 c22 c23
  go_wp2
  go_ret
  exact ⟨rfl, B2.out⟩

set_option maxHeartbeats 1000000 in
theorem eqOp (o : Op9) (g1 g2 : Nat) (w : World) (h1 : RowV w g1 5 (Ns .u8 o.ys)) (h2 : RowV w g2 5 (Ns .u8 o.ys)) (hy : o.ys.length = o.dl) (hl : o.dl ≤ 1048576) :
    Calls Try.prog 30 #[.agg (opC (cpO o g1)).toArray, .agg (opC (cpO o g2)).toArray] w fun e w' => e = .returned (.bool true) ∧ Below w.heap.size w w' := by
  have B0 := hid (((Below.refl w.heap.size w).alloc (Nat.le_refl _) (.cells (opC (cpO o g1)).toArray 34)).alloc (by rw [al_size]; omega) (.cells (opC (cpO o g2)).toArray 34))
  have HE := hid (eqBy (some ⟨g1, 0, none⟩) (some ⟨g2, 0, none⟩) o.dl o.dl o.dl o.ys _ hl (slBy (h1.below B0.out h1.lt) hy) (slBy (h2.below B0.out h2.lt) hy))
  clear h1 h2 hy hl
  unfold cpO opC at *
  go_enter Try.func30, Try.ntmps30
  go_wp2_with fail
  refine (HE.out).mono ?_
  rintro e w1 ⟨rfl, b1⟩
  have B1 := hid (bl_trans B0.out b1)
  clear b1 B0 HE
  go_wp2
  go_ret
  exact ⟨rfl, B1.out⟩

set_option maxHeartbeats 4000000 in
theorem eqOs (B1 B2 G1 G2 n : Nat) (ca cb : Nat) (ops : List Op9) (gs1 gs2 : List Nat) (w : World) (h1 : Cp B1 w G1 n ops gs1) (h2 : Cp B2 w G2 n ops gs2) (hops : ops.length = n) (hn : n ≤ 1048576) (hl : ∀ o ∈ ops, o.ys.length = o.dl ∧ o.dl ≤ 1048576) :
    Calls Try.prog 13 #[.slice (some ⟨G1, 0, none⟩) n ca, .slice (some ⟨G2, 0, none⟩) n cb] w fun e w' => e = .returned (.bool true) ∧ Below w.heap.size w w' := by
  have H3 := hid h1
  have H4 := hid h2
  have HL := hid hl
  have HN := hid hops
  clear h1 h2 hl hops
  go_enter Try.func13, Try.ntmps13
  go_wp2
  go_loopw [5] (fun i wr => ∃ (k : Nat), k ≤ n ∧ i = .int .i64 k ∧ Hid (Below w.heap.size w wr)) (fun i _ => n - (intOf i).toNat)
  case atStart => exact ⟨0, Nat.zero_le _, rfl, hid (Below.refl _ _)⟩
  case round =>
    obtain ⟨k, hk, rfl, HB⟩ := hrel
    by_cases hlt : k < n
    · obtain ⟨o, ho⟩ : ∃ o, ops[k]? = some o := ⟨_, List.getElem?_eq_getElem (by have := HN.out; omega)⟩
      obtain ⟨x1, hx1⟩ : ∃ x, gs1[k]? = some x := ⟨_, List.getElem?_eq_getElem (by have := HN.out; have := H3.out.hl; omega)⟩
      obtain ⟨x2, hx2⟩ : ∃ x, gs2[k]? = some x := ⟨_, List.getElem?_eq_getElem (by have := HN.out; have := H4.out.hl; omega)⟩
      obtain ⟨r1, b1, _⟩ := (H3.out.below HB.out.drew).at_ k o x1 ho hx1
      obtain ⟨r2, b2, _⟩ := (H4.out.below HB.out.drew).at_ k o x2 ho hx2
      have RA := hid r1
      have RB := hid r2
      have hz := HL.out o (List.mem_of_getElem? ho)
      have HE := hid (eqOp o x1 x2 wr.drew b1 b2 hz.1 hz.2)
      clear r1 r2 b1 b2 ho hx1 hx2 hz
      go_wp2
      refine wp_region_held (S := fun W => Hid (W.rangeAt G1 (k * 6) (opC (cpO o x1))) ∧ Hid (W.rangeAt G2 (k * 6) (opC (cpO o x2)))) (by kernel_rfl) ?_
      simp only [List.size_toArray, List.length_cons, List.length_nil, Nat.reduceAdd, Array.replicate_succ, Array.replicate_zero, List.push_toArray, List.nil_append, List.cons_append]
      have hS : Hid (wr.drew.rangeAt G1 (k * 6) (opC (cpO o x1))) ∧ Hid (wr.drew.rangeAt G2 (k * 6) (opC (cpO o x2))) := ⟨RA, RB⟩
      refine wpAnyH_put (i := 0) (d := 17) (v := .slice (some ⟨G1, 0, none⟩) n ca) rfl (by kernel_rfl) (by kernel_rfl) (by kernel_rfl) (by kernel_rfl) (fun _ _ _ h => h) (Or.inl ⟨by kernel_rfl, fun _ _ => by kernel_rfl⟩) hS ?_
      simp only [List.setIfInBounds_toArray, List.set_cons_zero, List.set_cons_succ]
      refine wpAnyH_put (i := 1) (d := 18) (v := .int .i64 k) rfl (by kernel_rfl) (by kernel_rfl) (by kernel_rfl) (by kernel_rfl) (fun _ _ _ h => h) (Or.inl ⟨by kernel_rfl, fun _ _ => by kernel_rfl⟩) hS ?_
      simp only [List.setIfInBounds_toArray, List.set_cons_zero, List.set_cons_succ]
      refine wpAnyH_put (i := 2) (d := 19) (v := .pointer (some ⟨G1, k * 6, none⟩)) rfl (by kernel_rfl) (by kernel_rfl) (by kernel_rfl) (by kernel_rfl) (fun _ _ _ h => h) (Or.inl ⟨by kernel_rfl, fun W _ => by first | (go_simp; done) | (go_simp; omega)⟩) hS ?_
      simp only [List.setIfInBounds_toArray, List.set_cons_zero, List.set_cons_succ]
      refine wpAnyH_put (i := 3) (d := 20) (v := .agg ((opC (cpO o x1))).toArray) rfl (by kernel_rfl) (by kernel_rfl) (by kernel_rfl) (by kernel_rfl) (fun _ _ _ h => h) (Or.inl ⟨by kernel_rfl, fun W hS => load_mid_at rfl G1 (k * 6) (by rfl) (run_loadVar_mid W G1 (k * 6) 34 _ _ hS.1.out Try.underlying34 rfl (by kernel_rfl))⟩) hS ?_
      simp only [List.setIfInBounds_toArray, List.set_cons_zero, List.set_cons_succ]
      refine wpAnyH_put (i := 4) (d := 21) (v := .slice (some ⟨G2, 0, none⟩) n cb) rfl (by kernel_rfl) (by kernel_rfl) (by kernel_rfl) (by kernel_rfl) (fun _ _ _ h => h) (Or.inl ⟨by kernel_rfl, fun _ _ => by kernel_rfl⟩) hS ?_
      simp only [List.setIfInBounds_toArray, List.set_cons_zero, List.set_cons_succ]
      refine wpAnyH_put (i := 5) (d := 22) (v := .int .i64 k) rfl (by kernel_rfl) (by kernel_rfl) (by kernel_rfl) (by kernel_rfl) (fun _ _ _ h => h) (Or.inl ⟨by kernel_rfl, fun _ _ => by kernel_rfl⟩) hS ?_
      simp only [List.setIfInBounds_toArray, List.set_cons_zero, List.set_cons_succ]
      refine wpAnyH_put (i := 6) (d := 23) (v := .pointer (some ⟨G2, k * 6, none⟩)) rfl (by kernel_rfl) (by kernel_rfl) (by kernel_rfl) (by kernel_rfl) (fun _ _ _ h => h) (Or.inl ⟨by kernel_rfl, fun W _ => by first | (go_simp; done) | (go_simp; omega)⟩) hS ?_
      simp only [List.setIfInBounds_toArray, List.set_cons_zero, List.set_cons_succ]
      refine wpAnyH_put (i := 7) (d := 24) (v := .agg ((opC (cpO o x2))).toArray) rfl (by kernel_rfl) (by kernel_rfl) (by kernel_rfl) (by kernel_rfl) (fun _ _ _ h => h) (Or.inl ⟨by kernel_rfl, fun W hS => load_mid_at rfl G2 (k * 6) (by rfl) (run_loadVar_mid W G2 (k * 6) 34 _ _ hS.2.out Try.underlying34 rfl (by kernel_rfl))⟩) hS ?_
      simp only [List.setIfInBounds_toArray, List.set_cons_zero, List.set_cons_succ]
      refine wpAnyH_one (r := 8) (by kernel_rfl) ?_
      refine wpOp_do rfl (by kernel_rfl) (fun K' hK => ?_)
      go_simp
      refine (HE.out).mono ?_
      rintro e w3 ⟨rfl, b3⟩
      have hS3 : Hid (w3.rangeAt G1 (k * 6) (opC (cpO o x1))) ∧ Hid (w3.rangeAt G2 (k * 6) (opC (cpO o x2))) := ⟨hid (range_below RA.out b3), hid (range_below RB.out b3)⟩
      have B3 := hid (below_trans HB.out.drew b3 HB.out.size)
      clear b3 hS
      refine hK.out _ _ ⟨hS3, ?_⟩
      clear hK K'
      simp only [List.setIfInBounds_toArray, List.set_cons_zero, List.set_cons_succ]
      refine wpAnyH_put (i := 9) (d := 26) (v := .bool false) rfl (by kernel_rfl) (by kernel_rfl) (by kernel_rfl) (by kernel_rfl) (fun _ _ _ h => h) (Or.inl ⟨by kernel_rfl, fun _ _ => by kernel_rfl⟩) hS3 ?_
      simp only [List.setIfInBounds_toArray, List.set_cons_zero, List.set_cons_succ]
      refine wpAnyH_done (by kernel_rfl) ?_ _
      go_wp2
      go_roundw
      case rel => exact ⟨k + 1, by omega, by go_num, B3⟩
      case measure => simp [intOf]; omega
    · go_wp2
      go_ret
      exact ⟨rfl, HB.out⟩
end Go.Proofs.Ytiddopgeomojbaa

namespace Go.Proofs.Ytiddopgeomojbaa
open Go.RowKit Go.Shelf Go.Maps
set_option linter.unusedVariables false

/-- nothing but the blocks of S turns -/
structure Bt (S : Nat → Prop) (w w' : World) : Prop where
  os : w'.os = w.os
  tape : w'.tape = w.tape
  output : w'.output = w.output
  size : w.heap.size ≤ w'.heap.size
  block : ∀ g, g < w.heap.size → ¬ S g → w'.heap[g]? = w.heap[g]?
theorem Bt.refl (S : Nat → Prop) (w : World) : Bt S w w := ⟨rfl, rfl, rfl, Nat.le_refl _, fun _ _ _ => rfl⟩
theorem Bt.grown {S : Nat → Prop} {w W W' : World} (h : Bt S w W) {r : Option Nat} (hg : W.grownBy W' r) (hr : ∀ g, r = some g → S g ∨ w.heap.size ≤ g) : Bt S w W' :=
  ⟨hg.os.trans h.os, hg.tape.trans h.tape, hg.output.trans h.output, Nat.le_trans h.size hg.size, fun g hl hn => by
    rw [hg.block g (Nat.lt_of_lt_of_le hl h.size) (fun e => by rcases hr g e.symm with h1 | h1; exact hn h1; omega)]
    exact h.block g hl hn⟩
theorem Bt.below {S : Nat → Prop} {w W W' : World} (h : Bt S w W) (hb : Below W.heap.size W W') : Bt S w W' := h.grown (below_none hb) (fun g e => by cases e)
/-- copies of operations that are being marked -/
structure Ck (w : World) (G N : Nat) (ops : List Op9) (gs : List Nat) (W : World) : Prop where
  typ : ∃ c, W.heap[G]? = some (.cells c 34 (0, 0)) ∧ c.size = N * 6
  dat : ∀ k o g, ops[k]? = some o → gs[k]? = some g → W.cell? ⟨G, k * 6 + 5, none⟩ = some (.slice (some ⟨g, 0, none⟩) o.dl o.dl) ∧ ∃ zs : List Int, zs.length = o.dl ∧ RowV W g 5 (Ns .u8 zs)
  bt : Bt (fun g => g = G ∨ g ∈ gs) w W
theorem Cp.ck {B G N : Nat} {w : World} {ops : List Op9} {gs : List Nat} (h : Cp B w G N ops gs) (hl : ∀ o ∈ ops, o.ys.length = o.dl) : Ck w G N ops gs w :=
  ⟨h.typ, fun k o g ho hg => by
    obtain ⟨h1, h2, _⟩ := h.at_ k o g ho hg
    exact ⟨h1 5 _ rfl, _, hl o (List.mem_of_getElem? ho), h2⟩, Bt.refl _ _⟩
theorem Ck.set {w W : World} {G N : Nat} {ops : List Op9} {gs : List Nat} (h : Ck w G N ops gs W) (i j : Nat) (hj : j < 5) (v : Value) : Ck w G N ops gs (W.setCell ⟨G, i * 6 + j, none⟩ v) := by
  obtain ⟨c, hc, hs⟩ := h.typ
  have gS := grown_set (grown_refl W G) (i * 6 + j) v
  refine ⟨⟨_, heap_set_at hc v, by simpa using hs⟩, fun k o g ho hg => ?_, h.bt.grown gS (fun g e => by cases e; exact .inl (.inl rfl))⟩
  obtain ⟨h1, zs, h2, h3⟩ := h.dat k o g ho hg
  refine ⟨?_, zs, h2, h3.grown gS ?_⟩
  · rw [World.cell?_setCell_other _ _ _ _ (by intro e; simp at e; try omega)]
    exact h1
  · rintro rfl
    obtain ⟨c', hc', _⟩ := h3
    rw [hc] at hc'
    simp at hc'
theorem Ck.cell {w W : World} {G N : Nat} {ops : List Op9} {gs : List Nat} (h : Ck w G N ops gs W) {i j : Nat} (hi : i < N) (hj : j < 6) : (∃ v, W.cell? ⟨G, i * 6 + j, none⟩ = some v) ∧ W.frozen? ⟨G, i * 6 + j, none⟩ = false := by
  obtain ⟨c, hc, hs⟩ := h.typ
  constructor
  · simp only [World.cell?, hc]
    exact ⟨_, Array.getElem?_eq_getElem (by omega)⟩
  · simp [World.frozen?, hc]
theorem Ck.row {w W W' : World} {G N g' : Nat} {ops : List Op9} {gs : List Nat} {k' : Nat} {o' : Op9} (h : Ck w G N ops gs W) (ho' : ops[k']? = some o') (hg' : gs[k']? = some g') {zs' : List Int} (hz : zs'.length = o'.dl) (hnd : gs.Nodup) (hr : RowV W' g' 5 (Ns .u8 zs')) (hg : W.grownBy W' (some g')) : Ck w G N ops gs W' := by
  obtain ⟨c, hc, hs⟩ := h.typ
  have hne : g' ≠ G := by
    rintro rfl
    obtain ⟨_, zs, _, c', hc', _⟩ := h.dat k' o' g' ho' hg'
    rw [hc] at hc'
    simp at hc'
  have hG : W'.heap[G]? = W.heap[G]? := hg.block G (lt_blk hc) (by simpa using Ne.symm hne)
  refine ⟨⟨c, hG.trans hc, hs⟩, fun k o g ho hgk => ?_, h.bt.grown hg (fun g e => by cases e; exact .inl (.inr (List.mem_of_getElem? hg')))⟩
  obtain ⟨h1, zs, h2, h3⟩ := h.dat k o g ho hgk
  refine ⟨by unfold World.cell? at h1 ⊢; rw [hG]; exact h1, ?_⟩
  by_cases e : g = g'
  · subst e
    have hkk : k = k' := by
      have l1 := (List.getElem?_eq_some_iff.1 hgk)
      have l2 := (List.getElem?_eq_some_iff.1 hg')
      have hp := List.pairwise_iff_getElem.1 hnd
      rcases Nat.lt_trichotomy k k' with h4 | h4 | h4
      · exact absurd (l1.2.trans l2.2.symm) (hp k k' l1.1 l2.1 h4)
      · exact h4
      · exact absurd (l2.2.trans l1.2.symm) (hp k' k l2.1 l1.1 h4)
    subst hkk
    rw [ho'] at ho
    cases ho
    exact ⟨zs', hz, hr⟩
  · exact ⟨zs, h2, h3.grown hg e⟩

theorem run_storeVar1 (w : World) (b o : Nat) (ty : TypeId) (k : IntKind) (n : Int) {v0 : Value} (hc : w.cell? ⟨b, o, none⟩ = some v0) (hf : w.frozen? ⟨b, o, none⟩ = false) (hi : (Try.prog.info? ty).map (·.size) = some 1) :
    (storeVar ty ⟨b, o, none⟩ (.int k n)).run Try.prog w = .ok () (w.setCell ⟨b, o, none⟩ (.int k n)) := by
  have := run_storeCells_cells (P := Try.prog) b o [.int k n] 0 w (fun j hj => by simp at hj; subst hj; simp [hc]) (fun j hj => by simp at hj; subst hj; simpa using hf) (fun v hv => by simp at hv; subst hv; rfl)
  cases hq : Try.prog.info? ty with
  | none => simp [hq] at hi
  | some i =>
    have hs : i.size = 1 := by simpa [hq] using hi
    simp only [Nat.add_zero, World.setCells] at this
    simp [storeVar, sizeOf, typeInfo, hq, Value.cells, hs, this]
theorem wpList_mark {ops : Array Oper} {rest : List Oper} {op : Oper} {a : Act} {w : World} {Q : Exit → Act → World → Prop} {w0 : World} {G N : Nat} {os : List Op9} {gs : List Nat} (hgd : op.guard = none) (ty : TypeId) (x y : Operand) (ho : op.op = .store ty x y)
    (i j : Nat) {k : IntKind} {n : Int} (hC : Ck w0 G N os gs w) (hi : i < N) (hj : j < 5) (hx : a.eval x = .pointer (some ⟨G, i * 6 + j, none⟩)) (hy : a.eval y = .int k n) (hs : (Try.prog.info? ty).map (·.size) = some 1)
    (h : ∀ w', Hid (Ck w0 G N os gs w') → wpList Try.prog ops Q rest (a.put op.dst undef) w') : wpList Try.prog ops Q (op :: rest) a w := by
  obtain ⟨⟨v0, hc⟩, hf⟩ := hC.cell hi (show j < 6 by omega)
  refine wpList_plain hgd fun _ hK => ?_
  unfold Oper.wp execOp
  simp only [ho, hx, hy, Instr.storeAt, Instr.sureAddr, Sem.run_bind, Sem.run_pure, Result.andThen_ok, run_storeVar1 w G (i * 6 + j) ty k n hc hf hs]
  exact hK _ _ (h _ (hC.set i j hj _))

set_option maxHeartbeats 4000000 in
theorem markOps (B G n ca : Nat) (ops : List Op9) (gs : List Nat) (w : World) (h : Cp B w G n ops gs) (hops : ops.length = n) (hn : n + tot ops ≤ 1048576) (hl : ∀ o ∈ ops, o.ys.length = o.dl) :
    Calls Try.prog 14 #[.slice (some ⟨G, 0, none⟩) n ca, .int .i64 1] w fun e w' => ∃ r : Nat, e = .returned (.int .i64 r) ∧ Bt (fun g => g = G ∨ g ∈ gs) w w' := by
  have C0 := hid (h.ck hl)
  have HL := hid (And.intro hops (And.intro h.hl h.nd))
  clear h hl hops
  go_enter Try.func14, Try.ntmps14
  go_wp2
  go_loopw [1, 5] (fun b i wr => ∃ (k q : Nat), k ≤ n ∧ i = .int .i64 k ∧ b = .int .i64 q ∧ q ≤ 1 + 5 * k + tot (ops.take k) ∧ Hid (Ck w G n ops gs wr)) (fun _ i _ => n - (intOf i).toNat)
  case atStart => exact ⟨0, 1, Nat.zero_le _, rfl, rfl, by simp [tot], C0⟩
  case round =>
    obtain ⟨k, q, hk, rfl, rfl, hq, HC⟩ := hrel
    clear C0
    by_cases hlt : k < n
    · obtain ⟨o, ho⟩ : ∃ o, ops[k]? = some o := ⟨_, List.getElem?_eq_getElem (by have := HL.out.1; omega)⟩
      obtain ⟨x, hx⟩ : ∃ x, gs[k]? = some x := ⟨_, List.getElem?_eq_getElem (by have := HL.out.1; have := HL.out.2.1; omega)⟩
      have ht := tot_take ho
      have hqb : q ≤ 100000000 := by
        have : tot (ops.take k) ≤ tot ops := by
          have h2 := tot_app (ops.take k) (ops.drop k)
          rw [List.take_append_drop] at h2
          omega
        omega
      have HQ := hid (And.intro hq ht)
      have HO := hid (And.intro ho hx)
      clear hq ht ho hx
      go_wp2_with (first | (refine wpList_mark rfl 3 _ _ rfl k 0 HC.out hlt (by omega) rfl rfl (by kernel_rfl) ?_; clear HC; intro wr' HC) | (refine wpList_mark rfl 3 _ _ rfl k 1 HC.out hlt (by omega) rfl rfl (by kernel_rfl) ?_; clear HC; intro wr' HC) | (refine wpList_mark rfl 3 _ _ rfl k 2 HC.out hlt (by omega) rfl rfl (by kernel_rfl) ?_; clear HC; intro wr' HC) | (refine wpList_mark rfl 32 _ _ rfl k 3 HC.out hlt (by omega) rfl rfl (by kernel_rfl) ?_; clear HC; intro wr' HC) | (refine wpList_mark rfl 3 _ _ rfl k 4 HC.out hlt (by omega) rfl rfl (by kernel_rfl) ?_; clear HC; intro wr' HC; have c5 := (HC.out.dat k o x HO.out.1 HO.out.2).1))
      rw [show (q : Int) + 1 + 1 + 1 + 1 + 1 = ((q + 5 : Nat) : Int) by omega]
      obtain ⟨_, zs, hz, hr⟩ := HC.out.dat k o x HO.out.1 HO.out.2
      have HM := hid (markBy x o.dl o.dl zs (q + 5) wr' hz (by have := tot_mem (List.mem_of_getElem? HO.out.1); omega) (by omega) hr)
      clear hr hz c5
      refine (HM.out).mono ?_
      rintro e w1 ⟨rfl, r1, g1⟩
      have C1 := hid (HC.out.row HO.out.1 HO.out.2 (rampBy_len (q + 5) o.dl) HL.out.2.2 r1 g1)
      clear r1 g1 HM HC
      go_wp2
      go_roundw
      case rel => exact ⟨k + 1, q + 5 + o.dl, by omega, by go_num, rfl, by have := HQ.out; omega, C1⟩
      case measure => simp [intOf]; omega
    · go_wp2
      go_ret
      exact ⟨_, rfl, HC.out.bt⟩
end Go.Proofs.Ytiddopgeomojbaa

namespace Go.Proofs.Ytiddopgeomojbaa
open Go.RowKit Go.Shelf Go.Maps
set_option linter.unusedVariables false

/-- a slice of bytes with memory of its own -/
def Rz (W : World) (u : Value) (zs : List Int) : Prop := (u = .slice none 0 0 ∧ zs = []) ∨ ∃ g cap, u = .slice (some ⟨g, 0, none⟩) zs.length cap ∧ RowV W g 5 (Ns .u8 zs)
theorem Rz.keep {W W' : World} {u : Value} {zs : List Int} (h : Rz W u zs) (hk : ∀ (g : Nat) (c : Array Value), u.ownBlock = some g → W.heap[g]? = some (.cells c 5 (0, 0)) → W'.heap[g]? = W.heap[g]?) : Rz W' u zs := by
  rcases h with h | ⟨g, cap, e, c, h1, h2⟩
  · exact .inl h
  · exact .inr ⟨g, cap, e, c, (hk g c (by rw [e]; rfl) h1).trans h1, h2⟩
theorem Rz.slice {W : World} {u : Value} {zs : List Int} (h : Rz W u zs) : ∃ a c, u = .slice a zs.length c := by
  rcases h with ⟨e, rfl⟩ | ⟨g, cap, e, _⟩
  · exact ⟨_, _, e⟩
  · exact ⟨_, _, e⟩
theorem Rz.typ {W : World} {u : Value} {zs : List Int} (h : Rz W u zs) {g : Nat} (hg : u.ownBlock = some g) : ∃ c, W.heap[g]? = some (.cells c 5 (0, 0)) := by
  rcases h with ⟨rfl, _⟩ | ⟨g', cap, rfl, c, h1, _⟩
  · cases hg
  · cases hg; exact ⟨c, h1⟩
theorem rz_own {W : World} {B : Nat} {u : Value} {zs : List Int} (h : W.ownsRow B 5 1 u zs.length (Ns .u8 zs)) : Rz W u zs := by
  rcases h.2 with ⟨e, h0⟩ | ⟨g, cap, cur, e, _⟩
  · exact .inl ⟨e, List.eq_nil_of_length_eq_zero (by simpa using h0)⟩
  · subst e; exact .inr ⟨g, cap, rfl, RowV.ofOwns h⟩
theorem markRz (u : Value) (zs : List Int) (k0 : Nat) (W : World) (h : Rz W u zs) (hl : zs.length ≤ 1048576) (hk : k0 ≤ 1000000000000) :
    Calls Try.prog 31 #[u, .int .i64 k0] W fun e w' => e = .returned (.int .i64 (k0 + zs.length : Nat)) ∧ Rz w' u (rampBy k0 zs.length) ∧ W.grownBy w' u.ownBlock := by
  rcases h with ⟨rfl, rfl⟩ | ⟨g, cap, rfl, r⟩
  · refine (markBy_nil k0 W hk).mono ?_
    rintro e w' ⟨rfl, rfl⟩
    exact ⟨rfl, .inl ⟨rfl, rfl⟩, ⟨rfl, rfl, rfl, Nat.le_refl _, fun _ _ _ => rfl⟩⟩
  · refine (markBy g zs.length cap zs k0 W rfl hl hk r).mono ?_
    rintro e w' ⟨rfl, r', hg⟩
    exact ⟨rfl, .inr ⟨g, cap, by rw [rampBy_len], r'⟩, hg⟩
theorem heldRz (u : Value) (k0 n : Nat) (W : World) (h : Rz W u (rampBy k0 n)) (hl : n ≤ 1048576) (hk : k0 ≤ 1000000000000) :
    Calls Try.prog 52 #[u, .int .i64 k0] W fun e w' => e = .returned (.int .i64 (k0 + n : Nat)) ∧ w' = W := by
  rcases h with ⟨rfl, h0⟩ | ⟨g, cap, e, r⟩
  · have : n = 0 := by have := rampBy_len k0 n; rw [h0] at this; simpa using this.symm
    subst this
    exact heldBy_nil k0 W hk
  · rw [rampBy_len] at e
    subst e
    exact heldBy g n cap k0 W hl hk r
def totA : List An → Nat
  | [] => 0
  | x :: r => x.1.2.length + totA r
theorem totA_app : ∀ (a b : List An), totA (a ++ b) = totA a + totA b
  | [], b => by simp [totA]
  | o :: r, b => by simp [totA, totA_app r b]; omega
theorem totA_take {l : List An} {k : Nat} {x : An} (h : l[k]? = some x) : totA (l.take (k + 1)) = totA (l.take k) + x.1.2.length := by
  rw [List.take_add_one, h, totA_app]; simp [totA]
theorem totA_le (l : List An) (k : Nat) : totA (l.take k) ≤ totA l := by
  have h2 := totA_app (l.take k) (l.drop k)
  rw [List.take_append_drop] at h2
  omega
theorem totA_mem : ∀ {l : List An} {x : An}, x ∈ l → x.1.2.length ≤ totA l
  | p :: r, o, h => by
    rcases List.mem_cons.1 h with rfl | h1
    · simp [totA]
    · have := totA_mem h1; simp [totA]; omega
/-- the mark of answer i -/
def mkA (k0 : Nat) (l : List An) (i : Nat) : Nat := k0 + i + totA (l.take i)
/-- answers that are being marked -/
structure Mk (w : World) (g : Nat) (l : List An) (k0 k : Nat) (W : World) : Prop where
  typ : ∃ c, W.heap[g]? = some (.cells c 36 (0, 0)) ∧ l.length * 2 ≤ c.size
  cel : ∀ (i : Nat) (x : An), l[i]? = some x → W.cell? ⟨g, i * 2 + 1, none⟩ = some x.2
  don : ∀ (i : Nat) (x : An), l[i]? = some x → i < k → W.cell? ⟨g, i * 2, none⟩ = some (.int .i64 (mkA k0 l i : Nat)) ∧ Rz W x.2 (rampBy (mkA k0 l i + 1) x.1.2.length)
  rst : ∀ (i : Nat) (x : An), l[i]? = some x → ∃ zs : List Int, zs.length = x.1.2.length ∧ Rz W x.2 zs
  bt : Bt (fun b => b = g ∨ ∃ x ∈ l, x.2.ownBlock = some b) w W
theorem Mk.ne {w W : World} {g k0 k : Nat} {l : List An} (h : Mk w g l k0 k W) {i : Nat} {x : An} (hx : l[i]? = some x) : x.2.ownBlock ≠ some g := fun e => by
  obtain ⟨zs, _, hz⟩ := h.rst i x hx
  obtain ⟨c, hc⟩ := hz.typ e
  obtain ⟨c', hc', _⟩ := h.typ
  rw [hc] at hc'
  simp at hc'
theorem Mk.first {w : World} {B g cap : Nat} {l : List An} (k0 : Nat) (h : w.ownsRow B 36 2 (.slice (some ⟨g, 0, none⟩) l.length cap) l.length (flatA l)) (hr : ∀ x ∈ l, w.ownsRow B 5 1 x.2 x.1.2.length (Ns .u8 x.1.2)) : Mk w g l k0 0 w := by
  rcases h.2 with ⟨e, _⟩ | ⟨g', cap', cur, e, _, h1, h2, h3, h4, h5⟩
  · cases e
  cases e
  refine ⟨⟨cur, h1, by omega⟩, fun i x hx => ?_, fun i x _ h => by omega, fun i x hx => ⟨_, rfl, rz_own (hr x (List.mem_of_getElem? hx))⟩, Bt.refl _ _⟩
  have hi := (List.getElem?_eq_some_iff.1 hx).1
  have e1 : (flatA l)[i * 2 + 1]? = some x.2 := by
    clear h h1 h2 h3 h4 h5 hr
    induction l generalizing i with
    | nil => simp at hx
    | cons y r ih =>
      cases i with
      | zero => simp at hx; subst hx; rfl
      | succ j =>
        have := ih j (by simpa using hx) (by simpa using hi)
        rw [show (j + 1) * 2 + 1 = (j * 2 + 1) + 2 by omega]
        simpa [flatA] using this
  rw [← h5] at e1
  rw [List.getElem?_take_of_lt (by omega), Array.getElem?_toList] at e1
  simp [World.cell?, h1, e1]
/-- the code of answer k is marked -/
theorem Mk.code {w W : World} {g k0 k : Nat} {l : List An} (h : Mk w g l k0 k W) (v : Value) : Mk w g l k0 k (W.setCell ⟨g, k * 2, none⟩ v) ∧ (k < l.length → (W.setCell ⟨g, k * 2, none⟩ v).cell? ⟨g, k * 2, none⟩ = some v) := by
  obtain ⟨c, hc, hs⟩ := h.typ
  have gS := grown_set (grown_refl W g) (k * 2) v
  have kr : ∀ {i : Nat} {x : An} {zs : List Int}, l[i]? = some x → Rz W x.2 zs → Rz (W.setCell ⟨g, k * 2, none⟩ v) x.2 zs := fun hx hz => hz.keep (fun g' c' hg' hc' => gS.block g' (lt_blk hc') (fun e => h.ne hx (by rw [hg']; exact e)))
  refine ⟨⟨⟨_, heap_set_at hc v, by simpa using hs⟩, fun i x hx => ?_, fun i x hx hik => ?_, fun i x hx => ?_, h.bt.grown gS (fun b e => by cases e; exact .inl (.inl rfl))⟩, fun hk => ?_⟩
  · rw [World.cell?_setCell_other _ _ _ _ (by intro e; simp at e; try omega)]
    exact h.cel i x hx
  · obtain ⟨h1, h2⟩ := h.don i x hx hik
    refine ⟨?_, kr hx h2⟩
    rw [World.cell?_setCell_other _ _ _ _ (by intro e; simp at e; try omega)]
    exact h1
  · obtain ⟨zs, h1, h2⟩ := h.rst i x hx
    exact ⟨zs, h1, kr hx h2⟩
  · obtain ⟨v0, hv0⟩ : ∃ v0, W.cell? ⟨g, k * 2, none⟩ = some v0 := by
      simp only [World.cell?, hc]
      exact ⟨_, Array.getElem?_eq_getElem (by omega)⟩
    exact World.cell?_setCell_same _ _ _ hv0
/-- the bytes of answer k are marked -/
theorem Mk.data {w W W' : World} {g k0 k : Nat} {l : List An} {x : An} (h : Mk w g l k0 k W) (hap : l.Pairwise fun x y => ∀ g, x.2.ownBlock = some g → y.2.ownBlock ≠ some g) (hx : l[k]? = some x)
    (hc : W.cell? ⟨g, k * 2, none⟩ = some (.int .i64 (mkA k0 l k : Nat))) (hr : Rz W' x.2 (rampBy (mkA k0 l k + 1) x.1.2.length)) (hg : W.grownBy W' x.2.ownBlock) : Mk w g l k0 (k + 1) W' := by
  obtain ⟨c, hty, hs⟩ := h.typ
  have hG : W'.heap[g]? = W.heap[g]? := hg.block g (lt_blk hty) (fun e => h.ne hx e.symm)
  have hcell : ∀ i, W'.cell? ⟨g, i, none⟩ = W.cell? ⟨g, i, none⟩ := fun i => by unfold World.cell?; simp only [hG]
  have hne : ∀ {i : Nat} {y : An} {b : Nat}, l[i]? = some y → i ≠ k → y.2.ownBlock = some b → x.2.ownBlock ≠ some b := fun {i y b} hy hik hb e => by
    have l1 := List.getElem?_eq_some_iff.1 hy
    have l2 := List.getElem?_eq_some_iff.1 hx
    have hp := List.pairwise_iff_getElem.1 hap
    rcases Nat.lt_or_gt_of_ne hik with h4 | h4
    · exact hp i k l1.1 l2.1 h4 b (by rw [l1.2]; exact hb) (by rw [l2.2]; exact e)
    · exact hp k i l2.1 l1.1 h4 b (by rw [l2.2]; exact e) (by rw [l1.2]; exact hb)
  have kr : ∀ {i : Nat} {y : An} {zs : List Int}, l[i]? = some y → i ≠ k → Rz W y.2 zs → Rz W' y.2 zs := fun hy hik hz => hz.keep (fun g' c' hg' hc' => hg.block g' (lt_blk hc') (fun e => hne hy hik hg' e.symm))
  refine ⟨⟨c, hG.trans hty, hs⟩, fun i y hy => (hcell _).trans (h.cel i y hy), fun i y hy hik => ?_, fun i y hy => ?_, h.bt.grown hg (fun b e => .inl (.inr ⟨x, List.mem_of_getElem? hx, e⟩))⟩
  · by_cases e : i = k
    · subst e
      rw [hx] at hy
      cases hy
      exact ⟨(hcell _).trans hc, hr⟩
    · obtain ⟨h1, h2⟩ := h.don i y hy (by omega)
      exact ⟨(hcell _).trans h1, kr hy e h2⟩
  · by_cases e : i = k
    · subst e
      rw [hx] at hy
      cases hy
      exact ⟨_, rampBy_len _ _, hr⟩
    · obtain ⟨zs, h1, h2⟩ := h.rst i y hy
      exact ⟨zs, h1, kr hy e h2⟩
theorem wpList_markA {ops : Array Oper} {rest : List Oper} {op : Oper} {a : Act} {w : World} {Q : Exit → Act → World → Prop} {w0 : World} {g k0 : Nat} {l : List An} (hgd : op.guard = none) (ty : TypeId) (x y : Operand) (ho : op.op = .store ty x y)
    (k : Nat) {n : Int} (hC : Mk w0 g l k0 k w) (hi : k < l.length) (hx : a.eval x = .pointer (some ⟨g, k * 2, none⟩)) (hy : a.eval y = .int .i64 n) (hs : (Try.prog.info? ty).map (·.size) = some 1)
    (h : ∀ w', Hid (Mk w0 g l k0 k w' ∧ w'.cell? ⟨g, k * 2, none⟩ = some (.int .i64 n)) → wpList Try.prog ops Q rest (a.put op.dst undef) w') : wpList Try.prog ops Q (op :: rest) a w := by
  obtain ⟨c, hc, hsz⟩ := hC.typ
  obtain ⟨v0, hv0⟩ : ∃ v0, w.cell? ⟨g, k * 2, none⟩ = some v0 := by
    simp only [World.cell?, hc]
    exact ⟨_, Array.getElem?_eq_getElem (by omega)⟩
  have hf : w.frozen? ⟨g, k * 2, none⟩ = false := by simp [World.frozen?, hc]
  refine wpList_plain hgd fun _ hK => ?_
  unfold Oper.wp execOp
  simp only [ho, hx, hy, Instr.storeAt, Instr.sureAddr, Sem.run_bind, Sem.run_pure, Result.andThen_ok, run_storeVar1 w g (k * 2) ty .i64 n hv0 hf hs]
  obtain ⟨m1, m2⟩ := hC.code (.int .i64 n)
  exact hK _ _ (h _ ⟨m1, m2 hi⟩)

set_option maxHeartbeats 2000000 in
theorem markAs (g n cap k0 : Nat) (l : List An) (w : World) (h : Mk w g l k0 0 w) (hap : l.Pairwise fun x y => ∀ g, x.2.ownBlock = some g → y.2.ownBlock ≠ some g) (hl : l.length = n) (hb : n + totA l ≤ 10000000) (h0 : k0 ≤ 1000) (hd : ∀ x ∈ l, x.1.2.length ≤ 1048576) :
    Calls Try.prog 32 #[.slice (some ⟨g, 0, none⟩) n cap, .int .i64 k0] w fun e w' => e = .returned (.int .i64 (mkA k0 l n : Nat)) ∧ Mk w g l k0 n w' := by
  have C0 := hid h
  have HA := hid hap
  have HL := hid hl
  have HD := hid hd
  clear h hap hl hd
  go_enter Try.func32, Try.ntmps32
  go_wp2
  go_loopw [1, 5] (fun b i wr => ∃ k q : Nat, k ≤ n ∧ i = .int .i64 k ∧ b = .int .i64 q ∧ q = mkA k0 l k ∧ Hid (Mk w g l k0 k wr)) (fun _ i _ => n - (intOf i).toNat)
  case atStart => exact ⟨0, k0, Nat.zero_le _, rfl, rfl, by simp [mkA, totA], C0⟩
  case round =>
    obtain ⟨k, q, hk, rfl, rfl, hq, HC⟩ := hrel
    clear C0
    by_cases hlt : k < n
    · obtain ⟨x, hx⟩ : ∃ x, l[k]? = some x := ⟨_, List.getElem?_eq_getElem (by have := HL.out; omega)⟩
      have hqb : q ≤ 100000000 := by have := totA_le l k; unfold mkA at hq; omega
      have hkl : k < l.length := by have := HL.out; omega
      have HT := hid (totA_take hx)
      have HX := hid hx
      have HQ := hid hq
      have HK := hid hkl
      obtain ⟨zs, hz, hr⟩ := HC.out.rst k x hx
      obtain ⟨xa, xc, hxs⟩ := hr.slice
      rw [hz] at hxs
      have XS := hid hxs
      clear hx hq hkl hr hxs
      go_wp2_with (first | (refine wpList_markA rfl 3 _ _ rfl k HC.out HK.out rfl rfl (by kernel_rfl) ?_; clear HC; intro wr' HC; have c5 := HC.out.1.cel k x HX.out; rw [XS.out] at c5))
      rw [show (q : Int) + 1 = ((q + 1 : Nat) : Int) by omega, ← XS.out]
      clear c5
      obtain ⟨zs', hz', hr'⟩ := HC.out.1.rst k x HX.out
      have HM := hid (markRz x.2 zs' (q + 1) wr' hr' (by rw [hz']; exact HD.out x (List.mem_of_getElem? HX.out)) (by omega))
      rw [hz'] at HM
      clear hr' hz' hz
      refine (HM.out).mono ?_
      rintro e w1 ⟨rfl, r1, g1⟩
      have C1 := hid (HC.out.1.data HA.out HX.out (by rw [← HQ.out]; exact HC.out.2) (by rw [← HQ.out]; exact r1) g1)
      clear r1 g1 HM HC
      go_wp2
      go_roundw
      case rel => exact ⟨k + 1, q + 1 + x.1.2.length, by omega, by go_num, rfl, by have := HQ.out; have := HT.out; unfold mkA at *; omega, C1⟩
      case measure => simp [intOf]; omega
    · have hkn : k = n := by omega
      subst hkn
      subst hq
      go_wp2
      go_ret
      exact ⟨rfl, HC.out⟩
end Go.Proofs.Ytiddopgeomojbaa

namespace Go.Proofs.Ytiddopgeomojbaa
open Go.RowKit Go.Shelf Go.Maps
set_option linter.unusedVariables false

/-- answers that are marked -/
structure Dn (g : Nat) (l : List An) (k0 : Nat) (W : World) : Prop where
  cel : ∀ (i : Nat) (x : An), l[i]? = some x → W.cell? ⟨g, i * 2 + 1, none⟩ = some x.2
  don : ∀ (i : Nat) (x : An), l[i]? = some x → W.cell? ⟨g, i * 2, none⟩ = some (.int .i64 (mkA k0 l i : Nat)) ∧ Rz W x.2 (rampBy (mkA k0 l i + 1) x.1.2.length)
theorem Mk.dn {w W : World} {g k0 : Nat} {l : List An} (h : Mk w g l k0 l.length W) : Dn g l k0 W :=
  ⟨h.cel, fun i x hx => h.don i x hx (List.getElem?_eq_some_iff.1 hx).1⟩
theorem Dn.keep {W W' : World} {g k0 : Nat} {l : List An} (h : Dn g l k0 W) (hg : W'.heap[g]? = W.heap[g]?) (hk : ∀ x ∈ l, ∀ b, x.2.ownBlock = some b → b < W.heap.size → W'.heap[b]? = W.heap[b]?) : Dn g l k0 W' := by
  have hcell : ∀ i, W'.cell? ⟨g, i, none⟩ = W.cell? ⟨g, i, none⟩ := fun i => by unfold World.cell?; simp only [hg]
  refine ⟨fun i x hx => (hcell _).trans (h.cel i x hx), fun i x hx => ?_⟩
  obtain ⟨h1, h2⟩ := h.don i x hx
  exact ⟨(hcell _).trans h1, h2.keep (fun b c hb hc => hk x (List.mem_of_getElem? hx) b hb (lt_blk hc))⟩
theorem Dn.below {W W' : World} {g k0 : Nat} {l : List An} (h : Dn g l k0 W) (hb : Below W.heap.size W W') : Dn g l k0 W' :=
  ⟨fun i x hx => below_cell hb (h.cel i x hx), fun i x hx => ⟨below_cell hb (h.don i x hx).1, (h.don i x hx).2.keep (fun b c _ hc => hb.block b (lt_blk hc))⟩⟩

set_option maxHeartbeats 2000000 in
theorem heldAs (g n cap k0 : Nat) (l : List An) (w : World) (h : Dn g l k0 w) (hl : l.length = n) (hb : n + totA l ≤ 10000000) (h0 : k0 ≤ 1000) (hd : ∀ x ∈ l, x.1.2.length ≤ 1048576) :
    Calls Try.prog 34 #[.slice (some ⟨g, 0, none⟩) n cap, .int .i64 k0] w fun e w' => e = .returned (.int .i64 (mkA k0 l n : Nat)) ∧ Below w.heap.size w w' := by
  have C0 := hid h
  have HL := hid hl
  have HD := hid hd
  clear h hl hd
  go_enter Try.func34, Try.ntmps34
  go_wp2
  go_loopw [1, 5] (fun b i wr => ∃ k q : Nat, k ≤ n ∧ i = .int .i64 k ∧ b = .int .i64 q ∧ q = mkA k0 l k ∧ Hid (Below w.heap.size w wr)) (fun _ i _ => n - (intOf i).toNat)
  case atStart => exact ⟨0, k0, Nat.zero_le _, rfl, rfl, by simp [mkA, totA], hid (Below.refl _ _)⟩
  case round =>
    obtain ⟨k, q, hk, rfl, rfl, hq, HB⟩ := hrel
    by_cases hlt : k < n
    · obtain ⟨x, hx⟩ : ∃ x, l[k]? = some x := ⟨_, List.getElem?_eq_getElem (by have := HL.out; omega)⟩
      have hqb : q ≤ 100000000 := by have := totA_le l k; unfold mkA at hq; omega
      have HT := hid (totA_take hx)
      have DB := C0.out.below HB.out
      have c5 := DB.cel k x hx
      obtain ⟨c4, hr⟩ := DB.don k x hx
      rw [← hq] at c4 hr
      obtain ⟨xa, xc, hxs⟩ := hr.slice
      rw [rampBy_len] at hxs
      have HM := hid (heldRz x.2 (q + 1) x.1.2.length wr hr (HD.out x (List.mem_of_getElem? hx)) (by omega))
      have HQ := hid hq
      have hnl : ¬ (((q + 1 + x.1.2.length : Nat) : Int) < 0) := by omega
      rw [hxs] at c5 HM
      clear hx hq hr hxs DB
      go_wp2_with fail
      rw [show (q : Int) + 1 = ((q + 1 : Nat) : Int) by omega]
      refine (HM.out).mono ?_
      rintro e w1 ⟨rfl, rfl⟩
      clear HM c4 c5
      go_wp2
      go_roundw
      case rel => exact ⟨k + 1, q + 1 + x.1.2.length, by omega, by go_num, rfl, by have := HQ.out; have := HT.out; unfold mkA at *; omega, HB⟩
      case measure => simp [intOf]; omega
    · have hkn : k = n := by omega
      subst hkn
      subst hq
      go_wp2
      go_ret
      exact ⟨rfl, HB.out⟩
end Go.Proofs.Ytiddopgeomojbaa

namespace Go.Proofs.Ytiddopgeomojbaa
open Go.RowKit Go.Shelf Go.Maps
set_option linter.unusedVariables false

theorem markAs_nil (k0 : Nat) (w : World) (hk : k0 ≤ 1000000000000) :
    Calls Try.prog 32 #[.slice none 0 0, .int .i64 k0] w fun e w' => e = .returned (.int .i64 k0) ∧ w' = w := by
  go_enter Try.func32, Try.ntmps32
  go_wp2
  refine wp_loop_rounds 1 ?_
  rw [rounds_succ]
  go_wp2
  go_ret
  exact ⟨rfl, rfl⟩
theorem heldAs_nil (k0 : Nat) (w : World) (hk : k0 ≤ 1000000000000) :
    Calls Try.prog 34 #[.slice none 0 0, .int .i64 k0] w fun e w' => e = .returned (.int .i64 k0) ∧ w' = w := by
  go_enter Try.func34, Try.ntmps34
  go_wp2
  refine wp_loop_rounds 1 ?_
  rw [rounds_succ]
  go_wp2
  go_ret
  exact ⟨rfl, rfl⟩
/-- a marked slice of answers -/
def Av (l : List An) (v : Value) (W : World) : Prop := (v = .slice none 0 0 ∧ l = []) ∨ ∃ g cap, v = .slice (some ⟨g, 0, none⟩) l.length cap ∧ Dn g l 1 W
/-- a marked slice of numbers -/
def Oz (k n : Nat) (v : Value) (W : World) : Prop := (v = .slice none 0 0 ∧ n = 0) ∨ ∃ g cap, v = .slice (some ⟨g, 0, none⟩) n cap ∧ RowV W g 3 (Ns .i64 (rampIn k n))
theorem Av.below {l : List An} {v : Value} {W W' : World} (h : Av l v W) (hb : Below W.heap.size W W') : Av l v W' := by
  rcases h with h | ⟨g, cap, e, h1⟩
  · exact .inl h
  · exact .inr ⟨g, cap, e, h1.below hb⟩
theorem Oz.below {k n : Nat} {v : Value} {W W' : World} (h : Oz k n v W) (hb : Below W.heap.size W W') : Oz k n v W' := by
  rcases h with h | ⟨g, cap, e, h1⟩
  · exact .inl h
  · exact .inr ⟨g, cap, e, h1.below hb h1.lt⟩
theorem markV (B : Nat) (l : List An) (v : Value) (w : World) (h : w.ownsRow B 36 2 v l.length (flatA l)) (hr : ∀ x ∈ l, w.ownsRow B 5 1 x.2 x.1.2.length (Ns .u8 x.1.2)) (hap : l.Pairwise fun x y => ∀ g, x.2.ownBlock = some g → y.2.ownBlock ≠ some g) (hb : l.length + totA l ≤ 10000000) (hd : ∀ x ∈ l, x.1.2.length ≤ 1048576) :
    Calls Try.prog 32 #[v, .int .i64 1] w fun e w' => e = .returned (.int .i64 (mkA 1 l l.length : Nat)) ∧ Av l v w' ∧ Bt (fun b => v.ownBlock = some b ∨ ∃ x ∈ l, x.2.ownBlock = some b) w w' := by
  rcases h.2 with ⟨e, h0⟩ | ⟨g, cap, cur, e, _⟩
  · have : l = [] := List.eq_nil_of_length_eq_zero h0
    subst this e
    refine (markAs_nil 1 w (by omega)).mono ?_
    rintro e w' ⟨rfl, rfl⟩
    exact ⟨rfl, .inl ⟨rfl, rfl⟩, Bt.refl _ _⟩
  · subst e
    refine (markAs g l.length cap 1 l w (Mk.first 1 h hr) hap rfl hb (by omega) hd).mono ?_
    rintro e w' ⟨rfl, m⟩
    refine ⟨rfl, .inr ⟨g, cap, rfl, m.dn⟩, m.bt.os, m.bt.tape, m.bt.output, m.bt.size, fun b hb' hn => m.bt.block b hb' (fun hs => hn ?_)⟩
    rcases hs with rfl | hs
    · exact .inl rfl
    · exact .inr hs
theorem markO (B : Nat) (os : List Int) (k : Nat) (vo : Value) (w : World) (h : w.ownsRow B 3 1 vo os.length (Ns .i64 os)) (ho : os.length ≤ 1048576) (hk : k ≤ 1000000000000) :
    Calls Try.prog 33 #[vo, .int .i64 k] w fun e w' => e = .returned (.int .i64 (k + os.length : Nat)) ∧ Oz k os.length vo w' ∧ w.grownBy w' vo.ownBlock := by
  rcases h.2 with ⟨e, h0⟩ | ⟨g, cap, cur, e, _⟩
  · have : os = [] := List.eq_nil_of_length_eq_zero h0
    subst this e
    refine (markIn_nil k w hk).mono ?_
    rintro e w' ⟨rfl, rfl⟩
    exact ⟨rfl, .inl ⟨rfl, rfl⟩, ⟨rfl, rfl, rfl, Nat.le_refl _, fun _ _ _ => rfl⟩⟩
  · subst e
    refine (markIn g os.length cap os k w rfl ho hk (RowV.ofOwns h)).mono ?_
    rintro e w' ⟨rfl, r, hg⟩
    exact ⟨rfl, .inr ⟨g, cap, rfl, r⟩, hg⟩
theorem heldV (l : List An) (v : Value) (w : World) (h : Av l v w) (hb : l.length + totA l ≤ 10000000) (hd : ∀ x ∈ l, x.1.2.length ≤ 1048576) :
    Calls Try.prog 34 #[v, .int .i64 1] w fun e w' => e = .returned (.int .i64 (mkA 1 l l.length : Nat)) ∧ Below w.heap.size w w' := by
  rcases h with ⟨rfl, rfl⟩ | ⟨g, cap, rfl, h⟩
  · refine (heldAs_nil 1 w (by omega)).mono ?_
    rintro e w' ⟨rfl, rfl⟩
    exact ⟨rfl, Below.refl _ _⟩
  · exact heldAs g l.length cap 1 l w h rfl hb (by omega) hd
theorem heldO (k n : Nat) (vo : Value) (w : World) (h : Oz k n vo w) (ho : n ≤ 1048576) (hk : k ≤ 1000000000000) :
    Calls Try.prog 35 #[vo, .int .i64 k] w fun e w' => e = .returned (.int .i64 (k + n : Nat)) ∧ w' = w := by
  rcases h with ⟨rfl, rfl⟩ | ⟨g, cap, rfl, h⟩
  · exact heldIn_nil k w hk
  · exact heldIn g n cap k w ho hk h
theorem own_sl {W : World} {base : Nat} {e : TypeId} {size : Nat} {v : Value} {n : Nat} {xs : List Value} (h : W.ownsRow base e size v n xs) : ∃ a b c, v = .slice a b c := by
  rcases h.2 with ⟨rfl, _⟩ | ⟨g, cap, cur, rfl, _⟩ <;> exact ⟨_, _, _, rfl⟩
theorem own_ap {W : World} {b1 b2 : Nat} {e1 e2 : TypeId} {s1 s2 : Nat} {v1 v2 : Value} {n1 n2 : Nat} {x1 x2 : List Value} (h1 : W.ownsRow b1 e1 s1 v1 n1 x1) (h2 : W.ownsRow b2 e2 s2 v2 n2 x2) (hne : e1 ≠ e2) {g : Nat} (e : v1.ownBlock = some g) : v2.ownBlock ≠ some g := fun e' => by
  obtain ⟨c, hc⟩ := own_type h1 e
  obtain ⟨c', hc'⟩ := own_type h2 e'
  rw [hc] at hc'
  simp at hc'
  exact hne hc'.2

set_option maxHeartbeats 1000000 in
theorem markR (B : Nat) (ok : Bool) (cm : Int) (l : List An) (os : List Int) (v vo : Value) (w : World) (hB : B ≤ w.heap.size) (h : w.ownsRow B 36 2 v l.length (flatA l)) (hr : ∀ x ∈ l, w.ownsRow B 5 1 x.2 x.1.2.length (Ns .u8 x.1.2)) (hap : l.Pairwise fun x y => ∀ g, x.2.ownBlock = some g → y.2.ownBlock ≠ some g)
    (hos : w.ownsRow B 3 1 vo os.length (Ns .i64 os)) (hb : l.length + totA l ≤ 10000000) (hd : ∀ x ∈ l, x.1.2.length ≤ 1048576) (ho : os.length ≤ 1048576) :
    Calls Try.prog 15 #[.agg #[.bool ok, v, .int .i64 cm, vo], .int .i64 1] w fun e w' => e = .returned (.int .i64 (mkA 1 l l.length + os.length : Nat)) ∧ (Av l v w' ∧ Oz (mkA 1 l l.length) os.length vo w') ∧ Below B w w' ∧ ∀ (g : Nat) (c : Array Value) (f : Nat × Nat), w.heap[g]? = some (.cells c 29 f) → w'.heap[g]? = w.heap[g]? := by
  have T0 := hid (show Below w.heap.size w (w.alloc (.cells #[.bool ok, v, .int .i64 cm, vo] 29)) from (Below.refl _ _).alloc (Nat.le_refl _) _)
  have X1 := hid (al_last w (.cells #[.bool ok, v, .int .i64 cm, vo] 29))
  have k1 : ∀ {e : TypeId} {s : Nat} {u : Value} {n : Nat} {xs : List Value}, w.ownsRow B e s u n xs → (w.alloc (.cells #[.bool ok, v, .int .i64 cm, vo] 29)).ownsRow B e s u n xs := fun hu => own_keep hu (fun g c _ hc => T0.out.block g (lt_blk hc))
  have HV := hid (markV B l v _ (k1 h) (fun x hx => k1 (hr x hx)) hap hb hd)
  have HH := hid (And.intro h (And.intro hr hos))
  have hmk : mkA 1 l l.length ≤ 1000000000000 := by have := totA_le l l.length; unfold mkA; omega
  obtain ⟨p1, q1, c1, hvs⟩ := own_sl h
  obtain ⟨p2, q2, c2, hos'⟩ := own_sl hos
  have V1 := hid hvs
  have V2 := hid hos'
  obtain ⟨mm, hmm⟩ : ∃ mm, mkA 1 l l.length = mm := ⟨_, rfl⟩
  rw [hmm] at HV hmk ⊢
  have HB := hid hB
  clear h hr hos hap hvs hos' k1 hmm hB
  go_enter Try.func15, Try.ntmps15
  go_wp2_with fail
  generalize w.alloc _ = W1 at *
  refine (HV.out).mono ?_
  rintro e w2 ⟨rfl, av, bt⟩
  obtain ⟨h, hr, hos⟩ := HH.out
  have hsz := T0.out.size
  have hx : W1.heap[w.heap.size]? = w2.heap[w.heap.size]? := (bt.block _ (lt_blk X1.out) (fun hs => by
    rcases hs with e | ⟨x, hm, e⟩
    · have := (h.lt _ e).2; omega
    · have := ((hr x hm).lt _ e).2; omega)).symm
  have hos2 : w2.ownsRow B 3 1 vo os.length (Ns .i64 os) := own_keep (W := W1) (own_keep hos (fun g c _ hc => T0.out.block g (lt_blk hc))) (fun g c hg hc => bt.block g (lt_blk hc) (fun hs => by
    rcases hs with e | ⟨x, hm, e⟩
    · exact own_ap h hos (by decide) e hg
    · exact own_ap (hr x hm) hos (by decide) e hg))
  have cw : w2.cell? ⟨w.heap.size, 3, none⟩ = some vo := by rw [cell_of_row _ _ _ _ _ _ (hx.symm.trans X1.out)]; rfl
  have HM := hid (markO B os mm vo w2 hos2 ho hmk)
  have AV := hid av
  have BT := hid bt
  clear av bt hx hos2 HV hsz h hr hos
  go_wp2_with fail
  refine (HM.out).mono ?_
  rintro e w3 ⟨rfl, oz, hg⟩
  have av3 : Av l v w3 := by
    rcases AV.out with hh | ⟨g, cap, e, hh⟩
    · exact .inl hh
    · refine .inr ⟨g, cap, e, hh.keep ?_ (fun x hm b hb' hlt => ?_)⟩
      · have hgl : g < w2.heap.size := by
          have := (HH.out.1.lt g (by rw [e]; rfl)).2
          have := T0.out.size
          have := BT.out.size
          omega
        exact hg.block g hgl (fun e' => own_ap HH.out.1 HH.out.2.2 (by decide) (by rw [e]; rfl) e'.symm)
      · exact hg.block b hlt (fun e' => own_ap (HH.out.2.1 x hm) HH.out.2.2 (by decide) hb' e'.symm)
  have AO := hid (And.intro av3 oz)
  have BF := hid (show Below B w w3 by
    have hB := HB.out
    have s1 := T0.out.size
    have s2 := BT.out.size
    refine ⟨hg.os.trans (BT.out.os.trans T0.out.os), hg.tape.trans (BT.out.tape.trans T0.out.tape), hg.output.trans (BT.out.output.trans T0.out.output), by have := hg.size; omega, fun g hgB => ?_⟩
    rw [hg.block g (by omega) (fun e => by have := (HH.out.2.2.lt g e.symm).1; omega), BT.out.block g (by omega) (fun hs => by
      rcases hs with e | ⟨x, hm, e⟩
      · have := (HH.out.1.lt g e).1; omega
      · have := ((HH.out.2.1 x hm).lt g e).1; omega)]
    exact T0.out.block g (by omega))
  have BK := hid (show ∀ (g : Nat) (c : Array Value) (f : Nat × Nat), w.heap[g]? = some (.cells c 29 f) → w3.heap[g]? = w.heap[g]? from fun g c f hc => by
    have s1 := T0.out.size
    have s2 := BT.out.size
    have hl := lt_blk hc
    have hne : ∀ {e : TypeId} {s : Nat} {u : Value} {n : Nat} {xs : List Value}, w.ownsRow B e s u n xs → e ≠ 29 → u.ownBlock ≠ some g := fun hu he e' => by
      obtain ⟨c', hc'⟩ := own_type hu e'
      rw [hc] at hc'
      simp at hc'
      exact he hc'.2.1.symm
    rw [hg.block g (by omega) (fun e => hne HH.out.2.2 (by decide) e.symm), BT.out.block g (by omega) (fun hs => by
      rcases hs with e | ⟨x, hm, e⟩
      · exact hne HH.out.1 (by decide) e
      · exact hne (HH.out.2.1 x hm) (by decide) e)]
    exact T0.out.block g hl)
  clear av3 oz hg HM AV BT cw
  go_wp2
  go_ret
  exact ⟨rfl, AO.out, BF.out, BK.out⟩

set_option maxHeartbeats 1000000 in
theorem heldR (ok : Bool) (cm : Int) (l : List An) (n : Nat) (v vo : Value) (w : World) (h : Av l v w) (hz : Oz (mkA 1 l l.length) n vo w) (hb : l.length + totA l ≤ 10000000) (hd : ∀ x ∈ l, x.1.2.length ≤ 1048576) (ho : n ≤ 1048576) :
    Calls Try.prog 16 #[.agg #[.bool ok, v, .int .i64 cm, vo], .int .i64 1] w fun e w' => e = .returned (.int .i64 (mkA 1 l l.length + n : Nat)) ∧ Below w.heap.size w w' := by
  have T0 := hid (show Below w.heap.size w (w.alloc (.cells #[.bool ok, v, .int .i64 cm, vo] 29)) from (Below.refl _ _).alloc (Nat.le_refl _) _)
  have X1 := hid (al_last w (.cells #[.bool ok, v, .int .i64 cm, vo] 29))
  have HV := hid (heldV l v _ (h.below T0.out) hb hd)
  have HH := hid hz
  have hmk : mkA 1 l l.length ≤ 1000000000000 := by have := totA_le l l.length; unfold mkA; omega
  obtain ⟨p1, q1, c1, hvs⟩ : ∃ a b c, v = .slice a b c := by rcases h with ⟨e, _⟩ | ⟨g, cap, e, _⟩ <;> exact ⟨_, _, _, e⟩
  obtain ⟨p2, q2, c2, hos'⟩ : ∃ a b c, vo = .slice a b c := by rcases hz with ⟨e, _⟩ | ⟨g, cap, e, _⟩ <;> exact ⟨_, _, _, e⟩
  have V1 := hid hvs
  have V2 := hid hos'
  obtain ⟨mm, hmm⟩ : ∃ mm, mkA 1 l l.length = mm := ⟨_, rfl⟩
  rw [hmm] at HV hmk HH ⊢
  clear h hz hvs hos' hmm
  have t1 : ¬ ((mm : Int) < 0) := by omega
  have t2 : ¬ (((mm + n : Nat) : Int) < 0) := by omega
  go_enter Try.func16, Try.ntmps16
  go_wp2_with fail
  generalize w.alloc _ = W1 at *
  refine (HV.out).mono ?_
  rintro e w2 ⟨rfl, b2⟩
  have cw : w2.cell? ⟨w.heap.size, 3, none⟩ = some vo := by rw [cell_of_row _ _ _ _ _ _ ((b2.block _ (lt_blk X1.out)).trans X1.out)]; rfl
  have B2 := hid (bl_trans T0.out b2)
  have HM := hid (heldO mm n vo w2 (HH.out.below B2.out) ho hmk)
  clear b2 HV
  go_wp2_with fail
  refine (HM.out).mono ?_
  rintro e w3 ⟨rfl, rfl⟩
  clear cw HM
  go_wp2
  go_ret
  exact ⟨rfl, B2.out⟩
end Go.Proofs.Ytiddopgeomojbaa

namespace Go.Proofs.Ytiddopgeomojbaa
open Go.RowKit Go.Shelf Go.Maps
set_option linter.unusedVariables false

theorem stepM_data (nn : Nat) (bud : Int) (m : Nat → Option (Bool × List Int)) (kd p c : Int) (a : Nat) (n : Int) (ys : List Int) : (stepM nn bud m kd p c a n ys).2.2.length ≤ 4096 := by
  unfold stepM
  split
  · dsimp only
    split
    · rename_i h
      unfold accC at h
      split at h
      · omega
      · simp [loadB]; omega
    · simp
  · split
    · simp
    · split
      · simp
      · split <;> simp
theorem runM_data (nn : Nat) (bud : Int) (ops : List Op9) : ∀ k, ∀ r ∈ (runM nn bud ops k).2, r.2.length ≤ 4096
  | 0, r, h => by simp [runM] at h
  | k + 1, r, h => by
    simp only [runM] at h
    cases ho : ops[k]? with
    | none => rw [ho] at h; exact runM_data nn bud ops k r h
    | some o =>
      rw [ho] at h
      simp only [List.mem_append, List.mem_singleton] at h
      rcases h with h | h
      · exact runM_data nn bud ops k r h
      · rw [h]; exact stepM_data _ _ _ _ _ _ _ _ _
theorem runM_cp (nn : Nat) (bud : Int) (ops : List Op9) (gs : List Nat) (hl : gs.length = ops.length) : ∀ k, runM nn bud (List.zipWith cpO ops gs) k = runM nn bud ops k
  | 0 => rfl
  | k + 1 => by
    simp only [runM]
    rw [runM_cp nn bud ops gs hl k]
    cases ho : ops[k]? with
    | none =>
      rw [show (List.zipWith cpO ops gs)[k]? = none by rw [List.getElem?_zipWith, ho]]
    | some o =>
      obtain ⟨g, hg⟩ : ∃ g, gs[k]? = some g := ⟨_, List.getElem?_eq_getElem (by have := (List.getElem?_eq_some_iff.1 ho).1; omega)⟩
      rw [show (List.zipWith cpO ops gs)[k]? = some (cpO o g) by rw [List.getElem?_zipWith, ho, hg]]
      rfl
/-- an operation's parts are numbers of their kinds -/
def Good (o : Op9) : Prop := o.a < 18446744073709551616 ∧ o.p ≤ 9223372036854775807 ∧ o.ys.length = o.dl
theorem Cp.get {B G N : Nat} {w : World} {ops : List Op9} {gs : List Nat} (h : Cp B w G N ops gs) {k : Nat} {o' : Op9} (ho : (List.zipWith cpO ops gs)[k]? = some o') : ∃ o g, ops[k]? = some o ∧ gs[k]? = some g ∧ o' = cpO o g := by
  rw [List.getElem?_zipWith] at ho
  cases h1 : ops[k]? with
  | none => rw [h1] at ho; cases ho
  | some o =>
    cases h2 : gs[k]? with
    | none => rw [h1, h2] at ho; cases ho
    | some g => rw [h1, h2] at ho; cases ho; exact ⟨o, g, rfl, rfl, rfl⟩
theorem Cp.oi {B G N : Nat} {w : World} {ops : List Op9} {gs : List Nat} (h : Cp B w G N ops gs) (hg : ∀ o ∈ ops, Good o) : Oi w G (List.zipWith cpO ops gs) := by
  refine ⟨fun _ => ?_, fun o' ho' => ?_⟩
  · obtain ⟨c, hc, hs⟩ := h.typ
    refine ⟨c, (0, 0), hc, fun i o' ho' => ?_⟩
    obtain ⟨o, g, h1, h2, rfl⟩ := h.get ho'
    have hr := (h.at_ i o g h1 h2).1
    have key : ∀ j v, (opC (cpO o g))[j]? = some v → c[i * 6 + j]? = some v := fun j v hv => by simpa [World.cell?, hc] using hr j v hv
    exact ⟨key 0 _ rfl, key 1 _ rfl, key 2 _ rfl, key 3 _ rfl, key 4 _ rfl, key 5 _ rfl⟩
  · obtain ⟨k, hk⟩ := List.getElem?_of_mem ho'
    obtain ⟨o, g, h1, h2, rfl⟩ := h.get hk
    obtain ⟨g1, g2, g3⟩ := hg o (List.mem_of_getElem? h1)
    have hr := (h.at_ k o g h1 h2).2.1
    refine ⟨g1, g3, fun i hi => ⟨⟨g, 0, none⟩, rfl, ?_, ?_⟩⟩
    · rw [Addr.add_mid, Nat.zero_add]
      exact cell_n hr i (by rw [g3]; exact hi)
    · rw [Addr.add_mid]; exact hr.lt
/-- a report of one's own -/
def RepB (w : World) (ok : Bool) (rs : List (Int × List Int)) (cm : Int) (os : List Int) (r : Value) (w' : World) : Prop :=
  ∃ (l : List An) (v vo : Value), r = .agg #[.bool ok, v, .int .i64 cm, vo] ∧ l.map Prod.fst = rs ∧ w'.ownsRow w.heap.size 36 2 v l.length (flatA l) ∧ (∀ x ∈ l, w'.ownsRow w.heap.size 5 1 x.2 x.1.2.length (Ns .u8 x.1.2)) ∧ (l.Pairwise fun x y => ∀ g, x.2.ownBlock = some g → y.2.ownBlock ≠ some g) ∧ w'.ownsRow w.heap.size 3 1 vo os.length (Ns .i64 os) ∧ Below w.heap.size w w'
theorem Rep.b {w w' : World} {rs : List (Int × List Int)} {cm : Int} {os : List Int} {r : Value} (h : Rep w rs cm os r w') : RepB w true rs cm os r w' := h
/-- what a run answers -/
def okR (nn bud : Int) (n : Nat) : Bool := decide (0 ≤ nn) && (decide (nn ≤ 4096) && (decide (0 ≤ bud) && decide (n ≤ 400)))
def ansR (nn bud : Int) (ops : List Op9) : List (Int × List Int) × Int × List Int :=
  if okR nn bud ops.length then ((runM nn.toNat bud ops ops.length).2, (cntM (runM nn.toNat bud ops ops.length).1 nn.toNat : Nat), opensM (runM nn.toNat bud ops ops.length).1 nn.toNat) else ([], 0, [])
theorem ansR_len (nn bud : Int) (ops : List Op9) : (ansR nn bud ops).1.length ≤ 400 ∧ (∀ r ∈ (ansR nn bud ops).1, r.2.length ≤ 4096) ∧ (ansR nn bud ops).2.2.length ≤ 4096 := by
  unfold ansR
  split
  · rename_i h
    unfold okR at h
    simp only [Bool.and_eq_true, decide_eq_true_eq] at h
    refine ⟨by rw [runM_len _ _ _ _ (Nat.le_refl _)]; omega, runM_data _ _ _ _, ?_⟩
    have := opensM_len (runM nn.toNat bud ops ops.length).1 nn.toNat
    dsimp only
    omega
  · exact ⟨by simp, by simp, by simp⟩
theorem noB {w w' : World} (b : Below w.heap.size w w') : RepB w false [] 0 [] (.agg #[.bool false, .slice none 0 0, .int .i64 0, .slice none 0 0]) w' :=
  ⟨[], _, _, rfl, rfl, ⟨rfl, .inl ⟨rfl, rfl⟩⟩, by simp, List.Pairwise.nil, ⟨rfl, .inl ⟨rfl, rfl⟩⟩, b⟩
theorem run_any (F : Nat) (hF : F = 6 ∨ F = 7) (nn bud : Int) (B G n ca : Nat) (ops : List Op9) (gs : List Nat) (w : World) (h : Cp B w G n ops gs) (hn : ops.length = n) (hg : ∀ o ∈ ops, Good o) :
    Calls Try.prog F #[.int .i64 nn, .int .i64 bud, .slice (some ⟨G, 0, none⟩) n ca] w fun e w' => ∃ r, e = .returned r ∧ RepB w (okR nn bud n) (ansR nn bud ops).1 (ansR nn bud ops).2.1 (ansR nn bud ops).2.2 r w' := by
  cases hk : okR nn bud n with
  | false =>
    have hx : nn < 0 ∨ 4096 < nn ∨ bud < 0 ∨ 400 < n := by
      unfold okR at hk
      simp only [Bool.and_eq_false_iff, decide_eq_false_iff_not] at hk
      omega
    have ha : ansR nn bud ops = ([], 0, []) := by unfold ansR; rw [hn, hk]; rfl
    rw [ha]
    rcases hF with rfl | rfl
    · refine (im_run_no nn bud n ca _ w hx).mono ?_
      rintro e w' ⟨rfl, b⟩
      exact ⟨_, rfl, noB b⟩
    · refine (sp_run_no nn bud n ca _ w hx).mono ?_
      rintro e w' ⟨rfl, b⟩
      exact ⟨_, rfl, noB b⟩
  | true =>
    have ha : ansR nn bud ops = ((runM nn.toNat bud ops n).2, ((cntM (runM nn.toNat bud ops n).1 nn.toNat : Nat) : Int), opensM (runM nn.toNat bud ops n).1 nn.toNat) := by unfold ansR; rw [hn, hk]; rfl
    unfold okR at hk
    simp only [Bool.and_eq_true, decide_eq_true_eq] at hk
    obtain ⟨h0, h1, h2, h3⟩ := hk
    have en : nn = (nn.toNat : Int) := by omega
    have hlz : (List.zipWith cpO ops gs).length = n := by have := h.hl; simp; omega
    rw [ha]
    have hc := runM_cp nn.toNat bud ops gs h.hl n
    rcases hF with rfl | rfl
    · have := im_run nn.toNat bud G n ca (some ⟨G, 0, none⟩) (List.zipWith cpO ops gs) w hlz (fun _ => rfl) (h.oi hg) (fun o' ho' => by
        obtain ⟨k, hk⟩ := List.getElem?_of_mem ho'
        obtain ⟨o, g, e1, e2, rfl⟩ := h.get hk
        exact ⟨(hg o (List.mem_of_getElem? e1)).2.1, Nat.le_refl _⟩) (by omega) h2 h3
      rw [hc, ← en] at this
      refine this.mono ?_
      rintro e w' ⟨r, rfl, hr⟩
      exact ⟨r, rfl, hr.b⟩
    · have := sp_run nn.toNat bud G n ca (some ⟨G, 0, none⟩) (List.zipWith cpO ops gs) w hlz (fun _ => rfl) (h.oi hg) (by omega) h2 h3
      rw [hc, ← en] at this
      refine this.mono ?_
      rintro e w' ⟨r, rfl, hr⟩
      exact ⟨r, rfl, hr.b⟩
theorem flatA_at {l : List An} {i : Nat} {x : An} (hx : l[i]? = some x) : (flatA l)[i * 2]? = some (.int .i64 x.1.1) ∧ (flatA l)[i * 2 + 1]? = some x.2 := by
  induction l generalizing i with
  | nil => simp at hx
  | cons y r ih =>
    cases i with
    | zero => simp at hx; subst hx; exact ⟨rfl, rfl⟩
    | succ j =>
      have := ih (i := j) (by simpa using hx)
      rw [show (j + 1) * 2 + 1 = (j * 2 + 1) + 2 by omega, show (j + 1) * 2 = (j * 2) + 2 by omega]
      simpa [flatA] using this
theorem bs_own {W : World} {B : Nat} {u : Value} {data : List Int} (h : W.ownsRow B 5 1 u data.length (Ns .u8 data)) : Bs W u data := by
  rcases rz_own h with ⟨rfl, rfl⟩ | ⟨g, cap, rfl, r⟩
  · exact ⟨_, _, rfl, fun i hi => by simp at hi⟩
  · exact ⟨_, _, rfl, fun i hi => ⟨g, rfl, cell_n r i hi⟩⟩
theorem zs_own {W : World} {B : Nat} {u : Value} {os : List Int} (h : W.ownsRow B 3 1 u os.length (Ns .i64 os)) : Zs W u os := by
  rcases h.2 with ⟨e, h0⟩ | ⟨g, cap, cur, e, _⟩
  · have : os = [] := List.eq_nil_of_length_eq_zero h0
    subst this e
    exact ⟨_, _, rfl, fun i hi => by simp at hi⟩
  · subst e
    exact ⟨_, _, rfl, fun i hi => ⟨g, rfl, cell_n (RowV.ofOwns h) i hi⟩⟩
/-- a report of one's own reads so -/
theorem rr_own {W : World} {B : Nat} {ok : Bool} {cm : Int} {l : List An} {os : List Int} {v vo : Value} (h : W.ownsRow B 36 2 v l.length (flatA l)) (hr : ∀ x ∈ l, W.ownsRow B 5 1 x.2 x.1.2.length (Ns .u8 x.1.2)) (hos : W.ownsRow B 3 1 vo os.length (Ns .i64 os)) : Rr W (.agg #[.bool ok, v, .int .i64 cm, vo]) ok (l.map Prod.fst) cm os := by
  refine ⟨v, vo, rfl, ?_, zs_own hos⟩
  rcases h.2 with ⟨e, h0⟩ | ⟨g, cap, cur, e, _, h1, h2, h3, h4, h5⟩
  · have : l = [] := List.eq_nil_of_length_eq_zero h0
    subst this e
    exact ⟨_, _, rfl, fun k r hk => by simp at hk⟩
  · refine ⟨_, cap, by rw [e, List.length_map], fun k r hk => ?_⟩
    rw [List.getElem?_map] at hk
    cases hx : l[k]? with
    | none => rw [hx] at hk; cases hk
    | some x =>
      rw [hx] at hk
      cases hk
      have hi := (List.getElem?_eq_some_iff.1 hx).1
      obtain ⟨f1, f2⟩ := flatA_at hx
      rw [← h5, List.getElem?_take_of_lt (by omega), Array.getElem?_toList] at f1 f2
      refine ⟨g, x.2, rfl, fun j v hj => ?_, bs_own (hr x (List.mem_of_getElem? hx))⟩
      have hj2 := (List.getElem?_eq_some_iff.1 hj).1
      simp at hj2
      rcases (show j = 0 ∨ j = 1 by omega) with rfl | rfl
      · simp at hj; subst hj; simp [World.cell?, h1, f1]
      · simp at hj; subst hj; simp [World.cell?, h1, f2]
end Go.Proofs.Ytiddopgeomojbaa

namespace Go.Proofs.Ytiddopgeomojbaa
open Go.RowKit Go.Shelf Go.Maps
set_option linter.unusedVariables false

theorem bl_up {a b : Nat} {x W W' : World} (h : Below a x W) (k : Below b W W') (hab : a ≤ b) : Below a x W' :=
  ⟨k.os.trans h.os, k.tape.trans h.tape, k.output.trans h.output, Nat.le_trans h.size k.size, fun g hg => (k.block g (by omega)).trans (h.block g hg)⟩
theorem bt_below {a : Nat} {x W W' : World} {S : Nat → Prop} (h : Below a x W) (k : Bt S W W') (hS : ∀ g, S g → a ≤ g) (ha : a ≤ W.heap.size) : Below a x W' :=
  ⟨k.os.trans h.os, k.tape.trans h.tape, k.output.trans h.output, Nat.le_trans h.size k.size, fun g hg => (k.block g (by omega) (fun hs => by have := hS g hs; omega)).trans (h.block g hg)⟩
theorem InO.good {w : World} {A : Option Addr} {len : Nat} {ops : List Op9} (h : InO w A len ops) : ∀ o ∈ ops, Good o := fun o ho => by
  obtain ⟨k, hk⟩ := List.getElem?_of_mem ho
  obtain ⟨x, _, _, h1, h2, _, zs, h4, h5⟩ := h.at_ k o hk
  exact ⟨h1, h2, by rw [h5]; exact h4.len⟩
theorem totA_bound : ∀ (l : List An), (∀ x ∈ l, x.1.2.length ≤ 4096) → totA l ≤ l.length * 4096
  | [], _ => by simp [totA]
  | x :: r, h => by
    have h1 := h x (by simp)
    have h2 := totA_bound r (fun y hy => h y (by simp [hy]))
    simp only [totA, List.length_cons]
    omega

set_option maxRecDepth 20000 in
set_option maxHeartbeats 8000000 in
theorem walkS (nn bud : Int) (A : Option Addr) (len cap : Nat) (ops : List Op9) (w : World) (h : InO w A len ops) :
    Calls Try.prog 4 #[.int .i64 nn, .int .i64 bud, .slice A len cap] w fun e w' => e = .returned (.bool true) ∧ Below w.heap.size w w' := by
  have hgood := h.good
  have hlen := h.hl
  have SZ := hid (szOps A len cap ops w h)
  have TO := hid (fun W (hW : Below w.heap.size w W) (ht : len + tot ops ≤ 1048576) => toOps A len cap ops W (h.below hW) ht)
  obtain ⟨L1, L2, L3⟩ := ansR_len nn bud ops
  have RU := hid (fun F hF B G gs W (hc : Cp B W G len ops gs) => run_any F hF nn bud B G len len ops gs W hc hlen hgood)
  generalize okR nn bud len = ok at RU
  generalize (ansR nn bud ops).1 = rs at *
  generalize (ansR nn bud ops).2.1 = cm at *
  generalize (ansR nn bud ops).2.2 = os at *
  have EQ := hid (fun r1 r2 W (h1 : Rr W r1 ok rs cm os) (h2 : Rr W r2 ok rs cm os) => eqR r1 r2 ok rs cm os W h1 h2 (by omega) (fun r hr => by have := L2 r hr; omega) (by omega))
  have EO := hid (fun B1 B2 G1 G2 gs1 gs2 W (c1 : Cp B1 W G1 len ops gs1) (c2 : Cp B2 W G2 len ops gs2) (ht : len + tot ops ≤ 1048576) => eqOs B1 B2 G1 G2 len len len ops gs1 gs2 W c1 c2 hlen (by omega) (fun o ho => ⟨(hgood o ho).2.2, by have := tot_mem ho; omega⟩))
  have MO := hid (fun B G gs W (c : Cp B W G len ops gs) (ht : len + tot ops ≤ 1048576) => markOps B G len len ops gs W c hlen ht (fun o ho => (hgood o ho).2.2))
  have HL := hid (And.intro L1 (And.intro L2 L3))
  clear h hgood hlen L1 L2 L3
  go_enter Try.func4, Try.ntmps4
  go_wp2_with fail
  refine (SZ.out).mono ?_
  rintro e w1 ⟨r0, rfl, hr, b1⟩
  have B1 := hid b1
  clear b1 SZ
  by_cases h0 : r0 < 0
  · go_wp2
    go_ret
    exact ⟨rfl, B1.out⟩
  have ht : len + tot ops ≤ 1048576 := by rcases hr with h | h; exact absurd h h0; exact h
  have HT := hid ht
  clear hr ht
  go_wp2_with fail
  refine (TO.out _ B1.out HT.out).mono ?_
  rintro e w2 ⟨gs1, rfl, c1, b2⟩
  have B2 := hid (bl_trans B1.out b2)
  have C1 := hid c1
  clear c1 b2 B1 h0
  generalize w1.heap.size = G1 at *
  go_wp2_with fail
  refine (RU.out 7 (.inr rfl) _ _ _ _ C1.out).mono ?_
  rintro e w3 ⟨r8, rfl, l8, v8, o8, rfl, e8, q1, q2, q3, q4, b3⟩
  have rr8 : Rr w3 (.agg #[.bool ok, v8, .int .i64 cm, o8]) ok rs cm os := by rw [← e8]; exact rr_own q1 q2 q4
  have B3 := hid (bl_trans B2.out b3)
  obtain ⟨pa, pb, pc, rfl⟩ := own_sl q1
  obtain ⟨pd, pe, pf, rfl⟩ := own_sl q4
  have R8 := hid rr8
  clear q1 q2 q3 q4 e8 rr8 b3 B2 C1
  have A8 := hid (show Below w3.heap.size w3 (w3.alloc (.cells #[.bool ok, .slice pa pb pc, .int .i64 cm, .slice pd pe pf] 29)) from (Below.refl _ _).alloc (Nat.le_refl _) _)
  have X8 := hid (al_last w3 (.cells #[.bool ok, .slice pa pb pc, .int .i64 cm, .slice pd pe pf] 29))
  go_wp2_with fail
  have B4 := hid (bl_trans B3.out A8.out)
  have R8a := hid (R8.out.below A8.out)
  clear B3 R8 A8
  generalize w3.alloc _ = W3 at *
  generalize w3.heap.size = t8 at *
  have RX := hid (fun W (hW : Below W3.heap.size W3 W) => And.intro ((hW.block _ (lt_blk X8.out)).trans X8.out) (R8a.out.below hW))
  clear X8 R8a
  refine (TO.out _ B4.out HT.out).mono ?_
  rintro e w4 ⟨gs2, rfl, c2, b4⟩
  have BC4 := hid b4
  have BW4 := hid (bl_trans B4.out b4)
  have C4 := hid c2
  have NC := hid B4.out.size
  clear c2 b4 B4
  have S4 := hid (fun g (hg : g = W3.heap.size ∨ g ∈ gs2) => (show W3.heap.size ≤ g ∧ g < w4.heap.size by
    rcases hg with rfl | hg
    · obtain ⟨c, hc, _⟩ := C4.out.typ
      exact ⟨Nat.le_refl _, lt_blk hc⟩
    · obtain ⟨i, hi⟩ := List.getElem?_of_mem hg
      have hil := (List.getElem?_eq_some_iff.1 hi).1
      have := C4.out.hl
      obtain ⟨_, r, hb⟩ := C4.out.at_ i _ g (List.getElem?_eq_getElem (by omega)) hi
      exact ⟨hb, r.lt⟩))
  generalize hG2 : W3.heap.size = G2 at *
  go_wp2_with fail
  refine (RU.out 6 (.inl rfl) _ _ _ _ C4.out).mono ?_
  rintro e w5 ⟨r10, rfl, l, v, vo, rfl, e10, q1, q2, q3, q4, b5⟩
  obtain ⟨ua, ub, uc, rfl⟩ := own_sl q1
  obtain ⟨ud, ue, uf, rfl⟩ := own_sl q4
  have A5 : Below w5.heap.size w5 (w5.alloc (.cells #[.bool ok, .slice ua ub uc, .int .i64 cm, .slice ud ue uf] 29)) := (Below.refl _ _).alloc (Nat.le_refl _) _
  have k5 : ∀ {e : TypeId} {s : Nat} {u : Value} {n : Nat} {xs : List Value}, w5.ownsRow w4.heap.size e s u n xs → (w5.alloc (.cells #[.bool ok, .slice ua ub uc, .int .i64 cm, .slice ud ue uf] 29)).ownsRow w4.heap.size e s u n xs := fun hu => own_keep hu (fun g c _ hc => A5.block g (lt_blk hc))
  have X10 := hid (al_last w5 (.cells #[.bool ok, .slice ua ub uc, .int .i64 cm, .slice ud ue uf] 29))
  have O10 := hid (And.intro (k5 q1) (And.intro (fun x hx => k5 (q2 x hx)) (k5 q4)))
  have b5' := bl_trans b5 A5
  have BC5 := hid (bl_up BC4.out b5' (by have := BC4.out.size; omega))
  have BW5 := hid (bl_trans BW4.out b5')
  have C5 := hid (C4.out.below b5')
  have AP := hid q3
  have E10 := hid e10
  have T10 := hid (show w4.heap.size ≤ w5.heap.size from b5.size)
  have NB := hid BC4.out.size
  have hbd := HL.out
  have tot1 : totA l ≤ l.length * 4096 := totA_bound l (fun x hx => hbd.2.1 _ (by rw [← e10]; exact List.mem_map_of_mem hx))
  have hll : l.length ≤ 400 := by have := hbd.1; rw [← e10] at this; simpa using this
  have hdd : ∀ x ∈ l, x.1.2.length ≤ 1048576 := fun x hx => by have := hbd.2.1 x.1 (by rw [← e10]; exact List.mem_map_of_mem hx); omega
  have MR := hid (fun B W hB h1 h2 h4 => markR B ok cm l os (.slice ua ub uc) (.slice ud ue uf) W hB h1 h2 q3 h4 (by omega) hdd (by have := hbd.2.2; omega))
  have HR := hid (fun W h1 h2 => heldR ok cm l os.length (.slice ua ub uc) (.slice ud ue uf) W h1 h2 (by omega) hdd (by have := hbd.2.2; omega))
  obtain ⟨mk, hmk⟩ : ∃ mk, mkA 1 l l.length + os.length = mk := ⟨_, rfl⟩
  rw [hmk] at MR HR
  clear hmk
  clear q1 q2 q3 q4 e10 b5 b5' A5 k5 BC4 BW4 C4 hbd tot1 hll hdd
  have x8 := hid (RX.out _ BC5.out).1
  go_wp2_with (first | (refine wpList_load_row rfl 29 _ rfl _ rfl _ _ _ _ x8.out Try.underlying29 rfl (by kernel_rfl) ?_))
  clear x8
  have XX5 := X10
  have OO5 := O10
  have Z5 := hid (show w4.heap.size ≤ (w5.alloc (.cells #[.bool ok, .slice ua ub uc, .int .i64 cm, .slice ud ue uf] 29)).heap.size by rw [al_size]; have := T10.out; omega)
  clear X10 O10
  generalize w5.alloc _ = W5 at *
  generalize w5.heap.size = t10 at *
  refine (EQ.out _ _ _ (by rw [← E10.out]; exact rr_own OO5.out.1 OO5.out.2.1 OO5.out.2.2) (RX.out _ BC5.out).2).mono ?_
  rintro e w6 ⟨rfl, b6⟩
  have BC6 := hid (bl_up BC5.out b6 (by have := BC5.out.size; omega))
  have BW6 := hid (bl_trans BW5.out b6)
  have XX6 := hid ((b6.block _ (lt_blk XX5.out)).trans XX5.out)
  have Z6 := hid (Nat.le_trans Z5.out b6.size)
  have C6 := hid (C5.out.below b6)
  have OO6 := hid (And.intro (own_keep OO5.out.1 (fun g c _ hc => b6.block g (lt_blk hc))) (And.intro (fun x hx => own_keep (OO5.out.2.1 x hx) (fun g c _ hc => b6.block g (lt_blk hc))) (own_keep OO5.out.2.2 (fun g c _ hc => b6.block g (lt_blk hc)))))
  clear b6 BC5 BW5 XX5 Z5 C5 OO5
  go_wp2_with fail
  refine (TO.out _ BW6.out HT.out).mono ?_
  rintro e w7 ⟨gs3, rfl, c3, b7⟩
  have C3 := hid c3
  clear c3
  have BC7 := hid (bl_up BC6.out b7 (by have := BC6.out.size; omega))
  have BW7 := hid (bl_trans BW6.out b7)
  have XX7 := hid ((b7.block _ (lt_blk XX6.out)).trans XX6.out)
  have Z7 := hid (Nat.le_trans Z6.out b7.size)
  have C7 := hid (C6.out.below b7)
  have OO7 := hid (And.intro (own_keep OO6.out.1 (fun g c _ hc => b7.block g (lt_blk hc))) (And.intro (fun x hx => own_keep (OO6.out.2.1 x hx) (fun g c _ hc => b7.block g (lt_blk hc))) (own_keep OO6.out.2.2 (fun g c _ hc => b7.block g (lt_blk hc)))))
  clear b7 BC6 BW6 XX6 Z6 C6 OO6
  generalize w6.heap.size = G3 at *
  go_wp2_with fail
  refine (EO.out _ _ _ _ _ _ _ C7.out C3.out HT.out).mono ?_
  rintro e w8 ⟨rfl, b8⟩
  have BC8 := hid (bl_up BC7.out b8 (by have := BC7.out.size; omega))
  have BW8 := hid (bl_trans BW7.out b8)
  have XX8 := hid ((b8.block _ (lt_blk XX7.out)).trans XX7.out)
  have Z8 := hid (Nat.le_trans Z7.out b8.size)
  have C8 := hid (C7.out.below b8)
  have OO8 := hid (And.intro (own_keep OO7.out.1 (fun g c _ hc => b8.block g (lt_blk hc))) (And.intro (fun x hx => own_keep (OO7.out.2.1 x hx) (fun g c _ hc => b8.block g (lt_blk hc))) (own_keep OO7.out.2.2 (fun g c _ hc => b8.block g (lt_blk hc)))))
  clear b8 BC7 BW7 XX7 Z7 C7 OO7
  clear C3
  go_wp2_with fail
  refine (MO.out _ _ _ _ C8.out HT.out).mono ?_
  rintro e w9 ⟨r1, rfl, bt⟩
  have BC9 := hid (bt_below BC8.out bt (fun g hs => (S4.out g hs).1) (by rw [← hG2]; exact BC8.out.size))
  have BW9 := hid (bt_below BW8.out bt (fun g hs => Nat.le_trans NC.out (S4.out g hs).1) BW8.out.size)
  have XX9 := hid ((bt.block _ (lt_blk XX8.out) (fun hs => by have := (S4.out _ hs).2; have := T10.out; omega)).trans XX8.out)
  have nS : ∀ {e : TypeId} {s : Nat} {u : Value} {n : Nat} {xs : List Value}, w8.ownsRow w4.heap.size e s u n xs → w9.ownsRow w4.heap.size e s u n xs := fun hu => own_keep hu (fun g c hg hc => bt.block g (lt_blk hc) (fun hs => by have := (S4.out _ hs).2; have := (hu.lt g hg).1; omega))
  have OO9 := hid (And.intro (nS OO8.out.1) (And.intro (fun x hx => nS (OO8.out.2.1 x hx)) (nS OO8.out.2.2)))
  have Z9 := hid (Nat.le_trans Z8.out bt.size)
  clear BC8 BW8 XX8 OO8 Z8 C8 nS bt S4
  have x8 := hid (RX.out _ BC9.out).1
  have tn : decide ((r1 : Int) < 0) = false := decide_eq_false (by omega)
  have c80 : w9.cell? ⟨t8, 0, none⟩ = some (.bool ok) := by rw [cell_of_row _ _ _ _ _ _ x8.out]; rfl
  have c81 : w9.cell? ⟨t8, 1, none⟩ = some (.slice pa pb pc) := by rw [cell_of_row _ _ _ _ _ _ x8.out]; rfl
  have c82 : w9.cell? ⟨t8, 2, none⟩ = some (.int .i64 cm) := by rw [cell_of_row _ _ _ _ _ _ x8.out]; rfl
  have c83 : w9.cell? ⟨t8, 3, none⟩ = some (.slice pd pe pf) := by rw [cell_of_row _ _ _ _ _ _ x8.out]; rfl
  have c10 : w9.cell? ⟨t10, 0, none⟩ = some (.bool ok) := by rw [cell_of_row _ _ _ _ _ _ XX9.out]; rfl
  have c11 : w9.cell? ⟨t10, 1, none⟩ = some (.slice ua ub uc) := by rw [cell_of_row _ _ _ _ _ _ XX9.out]; rfl
  have c12 : w9.cell? ⟨t10, 2, none⟩ = some (.int .i64 cm) := by rw [cell_of_row _ _ _ _ _ _ XX9.out]; rfl
  have c13 : w9.cell? ⟨t10, 3, none⟩ = some (.slice ud ue uf) := by rw [cell_of_row _ _ _ _ _ _ XX9.out]; rfl
  clear x8
  go_wp2_with fail
  refine (EQ.out _ _ _ (by rw [← E10.out]; exact rr_own OO9.out.1 OO9.out.2.1 OO9.out.2.2) (RX.out _ BC9.out).2).mono ?_
  rintro e w10 ⟨rfl, b10⟩
  clear c80 c81 c82 c83 c10 c11 c12 c13
  have BC10 := hid (bl_up BC9.out b10 (by have := BC9.out.size; omega))
  have BW10 := hid (bl_trans BW9.out b10)
  have XX10 := hid ((b10.block _ (lt_blk XX9.out)).trans XX9.out)
  have Z10 := hid (Nat.le_trans Z9.out b10.size)
  have OO10 := hid (And.intro (own_keep OO9.out.1 (fun g c _ hc => b10.block g (lt_blk hc))) (And.intro (fun x hx => own_keep (OO9.out.2.1 x hx) (fun g c _ hc => b10.block g (lt_blk hc))) (own_keep OO9.out.2.2 (fun g c _ hc => b10.block g (lt_blk hc)))))
  clear b10 BC9 BW9 XX9 Z9 OO9
  go_wp2_with (first | (refine wpList_load_row rfl 29 _ rfl _ rfl _ _ _ _ XX10.out Try.underlying29 rfl (by kernel_rfl) ?_))
  refine (MR.out _ _ Z10.out OO10.out.1 OO10.out.2.1 OO10.out.2.2).mono ?_
  rintro e w11 ⟨rfl, ao, b11, bk⟩
  have AO := hid ao
  have BC11 := hid (bl_up BC10.out b11 (by have := NB.out; omega))
  have BW11 := hid (bl_up BW10.out b11 (Nat.le_trans (Nat.le_trans NC.out (by omega)) NB.out))
  have XX11 := hid ((bk _ _ _ XX10.out).trans XX10.out)
  have Z11 := hid (Nat.le_trans Z10.out b11.size)
  clear ao b11 bk BC10 BW10 XX10 OO10 Z10
  go_wp2_with (first | (refine wpList_load_row rfl 29 _ rfl _ rfl _ _ _ _ XX11.out Try.underlying29 rfl (by kernel_rfl) ?_))
  refine (HR.out _ AO.out.1 AO.out.2).mono ?_
  rintro e w12 ⟨rfl, b12⟩
  have AP := hid (And.intro (AO.out.1.below b12) (AO.out.2.below b12))
  clear AO
  have BC12 := hid (bl_up BC11.out b12 (by have := BC11.out.size; omega))
  have BW12 := hid (bl_trans BW11.out b12)
  have XX12 := hid ((b12.block _ (lt_blk XX11.out)).trans XX11.out)
  have Z12 := hid (Nat.le_trans Z11.out b12.size)
  clear b12 BC11 BW11 XX11 Z11
  have t1 : decide ((mk : Int) < 0) = false := decide_eq_false (by omega)
  have t2 : ((mk : Int) != (mk : Int)) = false := by simp
  go_wp2_with fail
  refine (TO.out _ BW12.out HT.out).mono ?_
  rintro e w13 ⟨gs4, rfl, c4, b13⟩
  have C13 := hid c4
  have AP13 := hid (And.intro (AP.out.1.below b13) (AP.out.2.below b13))
  clear AP c4
  have BC13 := hid (bl_up BC12.out b13 (by have := BC12.out.size; omega))
  have BW13 := hid (bl_trans BW12.out b13)
  have XX13 := hid ((b13.block _ (lt_blk XX12.out)).trans XX12.out)
  have Z13 := hid (Nat.le_trans Z12.out b13.size)
  clear b13 BC12 BW12 XX12 Z12
  generalize w12.heap.size = G4 at *
  go_wp2_with fail
  refine (RU.out 6 (.inl rfl) _ _ _ _ C13.out).mono ?_
  rintro e w14 ⟨r14, rfl, l14, v14, o14, rfl, e14, q1, q2, q3, q4, b14⟩
  have R14 := hid (show Rr w14 (.agg #[.bool ok, v14, .int .i64 cm, o14]) ok rs cm os by rw [← e14]; exact rr_own q1 q2 q4)
  obtain ⟨sa, sb, sc, rfl⟩ := own_sl q1
  obtain ⟨sd, se, sf, rfl⟩ := own_sl q4
  have A14 : Below w14.heap.size w14 (w14.alloc (.cells #[.bool ok, .slice sa sb sc, .int .i64 cm, .slice sd se sf] 29)) := (Below.refl _ _).alloc (Nat.le_refl _) _
  have b14' := bl_trans b14 A14
  have AP14 := hid (And.intro (AP13.out.1.below b14') (AP13.out.2.below b14'))
  have R14a := hid (R14.out.below A14)
  clear q1 q2 q3 q4 e14 R14 A14 b14 C13 AP13
  have BC14 := hid (bl_up BC13.out b14' (by have := BC13.out.size; omega))
  have BW14 := hid (bl_trans BW13.out b14')
  have XX14 := hid ((b14'.block _ (lt_blk XX13.out)).trans XX13.out)
  have Z14 := hid (Nat.le_trans Z13.out b14'.size)
  clear b14' BC13 BW13 XX13 Z13
  have x8 := hid (RX.out _ BC14.out).1
  go_wp2_with (first | (refine wpList_load_row rfl 29 _ rfl _ rfl _ _ _ _ x8.out Try.underlying29 rfl (by kernel_rfl) ?_))
  clear x8
  generalize w14.alloc _ = W14 at *
  refine (EQ.out _ _ _ R14a.out (RX.out _ BC14.out).2).mono ?_
  rintro e w15 ⟨rfl, b15⟩
  have AP15 := hid (And.intro (AP14.out.1.below b15) (AP14.out.2.below b15))
  clear AP14 R14a
  have BC15 := hid (bl_up BC14.out b15 (by have := BC14.out.size; omega))
  have BW15 := hid (bl_trans BW14.out b15)
  have XX15 := hid ((b15.block _ (lt_blk XX14.out)).trans XX14.out)
  have Z15 := hid (Nat.le_trans Z14.out b15.size)
  clear b15 BC14 BW14 XX14 Z14
  go_wp2_with (first | (refine wpList_load_row rfl 29 _ rfl _ rfl _ _ _ _ XX15.out Try.underlying29 rfl (by kernel_rfl) ?_))
  refine (HR.out _ AP15.out.1 AP15.out.2).mono ?_
  rintro e w16 ⟨rfl, b16⟩
  have BW16 := hid (bl_trans BW15.out b16)
  clear b16 AP15 BW15 BC15 XX15 Z15
  go_wp2
  go_ret
  exact ⟨rfl, BW16.out⟩
end Go.Proofs.Ytiddopgeomojbaa
#print axioms Go.Proofs.Ytiddopgeomojbaa.walkS
