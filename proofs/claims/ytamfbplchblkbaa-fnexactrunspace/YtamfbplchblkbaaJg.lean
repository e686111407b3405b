import Derived.Test.YtamfbplchblkbaaJf
namespace Go.Proofs.Ytamfbplchblkbaa
open Go.RowKit Go.Shelf Go.Maps
set_option linter.unusedVariables false

/-- a slice of numbers that reads as os -/
def Zs (w : World) (u : Value) (os : List Int) : Prop := ∃ a c, u = .slice a os.length c ∧ ∀ i, i < os.length → ∃ g, a = some ⟨g, 0, none⟩ ∧ w.cell? ⟨g, i, none⟩ = some (.int .i64 (os[i]?.getD 0))
theorem Zs.below {w W : World} {u : Value} {data : List Int} (h : Zs w u data) (hb : Below w.heap.size w W) : Zs W u data := by
  obtain ⟨a, c, e, h1⟩ := h
  exact ⟨a, c, e, fun i hi => by obtain ⟨g, e1, e2⟩ := h1 i hi; exact ⟨g, e1, below_cell hb e2⟩⟩
/-- a report that reads so -/
def Rr (w : World) (r : Value) (ok : Bool) (rs : List (Int × List Int)) (cm : Int) (os : List Int) : Prop := ∃ v vo, r = .agg #[.bool ok, v, .int .i64 cm, vo] ∧ As w v rs ∧ Zs w vo os
theorem Rr.below {w W : World} {r : Value} {ok : Bool} {rs : List (Int × List Int)} {cm : Int} {os : List Int} (h : Rr w r ok rs cm os) (hb : Below w.heap.size w W) : Rr W r ok rs cm os := by
  obtain ⟨v, vo, e, h1, h2⟩ := h
  exact ⟨v, vo, e, h1.below hb, h2.below hb⟩

set_option maxHeartbeats 1000000 in
theorem eqR (r1 r2 : Value) (ok : Bool) (rs : List (Int × List Int)) (cm : Int) (os : List Int) (w : World) (h1 : Rr w r1 ok rs cm os) (h2 : Rr w r2 ok rs cm os) (hn : rs.length ≤ 1048576) (hl : ∀ r ∈ rs, r.2.length ≤ 1048576) (ho : os.length ≤ 1048576) :
    Calls Try.prog 12 #[r1, r2] w fun e w' => e = .returned (.bool true) ∧ Below w.heap.size w w' := by
  obtain ⟨v1, o1, rfl, a1, z1⟩ := h1
  obtain ⟨v2, o2, rfl, a2, z2⟩ := h2
  have T0 := hid (show Below w.heap.size w ((w.alloc (.cells #[.bool ok, v1, .int .i64 cm, o1] 29)).alloc (.cells #[.bool ok, v2, .int .i64 cm, o2] 29)) from ((Below.refl _ _).alloc (Nat.le_refl _) _).alloc (by rw [al_size]; omega) _)
  have X1 := hid (show ((w.alloc (.cells #[.bool ok, v1, .int .i64 cm, o1] 29)).alloc (.cells #[.bool ok, v2, .int .i64 cm, o2] 29)).heap[w.heap.size]? = some (.cells #[.bool ok, v1, .int .i64 cm, o1] 29) by rw [al_old _ _ _ (by rw [al_size]; omega)]; exact al_last _ _)
  have X2 := hid (show ((w.alloc (.cells #[.bool ok, v1, .int .i64 cm, o1] 29)).alloc (.cells #[.bool ok, v2, .int .i64 cm, o2] 29)).heap[w.heap.size + 1]? = some (.cells #[.bool ok, v2, .int .i64 cm, o2] 29) by rw [← al_size w (.cells #[.bool ok, v1, .int .i64 cm, o1] 29)]; exact al_last _ _)
  have HE := hid (eqAs v1 v2 rs _ (a1.below T0.out) (a2.below T0.out) hn hl)
  have HZ := hid (fun W (hW : Below w.heap.size w W) => (show Calls Try.prog 29 #[o1, o2] W fun e w' => e = .returned (.bool true) ∧ Below W.heap.size W w' by
    obtain ⟨a, ca, rfl, h3⟩ := z1.below hW
    obtain ⟨b, cb, rfl, h4⟩ := z2.below hW
    exact eqIn a b os.length ca cb os W ho h3 h4))
  obtain ⟨p1, l1, c1, rfl⟩ : ∃ a b c, v1 = .slice a b c := by obtain ⟨a, c, e, _⟩ := a1; exact ⟨_, _, _, e⟩
  obtain ⟨p2, l2, c2, rfl⟩ : ∃ a b c, v2 = .slice a b c := by obtain ⟨a, c, e, _⟩ := a2; exact ⟨_, _, _, e⟩
  obtain ⟨p3, l3, c3, rfl⟩ : ∃ a b c, o1 = .slice a b c := by obtain ⟨a, c, e, _⟩ := z1; exact ⟨_, _, _, e⟩
  obtain ⟨p4, l4, c4, rfl⟩ : ∃ a b c, o2 = .slice a b c := by obtain ⟨a, c, e, _⟩ := z2; exact ⟨_, _, _, e⟩
  clear a1 a2 z1 z2
  have tb : (ok != ok) = false := by simp
  have tc : (cm != cm) = false := by simp
  go_enter Try.func12, Try.ntmps12
  go_wp2_with fail
  refine (HE.out).mono ?_
  rintro e w1 ⟨rfl, b1⟩
  have y1 := (b1.block _ (lt_blk X1.out)).trans X1.out
  have y2 := (b1.block _ (lt_blk X2.out)).trans X2.out
  have B1 := hid (bl_trans T0.out b1)
  have c12 : w1.cell? ⟨w.heap.size, 2, none⟩ = some (.int .i64 cm) := by simp [World.cell?, y1]
  have c13 : w1.cell? ⟨w.heap.size, 3, none⟩ = some (.slice p3 l3 c3) := by simp [World.cell?, y1]
  have c22 : w1.cell? ⟨w.heap.size + 1, 2, none⟩ = some (.int .i64 cm) := by simp [World.cell?, y2]
  have c23 : w1.cell? ⟨w.heap.size + 1, 3, none⟩ = some (.slice p4 l4 c4) := by simp [World.cell?, y2]
  clear b1 y1 y2 T0 X1 X2 HE
  go_wp2_with fail
  refine (HZ.out _ B1.out).mono ?_
  rintro e w2 ⟨rfl, b2⟩
  have B2 := hid (bl_trans B1.out b2)
  clear b2 B1 HZ c12 c13 c22 c23
  go_wp2
  go_ret
  exact ⟨rfl, B2.out⟩

set_option maxHeartbeats 1000000 in
theorem eqOp (o : Op9) (g1 g2 : Nat) (w : World) (h1 : RowV w g1 5 (Ns .u8 o.ys)) (h2 : RowV w g2 5 (Ns .u8 o.ys)) (hy : o.ys.length = o.dl) (hl : o.dl ≤ 1048576) :
    Calls Try.prog 30 #[.agg (opC (cpO o g1)).toArray, .agg (opC (cpO o g2)).toArray] w fun e w' => e = .returned (.bool true) ∧ Below w.heap.size w w' := by
  have B0 := hid (((Below.refl w.heap.size w).alloc (Nat.le_refl _) (.cells (opC (cpO o g1)).toArray 34)).alloc (by rw [al_size]; omega) (.cells (opC (cpO o g2)).toArray 34))
  have HE := hid (eqBy (some ⟨g1, 0, none⟩) (some ⟨g2, 0, none⟩) o.dl o.dl o.dl o.ys _ hl (slBy (h1.below B0.out h1.lt) hy) (slBy (h2.below B0.out h2.lt) hy))
  clear h1 h2 hy hl
  unfold cpO opC at *
  go_enter Try.func30, Try.ntmps30
  go_wp2_with fail
  refine (HE.out).mono ?_
  rintro e w1 ⟨rfl, b1⟩
  have B1 := hid (bl_trans B0.out b1)
  clear b1 B0 HE
  go_wp2
  go_ret
  exact ⟨rfl, B1.out⟩

set_option maxHeartbeats 4000000 in
theorem eqOs (B1 B2 G1 G2 n : Nat) (ca cb : Nat) (ops : List Op9) (gs1 gs2 : List Nat) (w : World) (h1 : Cp B1 w G1 n ops gs1) (h2 : Cp B2 w G2 n ops gs2) (hops : ops.length = n) (hn : n ≤ 1048576) (hl : ∀ o ∈ ops, o.ys.length = o.dl ∧ o.dl ≤ 1048576) :
    Calls Try.prog 13 #[.slice (some ⟨G1, 0, none⟩) n ca, .slice (some ⟨G2, 0, none⟩) n cb] w fun e w' => e = .returned (.bool true) ∧ Below w.heap.size w w' := by
  have H3 := hid h1
  have H4 := hid h2
  have HL := hid hl
  have HN := hid hops
  clear h1 h2 hl hops
  go_enter Try.func13, Try.ntmps13
  go_wp2
  go_loopw [5] (fun i wr => ∃ (k : Nat), k ≤ n ∧ i = .int .i64 k ∧ Hid (Below w.heap.size w wr)) (fun i _ => n - (intOf i).toNat)
  case atStart => exact ⟨0, Nat.zero_le _, rfl, hid (Below.refl _ _)⟩
  case round =>
    obtain ⟨k, hk, rfl, HB⟩ := hrel
    by_cases hlt : k < n
    · obtain ⟨o, ho⟩ : ∃ o, ops[k]? = some o := ⟨_, List.getElem?_eq_getElem (by have := HN.out; omega)⟩
      obtain ⟨x1, hx1⟩ : ∃ x, gs1[k]? = some x := ⟨_, List.getElem?_eq_getElem (by have := HN.out; have := H3.out.hl; omega)⟩
      obtain ⟨x2, hx2⟩ : ∃ x, gs2[k]? = some x := ⟨_, List.getElem?_eq_getElem (by have := HN.out; have := H4.out.hl; omega)⟩
      obtain ⟨r1, b1, _⟩ := (H3.out.below HB.out.drew).at_ k o x1 ho hx1
      obtain ⟨r2, b2, _⟩ := (H4.out.below HB.out.drew).at_ k o x2 ho hx2
      have RA := hid r1
      have RB := hid r2
      have hz := HL.out o (List.mem_of_getElem? ho)
      have HE := hid (eqOp o x1 x2 wr.drew b1 b2 hz.1 hz.2)
      clear r1 r2 b1 b2 ho hx1 hx2 hz
      go_wp2
      refine wp_region_held (S := fun W => Hid (W.rangeAt G1 (k * 6) (opC (cpO o x1))) ∧ Hid (W.rangeAt G2 (k * 6) (opC (cpO o x2)))) (by kernel_rfl) ?_
      simp only [List.size_toArray, List.length_cons, List.length_nil, Nat.reduceAdd, Array.replicate_succ, Array.replicate_zero, List.push_toArray, List.nil_append, List.cons_append]
      have hS : Hid (wr.drew.rangeAt G1 (k * 6) (opC (cpO o x1))) ∧ Hid (wr.drew.rangeAt G2 (k * 6) (opC (cpO o x2))) := ⟨RA, RB⟩
      refine wpAnyH_put (i := 0) (d := 17) (v := .slice (some ⟨G1, 0, none⟩) n ca) rfl (by kernel_rfl) (by kernel_rfl) (by kernel_rfl) (by kernel_rfl) (fun _ _ _ h => h) (Or.inl ⟨by kernel_rfl, fun _ _ => by kernel_rfl⟩) hS ?_
      simp only [List.setIfInBounds_toArray, List.set_cons_zero, List.set_cons_succ]
      refine wpAnyH_put (i := 1) (d := 18) (v := .int .i64 k) rfl (by kernel_rfl) (by kernel_rfl) (by kernel_rfl) (by kernel_rfl) (fun _ _ _ h => h) (Or.inl ⟨by kernel_rfl, fun _ _ => by kernel_rfl⟩) hS ?_
      simp only [List.setIfInBounds_toArray, List.set_cons_zero, List.set_cons_succ]
      refine wpAnyH_put (i := 2) (d := 19) (v := .pointer (some ⟨G1, k * 6, none⟩)) rfl (by kernel_rfl) (by kernel_rfl) (by kernel_rfl) (by kernel_rfl) (fun _ _ _ h => h) (Or.inl ⟨by kernel_rfl, fun W _ => by first | (go_simp; done) | (go_simp; omega)⟩) hS ?_
      simp only [List.setIfInBounds_toArray, List.set_cons_zero, List.set_cons_succ]
      refine wpAnyH_put (i := 3) (d := 20) (v := .agg ((opC (cpO o x1))).toArray) rfl (by kernel_rfl) (by kernel_rfl) (by kernel_rfl) (by kernel_rfl) (fun _ _ _ h => h) (Or.inl ⟨by kernel_rfl, fun W hS => load_mid_at rfl G1 (k * 6) (by rfl) (run_loadVar_mid W G1 (k * 6) 34 _ _ hS.1.out Try.underlying34 rfl (by kernel_rfl))⟩) hS ?_
      simp only [List.setIfInBounds_toArray, List.set_cons_zero, List.set_cons_succ]
      refine wpAnyH_put (i := 4) (d := 21) (v := .slice (some ⟨G2, 0, none⟩) n cb) rfl (by kernel_rfl) (by kernel_rfl) (by kernel_rfl) (by kernel_rfl) (fun _ _ _ h => h) (Or.inl ⟨by kernel_rfl, fun _ _ => by kernel_rfl⟩) hS ?_
      simp only [List.setIfInBounds_toArray, List.set_cons_zero, List.set_cons_succ]
      refine wpAnyH_put (i := 5) (d := 22) (v := .int .i64 k) rfl (by kernel_rfl) (by kernel_rfl) (by kernel_rfl) (by kernel_rfl) (fun _ _ _ h => h) (Or.inl ⟨by kernel_rfl, fun _ _ => by kernel_rfl⟩) hS ?_
      simp only [List.setIfInBounds_toArray, List.set_cons_zero, List.set_cons_succ]
      refine wpAnyH_put (i := 6) (d := 23) (v := .pointer (some ⟨G2, k * 6, none⟩)) rfl (by kernel_rfl) (by kernel_rfl) (by kernel_rfl) (by kernel_rfl) (fun _ _ _ h => h) (Or.inl ⟨by kernel_rfl, fun W _ => by first | (go_simp; done) | (go_simp; omega)⟩) hS ?_
      simp only [List.setIfInBounds_toArray, List.set_cons_zero, List.set_cons_succ]
      refine wpAnyH_put (i := 7) (d := 24) (v := .agg ((opC (cpO o x2))).toArray) rfl (by kernel_rfl) (by kernel_rfl) (by kernel_rfl) (by kernel_rfl) (fun _ _ _ h => h) (Or.inl ⟨by kernel_rfl, fun W hS => load_mid_at rfl G2 (k * 6) (by rfl) (run_loadVar_mid W G2 (k * 6) 34 _ _ hS.2.out Try.underlying34 rfl (by kernel_rfl))⟩) hS ?_
      simp only [List.setIfInBounds_toArray, List.set_cons_zero, List.set_cons_succ]
      refine wpAnyH_one (r := 8) (by kernel_rfl) ?_
      refine wpOp_do rfl (by kernel_rfl) (fun K' hK => ?_)
      go_simp
      refine (HE.out).mono ?_
      rintro e w3 ⟨rfl, b3⟩
      have hS3 : Hid (w3.rangeAt G1 (k * 6) (opC (cpO o x1))) ∧ Hid (w3.rangeAt G2 (k * 6) (opC (cpO o x2))) := ⟨hid (range_below RA.out b3), hid (range_below RB.out b3)⟩
      have B3 := hid (below_trans HB.out.drew b3 HB.out.size)
      clear b3 hS
      refine hK.out _ _ ⟨hS3, ?_⟩
      clear hK K'
      simp only [List.setIfInBounds_toArray, List.set_cons_zero, List.set_cons_succ]
      refine wpAnyH_put (i := 9) (d := 26) (v := .bool false) rfl (by kernel_rfl) (by kernel_rfl) (by kernel_rfl) (by kernel_rfl) (fun _ _ _ h => h) (Or.inl ⟨by kernel_rfl, fun _ _ => by kernel_rfl⟩) hS3 ?_
      simp only [List.setIfInBounds_toArray, List.set_cons_zero, List.set_cons_succ]
      refine wpAnyH_done (by kernel_rfl) ?_ _
      go_wp2
      go_roundw
      case rel => exact ⟨k + 1, by omega, by go_num, B3⟩
      case measure => simp [intOf]; omega
    · go_wp2
      go_ret
      exact ⟨rfl, HB.out⟩
end Go.Proofs.Ytamfbplchblkbaa
