import Derived.Test.YtamfbplchblkbaaJe
namespace Go.Proofs.Ytamfbplchblkbaa
open Go.RowKit Go.Shelf Go.Maps
set_option linter.unusedVariables false

theorem load_mid_at {o : Oper} {a : Act} {w : World} {ty : TypeId} {x : Operand} (ho : o.op = .load ty x) (g i : Nat) (hx : a.eval x = .pointer (some ⟨g, i, none⟩)) {cs : Array Value} (hl : (loadVar ty ⟨g, i, none⟩).run Try.prog w = .ok (.agg cs) w) : (execOp a.eval o).run Try.prog w = .ok (.value (.agg cs)) w := by
  unfold execOp
  simp only [ho, hx, Instr.loadAt, Instr.sureAddr, Sem.run_bind, Sem.run_pure, Result.andThen_ok, hl]
/-- a slice of bytes that reads as data -/
def Bs (w : World) (u : Value) (data : List Int) : Prop := ∃ a c, u = .slice a data.length c ∧ ∀ i, i < data.length → ∃ g, a = some ⟨g, 0, none⟩ ∧ w.cell? ⟨g, i, none⟩ = some (.int .u8 (data[i]?.getD 0))
theorem Bs.below {w W : World} {u : Value} {data : List Int} (h : Bs w u data) (hb : Below w.heap.size w W) : Bs W u data := by
  obtain ⟨a, c, e, h1⟩ := h
  exact ⟨a, c, e, fun i hi => by obtain ⟨g, e1, e2⟩ := h1 i hi; exact ⟨g, e1, below_cell hb e2⟩⟩
/-- a slice of answers that reads as rs -/
def As (w : World) (v : Value) (rs : List (Int × List Int)) : Prop := ∃ a c, v = .slice a rs.length c ∧ ∀ k r, rs[k]? = some r → ∃ g u, a = some ⟨g, 0, none⟩ ∧ w.rangeAt g (k * 2) [.int .i64 r.1, u] ∧ Bs w u r.2
theorem As.below {w W : World} {v : Value} {rs : List (Int × List Int)} (h : As w v rs) (hb : Below w.heap.size w W) : As W v rs := by
  obtain ⟨a, c, e, h1⟩ := h
  exact ⟨a, c, e, fun k r hr => by obtain ⟨g, u, e1, e2, e3⟩ := h1 k r hr; exact ⟨g, u, e1, range_below e2 hb, e3.below hb⟩⟩

set_option maxHeartbeats 1000000 in
theorem eqA (code : Int) (u1 u2 : Value) (data : List Int) (w : World) (h1 : Bs w u1 data) (h2 : Bs w u2 data) (hl : data.length ≤ 1048576) :
    Calls Try.prog 50 #[.agg #[.int .i64 code, u1], .agg #[.int .i64 code, u2]] w fun e w' => e = .returned (.bool true) ∧ Below w.heap.size w w' := by
  have B0 := hid (((Below.refl w.heap.size w).alloc (Nat.le_refl _) (.cells #[.int .i64 code, u1] 36)).alloc (by rw [al_size]; omega) (.cells #[.int .i64 code, u2] 36))
  obtain ⟨a, ca, e1, h3⟩ := h1.below B0.out
  obtain ⟨b, cb, e2, h4⟩ := h2.below B0.out
  subst e1 e2
  have HE := hid (eqBy a b data.length ca cb data _ hl h3 h4)
  clear h3 h4 h1 h2
  go_enter Try.func50, Try.ntmps50
  go_wp2_with fail
  refine (HE.out).mono ?_
  rintro e w1 ⟨rfl, b1⟩
  have B1 := hid (bl_trans B0.out b1)
  clear b1 B0 HE
  go_wp2
  go_ret
  exact ⟨rfl, B1.out⟩

set_option maxHeartbeats 4000000 in
theorem eqAs (v1 v2 : Value) (rs : List (Int × List Int)) (w : World) (h1 : As w v1 rs) (h2 : As w v2 rs) (hn : rs.length ≤ 1048576) (hl : ∀ r ∈ rs, r.2.length ≤ 1048576) :
    Calls Try.prog 28 #[v1, v2] w fun e w' => e = .returned (.bool true) ∧ Below w.heap.size w w' := by
  obtain ⟨a, ca, rfl, h3⟩ := h1
  obtain ⟨b, cb, rfl, h4⟩ := h2
  obtain ⟨n, hn'⟩ : ∃ n, rs.length = n := ⟨_, rfl⟩
  rw [hn'] at hn ⊢
  have H3 := hid h3
  have H4 := hid h4
  have HL := hid hl
  have HN := hid hn'
  clear h3 h4 hl hn'
  go_enter Try.func28, Try.ntmps28
  go_wp2
  go_loopw [5] (fun i wr => ∃ (k : Nat), k ≤ n ∧ i = .int .i64 k ∧ Hid (Below w.heap.size w wr)) (fun i _ => n - (intOf i).toNat)
  case atStart => exact ⟨0, Nat.zero_le _, rfl, hid (Below.refl _ _)⟩
  case round =>
    obtain ⟨k, hk, rfl, HB⟩ := hrel
    by_cases hlt : k < n
    · obtain ⟨r, hr⟩ : ∃ r, rs[k]? = some r := ⟨_, List.getElem?_eq_getElem (by have := HN.out; omega)⟩
      obtain ⟨g1, x1, rfl, r1, b1⟩ := H3.out k r hr
      obtain ⟨g2, x2, rfl, r2, b2⟩ := H4.out k r hr
      have RA := hid (range_below r1 HB.out.drew)
      have RB := hid (range_below r2 HB.out.drew)
      have HE := hid (eqA r.1 x1 x2 r.2 wr.drew (b1.below HB.out.drew) (b2.below HB.out.drew) (HL.out r (List.mem_of_getElem? hr)))
      clear r1 r2 b1 b2 hr
      go_wp2
      refine wp_region_held (S := fun W => Hid (W.rangeAt g1 (k * 2) [.int .i64 r.1, x1]) ∧ Hid (W.rangeAt g2 (k * 2) [.int .i64 r.1, x2])) (by kernel_rfl) ?_
      simp only [List.size_toArray, List.length_cons, List.length_nil, Nat.reduceAdd, Array.replicate_succ, Array.replicate_zero, List.push_toArray, List.nil_append, List.cons_append]
      have hS : Hid (wr.drew.rangeAt g1 (k * 2) [.int .i64 r.1, x1]) ∧ Hid (wr.drew.rangeAt g2 (k * 2) [.int .i64 r.1, x2]) := ⟨RA, RB⟩
      refine wpAnyH_put (i := 0) (d := 17) (v := .slice (some ⟨g1, 0, none⟩) n ca) rfl (by kernel_rfl) (by kernel_rfl) (by kernel_rfl) (by kernel_rfl) (fun _ _ _ h => h) (Or.inl ⟨by kernel_rfl, fun _ _ => by kernel_rfl⟩) hS ?_
      simp only [List.setIfInBounds_toArray, List.set_cons_zero, List.set_cons_succ]
      refine wpAnyH_put (i := 1) (d := 18) (v := .int .i64 k) rfl (by kernel_rfl) (by kernel_rfl) (by kernel_rfl) (by kernel_rfl) (fun _ _ _ h => h) (Or.inl ⟨by kernel_rfl, fun _ _ => by kernel_rfl⟩) hS ?_
      simp only [List.setIfInBounds_toArray, List.set_cons_zero, List.set_cons_succ]
      refine wpAnyH_put (i := 2) (d := 19) (v := .pointer (some ⟨g1, k * 2, none⟩)) rfl (by kernel_rfl) (by kernel_rfl) (by kernel_rfl) (by kernel_rfl) (fun _ _ _ h => h) (Or.inl ⟨by kernel_rfl, fun W _ => by first | (go_simp; done) | (go_simp; omega)⟩) hS ?_
      simp only [List.setIfInBounds_toArray, List.set_cons_zero, List.set_cons_succ]
      refine wpAnyH_put (i := 3) (d := 20) (v := .agg ([.int .i64 r.1, x1]).toArray) rfl (by kernel_rfl) (by kernel_rfl) (by kernel_rfl) (by kernel_rfl) (fun _ _ _ h => h) (Or.inl ⟨by kernel_rfl, fun W hS => load_mid_at rfl g1 (k * 2) (by rfl) (run_loadVar_mid W g1 (k * 2) 36 _ _ hS.1.out Try.underlying36 rfl (by kernel_rfl))⟩) hS ?_
      simp only [List.setIfInBounds_toArray, List.set_cons_zero, List.set_cons_succ]
      refine wpAnyH_put (i := 4) (d := 21) (v := .slice (some ⟨g2, 0, none⟩) n cb) rfl (by kernel_rfl) (by kernel_rfl) (by kernel_rfl) (by kernel_rfl) (fun _ _ _ h => h) (Or.inl ⟨by kernel_rfl, fun _ _ => by kernel_rfl⟩) hS ?_
      simp only [List.setIfInBounds_toArray, List.set_cons_zero, List.set_cons_succ]
      refine wpAnyH_put (i := 5) (d := 22) (v := .int .i64 k) rfl (by kernel_rfl) (by kernel_rfl) (by kernel_rfl) (by kernel_rfl) (fun _ _ _ h => h) (Or.inl ⟨by kernel_rfl, fun _ _ => by kernel_rfl⟩) hS ?_
      simp only [List.setIfInBounds_toArray, List.set_cons_zero, List.set_cons_succ]
      refine wpAnyH_put (i := 6) (d := 23) (v := .pointer (some ⟨g2, k * 2, none⟩)) rfl (by kernel_rfl) (by kernel_rfl) (by kernel_rfl) (by kernel_rfl) (fun _ _ _ h => h) (Or.inl ⟨by kernel_rfl, fun W _ => by first | (go_simp; done) | (go_simp; omega)⟩) hS ?_
      simp only [List.setIfInBounds_toArray, List.set_cons_zero, List.set_cons_succ]
      refine wpAnyH_put (i := 7) (d := 24) (v := .agg ([.int .i64 r.1, x2]).toArray) rfl (by kernel_rfl) (by kernel_rfl) (by kernel_rfl) (by kernel_rfl) (fun _ _ _ h => h) (Or.inl ⟨by kernel_rfl, fun W hS => load_mid_at rfl g2 (k * 2) (by rfl) (run_loadVar_mid W g2 (k * 2) 36 _ _ hS.2.out Try.underlying36 rfl (by kernel_rfl))⟩) hS ?_
      simp only [List.setIfInBounds_toArray, List.set_cons_zero, List.set_cons_succ]
      refine wpAnyH_one (r := 8) (by kernel_rfl) ?_
      refine wpOp_do rfl (by kernel_rfl) (fun K' hK => ?_)
      go_simp
      refine (HE.out).mono ?_
      rintro e w3 ⟨rfl, b3⟩
      have hS3 : Hid (w3.rangeAt g1 (k * 2) [.int .i64 r.1, x1]) ∧ Hid (w3.rangeAt g2 (k * 2) [.int .i64 r.1, x2]) := ⟨hid (range_below RA.out b3), hid (range_below RB.out b3)⟩
      have B3 := hid (below_trans HB.out.drew b3 HB.out.size)
      clear b3 hS
      refine hK.out _ _ ⟨hS3, ?_⟩
      clear hK K'
      simp only [List.setIfInBounds_toArray, List.set_cons_zero, List.set_cons_succ]
      refine wpAnyH_put (i := 9) (d := 26) (v := .bool false) rfl (by kernel_rfl) (by kernel_rfl) (by kernel_rfl) (by kernel_rfl) (fun _ _ _ h => h) (Or.inl ⟨by kernel_rfl, fun _ _ => by kernel_rfl⟩) hS3 ?_
      simp only [List.setIfInBounds_toArray, List.set_cons_zero, List.set_cons_succ]
      refine wpAnyH_done (by kernel_rfl) ?_ _
      go_wp2
      go_roundw
      case rel => exact ⟨k + 1, by omega, by go_num, B3⟩
      case measure => simp [intOf]; omega
    · go_wp2
      go_ret
      exact ⟨rfl, HB.out⟩
end Go.Proofs.Ytamfbplchblkbaa
