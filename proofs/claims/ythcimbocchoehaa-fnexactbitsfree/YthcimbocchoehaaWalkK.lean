import Derived.Test.YthcimbocchoehaaFreeM

namespace Go.Proofs.Ythcimbocchoehaa
open Go.RowKit Go.Shelf
set_option linter.unusedVariables false

attribute [local go_sem] Oper.semAt_some

set_option maxHeartbeats 400000 in
theorem free_mk (a : Option Addr) (len cap : Nat) (n : Int) (w : World) :
    Calls Try.prog 34 #[.agg #[.slice a len cap, .int .i64 n]] w fun e w' => e = .returned (.func (.func 38) #[] #[.pointer (some ⟨w.heap.size, 0, none⟩)]) ∧ w' = w.alloc (.cells #[.slice a len cap, .int .i64 n] 43) := by
  go_enter Try.func34, Try.ntmps34
  go_wp2
  go_ret
  exact ⟨rfl, rfl⟩

/-- BitsFree, as a function of the words -/
def freeB (zs : List Int) (n k : Int) : Int := if goodB zs n && decide (0 ≤ k) then (frees zs n.toNat)[k.toNat]?.getD (-1) else -1

theorem kp_set {Bs g b : Nat} (W : World) (h1 : Bs ≠ b) (h2 : g ≠ b) (v : Value) : Kp Bs g W (W.setCell ⟨b, 0, none⟩ v) :=
  ⟨by simp [World.setCell], Below.heap_setCell _ _ _ _ h1, Below.heap_setCell _ _ _ _ h2⟩
theorem kp_put {Bs g : Nat} {w : World} (h1 : Bs < w.heap.size) (h2 : g < w.heap.size) (W : World) (l : Nat) (o o' : Obj) (hl : w.heap.size ≤ l) (h : W.heap[l]? = some o) : Kp Bs g W (W.putObj l o') :=
  ⟨(grownBy_putObj' W l o').size, (grownBy_putObj' W l o').block Bs (by have := lt_of_block h; omega) (by simp; omega), (grownBy_putObj' W l o').block g (by have := lt_of_block h; omega) (by simp; omega)⟩

theorem freeB_none (zs : List Int) (n k : Nat) (hg : goodB zs n = true) (h : (frees zs n).length ≤ k) : freeB zs n k = -1 := by
  unfold freeB
  rw [if_pos (by simp [hg]), Int.toNat_natCast, Int.toNat_natCast, List.getElem?_eq_none h]; rfl
theorem freeB_some (zs : List Int) (n k j : Nat) (x : Int) (hg : goodB zs n = true) (hj : j ≤ n) (h : (frees zs j)[k]? = some x) : freeB zs n k = x := by
  unfold freeB
  have hp := frees_pre zs j (n - j)
  rw [show j + (n - j) = n by omega] at hp
  obtain ⟨t, ht⟩ := hp
  rw [if_pos (by simp [hg]), Int.toNat_natCast, Int.toNat_natCast, ← ht, List.getElem?_append_left (List.getElem?_eq_some_iff.1 h).1, h]; rfl

set_option maxRecDepth 100000 in
set_option maxHeartbeats 2000000 in
theorem impl_free_in (g len cap : Nat) (zs : List Int) (n k : Nat) (w : World) (hl : zs.length = len) (hlen : len ≤ 1048576) (hw : Wf zs) (hr : RowV w g 45 (U zs)) (hgd : goodB zs n = true) (hkm : k < 9223372036854775808) :
    CallsIn Fence.wide 5 Try.prog 17 #[.slice (some ⟨g, 0, none⟩) len cap, .int .i64 n, .int .i64 k] w fun e w' => e = .returned (.int .i64 (freeB zs n k)) ∧ Below w.heap.size w w' := by
  have HL := hid (fun w hr => good_any g len cap zs n w hl hlen hw hr)
  rw [hgd] at HL
  have hn := good_n zs n hgd
  simp only [Int.toNat_natCast] at hn
  have HI := hid (fun l Bs J Jx W => free_in g len cap zs n l Bs 4 (by omega) (by omega) hl (by omega) hw J Jx W)
  have HR := hid hr
  have HG := hid hgd
  have hgw := hr.lt
  have hkd : decide ((k : Int) < 0) = false := by simp
  clear hr hgd hn hl hw
  refine callsIn_of_wp_marks Try.func17 rfl trivial ?_ rfl
  simp only [Try.ntmps17, List.size_toArray, List.length_cons, List.length_nil, Nat.reduceAdd, Nat.reduceSub, Array.replicate_succ, Array.replicate_zero, List.push_toArray, List.append_toArray, List.nil_append, List.cons_append]
  gi_wp2_with fail
  refine ⟨trivial, ?_⟩
  have r1 := hid (row_alloc (row_alloc (row_alloc HR.out (.cells #[.int .i64 k] 3)) (.cells #[.int .i64 0] 3)) (.cells #[.slice (some ⟨g, 0, none⟩) len cap, .int .i64 n] 43))
  refine ((callsIn_wide (n := 4)).2 (HL.out _ r1.out)).mono ?_
  rintro e w1 ⟨rfl, hb1⟩
  have hsz : w.heap.size + 3 ≤ w1.heap.size := by have := hb1.size; simp at this; omega
  have e1 : w1.cell? ⟨w.heap.size, 0, none⟩ = some (.int .i64 k) := by
    rw [hb1.cell (p := ⟨w.heap.size, 0, none⟩) (by simp; omega)]
    rw [World.cell?_alloc_past _ _ _ (by simp; omega), World.cell?_alloc_past _ _ _ (by simp), World.cell?_alloc_at _ _ _ _ rfl]; rfl
  have e2 : w1.cell? ⟨w.heap.size + 1, 0, none⟩ = some (.int .i64 0) := by
    rw [hb1.cell (p := ⟨w.heap.size + 1, 0, none⟩) (by simp)]
    rw [World.cell?_alloc_past _ _ _ (by simp), World.cell?_alloc_at _ _ _ _ (by simp)]; rfl
  have e3 : w1.cell? ⟨w.heap.size + 1 + 1, 0, none⟩ = some (.slice (some ⟨g, 0, none⟩) len cap) := by
    rw [hb1.cell (p := ⟨w.heap.size + 1 + 1, 0, none⟩) (by simp)]
    rw [World.cell?_alloc_at _ _ _ _ (by simp)]; rfl
  have e4 : w1.cell? ⟨w.heap.size + 1 + 1, 1, none⟩ = some (.int .i64 n) := by
    rw [hb1.cell (p := ⟨w.heap.size + 1 + 1, 1, none⟩) (by simp)]
    rw [World.cell?_alloc_at _ _ _ _ (by simp)]; rfl
  have f1 : w1.frozen? ⟨w.heap.size, 0, none⟩ = false := by
    rw [hb1.frozen (p := ⟨w.heap.size, 0, none⟩) (by simp; omega)]
    rw [World.frozen?_alloc_past _ _ _ (by simp; omega), World.frozen?_alloc_past _ _ _ (by simp), World.frozen?_alloc_at _ _ _ _ rfl]
  have f2 : w1.frozen? ⟨w.heap.size + 1, 0, none⟩ = false := by
    rw [hb1.frozen (p := ⟨w.heap.size + 1, 0, none⟩) (by simp)]
    rw [World.frozen?_alloc_past _ _ _ (by simp), World.frozen?_alloc_at _ _ _ _ (by simp)]
  have hB1 : Below w.heap.size w w1 := ((((Below.refl _ w).alloc (Nat.le_refl _) _).alloc (by simp) _).alloc (by simp; omega) _).trans (hb1.mono (by simp; omega))
  have HB1 := hid hB1
  have R1 := hid (r1.out.below hb1 r1.out.lt)
  clear hb1 hB1 r1
  gi_wp2_with fail
  refine ⟨trivial, ?_⟩
  refine ((callsIn_wide (n := 4)).2 (free_mk _ _ _ _ _)).mono ?_
  rintro e w2 ⟨rfl, rfl⟩
  gi_wp2
  have hbx : BoxAt (w1.alloc (.cells #[.slice (some ⟨g, 0, none⟩) len cap, .int .i64 n] 43)) w1.heap.size g len cap n := heap_alloc_new w1 _
  have HBX := hid (And.intro hbx (row_alloc R1.out (.cells #[.slice (some ⟨g, 0, none⟩) len cap, .int .i64 n] 43)))
  have HB2 := hid (HB1.out.alloc (Nat.le_trans (by omega) hsz) (.cells #[.slice (some ⟨g, 0, none⟩) len cap, .int .i64 n] 43))
  clear hbx
  refine wpIn_rangeFunc_ownF rfl (by omega) (gf := 38) (lb := #[.pointer (some ⟨w1.heap.size, 0, none⟩)]) rfl trivial (enters_of Try.func38 (by kernel_rfl) rfl)
    (encs := fun x : Int => #[.int .i64 x]) (Kp := Kp w1.heap.size g) (S := fun ys => ys = frees zs n) (Sp := fun pre => ∃ j, j ≤ n ∧ pre = frees zs j) (N := n) (w0 := w1.alloc (.cells #[.slice (some ⟨g, 0, none⟩) len cap, .int .i64 n] 43))
    (fun l J Jx W hW hJ hJx hY h0 => HI.out l w1.heap.size J Jx W hJ hY (HBX.out.1.kp (Kp.below hW HBX.out.1.lt HBX.out.2.lt)) (HBX.out.2.below hW HBX.out.2.lt) h0)
    Kp.trans (fun W l o o' hl h _ _ => kp_put HBX.out.1.lt HBX.out.2.lt W l o o' hl h) (Below.refl _ _) (fun _ => rfl)
    (fun pre W => (pre.length ≤ k ∧ W.cell? ⟨w.heap.size, 0, none⟩ = some (.int .i64 ((k - pre.length : Nat) : Int)) ∧ W.frozen? ⟨w.heap.size, 0, none⟩ = false ∧ W.cell? ⟨w.heap.size + 1, 0, none⟩ = some (.int .i64 0) ∧ W.frozen? ⟨w.heap.size + 1, 0, none⟩ = false) ∧ Below w.heap.size w W)
    (fun c pre W => (c = .ret ∧ ∃ x, pre[k]? = some x ∧ W.cell? ⟨w.heap.size + 1, 0, none⟩ = some (.int .i64 x)) ∧ Below w.heap.size w W)
    (OwnFrom.and (Own.from (fun s A B row hs hg hr => ⟨hs.1, cell_kept hs.2.1 hg hr, (frozen_kept hs.2.1 hg hr).trans hs.2.2.1, cell_kept hs.2.2.2.1 hg hr, (frozen_kept hs.2.2.2.1 hg hr).trans hs.2.2.2.2⟩) _) (ownFrom_below (Nat.le_refl _) (by simp; omega)))
    (fun c => OwnFrom.and (Own.from (fun s A B row hs hg hr => by obtain ⟨q1, x, q2, q3⟩ := hs; exact ⟨q1, x, q2, cell_kept q3 hg hr⟩) _) (ownFrom_below (Nat.le_refl _) (by simp; omega)))
    ⟨⟨Nat.zero_le _, by simpa using below_cell ((Below.refl _ w1).alloc (Nat.le_refl _) _) e1, by rw [World.frozen?_alloc_past _ _ _ (by omega)]; exact f1, below_cell ((Below.refl _ w1).alloc (Nat.le_refl _) _) e2, by rw [World.frozen?_alloc_past _ _ _ (by omega)]; exact f2⟩, HB2.out⟩
    (fun x => { tmps := #[.slice (some ⟨g, 0, none⟩) len cap, .int .i64 n, .int .i64 k, undef, undef, .pointer (some ⟨w.heap.size, 0, none⟩), .pointer (some ⟨w.heap.size + 1, 0, none⟩), .pointer (some ⟨w.heap.size + 1 + 1, 0, none⟩), .int .i64 x, .slice (some ⟨g, 0, none⟩) len cap, .int .i64 n, .agg #[.slice (some ⟨g, 0, none⟩) len cap, .int .i64 n], .agg #[.slice (some ⟨g, 0, none⟩) len cap, .int .i64 n], .bool true, .bool false, .bool false, .int .i64 k, .bool false, .bool false, .agg #[.slice (some ⟨g, 0, none⟩) len cap, .int .i64 n], .func (.func 38) #[] #[.pointer (some ⟨w1.heap.size, 0, none⟩)], .int .i64 x, undef, undef, undef, undef, undef], defers := [] }) ?assign ?body ?done ?stop
  case assign =>
    intro l x W K hK
    gi_wp2
    exact hK
  case body =>
    rintro l pre x W ⟨⟨hp, hc1, hf1, hc2, hf2⟩, hB⟩ hlt
    have HB := hid hB
    clear hB e1 e2 e3 e4 f1 f2
    by_cases hpk : pre.length = k
    · have hz : ((k - pre.length : Nat) : Int) = 0 := by omega
      rw [hz] at hc1
      have HP := hid hpk
      clear hz hpk hp
      gi_wp2
      refine ⟨KeepsOthers.setCell _ _ _, ⟨rfl, x, by rw [← HP.out]; simp, World.cell?_setCell_same' _ _ _ (by rw [hc2]; rfl)⟩, HB.out.setCell (p := ⟨w.heap.size + 1, 0, none⟩) (by simp) _⟩
    · have hz : (((k - pre.length : Nat) : Int) == 0) = false := by simp; omega
      have hz1 : 1 ≤ k - pre.length := by omega
      have hz2 : k - pre.length < 9223372036854775808 := by omega
      have HP := hid (show k - pre.length - 1 = k - (pre ++ [x]).length by simp; omega)
      have HQ := hid (show (pre ++ [x]).length ≤ k by simp; omega)
      have HC := hid hc2
      clear hpk hp
      generalize k - pre.length = q at *
      gi_wp2
      have e5 : ((q : Int) - 1) = ((k - (pre ++ [x]).length : Nat) : Int) := by have := HP.out; omega
      refine ⟨KeepsOthers.setCell _ _ _, kp_set W (by omega) (by omega) _, ⟨HQ.out, ?_, by rw [World.frozen?_setCell]; exact hf1, (World.cell?_of_block (w := W) (a := ⟨w.heap.size + 1, 0, none⟩) (Below.heap_setCell _ _ _ _ (by simp))).trans hc2, by rw [World.frozen?_setCell]; exact hf2⟩, HB.out.setCell (p := ⟨w.heap.size, 0, none⟩) (Nat.le_refl _) _⟩
      rw [e5]
      exact World.cell?_setCell_same' _ _ _ (by rw [hc1]; rfl)
  case done =>
    rintro D ys W hD rfl ⟨⟨hp, hc1, hf1, hc2, hf2⟩, hB⟩ hK
    have HB := hid hB
    have HP := hid (freeB_none zs n k HG.out hp)
    clear hB e1 e2 e3 e4 f1 f2 hp
    gi_wp2
    have hK' := (KeepsOthers.setCell W ⟨w.heap.size + 1, 0, none⟩ (.int .i64 (-1))).same D _ hK rfl
    refine ⟨by simp, .inl ⟨_, _, rfl, run_takeDeferred hK', ?_⟩⟩
    have hc5 := cell_kept (World.cell?_setCell_same' W ⟨w.heap.size + 1, 0, none⟩ (.int .i64 (-1)) (by rw [hc2]; rfl)) (grownBy_putObj' _ D (.deferred none)) (fun r e => by cases e; exact ⟨_, hK', rfl⟩)
    refine ⟨.int .i64 (-1), ?_, by rw [HP.out], (HB.out.setCell (p := ⟨w.heap.size + 1, 0, none⟩) (by simp) _).trans (belowK_b (w := w) (Nat.le_refl _) _ D _ _ (by simp at hD; omega) hK' rfl rfl)⟩
    simp [results, Try.f17, go_sem, hc5]
  case stop =>
    rintro D c pre W hD ⟨j, hj, rfl⟩ ⟨⟨rfl, x, hx, hc2⟩, hB⟩ hK
    have HB := hid hB
    have HP := hid (freeB_some zs n k j x HG.out hj hx)
    clear hB e1 e2 e3 e4 f1 f2 hx
    gi_wp2
    refine ⟨by simp, .inl ⟨_, _, rfl, run_takeDeferred hK, ?_⟩⟩
    have hc5 := cell_kept hc2 (grownBy_putObj' _ D (.deferred none)) (fun r e => by cases e; exact ⟨_, hK, rfl⟩)
    refine ⟨.int .i64 x, ?_, by rw [HP.out], HB.out.trans (belowK_b (w := w) (Nat.le_refl _) W D _ _ (by simp at hD; omega) hK rfl rfl)⟩
    simp [results, Try.f17, go_sem, hc5]

theorem freeB_bad (zs : List Int) (n k : Int) (h : goodB zs n = false ∨ k < 0) : freeB zs n k = -1 := by
  unfold freeB
  rcases h with h | h
  · simp [h]
  · have : decide (0 ≤ k) = false := by simp; omega
    simp [this]

set_option maxRecDepth 100000 in
set_option maxHeartbeats 2000000 in
theorem impl_free_bad (g len cap : Nat) (zs : List Int) (n k : Int) (w : World) (hl : zs.length = len) (hlen : len ≤ 1048576) (hw : Wf zs) (hr : RowV w g 45 (U zs)) (hgd : goodB zs n = false ∨ (goodB zs n = true ∧ k < 0)) :
    Calls Try.prog 17 #[.slice (some ⟨g, 0, none⟩) len cap, .int .i64 n, .int .i64 k] w fun e w' => e = .returned (.int .i64 (-1)) ∧ Below w.heap.size w w' := by
  have HL := hid (fun w hr => good_any g len cap zs n w hl hlen hw hr)
  have HR := hid hr
  clear hr hl hw
  go_enter Try.func17, Try.ntmps17
  go_wp2_with fail
  have r1 := hid (row_alloc (row_alloc (row_alloc HR.out (.cells #[.int .i64 k] 3)) (.cells #[.int .i64 0] 3)) (.cells #[.slice (some ⟨g, 0, none⟩) len cap, .int .i64 n] 43))
  refine (HL.out _ r1.out).mono ?_
  rintro e w1 ⟨rfl, hb1⟩
  have hsz : w.heap.size + 3 ≤ w1.heap.size := by have := hb1.size; simp at this; omega
  have e1 : w1.cell? ⟨w.heap.size, 0, none⟩ = some (.int .i64 k) := by
    rw [hb1.cell (p := ⟨w.heap.size, 0, none⟩) (by simp; omega)]
    rw [World.cell?_alloc_past _ _ _ (by simp; omega), World.cell?_alloc_past _ _ _ (by simp), World.cell?_alloc_at _ _ _ _ rfl]; rfl
  have e2 : w1.cell? ⟨w.heap.size + 1, 0, none⟩ = some (.int .i64 0) := by
    rw [hb1.cell (p := ⟨w.heap.size + 1, 0, none⟩) (by simp)]
    rw [World.cell?_alloc_past _ _ _ (by simp), World.cell?_alloc_at _ _ _ _ (by simp)]; rfl
  have f2 : w1.frozen? ⟨w.heap.size + 1, 0, none⟩ = false := by
    rw [hb1.frozen (p := ⟨w.heap.size + 1, 0, none⟩) (by simp)]
    rw [World.frozen?_alloc_past _ _ _ (by simp), World.frozen?_alloc_at _ _ _ _ (by simp)]
  have hB1 : Below w.heap.size w w1 := ((((Below.refl _ w).alloc (Nat.le_refl _) _).alloc (by simp) _).alloc (by simp; omega) _).trans (hb1.mono (by simp; omega))
  have HB1 := hid hB1
  clear hb1 hB1
  rcases hgd with hg | ⟨hg, hk⟩
  all_goals
    rw [hg]
    clear hg
    go_wp2
    refine bodyPost_ret (v := .int .i64 (-1)) (by simp [results, Try.results17, go_sem, e2]) rfl ⟨rfl, HB1.out.setCell (p := ⟨w.heap.size + 1, 0, none⟩) (by simp) _⟩

theorem impl_free (g len cap : Nat) (zs : List Int) (n k : Int) (w : World) (hl : zs.length = len) (hlen : len ≤ 1048576) (hw : Wf zs) (hr : RowV w g 45 (U zs)) (hk : k < 9223372036854775808) :
    Calls Try.prog 17 #[.slice (some ⟨g, 0, none⟩) len cap, .int .i64 n, .int .i64 k] w fun e w' => e = .returned (.int .i64 (freeB zs n k)) ∧ Below w.heap.size w w' := by
  cases hg : goodB zs n
  · rw [freeB_bad zs n k (.inl hg)]
    exact impl_free_bad g len cap zs n k w hl hlen hw hr (.inl hg)
  · by_cases h0 : k < 0
    · rw [freeB_bad zs n k (.inr h0)]
      exact impl_free_bad g len cap zs n k w hl hlen hw hr (.inr ⟨hg, h0⟩)
    · obtain ⟨m, rfl⟩ := Int.eq_ofNat_of_zero_le (good_n zs n hg).1
      obtain ⟨j, rfl⟩ := Int.eq_ofNat_of_zero_le (show 0 ≤ k by omega)
      exact (callsIn_wide (n := 5)).1 (impl_free_in g len cap zs m j w hl hlen hw hr hg (by omega))
end Go.Proofs.Ythcimbocchoehaa
