import Derived.Test.YtcefihmnnndleaaDoorHrB
namespace Go.Proofs.YtcefihmnnndleaaDoor
open Go.ChangeShapes Go.WideShapes Go.ChangeAt Go.RowKit
set_option linter.unusedVariables false
set_option maxRecDepth 20000
set_option linter.unusedSimpArgs false

/-- operations that are marked -/
structure Dn (g : Nat) (l : List Pv) (k0 : Nat) (W : World) : Prop where
  cel : ∀ (i : Nat) (x : Pv), l[i]? = some x → W.cell? ⟨g, i * 6 + 5, none⟩ = some x.2
  don : ∀ (i : Nat) (x : Pv), l[i]? = some x → Mc W g i (mkO k0 l i) 5 ∧ Rz W x.2 (rampBy (mkO k0 l i + 5) x.1.data.length)
theorem Mk.dn {w W : World} {g k0 : Nat} {l : List Pv} (h : Mk w g l k0 l.length W) : Dn g l k0 W :=
  ⟨h.cel, fun i x hx => h.don i x hx (List.getElem?_eq_some_iff.1 hx).1⟩
theorem Dn.keep {W W' : World} {g k0 : Nat} {l : List Pv} (h : Dn g l k0 W) (hg : W'.heap[g]? = W.heap[g]?) (hk : ∀ x ∈ l, ∀ b, x.2.ownBlock = some b → b < W.heap.size → W'.heap[b]? = W.heap[b]?) : Dn g l k0 W' := by
  have hcell : ∀ i, W'.cell? ⟨g, i, none⟩ = W.cell? ⟨g, i, none⟩ := fun i => by unfold World.cell?; simp only [hg]
  refine ⟨fun i x hx => (hcell _).trans (h.cel i x hx), fun i x hx => ?_⟩
  obtain ⟨h1, h2⟩ := h.don i x hx
  exact ⟨fun t ht => (hcell _).trans (h1 t ht), h2.keep (fun b c hb hc => hk x (List.mem_of_getElem? hx) b hb (lt_blk hc))⟩
theorem Dn.below {W W' : World} {g k0 : Nat} {l : List Pv} (h : Dn g l k0 W) (hb : Below W.heap.size W W') : Dn g l k0 W' :=
  ⟨fun i x hx => below_cell hb (h.cel i x hx), fun i x hx => ⟨fun t ht => below_cell hb ((h.don i x hx).1 t ht), (h.don i x hx).2.keep (fun b c _ hc => hb.block b (lt_blk hc))⟩⟩
set_option maxHeartbeats 2000000 in
theorem heldOs (g n cap k0 : Nat) (l : List Pv) (w : World) (h : Dn g l k0 w) (hl : l.length = n) (hb : 5 * n + totD l ≤ 1000000000) (h0 : k0 ≤ 10000000) (hd : ∀ x ∈ l, x.1.data.length ≤ 1048576) :
    Calls Tryd.prog 16 #[.slice (some ⟨g, 0, none⟩) n cap, .int .i64 k0] w fun e w' => e = .returned (.int .i64 (mkO k0 l n : Nat)) ∧ Below w.heap.size w w' := by
  have C0 := hid h
  have HL := hid hl
  have HD := hid hd
  clear h hl hd
  go_enter Tryd.func16, Tryd.ntmps16
  go_wp2
  go_loopw [1, 5] (fun b i wr => ∃ k q : Nat, k ≤ n ∧ i = .int .i64 k ∧ b = .int .i64 q ∧ q = mkO k0 l k ∧ Hid (Below w.heap.size w wr)) (fun _ i _ => n - (intOf i).toNat)
  case atStart => exact ⟨0, k0, Nat.zero_le _, rfl, rfl, by simp [mkO, totD], hid (Below.refl _ _)⟩
  case round =>
    obtain ⟨k, q, hk, rfl, rfl, hq, HB⟩ := hrel
    by_cases hlt : k < n
    · obtain ⟨x, hx⟩ : ∃ x, l[k]? = some x := ⟨_, List.getElem?_eq_getElem (by have := HL.out; omega)⟩
      have hqb : q ≤ 10000000000 := by have := totD_le l k; unfold mkO at hq; omega
      have HT := hid (totD_take hx)
      have DB := C0.out.below HB.out
      have c5 := DB.cel k x hx
      obtain ⟨c4, hr⟩ := DB.don k x hx
      rw [← hq] at c4 hr
      have d0 : wr.cell? ⟨g, k * 6, none⟩ = some (.int .i64 (q : Int)) := c4 0 (by omega)
      have d1 : wr.cell? ⟨g, k * 6 + 1, none⟩ = some (.int .i64 ((q : Int) + 1)) := by rw [c4 1 (by omega)]; simp [mv]
      have d2 : wr.cell? ⟨g, k * 6 + 2, none⟩ = some (.int .u64 ((q : Int) + 1 + 1)) := by rw [c4 2 (by omega)]; simp [mv]; omega
      have d3 : wr.cell? ⟨g, k * 6 + 3, none⟩ = some (.int .u64 ((q : Int) + 1 + 1 + 1)) := by rw [c4 3 (by omega)]; simp [mv]; omega
      have d4 : wr.cell? ⟨g, k * 6 + 4, none⟩ = some (.int .u64 ((q : Int) + 1 + 1 + 1 + 1)) := by rw [c4 4 (by omega)]; simp [mv]; omega
      obtain ⟨xa, xc, hxs⟩ := hr.slice
      rw [rampBy_len] at hxs
      have HM := hid (heldRz x.2 (q + 5) x.1.data.length wr hr (HD.out x (List.mem_of_getElem? hx)) (by omega))
      have HQ := hid hq
      have hnl : ¬ (((q + 5 + x.1.data.length : Nat) : Int) < 0) := by omega
      rw [hxs] at c5 HM
      clear hx hq hr hxs DB c4
      go_wp2_with fail
      rw [show (q : Int) + 1 + 1 + 1 + 1 + 1 = ((q + 5 : Nat) : Int) by omega]
      refine (HM.out).mono ?_
      rintro e w1 ⟨rfl, rfl⟩
      clear HM c5 d0 d1 d2 d3 d4
      go_wp2
      go_roundw
      case rel => exact ⟨k + 1, q + 5 + x.1.data.length, by omega, by go_num, rfl, by have := HQ.out; have := HT.out; unfold mkO at *; omega, HB⟩
      case measure => simp [intOf]; omega
    · have hkn : k = n := by omega
      subst hkn
      subst hq
      go_wp2
      go_ret
      exact ⟨rfl, HB.out⟩
theorem markOs_nil (k0 : Nat) (w : World) (hk : k0 ≤ 1000000000000) :
    Calls Tryd.prog 13 #[.slice none 0 0, .int .i64 k0] w fun e w' => e = .returned (.int .i64 k0) ∧ w' = w := by
  go_enter Tryd.func13, Tryd.ntmps13
  go_wp2
  refine wp_loop_rounds 1 ?_
  rw [rounds_succ]
  go_wp2
  go_ret
  exact ⟨rfl, rfl⟩
theorem heldOs_nil (k0 : Nat) (w : World) (hk : k0 ≤ 1000000000000) :
    Calls Tryd.prog 16 #[.slice none 0 0, .int .i64 k0] w fun e w' => e = .returned (.int .i64 k0) ∧ w' = w := by
  go_enter Tryd.func16, Tryd.ntmps16
  go_wp2
  refine wp_loop_rounds 1 ?_
  rw [rounds_succ]
  go_wp2
  go_ret
  exact ⟨rfl, rfl⟩
/-- a marked slice of operations -/
def Av (k0 : Nat) (l : List Pv) (v : Value) (W : World) : Prop := (v = .slice none 0 0 ∧ l = []) ∨ ∃ g cap, v = .slice (some ⟨g, 0, none⟩) l.length cap ∧ Dn g l k0 W
/-- a marked slice of numbers -/
def Oz (k n : Nat) (v : Value) (W : World) : Prop := (v = .slice none 0 0 ∧ n = 0) ∨ ∃ g cap, v = .slice (some ⟨g, 0, none⟩) n cap ∧ RowV W g 3 (Ns .i64 (rampIn k n))
theorem Av.below {k0 : Nat} {l : List Pv} {v : Value} {W W' : World} (h : Av k0 l v W) (hb : Below W.heap.size W W') : Av k0 l v W' := by
  rcases h with h | ⟨g, cap, e, h1⟩
  · exact .inl h
  · exact .inr ⟨g, cap, e, h1.below hb⟩
theorem Oz.below {k n : Nat} {v : Value} {W W' : World} (h : Oz k n v W) (hb : Below W.heap.size W W') : Oz k n v W' := by
  rcases h with h | ⟨g, cap, e, h1⟩
  · exact .inl h
  · exact .inr ⟨g, cap, e, h1.below hb h1.lt⟩
theorem Oz.grown {k n : Nat} {v : Value} {W W' : World} {o : Option Nat} (h : Oz k n v W) (hg : W.grownBy W' o) (hne : ∀ r, v.ownBlock = some r → o ≠ some r) : Oz k n v W' := by
  rcases h with h | ⟨g, cap, e, c, h1, h2⟩
  · exact .inl h
  · exact .inr ⟨g, cap, e, c, (hg.block g (lt_blk h1) (fun e2 => hne g (by rw [e]; rfl) e2.symm)).trans h1, h2⟩
theorem Oz.bt {k n : Nat} {v : Value} {W W' : World} {S : Nat → Prop} (h : Oz k n v W) (hg : Bt S W W') (hne : ∀ r, v.ownBlock = some r → ¬ S r) : Oz k n v W' := by
  rcases h with h | ⟨g, cap, e, c, h1, h2⟩
  · exact .inl h
  · exact .inr ⟨g, cap, e, c, (hg.block g (lt_blk h1) (hne g (by rw [e]; rfl))).trans h1, h2⟩
theorem markV (B k0 : Nat) (l : List Pv) (v : Value) (w : World) (h : w.ownsRow B 45 6 v l.length (flatP l)) (hr : ∀ x ∈ l, w.ownsRow B 5 1 x.2 x.1.data.length (dv8 x.1.data)) (hap : l.Pairwise fun x y => ∀ g, x.2.ownBlock = some g → y.2.ownBlock ≠ some g) (hb : 5 * l.length + totD l ≤ 1000000000) (h0 : k0 ≤ 10000000) (hd : ∀ x ∈ l, x.1.data.length ≤ 1048576) :
    Calls Tryd.prog 13 #[v, .int .i64 k0] w fun e w' => e = .returned (.int .i64 (mkO k0 l l.length : Nat)) ∧ Av k0 l v w' ∧ Bt (fun b => v.ownBlock = some b ∨ ∃ x ∈ l, x.2.ownBlock = some b) w w' := by
  rcases h.2 with ⟨e, h9⟩ | ⟨g, cap, cur, e, _⟩
  · have : l = [] := List.eq_nil_of_length_eq_zero h9
    subst this e
    refine (markOs_nil k0 w (by omega)).mono ?_
    rintro e w' ⟨rfl, rfl⟩
    exact ⟨rfl, .inl ⟨rfl, rfl⟩, Bt.refl _ _⟩
  · subst e
    refine (markOs g l.length cap k0 l w (Mk.first k0 h hr) hap rfl hb h0 hd).mono ?_
    rintro e w' ⟨rfl, m⟩
    refine ⟨rfl, .inr ⟨g, cap, rfl, m.dn⟩, m.bt.os, m.bt.tape, m.bt.output, m.bt.size, fun b hb' hn => m.bt.block b hb' (fun hs => hn ?_)⟩
    rcases hs with rfl | hs
    · exact .inl rfl
    · exact .inr hs
theorem markO (B : Nat) (os : List Int) (k : Nat) (vo : Value) (w : World) (h : w.ownsRow B 3 1 vo os.length (iv os)) (ho : os.length ≤ 1048576) (hk : k ≤ 1000000000000) :
    Calls Tryd.prog 14 #[vo, .int .i64 k] w fun e w' => e = .returned (.int .i64 (k + os.length : Nat)) ∧ Oz k os.length vo w' ∧ w.grownBy w' vo.ownBlock := by
  rcases h.2 with ⟨e, h0⟩ | ⟨g, cap, cur, e, _⟩
  · have : os = [] := List.eq_nil_of_length_eq_zero h0
    subst this e
    refine (markIn_nil k w hk).mono ?_
    rintro e w' ⟨rfl, rfl⟩
    exact ⟨rfl, .inl ⟨rfl, rfl⟩, ⟨rfl, rfl, rfl, Nat.le_refl _, fun _ _ _ => rfl⟩⟩
  · subst e
    have r0 := RowV.ofOwns h
    rw [iv_Ns] at r0
    refine (markIn g os.length cap os k w rfl ho hk r0).mono ?_
    rintro e w' ⟨rfl, r, hg⟩
    exact ⟨rfl, .inr ⟨g, cap, rfl, r⟩, hg⟩
theorem heldV (k0 : Nat) (l : List Pv) (v : Value) (w : World) (h : Av k0 l v w) (hb : 5 * l.length + totD l ≤ 1000000000) (h0 : k0 ≤ 10000000) (hd : ∀ x ∈ l, x.1.data.length ≤ 1048576) :
    Calls Tryd.prog 16 #[v, .int .i64 k0] w fun e w' => e = .returned (.int .i64 (mkO k0 l l.length : Nat)) ∧ Below w.heap.size w w' := by
  rcases h with ⟨rfl, rfl⟩ | ⟨g, cap, rfl, h⟩
  · refine (heldOs_nil k0 w (by omega)).mono ?_
    rintro e w' ⟨rfl, rfl⟩
    exact ⟨rfl, Below.refl _ _⟩
  · exact heldOs g l.length cap k0 l w h rfl hb h0 hd
theorem heldO (k n : Nat) (vo : Value) (w : World) (h : Oz k n vo w) (ho : n ≤ 1048576) (hk : k ≤ 1000000000000) :
    Calls Tryd.prog 17 #[vo, .int .i64 k] w fun e w' => e = .returned (.int .i64 (k + n : Nat)) ∧ w' = w := by
  rcases h with ⟨rfl, rfl⟩ | ⟨g, cap, rfl, h⟩
  · exact heldIn_nil k w hk
  · exact heldIn g n cap k w ho hk h
set_option maxHeartbeats 1000000 in
theorem markCf (B : Nat) (c : CfS) (u : Value) (k : Nat) (w : World) (h : w.ownsRow B 3 1 u c.draws.length (iv c.draws)) (hB : B ≤ w.heap.size) (ho : c.draws.length ≤ 1048576) (hk : k ≤ 1000000000) :
    Calls Tryd.prog 12 #[.agg (cfC c u).toArray, .int .i64 k] w fun e w' => e = .returned (.int .i64 (k + c.draws.length : Nat)) ∧ Oz k c.draws.length u w' ∧ w.grownBy w' u.ownBlock := by
  obtain ⟨W1, hW1⟩ : ∃ W, W = w.alloc (.cells (cfC c u).toArray 26) := ⟨_, rfl⟩
  have hb1 : Below w.heap.size w W1 := by rw [hW1]; exact (Below.refl _ w).alloc (Nat.le_refl _) _
  have HM := hid (markO B c.draws k u W1 (own_below h hb1) ho (by omega))
  have HB := hid hb1
  obtain ⟨a, m, cc, rfl, hm9⟩ := own_sl3 h
  clear h hb1 hm9
  unfold cfC at hW1
  generalize c.draws.length = n at *
  unfold cfC
  go_enter Tryd.func12, Tryd.ntmps12
  go_wp2_with fail
  refine Eq.mp (congrArg (fun W => Calls Tryd.prog 14 _ W _) hW1) ?_
  clear hW1
  refine (HM.out).mono ?_
  rintro e w2 ⟨rfl, oz, hg⟩
  have HO := hid oz
  have HG := hid (show w.grownBy w2 (Value.slice a m cc).ownBlock from ⟨hg.os.trans HB.out.os, hg.tape.trans HB.out.tape, hg.output.trans HB.out.output, Nat.le_trans HB.out.size hg.size, fun k hk hne => (hg.block k (Nat.lt_of_lt_of_le hk HB.out.size) hne).trans (HB.out.block k hk)⟩)
  clear oz hg HM HB
  go_wp2
  go_ret
  exact ⟨rfl, HO.out, HG.out⟩
set_option maxHeartbeats 1000000 in
theorem heldCf (c : CfS) (u : Value) (k n : Nat) (w : World) (h : Oz k n u w) (ho : n ≤ 1048576) (hk : k ≤ 1000000000) :
    Calls Tryd.prog 15 #[.agg (cfC c u).toArray, .int .i64 k] w fun e w' => e = .returned (.int .i64 (k + n : Nat)) ∧ Below w.heap.size w w' := by
  obtain ⟨W1, hW1⟩ : ∃ W, W = w.alloc (.cells (cfC c u).toArray 26) := ⟨_, rfl⟩
  have hb1 : Below w.heap.size w W1 := by rw [hW1]; exact (Below.refl _ w).alloc (Nat.le_refl _) _
  have HM := hid (heldO k n u W1 (h.below hb1) ho (by omega))
  have HB := hid hb1
  obtain ⟨a, m, cc, rfl⟩ : ∃ a m cc, u = .slice a m cc := by
    rcases h with ⟨e, _⟩ | ⟨g, cap, e, _⟩
    · exact ⟨_, _, _, e⟩
    · exact ⟨_, _, _, e⟩
  have hnl : ¬ (((k + n : Nat) : Int) < 0) := by omega
  clear h hb1
  unfold cfC at hW1
  unfold cfC
  go_enter Tryd.func15, Tryd.ntmps15
  go_wp2_with fail
  refine Eq.mp (congrArg (fun W => Calls Tryd.prog 17 _ W _) hW1) ?_
  clear hW1
  refine (HM.out).mono ?_
  rintro e w2 ⟨rfl, rfl⟩
  clear HM
  go_wp2
  go_ret
  exact ⟨rfl, HB.out⟩
end Go.Proofs.YtcefihmnnndleaaDoor
