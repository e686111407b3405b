import Derived.Test.YtamfbplchblkbaaJd
import Derived.Laws.MakeOwn
namespace Go.Proofs.Ytamfbplchblkbaa
open Go.RowKit Go.Shelf Go.Maps
set_option linter.unusedVariables false

theorem grown_setCells (b : Nat) : ∀ (vs : List Value) (o : Nat) (w : World), w.grownBy (w.setCells b o vs) (some b)
  | [], o, w => ⟨rfl, rfl, rfl, Nat.le_refl _, fun _ _ _ => rfl⟩
  | v :: r, o, w => by
    have h1 := grown_set (grown_refl w b) o v
    have h2 := grown_setCells b r (o + 1) (w.setCell ⟨b, o, none⟩ v)
    refine ⟨h2.os.trans h1.os, h2.tape.trans h1.tape, h2.output.trans h1.output, Nat.le_trans h1.size h2.size, fun k hk hn => ?_⟩
    rw [World.setCells, h2.block k (Nat.lt_of_lt_of_le hk h1.size) hn]
    exact h1.block k hk hn
theorem type_setCells (b : Nat) : ∀ (vs : List Value) (o : Nat) (w : World) (c : Array Value) (t : TypeId), w.heap[b]? = some (.cells c t (0, 0)) → ∃ c', (w.setCells b o vs).heap[b]? = some (.cells c' t (0, 0)) ∧ c'.size = c.size
  | [], o, w, c, t, h => ⟨c, h, rfl⟩
  | v :: r, o, w, c, t, h => by
    obtain ⟨c', h1, h2⟩ := type_setCells b r (o + 1) (w.setCell ⟨b, o, none⟩ v) _ t (heap_set_at h v)
    exact ⟨c', h1, by simpa using h2⟩
theorem there_row {w : World} {G N o : Nat} {c : Array Value} {t : TypeId} (h : w.heap[G]? = some (.cells c t (0, 0))) (n : Nat) (hn : o + n ≤ c.size) : w.there G o n := fun j hj => by
  constructor
  · simp [World.cell?, h]; omega
  · simp [World.frozen?, h]
/-- copies of operations: block G, the bytes in the blocks gs -/
structure Cp (B : Nat) (w : World) (G N : Nat) (ops : List Op9) (gs : List Nat) : Prop where
  typ : ∃ c, w.heap[G]? = some (.cells c 34 (0, 0)) ∧ c.size = N * 6
  at_ : ∀ k o g, ops[k]? = some o → gs[k]? = some g → w.rangeAt G (k * 6) (opC (cpO o g)) ∧ RowV w g 5 (Ns .u8 o.ys) ∧ B ≤ g
  nd : gs.Nodup
  hl : gs.length = ops.length
  hG : B ≤ G
theorem range_below {w W : World} {b o : Nat} {cs : List Value} (h : w.rangeAt b o cs) (hb : Below w.heap.size w W) : W.rangeAt b o cs := fun j v hv => below_cell hb (h j v hv)
theorem Cp.below {B G N : Nat} {w W : World} {ops : List Op9} {gs : List Nat} (h : Cp B w G N ops gs) (hb : Below w.heap.size w W) : Cp B W G N ops gs :=
  ⟨by obtain ⟨c, h1, h2⟩ := h.typ; exact ⟨c, (hb.block _ (lt_blk h1)).trans h1, h2⟩, fun k o g ho hg => by
    obtain ⟨h1, h2, h3⟩ := h.at_ k o g ho hg
    exact ⟨range_below h1 hb, h2.below hb h2.lt, h3⟩, h.nd, h.hl, h.hG⟩
theorem opC_len (o : Op9) : (opC o).length = 6 := rfl
theorem Cp.next {B G N g k : Nat} {w w1 : World} {ops : List Op9} {gs : List Nat} {o : Op9} (h : Cp B w G N (ops.take k) gs) (ho : ops[k]? = some o) (hk : k < N) (hb : Below w.heap.size w w1) (hg : w.heap.size ≤ g) (hr : RowV w1 g 5 (Ns .u8 o.ys)) (hB : B ≤ g) :
    Cp B (w1.setCells G (k * 6) (opC (cpO o g))) G N (ops.take (k + 1)) (gs ++ [g]) := by
  have h1 := h.below hb
  obtain ⟨c, hc, hs⟩ := h1.typ
  have hlk : (ops.take k).length = k := by
    have := (List.getElem?_eq_some_iff.1 ho).1
    simp; omega
  have hgk : gs.length = k := h.hl.trans hlk
  have ht : w1.there G (k * 6) 6 := there_row (N := N) hc 6 (by omega)
  have hne : ∀ {g' : Nat} {xs : List Value}, RowV w1 g' 5 xs → g' ≠ G := fun hr' e => by
    obtain ⟨c', hc', _⟩ := hr'
    subst e
    rw [hc] at hc'
    simp at hc'
  have hnew : ∀ g', g' ∈ gs → g' ≠ g := fun g' hm e => by
    obtain ⟨i, hi⟩ := List.getElem?_of_mem hm
    have hil := (List.getElem?_eq_some_iff.1 hi).1
    obtain ⟨_, r, _⟩ := h.at_ i _ g' (List.getElem?_eq_getElem (by omega)) hi
    have := r.lt
    omega
  refine ⟨?_, fun i o' g' ho' hg' => ?_, ?_, by rw [List.take_add_one, ho]; simp [hgk, hlk], h.hG⟩
  · obtain ⟨c', e1, e2⟩ := type_setCells G (opC (cpO o g)) (k * 6) w1 c 34 hc
    exact ⟨c', e1, by omega⟩
  · rw [List.take_add_one, ho] at ho'
    by_cases hik : i < k
    · rw [List.getElem?_append_left (by omega)] at ho' hg'
      obtain ⟨a1, a2, a3⟩ := h1.at_ i o' g' ho' hg'
      exact ⟨World.rangeAt_setCells_apart a1 _ _ _ (.inr (.inl (by rw [opC_len]; omega))), a2.grown (grown_setCells _ _ _ _) (hne a2), a3⟩
    · have hik' : i = k := by
        have := (List.getElem?_eq_some_iff.1 hg').1
        simp at this; omega
      subst hik'
      rw [List.getElem?_append_right (by omega), hgk] at hg'
      rw [List.getElem?_append_right (by omega), hlk] at ho'
      simp at ho' hg'
      subst ho' hg'
      exact ⟨World.rangeAt_setCells_same _ _ _ _ (by rw [opC_len]; exact ht), hr.grown (grown_setCells _ _ _ _) (hne hr), hB⟩
  · refine List.nodup_append.2 ⟨h.nd, by simp, fun a ha b hb' => ?_⟩
    simp at hb'
    subst hb'
    exact hnew a ha
theorem Try.info34 : (Try.prog.info? 34).map (fun i => (i.zero, i.size, i.bytes)) = some (some (.agg #[.int .i64 0, .int .i64 0, .int .i64 0, .int .u64 0, .int .i64 0, .slice none 0 0]), 6, 64) := by kernel_rfl

set_option maxHeartbeats 2000000 in
theorem toOps (A : Option Addr) (len cap : Nat) (ops : List Op9) (w : World) (h : InO w A len ops) (ht : len + tot ops ≤ 1048576) :
    Calls Try.prog 11 #[.slice A len cap] w fun e w' => ∃ gs, e = .returned (.slice (some ⟨w.heap.size, 0, none⟩) len len) ∧ Cp w.heap.size w' w.heap.size len ops gs ∧ Below w.heap.size w w' := by
  obtain ⟨i0, hi, hz0, hz1, hz2⟩ := info_parts Try.info34
  have hmk : (Instr.makeSlice 23 (.int .i64 len) (.int .i64 len)).run Try.prog w = .ok (.slice (some ⟨w.heap.size, 0, none⟩) len len) (w.alloc (.cells (madeCells #[.int .i64 0, .int .i64 0, .int .i64 0, .int .u64 0, .int .i64 0, .slice none 0 0] (len * 6)) 34)) := by
    have := run_make (P := Try.prog) w 23 34 i0 _ Try.underlying23 hi hz0 .i64 .i64 len len (by omega) (Int.le_refl _) (by rw [hz2]; omega) (by omega)
    rw [hz1] at this
    simpa [Value.cells] using this
  have B0 := hid ((Below.refl w.heap.size w).alloc (Nat.le_refl _) (.cells (madeCells #[.int .i64 0, .int .i64 0, .int .i64 0, .int .u64 0, .int .i64 0, .slice none 0 0] (len * 6)) 34))
  have C0 := hid (show Cp w.heap.size (w.alloc (.cells (madeCells #[.int .i64 0, .int .i64 0, .int .i64 0, .int .u64 0, .int .i64 0, .slice none 0 0] (len * 6)) 34)) w.heap.size len (ops.take 0) [] from
    ⟨⟨_, al_last _ _, size_madeCells _ _⟩, fun k o g ho _ => by simp at ho, List.nodup_nil, by simp, Nat.le_refl _⟩)
  generalize madeCells _ (len * 6) = mk at hmk B0 C0
  have HI := hid h
  clear h hi hz0 hz1 hz2
  obtain ⟨G, hG⟩ : ∃ G, w.heap.size = G := ⟨_, rfl⟩
  go_enter Try.func11, Try.ntmps11
  go_wp2
  clear hmk
  generalize w.alloc _ = W0 at B0 C0 ⊢
  rw [hG] at C0 B0
  go_loopw [4] (fun i wr => ∃ k : Nat, k ≤ len ∧ i = .int .i64 k ∧ Hid (Below G w wr) ∧ ∃ gs, Hid (Cp G wr G len (ops.take k) gs)) (fun i _ => len - (intOf i).toNat)
  case atStart => exact ⟨0, Nat.zero_le _, rfl, B0, [], C0⟩
  case round =>
    obtain ⟨k, hk, rfl, HB, gs, HC⟩ := hrel
    clear B0 C0
    by_cases hlt : k < len
    · obtain ⟨o, ho⟩ : ∃ o, ops[k]? = some o := ⟨_, List.getElem?_eq_getElem (by have := HI.out.hl; omega)⟩
      obtain ⟨x, rfl, hc, h1⟩ := (HI.out.below (hG.symm ▸ HB.out)).at_ k o ho
      have HX := hid hc
      have HT := hid (toOp o wr h1 (by have := tot_mem (List.mem_of_getElem? ho); omega))
      have HO := hid ho
      clear hc h1 ho
      go_wp2_with (first | (refine wpList_load_at rfl 61 _ rfl _ rfl (opC o) _ HX.out Try.underlying61 rfl (by kernel_rfl) ?_))
      refine (HT.out).mono ?_
      rintro e w1 ⟨g, rfl, hr, hg, hb⟩
      have C1 := hid (HC.out.next HO.out hlt hb hg hr (by have := HB.out.size; have := hG; omega))
      have TH := hid (show w1.there G (k * 6) 6 by
        obtain ⟨c, hc, hs⟩ := (HC.out.below hb).typ
        exact there_row (N := len) hc 6 (by omega))
      have B1 := hid ((below_trans HB.out hb (by rw [← hG]; exact Nat.le_trans (Nat.le_refl _) (hG.symm ▸ HB.out.size))).grown (grown_setCells G (opC (cpO o g)) (k * 6) w1) (by rw [← hG]; exact Nat.le_trans (hG.symm ▸ HB.out.size) hb.size) (fun r hr => by simp at hr; omega))
      clear hr hg hb HC HB HT HX
      obtain ⟨cs, hcs⟩ : ∃ cs, (opC (cpO o g)).toArray = cs := ⟨_, rfl⟩
      rw [hcs]
      go_wp2_with (first | (refine wpList_store_mid rfl 34 _ _ rfl G (k * 6) cs ?hx ?hy ?th ?hi ?o1 ?_))
      case hy => rfl
      case th => rw [← hcs, List.size_toArray, opC_len]; exact TH.out
      case hi => rw [← hcs, List.size_toArray, opC_len]; kernel_rfl
      case o1 => rw [← hcs]; simp [opC, Value.oneCell']
      case hx => rfl
      subst hcs
      go_roundw
      case rel => exact ⟨k + 1, by omega, by go_num, B1, _, C1⟩
      case measure => simp [intOf]; omega
    · have hkn : k = len := by omega
      subst hkn
      have ht : (ops.take k) = ops := List.take_of_length_le (by have := HI.out.hl; omega)
      rw [ht] at HC
      go_wp2
      go_ret
      rw [hG]
      exact ⟨_, rfl, HC.out, HB.out⟩
end Go.Proofs.Ytamfbplchblkbaa
