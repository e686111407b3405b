import Derived.Test.YtamfbplchblkbaaJg
namespace Go.Proofs.Ytamfbplchblkbaa
open Go.RowKit Go.Shelf Go.Maps
set_option linter.unusedVariables false

/-- nothing but the blocks of S turns -/
structure Bt (S : Nat → Prop) (w w' : World) : Prop where
  os : w'.os = w.os
  tape : w'.tape = w.tape
  output : w'.output = w.output
  size : w.heap.size ≤ w'.heap.size
  block : ∀ g, g < w.heap.size → ¬ S g → w'.heap[g]? = w.heap[g]?
theorem Bt.refl (S : Nat → Prop) (w : World) : Bt S w w := ⟨rfl, rfl, rfl, Nat.le_refl _, fun _ _ _ => rfl⟩
theorem Bt.grown {S : Nat → Prop} {w W W' : World} (h : Bt S w W) {r : Option Nat} (hg : W.grownBy W' r) (hr : ∀ g, r = some g → S g ∨ w.heap.size ≤ g) : Bt S w W' :=
  ⟨hg.os.trans h.os, hg.tape.trans h.tape, hg.output.trans h.output, Nat.le_trans h.size hg.size, fun g hl hn => by
    rw [hg.block g (Nat.lt_of_lt_of_le hl h.size) (fun e => by rcases hr g e.symm with h1 | h1; exact hn h1; omega)]
    exact h.block g hl hn⟩
theorem Bt.below {S : Nat → Prop} {w W W' : World} (h : Bt S w W) (hb : Below W.heap.size W W') : Bt S w W' := h.grown (below_none hb) (fun g e => by cases e)
/-- copies of operations that are being marked -/
structure Ck (w : World) (G N : Nat) (ops : List Op9) (gs : List Nat) (W : World) : Prop where
  typ : ∃ c, W.heap[G]? = some (.cells c 34 (0, 0)) ∧ c.size = N * 6
  dat : ∀ k o g, ops[k]? = some o → gs[k]? = some g → W.cell? ⟨G, k * 6 + 5, none⟩ = some (.slice (some ⟨g, 0, none⟩) o.dl o.dl) ∧ ∃ zs : List Int, zs.length = o.dl ∧ RowV W g 5 (Ns .u8 zs)
  bt : Bt (fun g => g = G ∨ g ∈ gs) w W
theorem Cp.ck {B G N : Nat} {w : World} {ops : List Op9} {gs : List Nat} (h : Cp B w G N ops gs) (hl : ∀ o ∈ ops, o.ys.length = o.dl) : Ck w G N ops gs w :=
  ⟨h.typ, fun k o g ho hg => by
    obtain ⟨h1, h2, _⟩ := h.at_ k o g ho hg
    exact ⟨h1 5 _ rfl, _, hl o (List.mem_of_getElem? ho), h2⟩, Bt.refl _ _⟩
theorem Ck.set {w W : World} {G N : Nat} {ops : List Op9} {gs : List Nat} (h : Ck w G N ops gs W) (i j : Nat) (hj : j < 5) (v : Value) : Ck w G N ops gs (W.setCell ⟨G, i * 6 + j, none⟩ v) := by
  obtain ⟨c, hc, hs⟩ := h.typ
  have gS := grown_set (grown_refl W G) (i * 6 + j) v
  refine ⟨⟨_, heap_set_at hc v, by simpa using hs⟩, fun k o g ho hg => ?_, h.bt.grown gS (fun g e => by cases e; exact .inl (.inl rfl))⟩
  obtain ⟨h1, zs, h2, h3⟩ := h.dat k o g ho hg
  refine ⟨?_, zs, h2, h3.grown gS ?_⟩
  · rw [World.cell?_setCell_other _ _ _ _ (by intro e; simp at e; try omega)]
    exact h1
  · rintro rfl
    obtain ⟨c', hc', _⟩ := h3
    rw [hc] at hc'
    simp at hc'
theorem Ck.cell {w W : World} {G N : Nat} {ops : List Op9} {gs : List Nat} (h : Ck w G N ops gs W) {i j : Nat} (hi : i < N) (hj : j < 6) : (∃ v, W.cell? ⟨G, i * 6 + j, none⟩ = some v) ∧ W.frozen? ⟨G, i * 6 + j, none⟩ = false := by
  obtain ⟨c, hc, hs⟩ := h.typ
  constructor
  · simp only [World.cell?, hc]
    exact ⟨_, Array.getElem?_eq_getElem (by omega)⟩
  · simp [World.frozen?, hc]
theorem Ck.row {w W W' : World} {G N g' : Nat} {ops : List Op9} {gs : List Nat} {k' : Nat} {o' : Op9} (h : Ck w G N ops gs W) (ho' : ops[k']? = some o') (hg' : gs[k']? = some g') {zs' : List Int} (hz : zs'.length = o'.dl) (hnd : gs.Nodup) (hr : RowV W' g' 5 (Ns .u8 zs')) (hg : W.grownBy W' (some g')) : Ck w G N ops gs W' := by
  obtain ⟨c, hc, hs⟩ := h.typ
  have hne : g' ≠ G := by
    rintro rfl
    obtain ⟨_, zs, _, c', hc', _⟩ := h.dat k' o' g' ho' hg'
    rw [hc] at hc'
    simp at hc'
  have hG : W'.heap[G]? = W.heap[G]? := hg.block G (lt_blk hc) (by simpa using Ne.symm hne)
  refine ⟨⟨c, hG.trans hc, hs⟩, fun k o g ho hgk => ?_, h.bt.grown hg (fun g e => by cases e; exact .inl (.inr (List.mem_of_getElem? hg')))⟩
  obtain ⟨h1, zs, h2, h3⟩ := h.dat k o g ho hgk
  refine ⟨by unfold World.cell? at h1 ⊢; rw [hG]; exact h1, ?_⟩
  by_cases e : g = g'
  · subst e
    have hkk : k = k' := by
      have l1 := (List.getElem?_eq_some_iff.1 hgk)
      have l2 := (List.getElem?_eq_some_iff.1 hg')
      have hp := List.pairwise_iff_getElem.1 hnd
      rcases Nat.lt_trichotomy k k' with h4 | h4 | h4
      · exact absurd (l1.2.trans l2.2.symm) (hp k k' l1.1 l2.1 h4)
      · exact h4
      · exact absurd (l2.2.trans l1.2.symm) (hp k' k l2.1 l1.1 h4)
    subst hkk
    rw [ho'] at ho
    cases ho
    exact ⟨zs', hz, hr⟩
  · exact ⟨zs, h2, h3.grown hg e⟩

theorem run_storeVar1 (w : World) (b o : Nat) (ty : TypeId) (k : IntKind) (n : Int) {v0 : Value} (hc : w.cell? ⟨b, o, none⟩ = some v0) (hf : w.frozen? ⟨b, o, none⟩ = false) (hi : (Try.prog.info? ty).map (·.size) = some 1) :
    (storeVar ty ⟨b, o, none⟩ (.int k n)).run Try.prog w = .ok () (w.setCell ⟨b, o, none⟩ (.int k n)) := by
  have := run_storeCells_cells (P := Try.prog) b o [.int k n] 0 w (fun j hj => by simp at hj; subst hj; simp [hc]) (fun j hj => by simp at hj; subst hj; simpa using hf) (fun v hv => by simp at hv; subst hv; rfl)
  cases hq : Try.prog.info? ty with
  | none => simp [hq] at hi
  | some i =>
    have hs : i.size = 1 := by simpa [hq] using hi
    simp only [Nat.add_zero, World.setCells] at this
    simp [storeVar, sizeOf, typeInfo, hq, Value.cells, hs, this]
theorem wpList_mark {ops : Array Oper} {rest : List Oper} {op : Oper} {a : Act} {w : World} {Q : Exit → Act → World → Prop} {w0 : World} {G N : Nat} {os : List Op9} {gs : List Nat} (hgd : op.guard = none) (ty : TypeId) (x y : Operand) (ho : op.op = .store ty x y)
    (i j : Nat) {k : IntKind} {n : Int} (hC : Ck w0 G N os gs w) (hi : i < N) (hj : j < 5) (hx : a.eval x = .pointer (some ⟨G, i * 6 + j, none⟩)) (hy : a.eval y = .int k n) (hs : (Try.prog.info? ty).map (·.size) = some 1)
    (h : ∀ w', Hid (Ck w0 G N os gs w') → wpList Try.prog ops Q rest (a.put op.dst undef) w') : wpList Try.prog ops Q (op :: rest) a w := by
  obtain ⟨⟨v0, hc⟩, hf⟩ := hC.cell hi (show j < 6 by omega)
  refine wpList_plain hgd fun _ hK => ?_
  unfold Oper.wp execOp
  simp only [ho, hx, hy, Instr.storeAt, Instr.sureAddr, Sem.run_bind, Sem.run_pure, Result.andThen_ok, run_storeVar1 w G (i * 6 + j) ty k n hc hf hs]
  exact hK _ _ (h _ (hC.set i j hj _))

set_option maxHeartbeats 4000000 in
theorem markOps (B G n ca : Nat) (ops : List Op9) (gs : List Nat) (w : World) (h : Cp B w G n ops gs) (hops : ops.length = n) (hn : n + tot ops ≤ 1048576) (hl : ∀ o ∈ ops, o.ys.length = o.dl) :
    Calls Try.prog 14 #[.slice (some ⟨G, 0, none⟩) n ca, .int .i64 1] w fun e w' => ∃ r : Nat, e = .returned (.int .i64 r) ∧ Bt (fun g => g = G ∨ g ∈ gs) w w' := by
  have C0 := hid (h.ck hl)
  have HL := hid (And.intro hops (And.intro h.hl h.nd))
  clear h hl hops
  go_enter Try.func14, Try.ntmps14
  go_wp2
  go_loopw [1, 5] (fun b i wr => ∃ (k q : Nat), k ≤ n ∧ i = .int .i64 k ∧ b = .int .i64 q ∧ q ≤ 1 + 5 * k + tot (ops.take k) ∧ Hid (Ck w G n ops gs wr)) (fun _ i _ => n - (intOf i).toNat)
  case atStart => exact ⟨0, 1, Nat.zero_le _, rfl, rfl, by simp [tot], C0⟩
  case round =>
    obtain ⟨k, q, hk, rfl, rfl, hq, HC⟩ := hrel
    clear C0
    by_cases hlt : k < n
    · obtain ⟨o, ho⟩ : ∃ o, ops[k]? = some o := ⟨_, List.getElem?_eq_getElem (by have := HL.out.1; omega)⟩
      obtain ⟨x, hx⟩ : ∃ x, gs[k]? = some x := ⟨_, List.getElem?_eq_getElem (by have := HL.out.1; have := HL.out.2.1; omega)⟩
      have ht := tot_take ho
      have hqb : q ≤ 100000000 := by
        have : tot (ops.take k) ≤ tot ops := by
          have h2 := tot_app (ops.take k) (ops.drop k)
          rw [List.take_append_drop] at h2
          omega
        omega
      have HQ := hid (And.intro hq ht)
      have HO := hid (And.intro ho hx)
      clear hq ht ho hx
      go_wp2_with (first | (refine wpList_mark rfl 3 _ _ rfl k 0 HC.out hlt (by omega) rfl rfl (by kernel_rfl) ?_; clear HC; intro wr' HC) | (refine wpList_mark rfl 3 _ _ rfl k 1 HC.out hlt (by omega) rfl rfl (by kernel_rfl) ?_; clear HC; intro wr' HC) | (refine wpList_mark rfl 3 _ _ rfl k 2 HC.out hlt (by omega) rfl rfl (by kernel_rfl) ?_; clear HC; intro wr' HC) | (refine wpList_mark rfl 32 _ _ rfl k 3 HC.out hlt (by omega) rfl rfl (by kernel_rfl) ?_; clear HC; intro wr' HC) | (refine wpList_mark rfl 3 _ _ rfl k 4 HC.out hlt (by omega) rfl rfl (by kernel_rfl) ?_; clear HC; intro wr' HC; have c5 := (HC.out.dat k o x HO.out.1 HO.out.2).1))
      rw [show (q : Int) + 1 + 1 + 1 + 1 + 1 = ((q + 5 : Nat) : Int) by omega]
      obtain ⟨_, zs, hz, hr⟩ := HC.out.dat k o x HO.out.1 HO.out.2
      have HM := hid (markBy x o.dl o.dl zs (q + 5) wr' hz (by have := tot_mem (List.mem_of_getElem? HO.out.1); omega) (by omega) hr)
      clear hr hz c5
      refine (HM.out).mono ?_
      rintro e w1 ⟨rfl, r1, g1⟩
      have C1 := hid (HC.out.row HO.out.1 HO.out.2 (rampBy_len (q + 5) o.dl) HL.out.2.2 r1 g1)
      clear r1 g1 HM HC
      go_wp2
      go_roundw
      case rel => exact ⟨k + 1, q + 5 + o.dl, by omega, by go_num, rfl, by have := HQ.out; omega, C1⟩
      case measure => simp [intOf]; omega
    · go_wp2
      go_ret
      exact ⟨_, rfl, HC.out.bt⟩
end Go.Proofs.Ytamfbplchblkbaa
