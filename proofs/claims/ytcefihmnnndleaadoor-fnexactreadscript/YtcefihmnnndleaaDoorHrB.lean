import Derived.Test.YtcefihmnnndleaaDoorHrA
namespace Go.Proofs.YtcefihmnnndleaaDoor
open Go.ChangeShapes Go.WideShapes Go.ChangeAt Go.RowKit
set_option linter.unusedVariables false
set_option maxRecDepth 20000
set_option linter.unusedSimpArgs false

theorem lt_blk {W : World} {R : Nat} {o : Obj} (h : W.heap[R]? = some o) : R < W.heap.size := lt_of_block h
theorem heap_set_at {W : World} {b : Nat} {c : Array Value} {t : TypeId} {i : Nat} (h : W.heap[b]? = some (.cells c t (0, 0))) (v : Value) : (W.setCell ⟨b, i, none⟩ v).heap[b]? = some (.cells (c.setIfInBounds i v) t (0, 0)) := by
  simp [World.setCell, Array.getElem?_modify, h]
theorem below_none {W W' : World} (h : Below W.heap.size W W') : W.grownBy W' none := ⟨h.os, h.tape, h.output, h.size, fun k hk _ => h.block k hk⟩
/-- nothing but the blocks of S turns -/
structure Bt (S : Nat → Prop) (w w' : World) : Prop where
  os : w'.os = w.os
  tape : w'.tape = w.tape
  output : w'.output = w.output
  size : w.heap.size ≤ w'.heap.size
  block : ∀ g, g < w.heap.size → ¬ S g → w'.heap[g]? = w.heap[g]?
theorem Bt.refl (S : Nat → Prop) (w : World) : Bt S w w := ⟨rfl, rfl, rfl, Nat.le_refl _, fun _ _ _ => rfl⟩
theorem Bt.grown {S : Nat → Prop} {w W W' : World} (h : Bt S w W) {r : Option Nat} (hg : W.grownBy W' r) (hr : ∀ g, r = some g → S g ∨ w.heap.size ≤ g) : Bt S w W' :=
  ⟨hg.os.trans h.os, hg.tape.trans h.tape, hg.output.trans h.output, Nat.le_trans h.size hg.size, fun g hl hn => by
    rw [hg.block g (Nat.lt_of_lt_of_le hl h.size) (fun e => by rcases hr g e.symm with h1 | h1; exact hn h1; omega)]
    exact h.block g hl hn⟩
/-- a slice of bytes with memory of its own -/
def Rz (W : World) (u : Value) (zs : List Int) : Prop := (u = .slice none 0 0 ∧ zs = []) ∨ ∃ g cap, u = .slice (some ⟨g, 0, none⟩) zs.length cap ∧ RowV W g 5 (Ns .u8 zs)
theorem Rz.keep {W W' : World} {u : Value} {zs : List Int} (h : Rz W u zs) (hk : ∀ (g : Nat) (c : Array Value), u.ownBlock = some g → W.heap[g]? = some (.cells c 5 (0, 0)) → W'.heap[g]? = W.heap[g]?) : Rz W' u zs := by
  rcases h with h | ⟨g, cap, e, c, h1, h2⟩
  · exact .inl h
  · exact .inr ⟨g, cap, e, c, (hk g c (by rw [e]; rfl) h1).trans h1, h2⟩
theorem Rz.slice {W : World} {u : Value} {zs : List Int} (h : Rz W u zs) : ∃ a c, u = .slice a zs.length c := by
  rcases h with ⟨e, rfl⟩ | ⟨g, cap, e, _⟩
  · exact ⟨_, _, e⟩
  · exact ⟨_, _, e⟩
theorem Rz.typ {W : World} {u : Value} {zs : List Int} (h : Rz W u zs) {g : Nat} (hg : u.ownBlock = some g) : ∃ c, W.heap[g]? = some (.cells c 5 (0, 0)) := by
  rcases h with ⟨rfl, _⟩ | ⟨g', cap, rfl, c, h1, _⟩
  · cases hg
  · cases hg; exact ⟨c, h1⟩
theorem rz_own {W : World} {B : Nat} {u : Value} {l : List Nat} (h : W.ownsRow B 5 1 u l.length (dv8 l)) : Rz W u (dI l) := by
  rcases h.2 with ⟨e, h0⟩ | ⟨g, cap, cur, e, _⟩
  · have : l = [] := List.eq_nil_of_length_eq_zero (by simpa using h0)
    subst this
    exact .inl ⟨e, rfl⟩
  · subst e
    have r := RowV.ofOwns h
    rw [dv8_Ns] at r
    exact .inr ⟨g, cap, by rw [dI_len], r⟩
theorem markRz (u : Value) (zs : List Int) (k0 : Nat) (W : World) (h : Rz W u zs) (hl : zs.length ≤ 1048576) (hk : k0 ≤ 1000000000000) :
    Calls Tryd.prog 11 #[u, .int .i64 k0] W fun e w' => e = .returned (.int .i64 (k0 + zs.length : Nat)) ∧ Rz w' u (rampBy k0 zs.length) ∧ W.grownBy w' u.ownBlock := by
  rcases h with ⟨rfl, rfl⟩ | ⟨g, cap, rfl, r⟩
  · refine (markBy_nil k0 W hk).mono ?_
    rintro e w' ⟨rfl, rfl⟩
    exact ⟨rfl, .inl ⟨rfl, rfl⟩, ⟨rfl, rfl, rfl, Nat.le_refl _, fun _ _ _ => rfl⟩⟩
  · refine (markBy g zs.length cap zs k0 W rfl hl hk r).mono ?_
    rintro e w' ⟨rfl, r', hg⟩
    exact ⟨rfl, .inr ⟨g, cap, by rw [rampBy_len], r'⟩, hg⟩
theorem heldRz (u : Value) (k0 n : Nat) (W : World) (h : Rz W u (rampBy k0 n)) (hl : n ≤ 1048576) (hk : k0 ≤ 1000000000000) :
    Calls Tryd.prog 25 #[u, .int .i64 k0] W fun e w' => e = .returned (.int .i64 (k0 + n : Nat)) ∧ w' = W := by
  rcases h with ⟨rfl, h0⟩ | ⟨g, cap, e, r⟩
  · have : n = 0 := by have := rampBy_len k0 n; rw [h0] at this; simpa using this.symm
    subst this
    exact heldBy_nil k0 W hk
  · rw [rampBy_len] at e
    subst e
    exact heldBy g n cap k0 W hl hk r
abbrev Pv := OpS × Value
def totD : List Pv → Nat
  | [] => 0
  | x :: r => x.1.data.length + totD r
theorem totD_app : ∀ (a b : List Pv), totD (a ++ b) = totD a + totD b
  | [], b => by simp [totD]
  | o :: r, b => by simp [totD, totD_app r b]; omega
theorem totD_take {l : List Pv} {k : Nat} {x : Pv} (h : l[k]? = some x) : totD (l.take (k + 1)) = totD (l.take k) + x.1.data.length := by
  rw [List.take_add_one, h, totD_app]; simp [totD]
theorem totD_le (l : List Pv) (k : Nat) : totD (l.take k) ≤ totD l := by
  have h2 := totD_app (l.take k) (l.drop k)
  rw [List.take_append_drop] at h2
  omega
/-- the mark of operation i -/
def mkO (k0 : Nat) (l : List Pv) (i : Nat) : Nat := k0 + 5 * i + totD (l.take i)
/-- the mark of a number -/
def mv (t q : Nat) : Value := if t < 2 then .int .i64 ((q + t : Nat) : Int) else .int .u64 ((q + t : Nat) : Int)
/-- the first m numbers of operation k are marked -/
def Mc (W : World) (g k q m : Nat) : Prop := ∀ t, t < m → W.cell? ⟨g, k * 6 + t, none⟩ = some (mv t q)
/-- operations that are being marked -/
structure Mk (w : World) (g : Nat) (l : List Pv) (k0 k : Nat) (W : World) : Prop where
  typ : ∃ c, W.heap[g]? = some (.cells c 45 (0, 0)) ∧ l.length * 6 ≤ c.size
  cel : ∀ (i : Nat) (x : Pv), l[i]? = some x → W.cell? ⟨g, i * 6 + 5, none⟩ = some x.2
  don : ∀ (i : Nat) (x : Pv), l[i]? = some x → i < k → Mc W g i (mkO k0 l i) 5 ∧ Rz W x.2 (rampBy (mkO k0 l i + 5) x.1.data.length)
  rst : ∀ (i : Nat) (x : Pv), l[i]? = some x → ∃ zs : List Int, zs.length = x.1.data.length ∧ Rz W x.2 zs
  bt : Bt (fun b => b = g ∨ ∃ x ∈ l, x.2.ownBlock = some b) w W
theorem Mk.ne {w W : World} {g k0 k : Nat} {l : List Pv} (h : Mk w g l k0 k W) {i : Nat} {x : Pv} (hx : l[i]? = some x) : x.2.ownBlock ≠ some g := fun e => by
  obtain ⟨zs, _, hz⟩ := h.rst i x hx
  obtain ⟨c, hc⟩ := hz.typ e
  obtain ⟨c', hc', _⟩ := h.typ
  rw [hc] at hc'
  simp at hc'
theorem Mk.first {w : World} {B g cap : Nat} {l : List Pv} (k0 : Nat) (h : w.ownsRow B 45 6 (.slice (some ⟨g, 0, none⟩) l.length cap) l.length (flatP l)) (hr : ∀ x ∈ l, w.ownsRow B 5 1 x.2 x.1.data.length (dv8 x.1.data)) : Mk w g l k0 0 w := by
  rcases h.2 with ⟨e, _⟩ | ⟨g', cap', cur, e, _, h1, h2, h3, h4, h5⟩
  · cases e
  cases e
  have hsz : l.length * 6 ≤ cur.size := by
    have := congrArg List.length h5
    rw [flatP_len, List.length_take, Array.length_toList] at this
    omega
  refine ⟨⟨cur, h1, hsz⟩, fun i x hx => ?_, fun i x _ h => by omega, fun i x hx => ⟨_, dI_len _, rz_own (hr x (List.mem_of_getElem? hx))⟩, Bt.refl _ _⟩
  have hi := (List.getElem?_eq_some_iff.1 hx).1
  have e1 := flatP_at l i x hx 5 x.2 rfl
  rw [← h5, List.getElem?_take_of_lt (by omega), Array.getElem?_toList] at e1
  rw [cell_of_row _ _ _ _ _ _ h1]
  exact e1
/-- a number of operation k is marked -/
theorem Mk.code {w W : World} {g k0 k q m : Nat} {l : List Pv} (h : Mk w g l k0 k W) (hk : k < l.length) (hm : m < 5) (hc : Mc W g k q m) : Mk w g l k0 k (W.setCell ⟨g, k * 6 + m, none⟩ (mv m q)) ∧ Mc (W.setCell ⟨g, k * 6 + m, none⟩ (mv m q)) g k q (m + 1) := by
  obtain ⟨c, hty, hs⟩ := h.typ
  have gS := grown_set (grown_refl W g) (k * 6 + m) (mv m q)
  have kr : ∀ {i : Nat} {x : Pv} {zs : List Int}, l[i]? = some x → Rz W x.2 zs → Rz (W.setCell ⟨g, k * 6 + m, none⟩ (mv m q)) x.2 zs := fun hx hz => hz.keep (fun g' c' hg' hc' => gS.block g' (lt_blk hc') (fun e => h.ne hx (by rw [hg']; exact e)))
  refine ⟨⟨⟨_, heap_set_at hty _, by simpa using hs⟩, fun i x hx => ?_, fun i x hx hik => ?_, fun i x hx => ?_, h.bt.grown gS (fun b e => by cases e; exact .inl (.inl rfl))⟩, fun t ht => ?_⟩
  · rw [World.cell?_setCell_other _ _ _ _ (by intro e; simp at e; try omega)]
    exact h.cel i x hx
  · obtain ⟨h1, h2⟩ := h.don i x hx hik
    refine ⟨fun t ht => ?_, kr hx h2⟩
    rw [World.cell?_setCell_other _ _ _ _ (by intro e; simp at e; try omega)]
    exact h1 t ht
  · obtain ⟨zs, h1, h2⟩ := h.rst i x hx
    exact ⟨zs, h1, kr hx h2⟩
  · by_cases e : t = m
    · subst e
      obtain ⟨v0, hv0⟩ : ∃ v0, W.cell? ⟨g, k * 6 + t, none⟩ = some v0 := by
        rw [cell_of_row _ _ _ _ _ _ hty]
        exact ⟨_, Array.getElem?_eq_getElem (by omega)⟩
      exact World.cell?_setCell_same _ _ _ hv0
    · rw [World.cell?_setCell_other _ _ _ _ (by intro e; simp at e; try omega)]
      exact hc t (by omega)
/-- the bytes of operation k are marked -/
theorem Mk.data {w W W' : World} {g k0 k : Nat} {l : List Pv} {x : Pv} (h : Mk w g l k0 k W) (hap : l.Pairwise fun x y => ∀ g, x.2.ownBlock = some g → y.2.ownBlock ≠ some g) (hx : l[k]? = some x)
    (hc : Mc W g k (mkO k0 l k) 5) (hr : Rz W' x.2 (rampBy (mkO k0 l k + 5) x.1.data.length)) (hg : W.grownBy W' x.2.ownBlock) : Mk w g l k0 (k + 1) W' := by
  obtain ⟨c, hty, hs⟩ := h.typ
  have hG : W'.heap[g]? = W.heap[g]? := hg.block g (lt_blk hty) (fun e => h.ne hx e.symm)
  have hcell : ∀ i, W'.cell? ⟨g, i, none⟩ = W.cell? ⟨g, i, none⟩ := fun i => by unfold World.cell?; simp only [hG]
  have hne : ∀ {i : Nat} {y : Pv} {b : Nat}, l[i]? = some y → i ≠ k → y.2.ownBlock = some b → x.2.ownBlock ≠ some b := fun {i y b} hy hik hb e => by
    have l1 := List.getElem?_eq_some_iff.1 hy
    have l2 := List.getElem?_eq_some_iff.1 hx
    have hp := List.pairwise_iff_getElem.1 hap
    rcases Nat.lt_or_gt_of_ne hik with h4 | h4
    · exact hp i k l1.1 l2.1 h4 b (by rw [l1.2]; exact hb) (by rw [l2.2]; exact e)
    · exact hp k i l2.1 l1.1 h4 b (by rw [l2.2]; exact e) (by rw [l1.2]; exact hb)
  have kr : ∀ {i : Nat} {y : Pv} {zs : List Int}, l[i]? = some y → i ≠ k → Rz W y.2 zs → Rz W' y.2 zs := fun hy hik hz => hz.keep (fun g' c' hg' hc' => hg.block g' (lt_blk hc') (fun e => hne hy hik hg' e.symm))
  refine ⟨⟨c, hG.trans hty, hs⟩, fun i y hy => (hcell _).trans (h.cel i y hy), fun i y hy hik => ?_, fun i y hy => ?_, h.bt.grown hg (fun b e => .inl (.inr ⟨x, List.mem_of_getElem? hx, e⟩))⟩
  · by_cases e : i = k
    · subst e
      rw [hx] at hy
      cases hy
      exact ⟨fun t ht => (hcell _).trans (hc t ht), hr⟩
    · obtain ⟨h1, h2⟩ := h.don i y hy (by omega)
      exact ⟨fun t ht => (hcell _).trans (h1 t ht), kr hy e h2⟩
  · by_cases e : i = k
    · subst e
      rw [hx] at hy
      cases hy
      exact ⟨_, rampBy_len _ _, hr⟩
    · obtain ⟨zs, h1, h2⟩ := h.rst i y hy
      exact ⟨zs, h1, kr hy e h2⟩
theorem run_storeVar1 (w : World) (b o : Nat) (ty : TypeId) (k : IntKind) (n : Int) {v0 : Value} (hc : w.cell? ⟨b, o, none⟩ = some v0) (hf : w.frozen? ⟨b, o, none⟩ = false) (hi : (Tryd.prog.info? ty).map (·.size) = some 1) :
    (storeVar ty ⟨b, o, none⟩ (.int k n)).run Tryd.prog w = .ok () (w.setCell ⟨b, o, none⟩ (.int k n)) := by
  have := run_storeCells_cells (P := Tryd.prog) b o [.int k n] 0 w (fun j hj => by simp at hj; subst hj; simp [hc]) (fun j hj => by simp at hj; subst hj; simpa using hf) (fun v hv => by simp at hv; subst hv; rfl)
  cases hq : Tryd.prog.info? ty with
  | none => simp [hq] at hi
  | some i =>
    have hs : i.size = 1 := by simpa [hq] using hi
    simp only [Nat.add_zero, World.setCells] at this
    simp [storeVar, sizeOf, typeInfo, hq, Value.cells, hs, this]
theorem wpList_markO {ops : Array Oper} {rest : List Oper} {op : Oper} {a : Act} {w : World} {Q : Exit → Act → World → Prop} {w0 : World} {g k0 : Nat} {l : List Pv} (hgd : op.guard = none) (ty : TypeId) (x y : Operand) (ho : op.op = .store ty x y)
    (k q m : Nat) {kd : IntKind} {n : Int} (hC : Mk w0 g l k0 k w ∧ Mc w g k q m) (hi : k < l.length) (hm : m < 5) (hx : a.eval x = .pointer (some ⟨g, k * 6 + m, none⟩)) (hy : a.eval y = .int kd n) (hv : Value.int kd n = mv m q) (hs : (Tryd.prog.info? ty).map (·.size) = some 1)
    (h : ∀ w', Hid (Mk w0 g l k0 k w' ∧ Mc w' g k q (m + 1)) → wpList Tryd.prog ops Q rest (a.put op.dst undef) w') : wpList Tryd.prog ops Q (op :: rest) a w := by
  obtain ⟨c, hc, hsz⟩ := hC.1.typ
  obtain ⟨v0, hv0⟩ : ∃ v0, w.cell? ⟨g, k * 6 + m, none⟩ = some v0 := by
    rw [cell_of_row _ _ _ _ _ _ hc]
    exact ⟨_, Array.getElem?_eq_getElem (by omega)⟩
  have hf : w.frozen? ⟨g, k * 6 + m, none⟩ = false := by simp [World.frozen?, hc]
  refine wpList_plain hgd fun _ hK => ?_
  unfold Oper.wp execOp
  simp only [ho, hx, hy, Instr.storeAt, Instr.sureAddr, Sem.run_bind, Sem.run_pure, Result.andThen_ok, run_storeVar1 w g (k * 6 + m) ty kd n hv0 hf hs]
  rw [hv]
  exact hK _ _ (h _ (hC.1.code hi hm hC.2))
theorem mv_i {q t : Nat} {n : Int} (ht : t < 2) (h : n = ((q + t : Nat) : Int)) : Value.int .i64 n = mv t q := by unfold mv; rw [if_pos ht, h]
theorem mv_u {q t : Nat} {n : Int} (ht : ¬ t < 2) (h : n = ((q + t : Nat) : Int)) : Value.int .u64 n = mv t q := by unfold mv; rw [if_neg ht, h]

set_option maxHeartbeats 2000000 in
theorem markOs (g n cap k0 : Nat) (l : List Pv) (w : World) (h : Mk w g l k0 0 w) (hap : l.Pairwise fun x y => ∀ g, x.2.ownBlock = some g → y.2.ownBlock ≠ some g) (hl : l.length = n) (hb : 5 * n + totD l ≤ 1000000000) (h0 : k0 ≤ 10000000) (hd : ∀ x ∈ l, x.1.data.length ≤ 1048576) :
    Calls Tryd.prog 13 #[.slice (some ⟨g, 0, none⟩) n cap, .int .i64 k0] w fun e w' => e = .returned (.int .i64 (mkO k0 l n : Nat)) ∧ Mk w g l k0 n w' := by
  have C0 := hid h
  have HA := hid hap
  have HL := hid hl
  have HD := hid hd
  clear h hap hl hd
  go_enter Tryd.func13, Tryd.ntmps13
  go_wp2
  go_loopw [1, 5] (fun b i wr => ∃ k q : Nat, k ≤ n ∧ i = .int .i64 k ∧ b = .int .i64 q ∧ q = mkO k0 l k ∧ Hid (Mk w g l k0 k wr)) (fun _ i _ => n - (intOf i).toNat)
  case atStart => exact ⟨0, k0, Nat.zero_le _, rfl, rfl, by simp [mkO, totD], C0⟩
  case round =>
    obtain ⟨k, q, hk, rfl, rfl, hq, HC0⟩ := hrel
    clear C0
    by_cases hlt : k < n
    · obtain ⟨x, hx⟩ : ∃ x, l[k]? = some x := ⟨_, List.getElem?_eq_getElem (by have := HL.out; omega)⟩
      have hqb : q ≤ 10000000000 := by have := totD_le l k; unfold mkO at hq; omega
      have hkl : k < l.length := by have := HL.out; omega
      have HT := hid (totD_take hx)
      have HX := hid hx
      have HQ := hid hq
      have HK := hid hkl
      obtain ⟨zs, hz, hr⟩ := HC0.out.rst k x hx
      obtain ⟨xa, xc, hxs⟩ := hr.slice
      rw [hz] at hxs
      have XS := hid hxs
      have HC : Hid (Mk w g l k0 k wr ∧ Mc wr g k q 0) := hid ⟨HC0.out, fun t ht => by omega⟩
      clear hx hq hkl hr hxs HC0
      go_wp2_with (first | (refine wpList_markO rfl 3 _ _ rfl k q 0 HC.out HK.out (by omega) rfl rfl (mv_i (by omega) (by omega)) (by kernel_rfl) ?_; clear HC; intro wr' HC) | (refine wpList_markO rfl 3 _ _ rfl k q 1 HC.out HK.out (by omega) rfl rfl (mv_i (by omega) (by omega)) (by kernel_rfl) ?_; clear HC; intro wr' HC) | (refine wpList_markO rfl 23 _ _ rfl k q 2 HC.out HK.out (by omega) rfl rfl (mv_u (by omega) (by omega)) (by kernel_rfl) ?_; clear HC; intro wr' HC) | (refine wpList_markO rfl 23 _ _ rfl k q 3 HC.out HK.out (by omega) rfl rfl (mv_u (by omega) (by omega)) (by kernel_rfl) ?_; clear HC; intro wr' HC) | (refine wpList_markO rfl 23 _ _ rfl k q 4 HC.out HK.out (by omega) rfl rfl (mv_u (by omega) (by omega)) (by kernel_rfl) ?_; clear HC; intro wr' HC; have c5 := HC.out.1.cel k x HX.out; rw [XS.out] at c5))
      rw [show (q : Int) + 1 + 1 + 1 + 1 + 1 = ((q + 5 : Nat) : Int) by omega, ← XS.out]
      clear c5
      obtain ⟨zs', hz', hr'⟩ := HC.out.1.rst k x HX.out
      have HM := hid (markRz x.2 zs' (q + 5) wr' hr' (by rw [hz']; exact HD.out x (List.mem_of_getElem? HX.out)) (by omega))
      rw [hz'] at HM
      clear hr' hz' hz
      refine (HM.out).mono ?_
      rintro e w1 ⟨rfl, r1, g1⟩
      have C1 := hid (HC.out.1.data HA.out HX.out (by rw [← HQ.out]; exact HC.out.2) (by rw [← HQ.out]; exact r1) g1)
      clear r1 g1 HM HC
      go_wp2
      go_roundw
      case rel => exact ⟨k + 1, q + 5 + x.1.data.length, by omega, by go_num, rfl, by have := HQ.out; have := HT.out; unfold mkO at *; omega, C1⟩
      case measure => simp [intOf]; omega
    · have hkn : k = n := by omega
      subst hkn
      subst hq
      go_wp2
      go_ret
      exact ⟨rfl, HC0.out⟩
end Go.Proofs.YtcefihmnnndleaaDoor
