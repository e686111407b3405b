import Derived.Test.YtamfbplchblkbaaJh
namespace Go.Proofs.Ytamfbplchblkbaa
open Go.RowKit Go.Shelf Go.Maps
set_option linter.unusedVariables false

/-- a slice of bytes with memory of its own -/
def Rz (W : World) (u : Value) (zs : List Int) : Prop := (u = .slice none 0 0 ∧ zs = []) ∨ ∃ g cap, u = .slice (some ⟨g, 0, none⟩) zs.length cap ∧ RowV W g 5 (Ns .u8 zs)
theorem Rz.keep {W W' : World} {u : Value} {zs : List Int} (h : Rz W u zs) (hk : ∀ (g : Nat) (c : Array Value), u.ownBlock = some g → W.heap[g]? = some (.cells c 5 (0, 0)) → W'.heap[g]? = W.heap[g]?) : Rz W' u zs := by
  rcases h with h | ⟨g, cap, e, c, h1, h2⟩
  · exact .inl h
  · exact .inr ⟨g, cap, e, c, (hk g c (by rw [e]; rfl) h1).trans h1, h2⟩
theorem Rz.slice {W : World} {u : Value} {zs : List Int} (h : Rz W u zs) : ∃ a c, u = .slice a zs.length c := by
  rcases h with ⟨e, rfl⟩ | ⟨g, cap, e, _⟩
  · exact ⟨_, _, e⟩
  · exact ⟨_, _, e⟩
theorem Rz.typ {W : World} {u : Value} {zs : List Int} (h : Rz W u zs) {g : Nat} (hg : u.ownBlock = some g) : ∃ c, W.heap[g]? = some (.cells c 5 (0, 0)) := by
  rcases h with ⟨rfl, _⟩ | ⟨g', cap, rfl, c, h1, _⟩
  · cases hg
  · cases hg; exact ⟨c, h1⟩
theorem rz_own {W : World} {B : Nat} {u : Value} {zs : List Int} (h : W.ownsRow B 5 1 u zs.length (Ns .u8 zs)) : Rz W u zs := by
  rcases h.2 with ⟨e, h0⟩ | ⟨g, cap, cur, e, _⟩
  · exact .inl ⟨e, List.eq_nil_of_length_eq_zero (by simpa using h0)⟩
  · subst e; exact .inr ⟨g, cap, rfl, RowV.ofOwns h⟩
theorem markRz (u : Value) (zs : List Int) (k0 : Nat) (W : World) (h : Rz W u zs) (hl : zs.length ≤ 1048576) (hk : k0 ≤ 1000000000000) :
    Calls Try.prog 31 #[u, .int .i64 k0] W fun e w' => e = .returned (.int .i64 (k0 + zs.length : Nat)) ∧ Rz w' u (rampBy k0 zs.length) ∧ W.grownBy w' u.ownBlock := by
  rcases h with ⟨rfl, rfl⟩ | ⟨g, cap, rfl, r⟩
  · refine (markBy_nil k0 W hk).mono ?_
    rintro e w' ⟨rfl, rfl⟩
    exact ⟨rfl, .inl ⟨rfl, rfl⟩, ⟨rfl, rfl, rfl, Nat.le_refl _, fun _ _ _ => rfl⟩⟩
  · refine (markBy g zs.length cap zs k0 W rfl hl hk r).mono ?_
    rintro e w' ⟨rfl, r', hg⟩
    exact ⟨rfl, .inr ⟨g, cap, by rw [rampBy_len], r'⟩, hg⟩
theorem heldRz (u : Value) (k0 n : Nat) (W : World) (h : Rz W u (rampBy k0 n)) (hl : n ≤ 1048576) (hk : k0 ≤ 1000000000000) :
    Calls Try.prog 52 #[u, .int .i64 k0] W fun e w' => e = .returned (.int .i64 (k0 + n : Nat)) ∧ w' = W := by
  rcases h with ⟨rfl, h0⟩ | ⟨g, cap, e, r⟩
  · have : n = 0 := by have := rampBy_len k0 n; rw [h0] at this; simpa using this.symm
    subst this
    exact heldBy_nil k0 W hk
  · rw [rampBy_len] at e
    subst e
    exact heldBy g n cap k0 W hl hk r
def totA : List An → Nat
  | [] => 0
  | x :: r => x.1.2.length + totA r
theorem totA_app : ∀ (a b : List An), totA (a ++ b) = totA a + totA b
  | [], b => by simp [totA]
  | o :: r, b => by simp [totA, totA_app r b]; omega
theorem totA_take {l : List An} {k : Nat} {x : An} (h : l[k]? = some x) : totA (l.take (k + 1)) = totA (l.take k) + x.1.2.length := by
  rw [List.take_add_one, h, totA_app]; simp [totA]
theorem totA_le (l : List An) (k : Nat) : totA (l.take k) ≤ totA l := by
  have h2 := totA_app (l.take k) (l.drop k)
  rw [List.take_append_drop] at h2
  omega
theorem totA_mem : ∀ {l : List An} {x : An}, x ∈ l → x.1.2.length ≤ totA l
  | p :: r, o, h => by
    rcases List.mem_cons.1 h with rfl | h1
    · simp [totA]
    · have := totA_mem h1; simp [totA]; omega
/-- the mark of answer i -/
def mkA (k0 : Nat) (l : List An) (i : Nat) : Nat := k0 + i + totA (l.take i)
/-- answers that are being marked -/
structure Mk (w : World) (g : Nat) (l : List An) (k0 k : Nat) (W : World) : Prop where
  typ : ∃ c, W.heap[g]? = some (.cells c 36 (0, 0)) ∧ l.length * 2 ≤ c.size
  cel : ∀ (i : Nat) (x : An), l[i]? = some x → W.cell? ⟨g, i * 2 + 1, none⟩ = some x.2
  don : ∀ (i : Nat) (x : An), l[i]? = some x → i < k → W.cell? ⟨g, i * 2, none⟩ = some (.int .i64 (mkA k0 l i : Nat)) ∧ Rz W x.2 (rampBy (mkA k0 l i + 1) x.1.2.length)
  rst : ∀ (i : Nat) (x : An), l[i]? = some x → ∃ zs : List Int, zs.length = x.1.2.length ∧ Rz W x.2 zs
  bt : Bt (fun b => b = g ∨ ∃ x ∈ l, x.2.ownBlock = some b) w W
theorem Mk.ne {w W : World} {g k0 k : Nat} {l : List An} (h : Mk w g l k0 k W) {i : Nat} {x : An} (hx : l[i]? = some x) : x.2.ownBlock ≠ some g := fun e => by
  obtain ⟨zs, _, hz⟩ := h.rst i x hx
  obtain ⟨c, hc⟩ := hz.typ e
  obtain ⟨c', hc', _⟩ := h.typ
  rw [hc] at hc'
  simp at hc'
theorem Mk.first {w : World} {B g cap : Nat} {l : List An} (k0 : Nat) (h : w.ownsRow B 36 2 (.slice (some ⟨g, 0, none⟩) l.length cap) l.length (flatA l)) (hr : ∀ x ∈ l, w.ownsRow B 5 1 x.2 x.1.2.length (Ns .u8 x.1.2)) : Mk w g l k0 0 w := by
  rcases h.2 with ⟨e, _⟩ | ⟨g', cap', cur, e, _, h1, h2, h3, h4, h5⟩
  · cases e
  cases e
  refine ⟨⟨cur, h1, by omega⟩, fun i x hx => ?_, fun i x _ h => by omega, fun i x hx => ⟨_, rfl, rz_own (hr x (List.mem_of_getElem? hx))⟩, Bt.refl _ _⟩
  have hi := (List.getElem?_eq_some_iff.1 hx).1
  have e1 : (flatA l)[i * 2 + 1]? = some x.2 := by
    clear h h1 h2 h3 h4 h5 hr
    induction l generalizing i with
    | nil => simp at hx
    | cons y r ih =>
      cases i with
      | zero => simp at hx; subst hx; rfl
      | succ j =>
        have := ih j (by simpa using hx) (by simpa using hi)
        rw [show (j + 1) * 2 + 1 = (j * 2 + 1) + 2 by omega]
        simpa [flatA] using this
  rw [← h5] at e1
  rw [List.getElem?_take_of_lt (by omega), Array.getElem?_toList] at e1
  simp [World.cell?, h1, e1]
/-- the code of answer k is marked -/
theorem Mk.code {w W : World} {g k0 k : Nat} {l : List An} (h : Mk w g l k0 k W) (v : Value) : Mk w g l k0 k (W.setCell ⟨g, k * 2, none⟩ v) ∧ (k < l.length → (W.setCell ⟨g, k * 2, none⟩ v).cell? ⟨g, k * 2, none⟩ = some v) := by
  obtain ⟨c, hc, hs⟩ := h.typ
  have gS := grown_set (grown_refl W g) (k * 2) v
  have kr : ∀ {i : Nat} {x : An} {zs : List Int}, l[i]? = some x → Rz W x.2 zs → Rz (W.setCell ⟨g, k * 2, none⟩ v) x.2 zs := fun hx hz => hz.keep (fun g' c' hg' hc' => gS.block g' (lt_blk hc') (fun e => h.ne hx (by rw [hg']; exact e)))
  refine ⟨⟨⟨_, heap_set_at hc v, by simpa using hs⟩, fun i x hx => ?_, fun i x hx hik => ?_, fun i x hx => ?_, h.bt.grown gS (fun b e => by cases e; exact .inl (.inl rfl))⟩, fun hk => ?_⟩
  · rw [World.cell?_setCell_other _ _ _ _ (by intro e; simp at e; try omega)]
    exact h.cel i x hx
  · obtain ⟨h1, h2⟩ := h.don i x hx hik
    refine ⟨?_, kr hx h2⟩
    rw [World.cell?_setCell_other _ _ _ _ (by intro e; simp at e; try omega)]
    exact h1
  · obtain ⟨zs, h1, h2⟩ := h.rst i x hx
    exact ⟨zs, h1, kr hx h2⟩
  · obtain ⟨v0, hv0⟩ : ∃ v0, W.cell? ⟨g, k * 2, none⟩ = some v0 := by
      simp only [World.cell?, hc]
      exact ⟨_, Array.getElem?_eq_getElem (by omega)⟩
    exact World.cell?_setCell_same _ _ _ hv0
/-- the bytes of answer k are marked -/
theorem Mk.data {w W W' : World} {g k0 k : Nat} {l : List An} {x : An} (h : Mk w g l k0 k W) (hap : l.Pairwise fun x y => ∀ g, x.2.ownBlock = some g → y.2.ownBlock ≠ some g) (hx : l[k]? = some x)
    (hc : W.cell? ⟨g, k * 2, none⟩ = some (.int .i64 (mkA k0 l k : Nat))) (hr : Rz W' x.2 (rampBy (mkA k0 l k + 1) x.1.2.length)) (hg : W.grownBy W' x.2.ownBlock) : Mk w g l k0 (k + 1) W' := by
  obtain ⟨c, hty, hs⟩ := h.typ
  have hG : W'.heap[g]? = W.heap[g]? := hg.block g (lt_blk hty) (fun e => h.ne hx e.symm)
  have hcell : ∀ i, W'.cell? ⟨g, i, none⟩ = W.cell? ⟨g, i, none⟩ := fun i => by unfold World.cell?; simp only [hG]
  have hne : ∀ {i : Nat} {y : An} {b : Nat}, l[i]? = some y → i ≠ k → y.2.ownBlock = some b → x.2.ownBlock ≠ some b := fun {i y b} hy hik hb e => by
    have l1 := List.getElem?_eq_some_iff.1 hy
    have l2 := List.getElem?_eq_some_iff.1 hx
    have hp := List.pairwise_iff_getElem.1 hap
    rcases Nat.lt_or_gt_of_ne hik with h4 | h4
    · exact hp i k l1.1 l2.1 h4 b (by rw [l1.2]; exact hb) (by rw [l2.2]; exact e)
    · exact hp k i l2.1 l1.1 h4 b (by rw [l2.2]; exact e) (by rw [l1.2]; exact hb)
  have kr : ∀ {i : Nat} {y : An} {zs : List Int}, l[i]? = some y → i ≠ k → Rz W y.2 zs → Rz W' y.2 zs := fun hy hik hz => hz.keep (fun g' c' hg' hc' => hg.block g' (lt_blk hc') (fun e => hne hy hik hg' e.symm))
  refine ⟨⟨c, hG.trans hty, hs⟩, fun i y hy => (hcell _).trans (h.cel i y hy), fun i y hy hik => ?_, fun i y hy => ?_, h.bt.grown hg (fun b e => .inl (.inr ⟨x, List.mem_of_getElem? hx, e⟩))⟩
  · by_cases e : i = k
    · subst e
      rw [hx] at hy
      cases hy
      exact ⟨(hcell _).trans hc, hr⟩
    · obtain ⟨h1, h2⟩ := h.don i y hy (by omega)
      exact ⟨(hcell _).trans h1, kr hy e h2⟩
  · by_cases e : i = k
    · subst e
      rw [hx] at hy
      cases hy
      exact ⟨_, rampBy_len _ _, hr⟩
    · obtain ⟨zs, h1, h2⟩ := h.rst i y hy
      exact ⟨zs, h1, kr hy e h2⟩
theorem wpList_markA {ops : Array Oper} {rest : List Oper} {op : Oper} {a : Act} {w : World} {Q : Exit → Act → World → Prop} {w0 : World} {g k0 : Nat} {l : List An} (hgd : op.guard = none) (ty : TypeId) (x y : Operand) (ho : op.op = .store ty x y)
    (k : Nat) {n : Int} (hC : Mk w0 g l k0 k w) (hi : k < l.length) (hx : a.eval x = .pointer (some ⟨g, k * 2, none⟩)) (hy : a.eval y = .int .i64 n) (hs : (Try.prog.info? ty).map (·.size) = some 1)
    (h : ∀ w', Hid (Mk w0 g l k0 k w' ∧ w'.cell? ⟨g, k * 2, none⟩ = some (.int .i64 n)) → wpList Try.prog ops Q rest (a.put op.dst undef) w') : wpList Try.prog ops Q (op :: rest) a w := by
  obtain ⟨c, hc, hsz⟩ := hC.typ
  obtain ⟨v0, hv0⟩ : ∃ v0, w.cell? ⟨g, k * 2, none⟩ = some v0 := by
    simp only [World.cell?, hc]
    exact ⟨_, Array.getElem?_eq_getElem (by omega)⟩
  have hf : w.frozen? ⟨g, k * 2, none⟩ = false := by simp [World.frozen?, hc]
  refine wpList_plain hgd fun _ hK => ?_
  unfold Oper.wp execOp
  simp only [ho, hx, hy, Instr.storeAt, Instr.sureAddr, Sem.run_bind, Sem.run_pure, Result.andThen_ok, run_storeVar1 w g (k * 2) ty .i64 n hv0 hf hs]
  obtain ⟨m1, m2⟩ := hC.code (.int .i64 n)
  exact hK _ _ (h _ ⟨m1, m2 hi⟩)

set_option maxHeartbeats 2000000 in
theorem markAs (g n cap k0 : Nat) (l : List An) (w : World) (h : Mk w g l k0 0 w) (hap : l.Pairwise fun x y => ∀ g, x.2.ownBlock = some g → y.2.ownBlock ≠ some g) (hl : l.length = n) (hb : n + totA l ≤ 10000000) (h0 : k0 ≤ 1000) (hd : ∀ x ∈ l, x.1.2.length ≤ 1048576) :
    Calls Try.prog 32 #[.slice (some ⟨g, 0, none⟩) n cap, .int .i64 k0] w fun e w' => e = .returned (.int .i64 (mkA k0 l n : Nat)) ∧ Mk w g l k0 n w' := by
  have C0 := hid h
  have HA := hid hap
  have HL := hid hl
  have HD := hid hd
  clear h hap hl hd
  go_enter Try.func32, Try.ntmps32
  go_wp2
  go_loopw [1, 5] (fun b i wr => ∃ k q : Nat, k ≤ n ∧ i = .int .i64 k ∧ b = .int .i64 q ∧ q = mkA k0 l k ∧ Hid (Mk w g l k0 k wr)) (fun _ i _ => n - (intOf i).toNat)
  case atStart => exact ⟨0, k0, Nat.zero_le _, rfl, rfl, by simp [mkA, totA], C0⟩
  case round =>
    obtain ⟨k, q, hk, rfl, rfl, hq, HC⟩ := hrel
    clear C0
    by_cases hlt : k < n
    · obtain ⟨x, hx⟩ : ∃ x, l[k]? = some x := ⟨_, List.getElem?_eq_getElem (by have := HL.out; omega)⟩
      have hqb : q ≤ 100000000 := by have := totA_le l k; unfold mkA at hq; omega
      have hkl : k < l.length := by have := HL.out; omega
      have HT := hid (totA_take hx)
      have HX := hid hx
      have HQ := hid hq
      have HK := hid hkl
      obtain ⟨zs, hz, hr⟩ := HC.out.rst k x hx
      obtain ⟨xa, xc, hxs⟩ := hr.slice
      rw [hz] at hxs
      have XS := hid hxs
      clear hx hq hkl hr hxs
      go_wp2_with (first | (refine wpList_markA rfl 3 _ _ rfl k HC.out HK.out rfl rfl (by kernel_rfl) ?_; clear HC; intro wr' HC; have c5 := HC.out.1.cel k x HX.out; rw [XS.out] at c5))
      rw [show (q : Int) + 1 = ((q + 1 : Nat) : Int) by omega, ← XS.out]
      clear c5
      obtain ⟨zs', hz', hr'⟩ := HC.out.1.rst k x HX.out
      have HM := hid (markRz x.2 zs' (q + 1) wr' hr' (by rw [hz']; exact HD.out x (List.mem_of_getElem? HX.out)) (by omega))
      rw [hz'] at HM
      clear hr' hz' hz
      refine (HM.out).mono ?_
      rintro e w1 ⟨rfl, r1, g1⟩
      have C1 := hid (HC.out.1.data HA.out HX.out (by rw [← HQ.out]; exact HC.out.2) (by rw [← HQ.out]; exact r1) g1)
      clear r1 g1 HM HC
      go_wp2
      go_roundw
      case rel => exact ⟨k + 1, q + 1 + x.1.2.length, by omega, by go_num, rfl, by have := HQ.out; have := HT.out; unfold mkA at *; omega, C1⟩
      case measure => simp [intOf]; omega
    · have hkn : k = n := by omega
      subst hkn
      subst hq
      go_wp2
      go_ret
      exact ⟨rfl, HC.out⟩
end Go.Proofs.Ytamfbplchblkbaa
