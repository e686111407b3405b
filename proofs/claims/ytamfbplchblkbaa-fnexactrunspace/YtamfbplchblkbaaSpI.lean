import Derived.Test.YtamfbplchblkbaaSpH
namespace Go.Proofs.Ytamfbplchblkbaa
open Go.RowKit Go.Shelf
set_option linter.unusedVariables false

/-- a byte is put -/
def putM (m : Nat → Option (Bool × List Int)) (p : Nat) (x : Int) : Nat → Option (Bool × List Int) := updM m (p / 1024) ((m (p / 1024)).map fun q => (q.1, q.2.set (p % 1024) x))
/-- the first k of the bytes are stored from a on -/
def storeM (m : Nat → Option (Bool × List Int)) (a : Nat) (ys : List Int) : Nat → (Nat → Option (Bool × List Int))
  | 0 => m
  | k + 1 => putM (storeM m a ys k) (a + k) (ys[k]?.getD 0)
theorem putM_open (m : Nat → Option (Bool × List Int)) (p : Nat) (x : Int) (j : Nat) : isOpen (putM m p x j) = isOpen (m j) := by
  unfold putM
  by_cases e : j = p / 1024
  · subst e
    rw [updM_same]
    cases m (p / 1024) with
    | none => rfl
    | some q => rfl
  · rw [updM_other _ _ _ _ e]
theorem storeM_open (m : Nat → Option (Bool × List Int)) (a : Nat) (ys : List Int) : ∀ k j, isOpen (storeM m a ys k j) = isOpen (m j)
  | 0, j => rfl
  | k + 1, j => by simp only [storeM]; rw [putM_open]; exact storeM_open m a ys k j

/-- a slice of bytes that a store reads: it lies apart from the space -/
structure Dt (Q : Nat) (w : World) (d : Option Addr) (len : Nat) (ys : List Int) : Prop where
  hlen : ys.length = len
  cell : ∀ i, i < len → ∃ x, d = some x ∧ w.cell? (x.add i) = some (.int .u8 (ys[i]?.getD 0)) ∧ (x.add i).block < w.heap.size ∧ (x.add i).block ≠ Q ∧ ¬ IsPg Q w (x.add i).block
theorem Dt.keep {Q : Nat} {w w' : World} {d : Option Addr} {len : Nat} {ys : List Int} (h : Dt Q w d len ys) (hf : Sf Q w w') : Dt Q w' d len ys := by
  refine ⟨h.hlen, fun i hi => ?_⟩
  obtain ⟨x, hx, hc, h1, h2, h3⟩ := h.cell i hi
  refine ⟨x, hx, ?_, Nat.lt_of_lt_of_le h1 hf.size, h2, fun h4 => ?_⟩
  · unfold World.cell? at hc ⊢
    rw [hf.block _ h1 h2 h3]
    exact hc
  · rcases hf.pg _ h4 with h5 | h5
    · exact h3 h5
    · omega
theorem Sf.ofPut {T Q n : Nat} {bud : Int} {m : Nat → Option (Bool × List Int)} {w w' : World} (hs : Sx T Q n bud m w) {g k : Nat} {c : Array Value} (hg : w.heap[g]? = some (.cells c 5 (0, 0))) (hk : w.cell? ⟨Q, k * 3 + 2, none⟩ = some (.slice (some ⟨g, 0, none⟩) 1024 1024)) (h : w.grownBy w' (some g)) : Sf Q w w' := by
  obtain ⟨c2, h1, _⟩ := hs.row
  have hne : Q ≠ g := by
    intro e
    subst e
    rw [h1] at hg
    simp at hg
  have hQ : w'.heap[Q]? = w.heap[Q]? := h.block Q (lt_blk h1) (by simpa using hne)
  refine ⟨h.os, h.tape, h.output, h.size, fun x hx _ hp => h.block x hx (fun e => hp ⟨k, by rw [hk]; simp at e; rw [e]⟩), fun x ⟨j, hj⟩ => .inl ⟨j, ?_⟩⟩
  unfold World.cell? at hj ⊢
  rw [hQ] at hj
  exact hj

/-- the answer of a store under way -/
structure Sa (w : World) (Q Rb A : Nat) (W : World) : Prop where
  at_ : W.heap[A]? = some (.cells #[.int .i64 0, .slice none 0 0] 36 (0, 0))
  res : W.heap[Rb]? = some (.cells #[.int .i64 0, .slice none 0 0] 36 (0, 0))
  fr : Sf Q w W
  hA : A = w.heap.size + 1
  hR : Rb = w.heap.size
theorem Sa.next {T Q n : Nat} {bud : Int} {m : Nat → Option (Bool × List Int)} {w W W' : World} {Rb A : Nat} (h : Sa w Q Rb A W) (hs : Sx T Q n bud m W) {g k : Nat} {c : Array Value} (hg : W.heap[g]? = some (.cells c 5 (0, 0))) (hk : W.cell? ⟨Q, k * 3 + 2, none⟩ = some (.slice (some ⟨g, 0, none⟩) 1024 1024)) (hw : W.grownBy W' (some g)) : Sa w Q Rb A W' := by
  have nA : A ≠ g := by intro e; subst e; rw [h.at_] at hg; simp at hg
  have nR : Rb ≠ g := by intro e; subst e; rw [h.res] at hg; simp at hg
  exact ⟨(hw.block A (lt_blk h.at_) (by simpa using nA)).trans h.at_, (hw.block Rb (lt_blk h.res) (by simpa using nR)).trans h.res, h.fr.trans (Sf.ofPut hs hg hk hw), h.hA, h.hR⟩

/-- a block of another kind is turned -/
theorem Sx.other {T Q n : Nat} {bud : Int} {m : Nat → Option (Bool × List Int)} {W W' : World} (h : Sx T Q n bud m W) {r : Nat} (hg : W.grownBy W' (some r)) (ht : ∀ c t f, W.heap[r]? = some (.cells c t f) → t ≠ 89 ∧ t ≠ 92 ∧ t ≠ 5) : Sx T Q n bud m W' := by
  have keep : ∀ (g : Nat) (c : Array Value) (t : TypeId) (f : Nat × Nat), W.heap[g]? = some (.cells c t f) → (t = 89 ∨ t = 92 ∨ t = 5) → W'.heap[g]? = W.heap[g]? := by
    intro g c t f hgc h3
    refine hg.block g (lt_blk hgc) ?_
    intro e
    simp at e
    subst e
    obtain ⟨a1, a2, a3⟩ := ht c t f hgc
    rcases h3 with e | e | e
    · exact a1 e
    · exact a2 e
    · exact a3 e
  obtain ⟨c, h1, h2, h3, hinj⟩ := h.row
  refine ⟨(keep _ _ _ _ h.box (.inl rfl)).trans h.box, ⟨c, (keep _ _ _ _ h1 (.inr (.inl rfl))).trans h1, h2, fun k hk => ?_, hinj⟩, h.out⟩
  have h4 := h3 k hk
  cases hm : m k with
  | none => rw [hm] at h4; exact h4
  | some q =>
    obtain ⟨l, xs⟩ := q
    rw [hm] at h4
    obtain ⟨a1, a2, a4, g, a3, a5⟩ := h4
    exact ⟨a1, a2, a4, g, a3, (keep _ _ _ _ a5 (.inr (.inr rfl))).trans a5⟩
theorem Sf.newBlock {Q : Nat} {w W : World} (h : Sf Q w W) {r : Nat} (hr : w.heap.size ≤ r) (hrQ : r ≠ Q) (cs : Array Value) : Sf Q w (W.setRow r cs) := by
  have hg := grown_setRow W r cs
  refine ⟨hg.os.trans h.os, hg.tape.trans h.tape, hg.output.trans h.output, Nat.le_trans h.size hg.size, fun g h1 h2 h3 => ?_, fun g ⟨j, hj⟩ => h.pg g ⟨j, ?_⟩⟩
  · have e : r ≠ g := by omega
    have : (W.setRow r cs).heap[g]? = W.heap[g]? := by simp [World.setRow, Array.getElem?_modify, e]
    rw [this]
    exact h.block g h1 h2 h3
  · have : (W.setRow r cs).heap[Q]? = W.heap[Q]? := by simp [World.setRow, Array.getElem?_modify, hrQ]
    unfold World.cell? at hj ⊢
    rw [this] at hj
    exact hj
theorem Sa.done {w W : World} {Q Rb A : Nat} (h : Sa w Q Rb A W) (hQ : Q < w.heap.size) (cs : Array Value) : Sf Q w (W.setRow Rb cs) :=
  h.fr.newBlock (by have := h.hR; omega) (by have := h.hR; omega) cs

set_option maxHeartbeats 1000000 in
theorem sp_store_yes (T Q nn : Nat) (bud : Int) (m : Nat → Option (Bool × List Int)) (a n cap : Nat) (d : Option Addr) (ys : List Int) (w : World) (hs : Sx T Q nn bud m w) (hd : Dt Q w d n ys) (hnn : nn ≤ 4096) (h2 : n ≤ 4096) (ha : a + n < 18446744073709551616) (ho : ∀ i, i < n → isOpen (m ((a + i) / 1024)) = true) (hacc : ∀ W, Below w.heap.size w W → Calls Try.prog 61 #[.pointer (some ⟨T, 0, none⟩), .int .u64 a, .int .i64 n] W fun e w' => e = .returned (.int .i64 0) ∧ w' = W) :
    Calls Try.prog 45 #[.pointer (some ⟨T, 0, none⟩), .int .u64 a, .slice d n cap] w fun e w' => e = .returned (.agg #[.int .i64 0, .slice none 0 0]) ∧ Sx T Q nn bud (storeM m a ys n) w' ∧ Sf Q w w' := by
  have H1 := hid hacc
  have HS := hid hs
  have HO := hid ho
  have HD := hid hd
  clear hacc hs ho hd
  go_enter Try.func45, Try.ntmps45
  go_wp2_with fail
  refine (H1.out _ ((Below.refl _ _).alloc (Nat.le_refl _) _)).mono ?_
  rintro _ w1 ⟨rfl, rfl⟩
  have hb0 : Below w.heap.size w ((w.alloc (.cells #[.int .i64 0, .slice none 0 0] 36)).alloc (.cells #[.int .i64 0, .slice none 0 0] 36)) := ((Below.refl _ _).alloc (Nat.le_refl _) _).alloc (by rw [al_size]; omega) _
  have L0 : Hid (Sa w Q w.heap.size (w.heap.size + 1) ((w.alloc (.cells #[.int .i64 0, .slice none 0 0] 36)).alloc (.cells #[.int .i64 0, .slice none 0 0] 36))) :=
    ⟨by rw [← al_size w]; exact al_last _ _, by rw [al_old _ _ _ (by rw [al_size]; omega)]; exact al_last _ _, Sf.ofBelow hb0 HS.out.ltQ, rfl, rfl⟩
  have S0 := hid (HS.out.below hb0)
  have HQ := hid HS.out.ltQ
  clear hb0
  go_wp2
  generalize (w.alloc (Obj.cells #[Value.int IntKind.i64 0, Value.slice none 0 0] 36)).alloc (Obj.cells #[Value.int IntKind.i64 0, Value.slice none 0 0] 36) = W0 at L0 S0 ⊢
  generalize hAe : w.heap.size + 1 = A at L0 ⊢
  generalize hRe : w.heap.size = Rb at L0 ⊢
  go_loopw [8] (fun i wr => ∃ k : Nat, k ≤ n ∧ i = .int .i64 k ∧ Hid (Sa w Q Rb A wr ∧ Sx T Q nn bud (storeM m a ys k) wr)) (fun i _ => n - (intOf i).toNat)
  case atStart => exact ⟨0, Nat.zero_le _, rfl, L0.out, S0.out⟩
  case round =>
    obtain ⟨k, hk, rfl, HL⟩ := hrel
    have cA0 : wr.cell? ⟨A, 0, none⟩ = some (.int .i64 0) := by simp [World.cell?, HL.out.1.at_]
    by_cases hlt : k < n
    · obtain ⟨x, rfl, hx, _⟩ := (HD.out.keep HL.out.1.fr).cell k hlt
      have hop : isOpen (storeM m a ys k ((a + k) / 1024)) = true := by rw [storeM_open]; exact HO.out k hlt
      cases hm : storeM m a ys k ((a + k) / 1024) with
      | none => rw [hm] at hop; cases hop
      | some q =>
        obtain ⟨l, xs⟩ := q
        have HP := hid (put_any T Q nn bud (storeM m a ys k) (a + k) (ys[k]?.getD 0) wr HL.out.2 hnn (by omega) hm)
        have HE := hid (show storeM m a ys (k + 1) = updM (storeM m a ys k) ((a + k) / 1024) (some (l, xs.set ((a + k) % 1024) (ys[k]?.getD 0))) by simp only [storeM, putM, hm]; rfl)
        have m1 : IntKind.u64.wrap (k : Int) = (k : Int) := by rw [IntKind.wrap_u64]; omega
        have EC := hid (show (a : Int) + (k : Int) = ((a + k : Nat) : Int) by omega)
        clear hm hop
        generalize ys[k]?.getD 0 = y at *
        go_wp2_with fail
        rw [EC.out]
        refine (HP.out).mono ?_
        rintro e w2 ⟨rfl, hs2, g, c, hg, hkk, hgr⟩
        have HN := hid (And.intro (HL.out.1.next HL.out.2 hg hkk hgr) hs2)
        clear hs2 hg hkk hgr HL hx cA0
        go_wp2
        go_roundw
        case rel => exact ⟨k + 1, by omega, by go_num, HN.out.1, by rw [HE.out]; exact HN.out.2⟩
        case measure => simp [intOf]; omega
    · have hkn : k = n := by omega
      subst hkn
      clear L0 S0
      go_wp2_with (first | (refine wpList_load_row rfl 36 _ rfl _ rfl _ _ _ _ HL.out.1.at_ Try.underlying36 rfl (by kernel_rfl) ?_) | (refine wpList_store_row rfl 36 _ _ rfl _ _ rfl rfl 36 _ HL.out.1.res (by kernel_rfl) rfl (by simp [Value.oneCell']) ?_))
      refine bodyPost_ret (results_cell_row (by rfl) _ _ Rb 36 _ (0, 0) _ (by rfl) (setRow_at HL.out.1.res _) Try.underlying36 rfl (by kernel_rfl)) (by rfl) ?_
      exact ⟨rfl, HL.out.2.other (grown_setRow wr Rb _) (fun c t f e => by rw [HL.out.1.res] at e; cases e; exact ⟨by decide, by decide, by decide⟩), HL.out.1.done HQ.out _⟩
end Go.Proofs.Ytamfbplchblkbaa
