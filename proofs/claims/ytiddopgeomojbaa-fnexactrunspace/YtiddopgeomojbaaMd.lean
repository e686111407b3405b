import Derived.Test.YtiddopgeomojbaaMc
import Derived.Deep.QuietTactic
import Derived.BigQuiet
namespace Go.Proofs.Ytiddopgeomojbaa
open Go.RowKit Go.Shelf
set_option linter.unusedVariables false

/-- a byte is put -/
def putM (m : Nat → Option (Bool × List Int)) (p : Nat) (x : Int) : Nat → Option (Bool × List Int) := updM m (p / 1024) ((m (p / 1024)).map fun q => (q.1, q.2.set (p % 1024) x))
/-- the first k of the bytes are stored from a on -/
def storeM (m : Nat → Option (Bool × List Int)) (a : Nat) (ys : List Int) : Nat → (Nat → Option (Bool × List Int))
  | 0 => m
  | k + 1 => putM (storeM m a ys k) (a + k) (ys[k]?.getD 0)
theorem putM_open (m : Nat → Option (Bool × List Int)) (p : Nat) (x : Int) (j : Nat) : isOpen (putM m p x j) = isOpen (m j) := by
  unfold putM
  by_cases e : j = p / 1024
  · subst e
    rw [updM_same]
    cases m (p / 1024) with
    | none => rfl
    | some q => rfl
  · rw [updM_other _ _ _ _ e]
theorem storeM_open (m : Nat → Option (Bool × List Int)) (a : Nat) (ys : List Int) : ∀ k j, isOpen (storeM m a ys k j) = isOpen (m j)
  | 0, j => rfl
  | k + 1, j => by simp only [storeM]; rw [putM_open]; exact storeM_open m a ys k j

/-- a slice of bytes that a store reads: it lies apart from the space -/
structure Dt (Q : Nat) (w : World) (d : Option Addr) (len : Nat) (ys : List Int) : Prop where
  hlen : ys.length = len
  cell : ∀ i, i < len → ∃ x, d = some x ∧ w.cell? (x.add i) = some (.int .u8 (ys[i]?.getD 0)) ∧ (x.add i).block < w.heap.size ∧ (x.add i).block ≠ Q ∧ ¬ IsPg Q w (x.add i).block
theorem Dt.keep {Q : Nat} {w w' : World} {d : Option Addr} {len : Nat} {ys : List Int} (h : Dt Q w d len ys) (hf : Sf Q w w') : Dt Q w' d len ys := by
  refine ⟨h.hlen, fun i hi => ?_⟩
  obtain ⟨x, hx, hc, h1, h2, h3⟩ := h.cell i hi
  refine ⟨x, hx, ?_, Nat.lt_of_lt_of_le h1 hf.size, h2, fun h4 => ?_⟩
  · unfold World.cell? at hc ⊢
    rw [hf.block _ h1 h2 h3]
    exact hc
  · rcases hf.pg _ h4 with h5 | h5
    · exact h3 h5
    · omega
theorem Sf.ofPut {T Q n : Nat} {bud : Int} {m : Nat → Option (Bool × List Int)} {w w' : World} (hs : Sx T Q n bud m w) {g k : Nat} {c : Array Value} (hg : w.heap[g]? = some (.cells c 5 (0, 0))) (hk : w.cell? ⟨Q, k * 3 + 2, none⟩ = some (.slice (some ⟨g, 0, none⟩) 1024 1024)) (h : w.grownBy w' (some g)) : Sf Q w w' := by
  obtain ⟨c2, h1, _⟩ := hs.row
  have hne : Q ≠ g := by
    intro e
    subst e
    rw [h1] at hg
    simp at hg
  have hQ : w'.heap[Q]? = w.heap[Q]? := h.block Q (lt_blk h1) (by simpa using hne)
  refine ⟨h.os, h.tape, h.output, h.size, fun x hx _ hp => h.block x hx (fun e => hp ⟨k, by rw [hk]; simp at e; rw [e]⟩), fun x ⟨j, hj⟩ => .inl ⟨j, ?_⟩⟩
  unfold World.cell? at hj ⊢
  rw [hQ] at hj
  exact hj

/-- the answer of a store under way -/
structure Sa (w : World) (Q Rb A : Nat) (W : World) : Prop where
  at_ : W.heap[A]? = some (.cells #[.int .i64 0, .slice none 0 0] 36 (0, 0))
  res : W.heap[Rb]? = some (.cells #[.int .i64 0, .slice none 0 0] 36 (0, 0))
  fr : Sf Q w W
  hA : A = w.heap.size + 1
  hR : Rb = w.heap.size
theorem Sa.next {T Q n : Nat} {bud : Int} {m : Nat → Option (Bool × List Int)} {w W W' : World} {Rb A : Nat} (h : Sa w Q Rb A W) (hs : Sx T Q n bud m W) {g k : Nat} {c : Array Value} (hg : W.heap[g]? = some (.cells c 5 (0, 0))) (hk : W.cell? ⟨Q, k * 3 + 2, none⟩ = some (.slice (some ⟨g, 0, none⟩) 1024 1024)) (hw : W.grownBy W' (some g)) : Sa w Q Rb A W' := by
  have nA : A ≠ g := by intro e; subst e; rw [h.at_] at hg; simp at hg
  have nR : Rb ≠ g := by intro e; subst e; rw [h.res] at hg; simp at hg
  exact ⟨(hw.block A (lt_blk h.at_) (by simpa using nA)).trans h.at_, (hw.block Rb (lt_blk h.res) (by simpa using nR)).trans h.res, h.fr.trans (Sf.ofPut hs hg hk hw), h.hA, h.hR⟩

/-- a block of another kind is turned -/
theorem Sx.other {T Q n : Nat} {bud : Int} {m : Nat → Option (Bool × List Int)} {W W' : World} (h : Sx T Q n bud m W) {r : Nat} (hg : W.grownBy W' (some r)) (ht : ∀ c t f, W.heap[r]? = some (.cells c t f) → t ≠ 89 ∧ t ≠ 92 ∧ t ≠ 5) : Sx T Q n bud m W' := by
  have keep : ∀ (g : Nat) (c : Array Value) (t : TypeId) (f : Nat × Nat), W.heap[g]? = some (.cells c t f) → (t = 89 ∨ t = 92 ∨ t = 5) → W'.heap[g]? = W.heap[g]? := by
    intro g c t f hgc h3
    refine hg.block g (lt_blk hgc) ?_
    intro e
    simp at e
    subst e
    obtain ⟨a1, a2, a3⟩ := ht c t f hgc
    rcases h3 with e | e | e
    · exact a1 e
    · exact a2 e
    · exact a3 e
  obtain ⟨c, h1, h2, h3, hinj⟩ := h.row
  refine ⟨(keep _ _ _ _ h.box (.inl rfl)).trans h.box, ⟨c, (keep _ _ _ _ h1 (.inr (.inl rfl))).trans h1, h2, fun k hk => ?_, hinj⟩, h.out⟩
  have h4 := h3 k hk
  cases hm : m k with
  | none => rw [hm] at h4; exact h4
  | some q =>
    obtain ⟨l, xs⟩ := q
    rw [hm] at h4
    obtain ⟨a1, a2, a4, g, a3, a5⟩ := h4
    exact ⟨a1, a2, a4, g, a3, (keep _ _ _ _ a5 (.inr (.inr rfl))).trans a5⟩
theorem Sf.newBlock {Q : Nat} {w W : World} (h : Sf Q w W) {r : Nat} (hr : w.heap.size ≤ r) (hrQ : r ≠ Q) (cs : Array Value) : Sf Q w (W.setRow r cs) := by
  have hg := grown_setRow W r cs
  refine ⟨hg.os.trans h.os, hg.tape.trans h.tape, hg.output.trans h.output, Nat.le_trans h.size hg.size, fun g h1 h2 h3 => ?_, fun g ⟨j, hj⟩ => h.pg g ⟨j, ?_⟩⟩
  · have e : r ≠ g := by omega
    have : (W.setRow r cs).heap[g]? = W.heap[g]? := by simp [World.setRow, Array.getElem?_modify, e]
    rw [this]
    exact h.block g h1 h2 h3
  · have : (W.setRow r cs).heap[Q]? = W.heap[Q]? := by simp [World.setRow, Array.getElem?_modify, hrQ]
    unfold World.cell? at hj ⊢
    rw [this] at hj
    exact hj
theorem Sa.done {w W : World} {Q Rb A : Nat} (h : Sa w Q Rb A W) (hQ : Q < w.heap.size) (cs : Array Value) : Sf Q w (W.setRow Rb cs) :=
  h.fr.newBlock (by have := h.hR; omega) (by have := h.hR; omega) cs

set_option maxHeartbeats 1000000 in
theorem sp_store_yes (T Q nn : Nat) (bud : Int) (m : Nat → Option (Bool × List Int)) (a n cap : Nat) (d : Option Addr) (ys : List Int) (w : World) (hs : Sx T Q nn bud m w) (hd : Dt Q w d n ys) (hnn : nn ≤ 4096) (h2 : n ≤ 4096) (ha : a + n < 18446744073709551616) (ho : ∀ i, i < n → isOpen (m ((a + i) / 1024)) = true) (hacc : ∀ W, Below w.heap.size w W → Calls Try.prog 61 #[.pointer (some ⟨T, 0, none⟩), .int .u64 a, .int .i64 n] W fun e w' => e = .returned (.int .i64 0) ∧ w' = W) :
    Calls Try.prog 45 #[.pointer (some ⟨T, 0, none⟩), .int .u64 a, .slice d n cap] w fun e w' => e = .returned (.agg #[.int .i64 0, .slice none 0 0]) ∧ Sx T Q nn bud (storeM m a ys n) w' ∧ Sf Q w w' := by
  have H1 := hid hacc
  have HS := hid hs
  have HO := hid ho
  have HD := hid hd
  clear hacc hs ho hd
  go_enter Try.func45, Try.ntmps45
  go_wp2_with fail
  refine (H1.out _ ((Below.refl _ _).alloc (Nat.le_refl _) _)).mono ?_
  rintro _ w1 ⟨rfl, rfl⟩
  have hb0 : Below w.heap.size w ((w.alloc (.cells #[.int .i64 0, .slice none 0 0] 36)).alloc (.cells #[.int .i64 0, .slice none 0 0] 36)) := ((Below.refl _ _).alloc (Nat.le_refl _) _).alloc (by rw [al_size]; omega) _
  have L0 : Hid (Sa w Q w.heap.size (w.heap.size + 1) ((w.alloc (.cells #[.int .i64 0, .slice none 0 0] 36)).alloc (.cells #[.int .i64 0, .slice none 0 0] 36))) :=
    ⟨by rw [← al_size w]; exact al_last _ _, by rw [al_old _ _ _ (by rw [al_size]; omega)]; exact al_last _ _, Sf.ofBelow hb0 HS.out.ltQ, rfl, rfl⟩
  have S0 := hid (HS.out.below hb0)
  have HQ := hid HS.out.ltQ
  clear hb0
  go_wp2
  generalize (w.alloc (Obj.cells #[Value.int IntKind.i64 0, Value.slice none 0 0] 36)).alloc (Obj.cells #[Value.int IntKind.i64 0, Value.slice none 0 0] 36) = W0 at L0 S0 ⊢
  generalize hAe : w.heap.size + 1 = A at L0 ⊢
  generalize hRe : w.heap.size = Rb at L0 ⊢
  go_loopw [8] (fun i wr => ∃ k : Nat, k ≤ n ∧ i = .int .i64 k ∧ Hid (Sa w Q Rb A wr ∧ Sx T Q nn bud (storeM m a ys k) wr)) (fun i _ => n - (intOf i).toNat)
  case atStart => exact ⟨0, Nat.zero_le _, rfl, L0.out, S0.out⟩
  case round =>
    obtain ⟨k, hk, rfl, HL⟩ := hrel
    have cA0 : wr.cell? ⟨A, 0, none⟩ = some (.int .i64 0) := by simp [World.cell?, HL.out.1.at_]
    by_cases hlt : k < n
    · obtain ⟨x, rfl, hx, _⟩ := (HD.out.keep HL.out.1.fr).cell k hlt
      have hop : isOpen (storeM m a ys k ((a + k) / 1024)) = true := by rw [storeM_open]; exact HO.out k hlt
      cases hm : storeM m a ys k ((a + k) / 1024) with
      | none => rw [hm] at hop; cases hop
      | some q =>
        obtain ⟨l, xs⟩ := q
        have HP := hid (put_any T Q nn bud (storeM m a ys k) (a + k) (ys[k]?.getD 0) wr HL.out.2 hnn (by omega) hm)
        have HE := hid (show storeM m a ys (k + 1) = updM (storeM m a ys k) ((a + k) / 1024) (some (l, xs.set ((a + k) % 1024) (ys[k]?.getD 0))) by simp only [storeM, putM, hm]; rfl)
        have m1 : IntKind.u64.wrap (k : Int) = (k : Int) := by rw [IntKind.wrap_u64]; omega
        have EC := hid (show (a : Int) + (k : Int) = ((a + k : Nat) : Int) by omega)
        clear hm hop
        generalize ys[k]?.getD 0 = y at *
        go_wp2_with fail
        rw [EC.out]
        refine (HP.out).mono ?_
        rintro e w2 ⟨rfl, hs2, g, c, hg, hkk, hgr⟩
        have HN := hid (And.intro (HL.out.1.next HL.out.2 hg hkk hgr) hs2)
        clear hs2 hg hkk hgr HL hx cA0
        go_wp2
        go_roundw
        case rel => exact ⟨k + 1, by omega, by go_num, HN.out.1, by rw [HE.out]; exact HN.out.2⟩
        case measure => simp [intOf]; omega
    · have hkn : k = n := by omega
      subst hkn
      clear L0 S0
      go_wp2_with (first | (refine wpList_load_row rfl 36 _ rfl _ rfl _ _ _ _ HL.out.1.at_ Try.underlying36 rfl (by kernel_rfl) ?_) | (refine wpList_store_row rfl 36 _ _ rfl _ _ rfl rfl 36 _ HL.out.1.res (by kernel_rfl) rfl (by simp [Value.oneCell']) ?_))
      refine bodyPost_ret (results_cell_row (by rfl) _ _ Rb 36 _ (0, 0) _ (by rfl) (setRow_at HL.out.1.res _) Try.underlying36 rfl (by kernel_rfl)) (by rfl) ?_
      exact ⟨rfl, HL.out.2.other (grown_setRow wr Rb _) (fun c t f e => by rw [HL.out.1.res] at e; cases e; exact ⟨by decide, by decide, by decide⟩), HL.out.1.done HQ.out _⟩
end Go.Proofs.Ytiddopgeomojbaa

namespace Go.Proofs.Ytiddopgeomojbaa
open Go.RowKit Go.Shelf
set_option linter.unusedVariables false

/-- the code of an access, by the document -/
def accC (m : Nat → Option (Bool × List Int)) (a : Nat) (n : Int) : Int :=
  if n < 0 ∨ 4096 < n then 6 else if n = 0 then 0 else if 4611686018427387904 ≤ (a : Int) + (n - 1) then 2 else accCode (reachN m a n.toNat)

theorem sp_access (T Q nn : Nat) (bud : Int) (m : Nat → Option (Bool × List Int)) (a : Nat) (n : Int) (w : World) (hs : Sx T Q nn bud m w) (hnn : nn ≤ 4096) (ha : a < 18446744073709551616) :
    Calls Try.prog 61 #[.pointer (some ⟨T, 0, none⟩), .int .u64 a, .int .i64 n] w fun e w' => e = .returned (.int .i64 (accC m a n)) ∧ w' = w := by
  unfold accC
  by_cases h1 : n < 0 ∨ 4096 < n
  · rw [if_pos h1]; exact sp_access_range T a n w h1
  · rw [if_neg h1]
    by_cases h2 : n = 0
    · rw [if_pos h2]; subst h2; exact sp_access_zero T a w
    · rw [if_neg h2]
      by_cases h3 : 4611686018427387904 ≤ (a : Int) + (n - 1)
      · rw [if_pos h3]; exact sp_access_far T a n w (by omega) (by omega) (by omega) (by omega) h3
      · rw [if_neg h3]
        obtain ⟨k, rfl⟩ := Int.eq_ofNat_of_zero_le (show 0 ≤ n by omega)
        exact sp_access_near T Q nn bud m a k w hs hnn (by omega) (by omega) (by omega)

theorem reachN_each {m : Nat → Option (Bool × List Int)} {a : Nat} : ∀ {n : Nat}, reachN m a n = true → ∀ i, i < n → isOpen (m ((a + i) / 1024)) = true
  | 0, _, i, hi => by omega
  | n + 1, h, i, hi => by
    simp only [reachN, Bool.and_eq_true] at h
    by_cases e : i = n
    · subst e; exact h.2
    · exact reachN_each h.1 i (by omega)
theorem accC_ok {m : Nat → Option (Bool × List Int)} {a : Nat} {n : Int} (h : accC m a n = 0) : 0 ≤ n ∧ n ≤ 4096 ∧ (n = 0 ∨ (a : Int) + n ≤ 4611686018427387904) ∧ ∀ i, i < n.toNat → isOpen (m ((a + i) / 1024)) = true := by
  unfold accC at h
  split at h
  · omega
  · split at h
    · rename_i h1 h2; subst h2; exact ⟨by omega, by omega, .inl rfl, fun i hi => by simp at hi⟩
    · split at h
      · omega
      · rename_i h1 h2 h3
        refine ⟨by omega, by omega, .inr (by omega), reachN_each ?_⟩
        unfold accCode at h
        split at h
        · assumption
        · omega

set_option maxHeartbeats 400000 in
theorem sp_load_code (T : Nat) (a n c : Int) (w : World) (hc : (c == 0) = false) (h : ∀ W, Below w.heap.size w W → Calls Try.prog 61 #[.pointer (some ⟨T, 0, none⟩), .int .u64 a, .int .i64 n] W fun e w' => e = .returned (.int .i64 c) ∧ w' = W) :
    Calls Try.prog 44 #[.pointer (some ⟨T, 0, none⟩), .int .u64 a, .int .i64 n] w fun e w' => e = .returned (.agg #[.int .i64 c, .slice none 0 0]) ∧ Below w.heap.size w w' := by
  have H1 := hid h
  clear h
  by_cases hn : 0 < n
  all_goals
    go_enter Try.func44, Try.ntmps44
    go_wp2_with fail
    refine (H1.out _ ((Below.refl _ _).alloc (Nat.le_refl _) _)).mono ?_
    rintro _ w1 ⟨rfl, rfl⟩
    go_wp2_with fail
    refine wp_loop_rounds 1 ?_
    rw [rounds_succ]
    go_wp2
    exact bodyPost_ret (v := .agg #[.int .i64 c, .slice none 0 0]) (by simp [results, Try.results44, go_sem]) rfl ⟨rfl, ((Below.refl _ w).alloc (Nat.le_refl _) _).alloc (by simp) _⟩

set_option maxHeartbeats 400000 in
theorem sp_store_code (T : Nat) (a c : Int) (d : Option Addr) (len cap : Nat) (w : World) (hc : (c == 0) = false) (h : ∀ W, Below w.heap.size w W → Calls Try.prog 61 #[.pointer (some ⟨T, 0, none⟩), .int .u64 a, .int .i64 len] W fun e w' => e = .returned (.int .i64 c) ∧ w' = W) :
    Calls Try.prog 45 #[.pointer (some ⟨T, 0, none⟩), .int .u64 a, .slice d len cap] w fun e w' => e = .returned (.agg #[.int .i64 c, .slice none 0 0]) ∧ Below w.heap.size w w' := by
  have H1 := hid h
  clear h
  by_cases hn : 0 < len
  all_goals
    go_enter Try.func45, Try.ntmps45
    go_wp2_with fail
    refine (H1.out _ ((Below.refl _ _).alloc (Nat.le_refl _) _)).mono ?_
    rintro _ w1 ⟨rfl, rfl⟩
    go_wp2_with fail
    refine wp_loop_rounds 1 ?_
    rw [rounds_succ]
    go_wp2
    exact bodyPost_ret (v := .agg #[.int .i64 c, .slice none 0 0]) (by simp [results, Try.results45, go_sem]) rfl ⟨rfl, ((Below.refl _ w).alloc (Nat.le_refl _) _).alloc (by simp) _⟩

/-- a load, whole -/
theorem sp_load (T Q nn : Nat) (bud : Int) (m : Nat → Option (Bool × List Int)) (a : Nat) (n : Int) (w : World) (hs : Sx T Q nn bud m w) (hnn : nn ≤ 4096) (ha : a < 18446744073709551616) (c : Int) (hc : accC m a n = c) :
    Calls Try.prog 44 #[.pointer (some ⟨T, 0, none⟩), .int .u64 a, .int .i64 n] w fun e w' => ∃ v, e = .returned (.agg #[.int .i64 c, v]) ∧ w'.ownsRow w.heap.size 5 1 v (if c = 0 then n.toNat else 0) (Ns .u8 (if c = 0 then loadB m a n.toNat else [])) ∧ Below w.heap.size w w' := by
  have hacc : ∀ W, Below w.heap.size w W → Calls Try.prog 61 #[.pointer (some ⟨T, 0, none⟩), .int .u64 a, .int .i64 n] W fun e w' => e = .returned (.int .i64 c) ∧ w' = W := fun W hW => by
    have := sp_access T Q nn bud m a n W (hs.below hW) hnn ha
    rw [hc] at this
    exact this
  by_cases h0 : c = 0
  · subst h0
    obtain ⟨h1, h2, h3, h4⟩ := accC_ok hc
    obtain ⟨k, rfl⟩ := Int.eq_ofNat_of_zero_le h1
    simp only [if_true, Int.toNat_natCast] at h4 ⊢
    rcases Nat.eq_zero_or_pos k with hk | hk
    · subst hk
      exact sp_load_yes T Q nn bud m a 0 w hs hnn (by omega) (by omega) (fun i hi => by omega) hacc
    · exact sp_load_yes T Q nn bud m a k w hs hnn (by omega) (by omega) h4 hacc
  · refine (sp_load_code T a n c w (by simp [h0]) hacc).mono ?_
    rintro e w' ⟨rfl, hb⟩
    refine ⟨_, rfl, ?_, hb⟩
    rw [if_neg h0, if_neg h0]
    exact ⟨rfl, .inl ⟨rfl, rfl⟩⟩

/-- a store, whole -/
theorem sp_store (T Q nn : Nat) (bud : Int) (m : Nat → Option (Bool × List Int)) (a len cap : Nat) (d : Option Addr) (ys : List Int) (w : World) (hs : Sx T Q nn bud m w) (hd : Dt Q w d len ys) (hnn : nn ≤ 4096) (ha : a < 18446744073709551616) (c : Int) (hc : accC m a (len : Int) = c) :
    Calls Try.prog 45 #[.pointer (some ⟨T, 0, none⟩), .int .u64 a, .slice d len cap] w fun e w' => e = .returned (.agg #[.int .i64 c, .slice none 0 0]) ∧ Sx T Q nn bud (if c = 0 then storeM m a ys len else m) w' ∧ Sf Q w w' := by
  have hacc : ∀ W, Below w.heap.size w W → Calls Try.prog 61 #[.pointer (some ⟨T, 0, none⟩), .int .u64 a, .int .i64 len] W fun e w' => e = .returned (.int .i64 c) ∧ w' = W := fun W hW => by
    have := sp_access T Q nn bud m a len W (hs.below hW) hnn ha
    rw [hc] at this
    exact this
  by_cases h0 : c = 0
  · subst h0
    obtain ⟨h1, h2, h3, h4⟩ := accC_ok hc
    simp only [if_true, Int.toNat_natCast] at h4 ⊢
    rcases Nat.eq_zero_or_pos len with hk | hk
    · subst hk
      exact sp_store_yes T Q nn bud m a 0 cap d ys w hs hd hnn (by omega) (by omega) (fun i hi => by omega) hacc
    · exact sp_store_yes T Q nn bud m a len cap d ys w hs hd hnn (by omega) (by omega) h4 hacc
  · refine (sp_store_code T a c d len cap w (by simp [h0]) hacc).mono ?_
    rintro e w' ⟨rfl, hb⟩
    rw [if_neg h0]
    exact ⟨rfl, hs.below hb, Sf.ofBelow hb hs.ltQ⟩
end Go.Proofs.Ytiddopgeomojbaa

namespace Go.Proofs.Ytiddopgeomojbaa
open Go.RowKit Go.Shelf
set_option linter.unusedVariables false

/-- an operation as a value -/
def opV (k p c : Int) (a : Nat) (n : Int) (d : Option Addr) (dl dc : Nat) : Value := .agg #[.int .i64 k, .int .i64 p, .int .i64 c, .int .u64 a, .int .i64 n, .slice d dl dc]

/-- a step under way: its operation lies in block O, its answer goes to block Rb -/
structure Dw (w : World) (op : Array Value) (Q O Rb : Nat) (V : World) : Prop where
  o : V.heap[O]? = some (.cells op 34 (0, 0))
  r : V.heap[Rb]? = some (.cells #[.int .i64 0, .slice none 0 0] 36 (0, 0))
  fr : Sf Q w V
  big : w.heap.size + 2 ≤ V.heap.size
  hO : O = w.heap.size
  hR : Rb = w.heap.size + 1
theorem Dw.first (w : World) (op : Array Value) (Q : Nat) (hQ : Q < w.heap.size) : Dw w op Q w.heap.size (w.heap.size + 1) ((w.alloc (.cells op 34)).alloc (.cells #[.int .i64 0, .slice none 0 0] 36)) :=
  ⟨by rw [al_old _ _ _ (by rw [al_size]; omega)]; exact al_last _ _, by rw [← al_size w (.cells op 34)]; exact al_last _ _,
   Sf.ofBelow (((Below.refl _ _).alloc (Nat.le_refl _) _).alloc (by rw [al_size]; omega) _) hQ, by rw [al_size, al_size]; omega, rfl, rfl⟩
theorem Dw.below {w V V' : World} {op : Array Value} {Q O Rb : Nat} (h : Dw w op Q O Rb V) (hQ : Q < V.heap.size) (hb : Below V.heap.size V V') : Dw w op Q O Rb V' :=
  ⟨by rw [hb.block _ (lt_blk h.o)]; exact h.o, by rw [hb.block _ (lt_blk h.r)]; exact h.r, h.fr.trans (Sf.ofBelow hb hQ), Nat.le_trans h.big hb.size, h.hO, h.hR⟩
theorem Dw.done {w V : World} {op : Array Value} {Q O Rb : Nat} (h : Dw w op Q O Rb V) (hQ : Q < w.heap.size) (cs : Array Value) : Sf Q w (V.setRow Rb cs) :=
  h.fr.newBlock (by have := h.hR; omega) (by have := h.hR; omega) cs
theorem Dw.sx {T Q n : Nat} {bud : Int} {m : Nat → Option (Bool × List Int)} {w V : World} {op : Array Value} {O Rb : Nat} (h : Dw w op Q O Rb V) (hs : Sx T Q n bud m V) (cs : Array Value) : Sx T Q n bud m (V.setRow Rb cs) :=
  hs.other (grown_setRow V Rb cs) (fun c t f e => by rw [h.r] at e; cases e; exact ⟨by decide, by decide, by decide⟩)
/-- an operation of the space has gone by -/
theorem Dw.kind {T Q n : Nat} {bud : Int} {m : Nat → Option (Bool × List Int)} {w V V' : World} {op : Array Value} {O Rb : Nat} (h : Dw w op Q O Rb V) (hs : Sx T Q n bud m V) (hf : Sf Q V V') : Dw w op Q O Rb V' := by
  have np : ∀ g c t f, V.heap[g]? = some (Obj.cells c t f) → t ≠ 5 → ¬ IsPg Q V g := by
    rintro g c t f hg ht ⟨k, hk⟩
    obtain ⟨cc, h1, h2, h3, _⟩ := hs.row
    have e0 : cc[k * 3 + 2]? = some (.slice (some ⟨g, 0, none⟩) 1024 1024) := by simpa [World.cell?, h1] using hk
    have hkn : k < n := by
      by_cases hl : k < n
      · exact hl
      · rw [Array.getElem?_eq_none (by omega)] at e0; cases e0
    have h4 := h3 k hkn
    cases hm : m k with
    | none => rw [hm] at h4; rw [h4.2.2] at e0; simp at e0
    | some q =>
      obtain ⟨l, xs⟩ := q
      rw [hm] at h4
      obtain ⟨_, _, _, g', a3, a5⟩ := h4
      rw [a3] at e0
      simp at e0
      subst e0
      rw [hg] at a5
      simp at a5
      exact ht a5.2.1
  have nQ : ∀ g c t f, V.heap[g]? = some (Obj.cells c t f) → t ≠ 92 → g ≠ Q := by
    rintro g c t f hg ht rfl
    obtain ⟨cc, h1, _⟩ := hs.row
    rw [hg] at h1
    simp at h1
    exact ht h1.2.1
  exact ⟨(hf.block O (lt_blk h.o) (nQ _ _ _ _ h.o (by decide)) (np _ _ _ _ h.o (by decide))).trans h.o, (hf.block Rb (lt_blk h.r) (nQ _ _ _ _ h.r (by decide)) (np _ _ _ _ h.r (by decide))).trans h.r, h.fr.trans hf, Nat.le_trans h.big hf.size, h.hO, h.hR⟩
theorem own_one {W : World} {base : Nat} {v : Value} {k : Nat} {xs : List Value} (h : W.ownsRow base 5 1 v k xs) (c : Int) : (#[Value.int IntKind.i64 c, v].all fun x => x.oneCell') = true := by
  rcases h.2 with ⟨rfl, _⟩ | ⟨g, cap, cur, rfl, _⟩ <;> simp [Value.oneCell']

set_option maxHeartbeats 1000000 in
theorem do_load (T Q nn : Nat) (bud : Int) (m : Nat → Option (Bool × List Int)) (p c : Int) (a : Nat) (n : Int) (d : Option Addr) (dl dc : Nat) (w : World) (hs : Sx T Q nn bud m w) (hnn : nn ≤ 4096) (ha : a < 18446744073709551616) (cd : Int) (hc : accC m a n = cd) :
    Calls Try.prog 23 #[.pointer (some ⟨T, 0, none⟩), opV 4 p c a n d dl dc] w fun e w' => ∃ v, e = .returned (.agg #[.int .i64 cd, v]) ∧ w'.ownsRow w.heap.size 5 1 v (if cd = 0 then n.toNat else 0) (Ns .u8 (if cd = 0 then loadB m a n.toNat else [])) ∧ Below w.heap.size w w' := by
  have HL := hid (fun W (hW : Sx T Q nn bud m W) => sp_load T Q nn bud m a n W hW hnn ha cd hc)
  generalize (if cd = 0 then n.toNat else 0) = L at HL ⊢
  generalize (if cd = 0 then loadB m a n.toNat else []) = xs at HL ⊢
  have HS := hid hs
  clear hs hc
  unfold opV
  go_enter Try.func23, Try.ntmps23
  have D0 := hid (Dw.first w #[.int .i64 4, .int .i64 p, .int .i64 c, .int .u64 a, .int .i64 n, .slice d dl dc] Q HS.out.ltQ)
  have hb0 : Below w.heap.size w ((w.alloc (.cells #[.int .i64 4, .int .i64 p, .int .i64 c, .int .u64 a, .int .i64 n, .slice d dl dc] 34)).alloc (.cells #[.int .i64 0, .slice none 0 0] 36)) := ((Below.refl _ _).alloc (Nat.le_refl _) _).alloc (by rw [al_size]; omega) _
  have S0 := hid (HS.out.below hb0)
  have B0 := hid hb0
  clear hb0
  go_wp2_with fail
  generalize (w.alloc (Obj.cells #[Value.int IntKind.i64 4, Value.int IntKind.i64 p, Value.int IntKind.i64 c, Value.int IntKind.u64 a, Value.int IntKind.i64 n, Value.slice d dl dc] 34)).alloc (Obj.cells #[Value.int IntKind.i64 0, Value.slice none 0 0] 36) = V at D0 S0 B0 ⊢
  generalize hOe : w.heap.size + 1 = Rb at D0 ⊢
  refine (HL.out _ S0.out).mono ?_
  rintro e w3 ⟨v, rfl, ho, hb⟩
  have D3 := hid (D0.out.below S0.out.ltQ hb)
  have HO := hid ho
  have B3 := hid (bl_trans B0.out hb)
  have HZ := hid D0.out.big
  clear ho hb D0 S0 B0
  go_wp2_with (refine wpList_store_row rfl 36 _ _ rfl _ _ rfl rfl 36 _ D3.out.r (by kernel_rfl) rfl (own_one HO.out _) ?_)
  refine bodyPost_ret (results_cell_row (by rfl) _ _ Rb 36 _ (0, 0) _ (by rfl) (setRow_at D3.out.r _) Try.underlying36 rfl (by kernel_rfl)) (by rfl) ?_
  have hle : w.heap.size ≤ V.heap.size := by have := HZ.out; omega
  refine ⟨v, rfl, own_mono (HO.out.kept (grown_setRow w3 Rb _) (.inr fun e => ?_)) hle, B3.out.grown (grown_setRow w3 Rb _) B3.out.size (fun r hr => ?_)⟩
  · have := own_base HO.out Rb e
    have := HZ.out
    omega
  · simp at hr
    omega

set_option maxHeartbeats 1000000 in
theorem do_store (T Q nn : Nat) (bud : Int) (m : Nat → Option (Bool × List Int)) (p c : Int) (a : Nat) (n : Int) (d : Option Addr) (dl dc : Nat) (ys : List Int) (w : World) (hs : Sx T Q nn bud m w) (hd : Dt Q w d dl ys) (hnn : nn ≤ 4096) (ha : a < 18446744073709551616) (cd : Int) (hc : accC m a (dl : Int) = cd) :
    Calls Try.prog 23 #[.pointer (some ⟨T, 0, none⟩), opV 5 p c a n d dl dc] w fun e w' => e = .returned (.agg #[.int .i64 cd, .slice none 0 0]) ∧ Sx T Q nn bud (if cd = 0 then storeM m a ys dl else m) w' ∧ Sf Q w w' := by
  have HL := hid (fun W (hW : Sx T Q nn bud m W) (hD : Dt Q W d dl ys) => sp_store T Q nn bud m a dl dc d ys W hW hD hnn ha cd hc)
  generalize (if cd = 0 then storeM m a ys dl else m) = m' at HL ⊢
  have HS := hid hs
  have HD := hid hd
  clear hs hc hd
  unfold opV
  go_enter Try.func23, Try.ntmps23
  have D0 := hid (Dw.first w #[.int .i64 5, .int .i64 p, .int .i64 c, .int .u64 a, .int .i64 n, .slice d dl dc] Q HS.out.ltQ)
  have hb0 : Below w.heap.size w ((w.alloc (.cells #[.int .i64 5, .int .i64 p, .int .i64 c, .int .u64 a, .int .i64 n, .slice d dl dc] 34)).alloc (.cells #[.int .i64 0, .slice none 0 0] 36)) := ((Below.refl _ _).alloc (Nat.le_refl _) _).alloc (by rw [al_size]; omega) _
  have S0 := hid (HS.out.below hb0)
  have HQ := hid HS.out.ltQ
  clear hb0
  go_wp2_with fail
  generalize (w.alloc (Obj.cells #[Value.int IntKind.i64 5, Value.int IntKind.i64 p, Value.int IntKind.i64 c, Value.int IntKind.u64 a, Value.int IntKind.i64 n, Value.slice d dl dc] 34)).alloc (Obj.cells #[Value.int IntKind.i64 0, Value.slice none 0 0] 36) = V at D0 S0 ⊢
  generalize hOe : w.heap.size + 1 = Rb at D0 ⊢
  generalize hOo : w.heap.size = Ob at D0 ⊢
  refine (HL.out _ S0.out (HD.out.keep D0.out.fr)).mono ?_
  rintro e w3 ⟨rfl, hs3, hf3⟩
  have D3 := hid (D0.out.kind S0.out hf3)
  have S3 := hid hs3
  clear hs3 hf3 D0 S0
  go_wp2_with (refine wpList_store_row rfl 36 _ _ rfl _ _ rfl rfl 36 _ D3.out.r (by kernel_rfl) rfl (by simp [Value.oneCell']) ?_)
  refine bodyPost_ret (results_cell_row (by rfl) _ _ Rb 36 _ (0, 0) _ (by rfl) (setRow_at D3.out.r _) Try.underlying36 rfl (by kernel_rfl)) (by rfl) ?_
  exact ⟨rfl, D3.out.sx S3.out _, D3.out.done HQ.out _⟩

set_option maxHeartbeats 1000000 in
theorem do_none (T : Nat) (kd p c : Int) (a : Nat) (n : Int) (d : Option Addr) (dl dc : Nat) (w : World) (hk : kd < 0 ∨ 5 < kd) :
    Calls Try.prog 23 #[.pointer (some ⟨T, 0, none⟩), opV kd p c a n d dl dc] w fun e w' => e = .returned (.agg #[.int .i64 6, .slice none 0 0]) ∧ Below w.heap.size w w' := by
  have e0 : (kd == 0) = false := by simp; omega
  have e1 : (kd == 1) = false := by simp; omega
  have e2 : (kd == 2) = false := by simp; omega
  have e3 : (kd == 3) = false := by simp; omega
  have e4 : (kd == 4) = false := by simp; omega
  have e5 : (kd == 5) = false := by simp; omega
  clear hk
  unfold opV
  go_enter Try.func23, Try.ntmps23
  go_wp2
  exact bodyPost_ret (v := .agg #[.int .i64 6, .slice none 0 0]) (by simp [results, Try.results23, go_sem]) rfl ⟨rfl, by
    have hb : Below w.heap.size w _ := ((Below.refl _ w).alloc (Nat.le_refl _) (.cells #[.int .i64 kd, .int .i64 p, .int .i64 c, .int .u64 a, .int .i64 n, .slice d dl dc] 34)).alloc (by rw [al_size]; omega) (.cells #[.int .i64 6, .slice none 0 0] 36)
    exact hb⟩
end Go.Proofs.Ytiddopgeomojbaa

namespace Go.Proofs.Ytiddopgeomojbaa
open Go.RowKit Go.Shelf
set_option linter.unusedVariables false

theorem drewN_below (V : World) (k : Nat) : Below V.heap.size V (V.drewN k) := ⟨rfl, rfl, rfl, Nat.le_refl _, fun _ _ => rfl⟩

set_option maxHeartbeats 4000000 in
theorem do_range1 (T Q nn : Nat) (bud : Int) (m : Nat → Option (Bool × List Int)) (kd p c : Int) (a : Nat) (n : Int) (d : Option Addr) (dl dc : Nat) (w : World) (hs : Sx T Q nn bud m w) (hnn : nn ≤ 4096) (hk : kd = 0 ∨ kd = 1 ∨ kd = 2 ∨ kd = 3)
    (h1 : c < 1) :
    Calls Try.prog 23 #[.pointer (some ⟨T, 0, none⟩), opV kd p c a n d dl dc] w fun e w' => e = .returned (.agg #[.int .i64 6, .slice none 0 0]) ∧ Below w.heap.size w w' := by
  have HS := hid hs
  clear hs
  unfold opV
  have D0 := hid (Dw.first w #[.int .i64 kd, .int .i64 p, .int .i64 c, .int .u64 a, .int .i64 n, .slice d dl dc] Q HS.out.ltQ)
  have hb0 : Below w.heap.size w ((w.alloc (.cells #[.int .i64 kd, .int .i64 p, .int .i64 c, .int .u64 a, .int .i64 n, .slice d dl dc] 34)).alloc (.cells #[.int .i64 0, .slice none 0 0] 36)) := ((Below.refl _ _).alloc (Nat.le_refl _) _).alloc (by rw [al_size]; omega) _
  have S0 := hid (HS.out.below hb0)
  have B0 := hid hb0
  clear hb0 HS
  rcases hk with rfl | rfl | rfl | rfl
  all_goals
      go_enter Try.func23, Try.ntmps23
      go_wp2
      generalize World.alloc _ _ = V at D0 S0 B0 ⊢
      generalize hOe : w.heap.size + 1 = Rb at D0 ⊢
      generalize hOo : w.heap.size = Ob at D0 ⊢
      have k1 : V.cell? ⟨Ob, 1, none⟩ = some (.int .i64 p) := by simp [World.cell?, D0.out.o]
      have k2 : V.cell? ⟨Ob, 2, none⟩ = some (.int .i64 c) := by simp [World.cell?, D0.out.o]
      have k3 := S0.out.c.1
      go_quiet (fail)
      have D1 := hid (D0.out.below S0.out.ltQ (drewN_below V nq))
      have B1 := hid (bl_trans B0.out (drewN_below V nq))
      clear D0 S0 B0 k1 k2 k3
      generalize V.drewN nq = V1 at D1 B1 ⊢
      go_wp2_with (refine wpList_store_row rfl 36 _ _ rfl _ _ rfl rfl 36 _ D1.out.r (by kernel_rfl) rfl (by simp [Value.oneCell']) ?_)
      refine bodyPost_ret (results_cell_row (by rfl) _ _ Rb 36 _ (0, 0) _ (by rfl) (setRow_at D1.out.r _) Try.underlying36 rfl (by kernel_rfl)) (by rfl) ?_
      exact ⟨rfl, B1.out.grown (grown_setRow V1 Rb _) B1.out.size (fun r hr => by simp at hr; omega)⟩

set_option maxHeartbeats 4000000 in
theorem do_range2 (T Q nn : Nat) (bud : Int) (m : Nat → Option (Bool × List Int)) (kd p c : Int) (a : Nat) (n : Int) (d : Option Addr) (dl dc : Nat) (w : World) (hs : Sx T Q nn bud m w) (hnn : nn ≤ 4096) (hk : kd = 0 ∨ kd = 1 ∨ kd = 2 ∨ kd = 3)
    (h1 : 1 ≤ c) (h2 : p < 0) :
    Calls Try.prog 23 #[.pointer (some ⟨T, 0, none⟩), opV kd p c a n d dl dc] w fun e w' => e = .returned (.agg #[.int .i64 6, .slice none 0 0]) ∧ Below w.heap.size w w' := by
  have HS := hid hs
  clear hs
  unfold opV
  have D0 := hid (Dw.first w #[.int .i64 kd, .int .i64 p, .int .i64 c, .int .u64 a, .int .i64 n, .slice d dl dc] Q HS.out.ltQ)
  have hb0 : Below w.heap.size w ((w.alloc (.cells #[.int .i64 kd, .int .i64 p, .int .i64 c, .int .u64 a, .int .i64 n, .slice d dl dc] 34)).alloc (.cells #[.int .i64 0, .slice none 0 0] 36)) := ((Below.refl _ _).alloc (Nat.le_refl _) _).alloc (by rw [al_size]; omega) _
  have S0 := hid (HS.out.below hb0)
  have B0 := hid hb0
  clear hb0 HS
  have t1 : decide (c < 1) = false := decide_eq_false (by omega)
  rcases hk with rfl | rfl | rfl | rfl
  all_goals
      go_enter Try.func23, Try.ntmps23
      go_wp2
      generalize World.alloc _ _ = V at D0 S0 B0 ⊢
      generalize hOe : w.heap.size + 1 = Rb at D0 ⊢
      generalize hOo : w.heap.size = Ob at D0 ⊢
      have k1 : V.cell? ⟨Ob, 1, none⟩ = some (.int .i64 p) := by simp [World.cell?, D0.out.o]
      have k2 : V.cell? ⟨Ob, 2, none⟩ = some (.int .i64 c) := by simp [World.cell?, D0.out.o]
      have k3 := S0.out.c.1
      go_quiet (fail)
      have D1 := hid (D0.out.below S0.out.ltQ (drewN_below V nq))
      have B1 := hid (bl_trans B0.out (drewN_below V nq))
      clear D0 S0 B0 k1 k2 k3
      generalize V.drewN nq = V1 at D1 B1 ⊢
      go_wp2_with (refine wpList_store_row rfl 36 _ _ rfl _ _ rfl rfl 36 _ D1.out.r (by kernel_rfl) rfl (by simp [Value.oneCell']) ?_)
      refine bodyPost_ret (results_cell_row (by rfl) _ _ Rb 36 _ (0, 0) _ (by rfl) (setRow_at D1.out.r _) Try.underlying36 rfl (by kernel_rfl)) (by rfl) ?_
      exact ⟨rfl, B1.out.grown (grown_setRow V1 Rb _) B1.out.size (fun r hr => by simp at hr; omega)⟩

set_option maxHeartbeats 4000000 in
theorem do_range3 (T Q nn : Nat) (bud : Int) (m : Nat → Option (Bool × List Int)) (kd p c : Int) (a : Nat) (n : Int) (d : Option Addr) (dl dc : Nat) (w : World) (hs : Sx T Q nn bud m w) (hnn : nn ≤ 4096) (hk : kd = 0 ∨ kd = 1 ∨ kd = 2 ∨ kd = 3)
    (h1 : 1 ≤ c) (h2 : 0 ≤ p) (h3 : (nn : Int) < c) :
    Calls Try.prog 23 #[.pointer (some ⟨T, 0, none⟩), opV kd p c a n d dl dc] w fun e w' => e = .returned (.agg #[.int .i64 6, .slice none 0 0]) ∧ Below w.heap.size w w' := by
  have HS := hid hs
  clear hs
  unfold opV
  have D0 := hid (Dw.first w #[.int .i64 kd, .int .i64 p, .int .i64 c, .int .u64 a, .int .i64 n, .slice d dl dc] Q HS.out.ltQ)
  have hb0 : Below w.heap.size w ((w.alloc (.cells #[.int .i64 kd, .int .i64 p, .int .i64 c, .int .u64 a, .int .i64 n, .slice d dl dc] 34)).alloc (.cells #[.int .i64 0, .slice none 0 0] 36)) := ((Below.refl _ _).alloc (Nat.le_refl _) _).alloc (by rw [al_size]; omega) _
  have S0 := hid (HS.out.below hb0)
  have B0 := hid hb0
  clear hb0 HS
  have t1 : decide (c < 1) = false := decide_eq_false (by omega)
  have t2 : decide (p < 0) = false := decide_eq_false (by omega)
  rcases hk with rfl | rfl | rfl | rfl
  all_goals
      go_enter Try.func23, Try.ntmps23
      go_wp2
      generalize World.alloc _ _ = V at D0 S0 B0 ⊢
      generalize hOe : w.heap.size + 1 = Rb at D0 ⊢
      generalize hOo : w.heap.size = Ob at D0 ⊢
      have k1 : V.cell? ⟨Ob, 1, none⟩ = some (.int .i64 p) := by simp [World.cell?, D0.out.o]
      have k2 : V.cell? ⟨Ob, 2, none⟩ = some (.int .i64 c) := by simp [World.cell?, D0.out.o]
      have k3 := S0.out.c.1
      go_quiet (fail)
      have D1 := hid (D0.out.below S0.out.ltQ (drewN_below V nq))
      have B1 := hid (bl_trans B0.out (drewN_below V nq))
      clear D0 S0 B0 k1 k2 k3
      generalize V.drewN nq = V1 at D1 B1 ⊢
      go_wp2_with (refine wpList_store_row rfl 36 _ _ rfl _ _ rfl rfl 36 _ D1.out.r (by kernel_rfl) rfl (by simp [Value.oneCell']) ?_)
      refine bodyPost_ret (results_cell_row (by rfl) _ _ Rb 36 _ (0, 0) _ (by rfl) (setRow_at D1.out.r _) Try.underlying36 rfl (by kernel_rfl)) (by rfl) ?_
      exact ⟨rfl, B1.out.grown (grown_setRow V1 Rb _) B1.out.size (fun r hr => by simp at hr; omega)⟩

set_option maxHeartbeats 4000000 in
theorem do_range4 (T Q nn : Nat) (bud : Int) (m : Nat → Option (Bool × List Int)) (kd p c : Int) (a : Nat) (n : Int) (d : Option Addr) (dl dc : Nat) (w : World) (hs : Sx T Q nn bud m w) (hnn : nn ≤ 4096) (hk : kd = 0 ∨ kd = 1 ∨ kd = 2 ∨ kd = 3)
    (h1 : 1 ≤ c) (h2 : 0 ≤ p) (h3 : c ≤ (nn : Int)) (h4 : (nn : Int) - c < p) :
    Calls Try.prog 23 #[.pointer (some ⟨T, 0, none⟩), opV kd p c a n d dl dc] w fun e w' => e = .returned (.agg #[.int .i64 6, .slice none 0 0]) ∧ Below w.heap.size w w' := by
  have HS := hid hs
  clear hs
  unfold opV
  have D0 := hid (Dw.first w #[.int .i64 kd, .int .i64 p, .int .i64 c, .int .u64 a, .int .i64 n, .slice d dl dc] Q HS.out.ltQ)
  have hb0 : Below w.heap.size w ((w.alloc (.cells #[.int .i64 kd, .int .i64 p, .int .i64 c, .int .u64 a, .int .i64 n, .slice d dl dc] 34)).alloc (.cells #[.int .i64 0, .slice none 0 0] 36)) := ((Below.refl _ _).alloc (Nat.le_refl _) _).alloc (by rw [al_size]; omega) _
  have S0 := hid (HS.out.below hb0)
  have B0 := hid hb0
  clear hb0 HS
  have t1 : decide (c < 1) = false := decide_eq_false (by omega)
  have t2 : decide (p < 0) = false := decide_eq_false (by omega)
  have t3 : decide ((nn : Int) < c) = false := decide_eq_false (by omega)
  rcases hk with rfl | rfl | rfl | rfl
  all_goals
      go_enter Try.func23, Try.ntmps23
      go_wp2
      generalize World.alloc _ _ = V at D0 S0 B0 ⊢
      generalize hOe : w.heap.size + 1 = Rb at D0 ⊢
      generalize hOo : w.heap.size = Ob at D0 ⊢
      have k1 : V.cell? ⟨Ob, 1, none⟩ = some (.int .i64 p) := by simp [World.cell?, D0.out.o]
      have k2 : V.cell? ⟨Ob, 2, none⟩ = some (.int .i64 c) := by simp [World.cell?, D0.out.o]
      have k3 := S0.out.c.1
      go_quiet (fail)
      have D1 := hid (D0.out.below S0.out.ltQ (drewN_below V nq))
      have B1 := hid (bl_trans B0.out (drewN_below V nq))
      clear D0 S0 B0 k1 k2 k3
      generalize V.drewN nq = V1 at D1 B1 ⊢
      go_wp2_with (refine wpList_store_row rfl 36 _ _ rfl _ _ rfl rfl 36 _ D1.out.r (by kernel_rfl) rfl (by simp [Value.oneCell']) ?_)
      refine bodyPost_ret (results_cell_row (by rfl) _ _ Rb 36 _ (0, 0) _ (by rfl) (setRow_at D1.out.r _) Try.underlying36 rfl (by kernel_rfl)) (by rfl) ?_
      exact ⟨rfl, B1.out.grown (grown_setRow V1 Rb _) B1.out.size (fun r hr => by simp at hr; omega)⟩

/-- the pages that an operation names are some of the space's -/
def okP (nn : Nat) (p c : Int) : Prop := 1 ≤ c ∧ 0 ≤ p ∧ c ≤ nn ∧ p ≤ (nn : Int) - c

theorem do_range (T Q nn : Nat) (bud : Int) (m : Nat → Option (Bool × List Int)) (kd p c : Int) (a : Nat) (n : Int) (d : Option Addr) (dl dc : Nat) (w : World) (hs : Sx T Q nn bud m w) (hnn : nn ≤ 4096) (hk : kd = 0 ∨ kd = 1 ∨ kd = 2 ∨ kd = 3) (h : ¬ okP nn p c) :
    Calls Try.prog 23 #[.pointer (some ⟨T, 0, none⟩), opV kd p c a n d dl dc] w fun e w' => e = .returned (.agg #[.int .i64 6, .slice none 0 0]) ∧ Below w.heap.size w w' := by
  by_cases h1 : c < 1
  · exact do_range1 T Q nn bud m kd p c a n d dl dc w hs hnn hk h1
  · by_cases h2 : p < 0
    · exact do_range2 T Q nn bud m kd p c a n d dl dc w hs hnn hk (by omega) h2
    · by_cases h3 : (nn : Int) < c
      · exact do_range3 T Q nn bud m kd p c a n d dl dc w hs hnn hk (by omega) (by omega) h3
      · by_cases h4 : (nn : Int) - c < p
        · exact do_range4 T Q nn bud m kd p c a n d dl dc w hs hnn hk (by omega) (by omega) (by omega) h4
        · exact (h ⟨by omega, by omega, by omega, by omega⟩).elim
end Go.Proofs.Ytiddopgeomojbaa

namespace Go.Proofs.Ytiddopgeomojbaa
open Go.RowKit Go.Shelf
set_option linter.unusedVariables false

/-- the pages are all committed, or all not -/
def allB (m : Nat → Option (Bool × List Int)) (p c : Nat) (b : Bool) : Prop := ∀ j, j < c → (m (p + j)).isSome = b

set_option maxHeartbeats 4000000 in
theorem do_commit (T Q nn : Nat) (bud : Int) (m : Nat → Option (Bool × List Int)) (p c : Nat) (a : Nat) (n : Int) (d : Option Addr) (dl dc : Nat) (w : World) (hs : Sx T Q nn bud m w) (hnn : nn ≤ 4096) (h1 : 1 ≤ c) (h2 : p + c ≤ nn) :
    Calls Try.prog 23 #[.pointer (some ⟨T, 0, none⟩), opV 0 p c a n d dl dc] w fun e w' =>
      (¬ allB m p c false ∧ e = .returned (.agg #[.int .i64 6, .slice none 0 0]) ∧ Below w.heap.size w w') ∨
      (allB m p c false ∧ bud < (cntM m nn : Int) + c ∧ e = .returned (.agg #[.int .i64 1, .slice none 0 0]) ∧ Below w.heap.size w w') ∨
      (allB m p c false ∧ (cntM m nn : Int) + c ≤ bud ∧ e = .returned (.agg #[.int .i64 0, .slice none 0 0]) ∧ Sx T Q nn bud (freshM m p c) w' ∧ Sf Q w w') := by
  have HS := hid hs
  clear hs
  unfold opV
  obtain ⟨P, hP⟩ : ∃ P : Int, P = (p : Int) := ⟨_, rfl⟩
  obtain ⟨C, hC⟩ : ∃ C : Int, C = (c : Int) := ⟨_, rfl⟩
  rw [← hP, ← hC]
  have hp0 : 0 ≤ P := by omega
  have hc1 : 1 ≤ C := by omega
  have hpc : P + C ≤ (nn : Int) := by omega
  have HP := hid hP
  have HC := hid hC
  clear hP hC
  have D0 := hid (Dw.first w #[.int .i64 0, .int .i64 P, .int .i64 C, .int .u64 a, .int .i64 n, .slice d dl dc] Q HS.out.ltQ)
  have hb0 : Below w.heap.size w ((w.alloc (.cells #[.int .i64 0, .int .i64 P, .int .i64 C, .int .u64 a, .int .i64 n, .slice d dl dc] 34)).alloc (.cells #[.int .i64 0, .slice none 0 0] 36)) := ((Below.refl _ _).alloc (Nat.le_refl _) _).alloc (by rw [al_size]; omega) _
  have S0 := hid (HS.out.below hb0)
  have B0 := hid hb0
  have HQ := hid HS.out.ltQ
  clear hb0 HS
  have t1 : decide (C < 1) = false := decide_eq_false (by omega)
  have t2 : decide (P < 0) = false := decide_eq_false (by omega)
  have t3 : decide ((nn : Int) < C) = false := decide_eq_false (by omega)
  have t4 : decide ((nn : Int) - C < P) = false := decide_eq_false (by omega)
  go_enter Try.func23, Try.ntmps23
  go_wp2
  generalize World.alloc _ _ = V at D0 S0 B0 ⊢
  generalize hOe : w.heap.size + 1 = Rb at D0 ⊢
  generalize hOo : w.heap.size = Ob at D0 ⊢
  have k1 : V.cell? ⟨Ob, 1, none⟩ = some (.int .i64 P) := by simp [World.cell?, D0.out.o]
  have k2 : V.cell? ⟨Ob, 2, none⟩ = some (.int .i64 C) := by simp [World.cell?, D0.out.o]
  have k3 := S0.out.c.1
  go_quiet (fail)
  have D1 := hid (D0.out.below S0.out.ltQ (drewN_below V nq))
  have B1 := hid (bl_trans B0.out (drewN_below V nq))
  have S1 := hid (S0.out.below (drewN_below V nq))
  clear D0 S0 B0 k1 k2 k3 t1 t2 t3 t4
  generalize V.drewN nq = V1 at D1 B1 S1 ⊢
  have k1 : V1.cell? ⟨Ob, 1, none⟩ = some (.int .i64 P) := by simp [World.cell?, D1.out.o]
  go_wp2
  go_loopw [5] (fun i wr => ∃ k : Nat, k ≤ c ∧ i = .int .i64 (P + (k : Int)) ∧ Hid ((∀ j, j < k → (m (p + j)).isSome = false) ∧ Dw w #[.int .i64 0, .int .i64 P, .int .i64 C, .int .u64 a, .int .i64 n, .slice d dl dc] Q Ob Rb wr ∧ Sx T Q nn bud m wr ∧ Below w.heap.size w wr)) (fun i _ => (P + C - intOf i).toNat)
  case atStart => exact ⟨0, Nat.zero_le _, by go_num, fun j hj => by omega, D1.out, S1.out, B1.out⟩
  case round =>
    obtain ⟨k, hk, rfl, HJ⟩ := hrel
    have k0 : wr.cell? ⟨Ob, 0, none⟩ = some (.int .i64 0) := by simp [World.cell?, HJ.out.2.1.o]
    have k1 : wr.cell? ⟨Ob, 1, none⟩ = some (.int .i64 P) := by simp [World.cell?, HJ.out.2.1.o]
    have k2 : wr.cell? ⟨Ob, 2, none⟩ = some (.int .i64 C) := by simp [World.cell?, HJ.out.2.1.o]
    by_cases hlt : k < c
    · have hlt' : (k : Int) < C := by rw [HC.out]; omega
      have tn : (P + (k : Int)).toNat = p + k := by rw [HP.out]; omega
      obtain ⟨op, pp, l, cc, d1, d2, d3, e4⟩ := HJ.out.2.2.1.three (p + k) (by omega)
      have k3 := HJ.out.2.2.1.c.1
      generalize hon : (m (p + k)).isSome = on at *
      cases on
      · go_wp2
        go_quiet (fail)
        have HN := hid (show (∀ j, j < k + 1 → (m (p + j)).isSome = false) ∧ Dw w #[.int .i64 0, .int .i64 P, .int .i64 C, .int .u64 a, .int .i64 n, .slice d dl dc] Q Ob Rb (wr.drewN nq) ∧ Sx T Q nn bud m (wr.drewN nq) ∧ Below w.heap.size w (wr.drewN nq) from
          ⟨fun j hj => by
            by_cases e : j = k
            · subst e; exact hon
            · exact HJ.out.1 j (by omega), HJ.out.2.1.below HJ.out.2.2.1.ltQ (drewN_below wr nq), HJ.out.2.2.1.below (drewN_below wr nq), bl_trans HJ.out.2.2.2 (drewN_below wr nq)⟩)
        clear HJ k0 k1 k2 k3 d1 d2 d3 e4 hon
        generalize wr.drewN nq = V2 at HN ⊢
        go_wp2
        go_roundw
        case rel => exact ⟨k + 1, by omega, by go_num, HN.out⟩
        case measure => simp [intOf]; omega
      · go_wp2
        go_quiet (fail)
        have D2 := hid (HJ.out.2.1.below HJ.out.2.2.1.ltQ (drewN_below wr nq))
        have B2 := hid (bl_trans HJ.out.2.2.2 (drewN_below wr nq))
        have HBad := hid (show ¬ allB m p c false from fun h => by have := h k hlt; rw [hon] at this; cases this)
        clear HJ k0 k1 k2 k3 d1 d2 d3 e4 hon
        generalize wr.drewN nq = V2 at D2 B2 ⊢
        go_wp2_with (refine wpList_store_row rfl 36 _ _ rfl _ _ rfl rfl 36 _ D2.out.r (by kernel_rfl) rfl (by simp [Value.oneCell']) ?_)
        refine bodyPost_ret (results_cell_row (by rfl) _ _ Rb 36 _ (0, 0) _ (by rfl) (setRow_at D2.out.r _) Try.underlying36 rfl (by kernel_rfl)) (by rfl) ?_
        exact .inl ⟨HBad.out, rfl, B2.out.grown (grown_setRow V2 Rb _) B2.out.size (fun r hr => by simp at hr; omega)⟩
    · have hkc : k = c := by omega
      subst hkc
      have hlt' : ¬ (k : Int) < C := by rw [HC.out]; omega
      have HA := hid (show allB m p k false from HJ.out.1)
      go_wp2_with fail
      rw [HP.out, HC.out]
      by_cases hbud : bud < (cntM m nn : Int) + (k : Int)
      · have HB := hid hbud
        refine (sp_commit_no T Q nn bud m p k wr HJ.out.2.2.1 hnn h2 hbud).mono ?_
        rintro e w3 ⟨rfl, b3⟩
        have D3 := hid (HJ.out.2.1.below HJ.out.2.2.1.ltQ b3)
        have B3 := hid (bl_trans HJ.out.2.2.2 b3)
        clear b3 HJ k0 k1 k2 hbud
        go_wp2_with (refine wpList_store_row rfl 36 _ _ rfl _ _ rfl rfl 36 _ D3.out.r (by kernel_rfl) rfl (by simp [Value.oneCell']) ?_)
        refine bodyPost_ret (results_cell_row (by rfl) _ _ Rb 36 _ (0, 0) _ (by rfl) (setRow_at D3.out.r _) Try.underlying36 rfl (by kernel_rfl)) (by rfl) ?_
        exact .inr (.inl ⟨HA.out, by rw [HC.out]; exact HB.out, rfl, B3.out.grown (grown_setRow w3 Rb _) B3.out.size (fun r hr => by simp at hr; omega)⟩)
      · have HB := hid (show (cntM m nn : Int) + (k : Int) ≤ bud by omega)
        refine (sp_commit_yes T Q nn bud m p k wr HJ.out.2.2.1 hnn h2 HB.out).mono ?_
        rintro e w3 ⟨rfl, s3, f3⟩
        have D3 := hid (HJ.out.2.1.kind HJ.out.2.2.1 f3)
        have S3 := hid s3
        clear s3 f3 HJ k0 k1 k2 hbud
        go_wp2_with (refine wpList_store_row rfl 36 _ _ rfl _ _ rfl rfl 36 _ D3.out.r (by kernel_rfl) rfl (by simp [Value.oneCell']) ?_)
        refine bodyPost_ret (results_cell_row (by rfl) _ _ Rb 36 _ (0, 0) _ (by rfl) (setRow_at D3.out.r _) Try.underlying36 rfl (by kernel_rfl)) (by rfl) ?_
        exact .inr (.inr ⟨HA.out, by rw [HC.out]; exact HB.out, rfl, D3.out.sx S3.out _, D3.out.done HQ.out _⟩)
end Go.Proofs.Ytiddopgeomojbaa

namespace Go.Proofs.Ytiddopgeomojbaa
open Go.RowKit Go.Shelf
set_option linter.unusedVariables false

/-- only the row of pages is turned, and no page is new -/
theorem Sf.ofRow {Q : Nat} {W W' : World} (hb : Below 0 W W') (ho : ∀ g, g ≠ Q → W'.heap[g]? = W.heap[g]?) (hp : ∀ j g, W'.cell? ⟨Q, j * 3 + 2, none⟩ = some (.slice (some ⟨g, 0, none⟩) 1024 1024) → W.cell? ⟨Q, j * 3 + 2, none⟩ = some (.slice (some ⟨g, 0, none⟩) 1024 1024)) : Sf Q W W' :=
  ⟨hb.os, hb.tape, hb.output, hb.size, fun g _ hne _ => ho g hne, fun g ⟨j, hj⟩ => .inl ⟨j, hp j g hj⟩⟩

/-- a page is dropped -/
theorem Sx.drop1 {T Q n : Nat} {bud : Int} {m : Nat → Option (Bool × List Int)} {W : World} (h : Sx T Q n bud m W) (k : Nat) (hk : k < n) :
    Sx T Q n bud (updM m k none) (((W.setCell ⟨Q, k * 3, none⟩ (.bool false)).setCell ⟨Q, k * 3 + 1, none⟩ (.bool false)).setCell ⟨Q, k * 3 + 2, none⟩ (.slice none 0 0)) ∧
    Sf Q W (((W.setCell ⟨Q, k * 3, none⟩ (.bool false)).setCell ⟨Q, k * 3 + 1, none⟩ (.bool false)).setCell ⟨Q, k * 3 + 2, none⟩ (.slice none 0 0)) := by
  refine ⟨h.set3 k hk none _ _ _ (fun g j _ _ _ => by simp) (fun c W' a1 a2 a3 _ => ⟨a1, a2, a3⟩), ?_⟩
  refine Sf.ofRow ((((Below.refl 0 W).setCell (Nat.zero_le _) _).setCell (Nat.zero_le _) _).setCell (Nat.zero_le _) _) (fun g hg => ?_) (fun j g hj => ?_)
  · rw [Below.heap_setCell _ _ _ _ hg, Below.heap_setCell _ _ _ _ hg, Below.heap_setCell _ _ _ _ hg]
  · obtain ⟨c, h1, _⟩ := h.row
    have e3 := heap_set_at (heap_set_at (heap_set_at h1 (i := k * 3) (.bool false)) (i := k * 3 + 1) (.bool false)) (i := k * 3 + 2) (.slice none 0 0)
    simp only [World.cell?, e3] at hj
    simp only [World.cell?, h1]
    by_cases e : j = k
    · subst e
      rw [Array.getElem?_setIfInBounds] at hj
      simp at hj
    · have q : (((c.setIfInBounds (k * 3) (.bool false)).setIfInBounds (k * 3 + 1) (.bool false)).setIfInBounds (k * 3 + 2) (.slice none 0 0))[j * 3 + 2]? = c[j * 3 + 2]? := by
        rw [Array.getElem?_setIfInBounds, if_neg (by omega), Array.getElem?_setIfInBounds, if_neg (by omega), Array.getElem?_setIfInBounds, if_neg (by omega)]
      rw [q] at hj
      exact hj

set_option maxHeartbeats 400000 in
theorem sp_drop2 (T Q n : Nat) (bud : Int) (m : Nat → Option (Bool × List Int)) (first count : Nat) (w : World) (h : Sx T Q n bud m w) (hn : n ≤ 4096) (hf : first + count ≤ n) :
    Calls Try.prog 47 #[.pointer (some ⟨T, 0, none⟩), .int .i64 first, .int .i64 count] w fun e w' => e = .returned (.tuple #[]) ∧ Sx T Q n bud (goneM m first count) w' ∧ Sf Q w w' := by
  obtain ⟨c1, c2⟩ := h.c
  have HS := hid h
  clear h
  go_enter Try.func47, Try.ntmps47
  go_wp2
  go_loopw [6] (fun i wr => ∃ k : Nat, k ≤ count ∧ i = .int .i64 ((first : Int) + (k : Int)) ∧ Sx T Q n bud (goneM m first k) wr ∧ Sf Q w wr) (fun i _ => first + count - (intOf i).toNat)
  case atStart => exact ⟨0, Nat.zero_le _, by go_num, HS.out, Sf.refl Q w⟩
  case round =>
    obtain ⟨k, hk, rfl, hs, hg⟩ := hrel
    by_cases hlt : k < count
    · obtain ⟨c1, c2⟩ := hs.c
      obtain ⟨op, p, l, c, d1, d2, d3, _⟩ := hs.three (first + k) (by omega)
      obtain ⟨cc, h1, h2, _⟩ := hs.row
      have f1 : ∀ i, wr.frozen? ⟨Q, i, none⟩ = false := fun i => by simp [World.frozen?, h1]
      have f2 := f1 ((first + k) * 3)
      have f3 := f1 ((first + k) * 3 + 1)
      have f4 := f1 ((first + k) * 3 + 2)
      have HJ := hid (And.intro (hs.drop1 (first + k) (by omega)) hg)
      clear hs hg f1 h1 h2
      go_wp2
      go_roundw
      case rel => exact ⟨k + 1, by omega, by go_num, HJ.out.1.1, HJ.out.2.trans HJ.out.1.2⟩
      case measure => simp [intOf]; omega
    · have hkc : k = count := by omega
      subst hkc
      have HJ := hid (And.intro hs hg)
      clear hs hg
      go_wp2
      go_end0
      exact ⟨rfl, HJ.out⟩

/-- a page is locked, or opened -/
theorem Sx.lock1 {T Q n : Nat} {bud : Int} {m : Nat → Option (Bool × List Int)} {W : World} (h : Sx T Q n bud m W) (k : Nat) (hk : k < n) {l : Bool} {xs : List Int} (hm : m k = some (l, xs)) (v : Bool) :
    Sx T Q n bud (updM m k (some (v, xs))) (W.setCell ⟨Q, k * 3 + 1, none⟩ (.bool (!v))) ∧ Sf Q W (W.setCell ⟨Q, k * 3 + 1, none⟩ (.bool (!v))) := by
  obtain ⟨c, h1, h2, h3, hinj⟩ := h.row
  have ho : ∀ g, g ≠ Q → (W.setCell ⟨Q, k * 3 + 1, none⟩ (.bool (!v))).heap[g]? = W.heap[g]? := fun g hg => Below.heap_setCell _ _ _ _ hg
  have e1 := heap_set_at h1 (i := k * 3 + 1) (.bool (!v))
  have hb : Below 0 W (W.setCell ⟨Q, k * 3 + 1, none⟩ (.bool (!v))) := (Below.refl 0 W).setCell (Nat.zero_le _) _
  generalize W.setCell ⟨Q, k * 3 + 1, none⟩ (.bool (!v)) = W' at *
  have hne : T ≠ Q := by
    intro e
    subst e
    rw [h.box] at h1
    simp at h1
  have q2 : ∀ j, (c.setIfInBounds (k * 3 + 1) (.bool (!v)))[j * 3 + 2]? = c[j * 3 + 2]? := fun j => by rw [Array.getElem?_setIfInBounds, if_neg (by omega)]
  have q0 : ∀ j, (c.setIfInBounds (k * 3 + 1) (.bool (!v)))[j * 3]? = c[j * 3]? := fun j => by rw [Array.getElem?_setIfInBounds, if_neg (by omega)]
  refine ⟨⟨(ho T hne).trans h.box, ⟨_, e1, by simpa using h2, fun j hj => ?_, fun i j g a1 a2 a3 a4 => hinj i j g a1 a2 (by rw [← q2]; exact a3) (by rw [← q2]; exact a4)⟩, fun j hj => by rw [updM_other m k j _ (by omega)]; exact h.out j hj⟩, ?_⟩
  · have h4 := h3 j hj
    by_cases e : j = k
    · subst e
      rw [updM_same]
      rw [hm] at h4
      obtain ⟨b1, b2, b4, g, b3, b5⟩ := h4
      refine ⟨(q0 j).trans b1, by simp [show j * 3 + 1 < c.size by omega], b4, g, (q2 j).trans b3, (ho g ?_).trans b5⟩
      intro e2
      subst e2
      rw [h1] at b5
      simp at b5
    · rw [updM_other m k j _ e]
      have q1 : (c.setIfInBounds (k * 3 + 1) (.bool (!v)))[j * 3 + 1]? = c[j * 3 + 1]? := by rw [Array.getElem?_setIfInBounds, if_neg (by omega)]
      cases hmj : m j with
      | none =>
        rw [hmj] at h4
        exact ⟨(q0 j).trans h4.1, q1.trans h4.2.1, (q2 j).trans h4.2.2⟩
      | some r =>
        obtain ⟨l2, xs2⟩ := r
        rw [hmj] at h4
        obtain ⟨b1, b2, b4, g, b3, b5⟩ := h4
        refine ⟨(q0 j).trans b1, q1.trans b2, b4, g, (q2 j).trans b3, (ho g ?_).trans b5⟩
        intro e2
        subst e2
        rw [h1] at b5
        simp at b5
  · refine Sf.ofRow hb ho (fun j g hj => ?_)
    simp only [World.cell?, e1, q2] at hj
    simp only [World.cell?, h1]
    exact hj
end Go.Proofs.Ytiddopgeomojbaa
