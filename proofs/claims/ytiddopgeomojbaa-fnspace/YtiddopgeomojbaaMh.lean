import Derived.Test.YtiddopgeomojbaaMg
import Derived.BigRegionIn
namespace Go.Proofs.Ytiddopgeomojbaa
open Go.RowKit Go.Shelf
set_option linter.unusedVariables false

attribute [local go_sem] Oper.semAt_some

/-- bytes are laid into one page -/
def layM (m : Nat → Option (Bool × List Int)) (p : Nat) (bs : List Int) : Nat → Option (Bool × List Int) := updM m (p / 1024) ((m (p / 1024)).map fun q => (q.1, splice q.2 (p % 1024) bs))
/-- how much of the data is spent, and the pages, behind some pieces -/
def stF (m : Nat → Option (Bool × List Int)) (a n : Nat) (ys : List Int) (pre : List { d : Nat // d < n }) : Nat × (Nat → Option (Bool × List Int)) :=
  pre.foldl (fun s x => (s.1 + min (plen a n x.1) (n - s.1), layM s.2 (a + x.1) ((ys.drop s.1).take (min (plen a n x.1) (n - s.1))))) (0, m)
theorem stF_snoc (m : Nat → Option (Bool × List Int)) (a n : Nat) (ys : List Int) (pre : List { d : Nat // d < n }) (x : { d : Nat // d < n }) :
    stF m a n ys (pre ++ [x]) = ((stF m a n ys pre).1 + min (plen a n x.1) (n - (stF m a n ys pre).1), layM (stF m a n ys pre).2 (a + x.1) ((ys.drop (stF m a n ys pre).1).take (min (plen a n x.1) (n - (stF m a n ys pre).1)))) := by
  simp [stF]
theorem stF_le0 (a n : Nat) (ys : List Int) : ∀ (pre : List { d : Nat // d < n }) (s : Nat × (Nat → Option (Bool × List Int))), s.1 ≤ n → (pre.foldl (fun s x => (s.1 + min (plen a n x.1) (n - s.1), layM s.2 (a + x.1) ((ys.drop s.1).take (min (plen a n x.1) (n - s.1))))) s).1 ≤ n
  | [], s, h => h
  | x :: pre, s, h => by
    rw [List.foldl_cons]
    exact stF_le0 a n ys pre _ (by dsimp only; omega)
theorem stF_le (m : Nat → Option (Bool × List Int)) (a n : Nat) (ys : List Int) (pre : List { d : Nat // d < n }) : (stF m a n ys pre).1 ≤ n := stF_le0 a n ys pre _ (Nat.zero_le _)
theorem plen_page (a n d : Nat) : (a + d) % 1024 + plen a n d ≤ 1024 := by unfold plen; omega
/-- all pages are of 1024 bytes -/
def Full (m : Nat → Option (Bool × List Int)) : Prop := ∀ k q, m k = some q → q.2.length = 1024
theorem splice_len (xs zs : List Int) (off : Nat) (h : off + zs.length ≤ xs.length) : (splice xs off zs).length = xs.length := length_splice _ _ _ h
theorem Full.lay {m : Nat → Option (Bool × List Int)} (h : Full m) (p : Nat) (bs : List Int) (hb : p % 1024 + bs.length ≤ 1024) : Full (layM m p bs) := by
  intro k q e
  unfold layM at e
  by_cases hk : k = p / 1024
  · subst hk
    rw [updM_same] at e
    cases hm : m (p / 1024) with
    | none => rw [hm] at e; cases e
    | some r =>
      rw [hm] at e
      simp only [Option.map_some, Option.some.injEq] at e
      subst e
      dsimp only
      rw [splice_len _ _ _ (by rw [h _ _ hm]; exact hb)]
      exact h _ _ hm
  · rw [updM_other _ _ _ _ hk] at e
    exact h k q e
theorem Full.store {m : Nat → Option (Bool × List Int)} (h : Full m) (a : Nat) (ys : List Int) : ∀ k, Full (storeM m a ys k)
  | 0 => h
  | k + 1 => by
    intro j q e
    have ih := Full.store h a ys k
    have e' : putM (storeM m a ys k) (a + k) (ys[k]?.getD 0) j = some q := e
    unfold putM at e'
    by_cases hk : j = (a + k) / 1024
    · subst hk
      rw [updM_same] at e'
      cases hm : storeM m a ys k ((a + k) / 1024) with
      | none => rw [hm] at e'; cases e'
      | some r =>
        rw [hm] at e'
        simp only [Option.map_some, Option.some.injEq] at e'
        subst e'
        simp
        exact ih _ _ hm
    · rw [updM_other _ _ _ _ hk] at e'
      exact ih j q e'
theorem Got.stF {m : Nat → Option (Bool × List Int)} {a n : Nat} {ys : List Int} {pre : List { d : Nat // d < n }} {d : Nat} (hl : ys.length = n) (hm : Full m) (hs : ∀ d, d < n → (m ((a + d) / 1024)).isSome = true) (h : Got a n pre d) : stF m a n ys pre = (d, storeM m a ys d) := by
  induction h with
  | zero => rfl
  | @next pre d h hd ih =>
    rw [stF_snoc, ih]
    have h1 := plen_le (a := a) hd
    have e1 : min (plen a n d) (n - d) = plen a n d := by omega
    dsimp only
    rw [e1]
    congr 1
    have hsome : (storeM m a ys d ((a + d) / 1024)).isSome = true := by
      have : ∀ k j, (storeM m a ys k j).isSome = (m j).isSome := by
        intro k
        induction k with
        | zero => intro j; rfl
        | succ k ih =>
          intro j
          show (putM (storeM m a ys k) (a + k) (ys[k]?.getD 0) j).isSome = _
          unfold putM
          by_cases e : j = (a + k) / 1024
          · subst e; rw [updM_same, Option.isSome_map]; exact ih _
          · rw [updM_other _ _ _ _ e]; exact ih j
      rw [this]; exact hs d hd
    obtain ⟨q, hq⟩ := Option.isSome_iff_exists.1 hsome
    obtain ⟨lk, xs⟩ := q
    have hx := (hm.store a ys d) _ _ hq
    rw [storeM_piece m a ys d lk xs hx hq (plen a n d) (plen_page a n d) (by omega)]
    unfold layM
    rw [hq]
    rfl
end Go.Proofs.Ytiddopgeomojbaa

namespace Go.Proofs.Ytiddopgeomojbaa
open Go.RowKit Go.Shelf
set_option linter.unusedVariables false

attribute [local go_sem] Oper.semAt_some

/-- the data that a store reads lies apart from the space -/
def Da (S M : Nat) (f : Nat → Option Nat) (w : World) (p : Option Addr) (n : Nat) (ys : List Int) : Prop :=
  ys.length = n ∧ ∀ i, i < n → ∃ x, p = some x ∧ w.cell? (x.add i) = some (.int .u8 (ys[i]?.getD 0)) ∧ (x.add i).block < w.heap.size ∧ (x.add i).block ≠ S ∧ (x.add i).block ≠ M ∧ ∀ k, f k ≠ some (x.add i).block
theorem Da.cell {S M : Nat} {f f' : Nat → Option Nat} {w W : World} {p : Option Addr} {n : Nat} {ys : List Int} (h : Da S M f w p n ys) (hf : Fr S M f f' w W) : ∀ i, i < n → ∃ x, p = some x ∧ W.cell? (x.add i) = some (.int .u8 (ys[i]?.getD 0)) := by
  intro i hi
  obtain ⟨x, e, c, l, h1, h2, h3⟩ := h.2 i hi
  refine ⟨x, e, ?_⟩
  unfold World.cell? at c ⊢
  rw [hf.block _ l h1 h2 h3]
  exact c

/-- what holds while a store goes on: DB the box of the data, c of it spent -/
structure Sd (S M : Nat) (st nn bud : Int) (f : Nat → Option Nat) (mm : Nat → Option (Bool × List Int)) (w : World) (DB : Nat) (p : Option Addr) (n cap c : Nat) (W : World) : Prop where
  im : Im S M st nn bud f W
  pg : Pg f mm W
  fr : Fr S M f f w W
  box : ∃ pd, W.heap[DB]? = some (.cells #[.slice pd (n - c) (cap - c)] 22 (0, 0)) ∧ (c < n → ∃ x, p = some x ∧ pd = some (x.add c))
  mlt : M < w.heap.size
  dge : w.heap.size ≤ DB

theorem copy_run22 (w : World) (dp sp : Option Addr) (dLen dCap sLen sCap g off : Nat) (cur : List Value) (t : TypeId) (hg : w.heap[g]? = some (.cells cur.toArray t (0, 0))) (cs : List Value) (hn : cs.length = Nat.min sLen dLen)
    (hpos : 0 < cs.length → dp = some ⟨g, off, none⟩ ∧ ∃ ad, sp = some ad ∧ ∀ j v, cs[j]? = some v → w.cell? (ad.add j) = some v)
    (hfit : off + cs.length ≤ cur.length) (h1 : ∀ v ∈ cs, v.oneCell' = true) :
    ∃ w', (Builtin.copy_ #[22, 22] 3 #[.slice dp dLen dCap, .slice sp sLen sCap]).run Try.prog w = .ok (.int .i64 (cs.length : Nat)) w' ∧ w'.heap[g]? = some (.cells (splice cur off cs).toArray t (0, 0)) ∧ w.grownBy w' (some g) := by
  by_cases h0 : cs.length = 0
  · obtain rfl : cs = [] := List.eq_nil_of_length_eq_zero h0
    refine ⟨w, run_copy_none (P := Try.prog) w 22 22 3 5 dp sp dLen dCap sLen sCap Try.underlying22 (by kernel_rfl) (by simpa using hn.symm), by simpa [splice] using hg, grown_refl w g⟩
  · obtain ⟨rfl, ad, rfl, hsrc⟩ := hpos (by omega)
    refine ⟨_, run_copy_row (P := Try.prog) w 22 22 3 5 g off dLen dCap ad sLen sCap cur.toArray t cs Try.underlying22 (by kernel_rfl) hg hn hsrc (by simpa using hfit) h1, ?_, grown_setRow w g _⟩
    simpa [splice] using setRow_heap w g _ _ t _ hg
theorem sliced22 (pd : Option Addr) (l len cap : Nat) (hl : l ≤ len) (hc : len ≤ cap) : ∃ dp, (∀ w : World, (Instr.slice 22 (.slice pd len cap) (some (.int .i64 (l : Nat))) none none).run Try.prog w = .ok (.slice dp (len - l) (cap - l)) w) ∧ (l < len → dp = pd.map fun x => x.add l) := by
  have he : Try.prog.elem 22 = 5 := by kernel_rfl
  have h := fun w => run_slice_l (P := Try.prog) w 22 pd len cap (by rw [he]; exact Try.underlying22) .i64 (l : Int) (by omega) (by omega)
  have hs : ∀ w : World, (sizeOf (Try.prog.elem 22)).run Try.prog w = .ok 1 w := fun w => by kernel_rfl
  refine ⟨if cap = l then pd else pd.map fun x => x.add l, fun w => ?_, fun h => ?_⟩
  · rw [h w, hs]
    simp [sliced, Result.andThen]
  · rw [if_neg (by omega)]
theorem Pg.lay {f : Nat → Option Nat} {mm : Nat → Option (Bool × List Int)} {W W' : World} (h : Pg f mm W) {k g : Nat} (hf : f k = some g) {l : Bool} {xs : List Int} (hx : xs.length = 1024) (hb : W'.heap[g]? = some (.cells (pageC l xs) 85 (0, 0))) (hg : W.grownBy W' (some g)) : Pg f (updM mm k (some (l, xs))) W' := by
  refine ⟨?_, h.inj⟩
  intro j
  by_cases e : j = k
  · subst e
    exact .inr ⟨g, l, xs, hf, updM_same _ _ _, hx, hb⟩
  · rw [updM_other mm k j _ e]
    rcases h.at' j with h1 | ⟨b2, l2, xs2, h1, h2, h3, h4⟩
    · exact .inl h1
    · refine .inr ⟨b2, l2, xs2, h1, h2, h3, ?_⟩
      rw [hg.block b2 (lt_of_block h4) (fun e2 => by cases e2; exact e (h.inj j k _ h1 hf))]
      exact h4
theorem Im.grownAt {S M : Nat} {st n bud : Int} {f : Nat → Option Nat} {W W' : World} (h : Im S M st n bud f W) {g : Nat} (hg : W.grownBy W' (some g)) (h1 : g ≠ S) (h2 : g ≠ M) : Im S M st n bud f W' := by
  obtain ⟨D, ⟨es, clock, hb, r1⟩, r⟩ := h.map
  refine ⟨by rw [hg.block S (lt_of_block h.box) (by simpa using h1.symm)]; exact h.box, D, ⟨es, clock, ?_, r1⟩, r⟩
  have hlt : M < W.heap.size := by
    by_cases hl : M < W.heap.size
    · exact hl
    · rw [Array.getElem?_eq_none (by omega)] at hb; cases hb
  rw [hg.block M hlt (by simpa using h2.symm)]; exact hb
theorem Fr.grownAt {S M : Nat} {f : Nat → Option Nat} {w W W' : World} (h : Fr S M f f w W) {g : Nat} (hg : W.grownBy W' (some g)) (hk : (∃ k, f k = some g) ∨ w.heap.size ≤ g) : Fr S M f f w W' :=
  ⟨hg.os.trans h.os, hg.tape.trans h.tape, hg.output.trans h.output, Nat.le_trans h.size hg.size, fun j h0 h1 h2 h3 => by
    rw [hg.block j (Nat.lt_of_lt_of_le h0 h.size) (fun e => by
      cases e
      rcases hk with ⟨k, hk⟩ | hk
      · exact h3 k hk
      · omega)]
    exact h.block j h0 h1 h2 h3, h.made⟩
end Go.Proofs.Ytiddopgeomojbaa

namespace Go.Proofs.Ytiddopgeomojbaa
open Go.RowKit Go.Shelf
set_option linter.unusedVariables false

attribute [local go_sem] Oper.semAt_some

theorem Sd.keep {S M : Nat} {st nn bud : Int} {f : Nat → Option Nat} {mm : Nat → Option (Bool × List Int)} {w W W' : World} {DB : Nat} {p : Option Addr} {n cap c : Nat} {row : Option Nat} (h : Sd S M st nn bud f mm w DB p n cap c W) (hg : W.grownBy W' row)
    (hr : ∀ r, row = some r → w.heap.size ≤ r ∧ ∀ cs t z, W.heap[r]? ≠ some (.cells cs t z)) : Sd S M st nn bud f mm w DB p n cap c W' := by
  have hc : ∀ (b : Nat) (cs : Array Value) (t : TypeId) (z : Nat × Nat), W.heap[b]? = some (Obj.cells cs t z) → W'.heap[b]? = some (Obj.cells cs t z) := by
    intro b cs t z hb
    rw [hg.block b (lt_of_block hb) (fun e => (hr b e.symm).2 cs t z hb)]
    exact hb
  have hM : W'.heap[M]? = W.heap[M]? := hg.block M (Nat.lt_of_lt_of_le h.mlt h.fr.size) (fun e => by have := (hr M e.symm).1; have := h.mlt; omega)
  refine ⟨⟨hc _ _ _ _ h.im.box, ?_⟩, ⟨?_, h.pg.inj⟩, ?_, ?_, h.mlt, h.dge⟩
  · obtain ⟨D, ⟨es, clock, hb, r1⟩, r⟩ := h.im.map
    exact ⟨D, ⟨es, clock, hM.trans hb, r1⟩, r⟩
  · intro j
    rcases h.pg.at' j with h1 | ⟨b, l, xs, h1, h2, h3, h4⟩
    · exact .inl h1
    · exact .inr ⟨b, l, xs, h1, h2, h3, hc _ _ _ _ h4⟩
  · exact ⟨hg.os.trans h.fr.os, hg.tape.trans h.fr.tape, hg.output.trans h.fr.output, Nat.le_trans h.fr.size hg.size, fun j h0 h1 h2 h3 => by
      rw [hg.block j (Nat.lt_of_lt_of_le h0 h.fr.size) (fun e => by have := (hr j e.symm).1; omega)]
      exact h.fr.block j h0 h1 h2 h3, h.fr.made⟩
  · obtain ⟨pd, h1, h2⟩ := h.box
    exact ⟨pd, hc _ _ _ _ h1, h2⟩

/-- a piece is copied -/
theorem Sd.piece {S M : Nat} {st nn bud : Int} {f : Nat → Option Nat} {mm : Nat → Option (Bool × List Int)} {w W : World} {DB : Nat} {p : Option Addr} {n cap c : Nat} {ys : List Int} {a b : Nat} {x : Nat} {g : Nat} (h : Sd S M st nn bud f mm w DB p n cap c W) (hc : c ≤ n) (hcap : n ≤ cap) (hd : Da S M f w p n ys) (hg : f ((a + x) / 1024) = some g) (hx : x < n) (hC : Cl S b a n W) :
    ∃ pd, W.heap[DB]? = some (.cells #[.slice pd (n - c) (cap - c)] 22 (0, 0)) ∧ ∃ W1 pd', (Builtin.copy_ #[22, 22] 3 #[.slice (some ⟨g, (a + x) % 1024, none⟩) (plen a n x) (1024 - (a + x) % 1024), .slice pd (n - c) (cap - c)]).run Try.prog W.drew = .ok (.int .i64 (min (plen a n x) (n - c) : Nat)) W1 ∧
      (∀ w : World, (Instr.slice 22 (.slice pd (n - c) (cap - c)) (some (.int .i64 (min (plen a n x) (n - c) : Nat))) none none).run Try.prog w = .ok (.slice pd' (n - (c + min (plen a n x) (n - c))) (cap - (c + min (plen a n x) (n - c)))) w) ∧
      W1.cell? ⟨DB, 0, none⟩ = some (.slice pd (n - c) (cap - c)) ∧ W1.frozen? ⟨DB, 0, none⟩ = false ∧
      Sd S M st nn bud f (layM mm (a + x) ((ys.drop c).take (min (plen a n x) (n - c)))) w DB p n cap (c + min (plen a n x) (n - c)) (W1.setCell ⟨DB, 0, none⟩ (.slice pd' (n - (c + min (plen a n x) (n - c))) (cap - (c + min (plen a n x) (n - c))))) ∧
      Kp S M b W (W1.setCell ⟨DB, 0, none⟩ (.slice pd' (n - (c + min (plen a n x) (n - c))) (cap - (c + min (plen a n x) (n - c))))) ∧ KeepsOthers W (W1.setCell ⟨DB, 0, none⟩ (.slice pd' (n - (c + min (plen a n x) (n - c))) (cap - (c + min (plen a n x) (n - c))))) := by
  obtain ⟨pd, hbox, hpd⟩ := h.box
  obtain ⟨k, hk⟩ : ∃ k, k = min (plen a n x) (n - c) := ⟨_, rfl⟩
  rw [← hk]
  have hpp := plen_page a n x
  have hl1 := plen_pos (a := a) hx
  obtain ⟨l, xs, hm, hxl, hb⟩ := h.pg.cell hg
  have hlen : ((ys.drop c).take k).length = k := by rw [List.length_take, List.length_drop, hd.1]; omega
  obtain ⟨W1, hr, hg1, hgr⟩ := copy_run22 W.drew (some ⟨g, (a + x) % 1024, none⟩) pd (plen a n x) (1024 - (a + x) % 1024) (n - c) (cap - c) g ((a + x) % 1024) (pageC l xs).toList 85 (by rw [show W.drew.heap = W.heap from rfl]; simpa using hb) (Ns .u8 ((ys.drop c).take k)) (by rw [Ns_len, hlen, hk]; exact Nat.min_comm _ _) (fun h0 => by
    rw [Ns_len, hlen] at h0
    obtain ⟨x0, e1, e2⟩ := hpd (by omega)
    refine ⟨rfl, _, e2, fun j v hv => ?_⟩
    have hj : j < k := by
      by_cases hj : j < k
      · exact hj
      · rw [List.getElem?_eq_none (by rw [Ns_len, hlen]; omega)] at hv; cases hv
    obtain ⟨x1, e3, e4⟩ := hd.cell h.fr (c + j) (by omega)
    rw [e1] at e3
    cases e3
    rw [Addr.add_add]
    have : W.drew.cell? (x0.add (c + j)) = W.cell? (x0.add (c + j)) := rfl
    rw [this, e4, ← hv]
    simp [Ns, hj]
    have : c + j < ys.length := by rw [hd.1]; omega
    simp [this]) (by rw [Ns_len, hlen]; simp [pageC, Ns, hxl]; omega) (fun v hv => by
      simp only [Ns, List.mem_map] at hv
      obtain ⟨z, _, rfl⟩ := hv
      rfl)
  rw [Ns_len, hlen] at hr
  rw [pageC_splice _ _ _ _ hxl (by rw [hlen]; omega)] at hg1
  obtain ⟨pd', hsl, hpd'⟩ := sliced22 pd k (n - c) (cap - c) (by omega) (by omega)
  obtain ⟨a1, a2⟩ := h.pg.apart h.im hg
  have hgd : g ≠ DB := fun e => by subst e; rw [hb] at hbox; simp at hbox
  have hgr' : W.grownBy W1 (some g) := ⟨hgr.os, hgr.tape, hgr.output, hgr.size, hgr.block⟩
  have hbox1 : W1.heap[DB]? = some (.cells #[.slice pd (n - c) (cap - c)] 22 (0, 0)) := by rw [hgr'.block DB (lt_of_block hbox) (by simpa using hgd.symm)]; exact hbox
  have g2 : W1.grownBy (W1.setCell ⟨DB, 0, none⟩ (.slice pd' (n - (c + k)) (cap - (c + k)))) (some DB) := grown_set (grown_refl W1 DB) 0 _
  have hDS : DB ≠ S := fun e => by rw [e, h.im.box] at hbox; simp at hbox
  have hDM : DB ≠ M := by have := h.mlt; have := h.dge; omega
  have e1 : n - c - k = n - (c + k) := by omega
  have e2 : cap - c - k = cap - (c + k) := by omega
  refine ⟨pd, hbox, W1, pd', hr, fun W => by rw [hsl W, e1, e2], by simp [World.cell?, hbox1], by simp [World.frozen?, hbox1], ⟨?_, ?_, ?_, ?_, h.mlt, h.dge⟩, ⟨?_, ?_⟩, ?_⟩
  · exact (h.im.grownAt hgr' a1 a2).grownAt g2 hDS hDM
  · have q := h.pg.lay hg (l := l) (xs := splice xs ((a + x) % 1024) ((ys.drop c).take k)) (by rw [splice_len _ _ _ (by rw [hlen, hxl]; omega), hxl]) hg1 hgr'
    have e3 : layM mm (a + x) ((ys.drop c).take k) = updM mm ((a + x) / 1024) (some (l, splice xs ((a + x) % 1024) ((ys.drop c).take k))) := by
      unfold layM; rw [hm]; rfl
    rw [e3]
    refine ⟨?_, q.inj⟩
    intro j
    rcases q.at' j with h1 | ⟨b2, l2, xs2, h1, h2, h3, h4⟩
    · exact .inl h1
    · refine .inr ⟨b2, l2, xs2, h1, h2, h3, ?_⟩
      rw [g2.block b2 (lt_of_block h4) (fun e => by cases e; rw [h4] at hbox1; simp at hbox1)]
      exact h4
  · exact (h.fr.grownAt hgr' (.inl ⟨_, hg⟩)).grownAt g2 (.inr h.dge)
  · refine ⟨pd', by rw [heap_set_at hbox1]; rfl, fun hlt => ?_⟩
    obtain ⟨x0, e3, e4⟩ := hpd (by omega)
    refine ⟨x0, e3, ?_⟩
    rw [hpd' (by omega), e4]
    simp [Addr.add_add]
  · exact Nat.le_trans hgr'.size g2.size
  · have hk2 : ∀ (b : Nat) (cs : Array Value) (t : TypeId) (z : Nat × Nat), W.heap[b]? = some (Obj.cells cs t z) → t ≠ 85 → t ≠ 22 → (W1.setCell ⟨DB, 0, none⟩ (.slice pd' (n - (c + k)) (cap - (c + k)))).heap[b]? = W.heap[b]? := by
      intro b' cs t z hb' h85 h22
      have n1 : b' ≠ g := fun e => by subst e; rw [hb] at hb'; cases hb'; exact h85 rfl
      have n2 : b' ≠ DB := fun e => by subst e; rw [hbox] at hb'; cases hb'; exact h22 rfl
      rw [g2.block b' (Nat.lt_of_lt_of_le (lt_of_block hb') hgr'.size) (by simpa using n2), hgr'.block b' (lt_of_block hb') (by simpa using n1)]
    rintro g' (rfl | rfl | rfl | rfl | rfl)
    · exact hk2 _ _ _ _ h.im.box (by decide) (by decide)
    · have hlt := Nat.lt_of_lt_of_le h.mlt h.fr.size
      rw [g2.block _ (Nat.lt_of_lt_of_le hlt hgr'.size) (by simpa using hDM.symm), hgr'.block _ hlt (by simpa using a2.symm)]
    · exact hk2 _ _ _ _ hC.s (by decide) (by decide)
    · exact hk2 _ _ _ _ hC.a (by decide) (by decide)
    · exact hk2 _ _ _ _ hC.n (by decide) (by decide)
  · exact (KeepsOthers.of_grownBy hgr' (fun j o e ho => by cases e; rw [hb] at ho; cases ho; rfl)).trans (KeepsOthers.setCell _ _ _)
end Go.Proofs.Ytiddopgeomojbaa

namespace Go.Proofs.Ytiddopgeomojbaa
open Go.RowKit Go.Shelf
set_option linter.unusedVariables false

attribute [local go_sem] Oper.semAt_some

theorem Sd.init {S M : Nat} {st nn bud : Int} {f : Nat → Option Nat} {m : Nat → Option (Bool × List Int)} {w : World} (hi : Im S M st nn bud f w) (hp : Pg f m w) (p : Option Addr) (n cap : Nat) (hnz : 0 < n → ∃ x, p = some x) : Sd S M st nn bud f m w w.heap.size p n cap 0 (w.alloc (.cells #[.slice p n cap] 22)) := by
  have hw := World.grownBy_alloc w (.cells #[.slice p n cap] 22) none
  refine ⟨hi.grown hw, hp.grown hw, Fr.ofGrown hw, ⟨p, (MapKept.heap_alloc w _).1, fun h => ?_⟩, ?_, Nat.le_refl _⟩
  · obtain ⟨x, e⟩ := hnz h
    exact ⟨x, e, by rw [e]; simp [Addr.add]⟩
  · obtain ⟨D, hown, _⟩ := hi.map
    exact hown.lt

set_option maxRecDepth 100000 in
set_option maxHeartbeats 2000000 in
theorem store_in (S M : Nat) (st nn bud : Int) (f : Nat → Option Nat) (m : Nat → Option (Bool × List Int)) (a n cap : Nat) (p : Option Addr) (ys : List Int) (w : World) (hi : Im S M st nn bud f w) (hp : Pg f m w) (hn : n ≤ 4096) (hcap : n ≤ cap) (ha : n = 0 ∨ a + n ≤ 4611686018427387904) (hd : Da S M f w p n ys) (hpg : ∀ d, d < n → ∃ g, f ((a + d) / 1024) = some g)
    (h : ∀ w, Im S M st nn bud f w → Pg f m w → Calls Try.prog 57 #[.pointer (some ⟨S, 0, none⟩), .int .u64 a, .int .i64 n] w fun e w' => e = .returned (.int .i64 0) ∧ w' = w) :
    CallsIn Fence.wide 5 Try.prog 42 #[.pointer (some ⟨S, 0, none⟩), .int .u64 a, .slice p n cap] w fun e w' => e = .returned (.int .i64 0) ∧ Im S M st nn bud f w' ∧ Pg f (storeM m a ys n) w' ∧ Fr S M f f w w' := by
  have H1 := hid h
  have HI := hid (And.intro hi hp)
  have HP := hid hpg
  have HD := hid hd
  have FU := hid (show Full m from fun k q e => by
    rcases hp.at' k with ⟨_, h2⟩ | ⟨b, l, xs, _, h2, h3, _⟩
    · rw [h2] at e; cases e
    · rw [h2] at e; cases e; exact h3)
  have SO := hid (show ∀ d, d < n → (m ((a + d) / 1024)).isSome = true from fun d hd => by
    obtain ⟨g, hg⟩ := hpg d hd
    rw [← hp.none_iff, hg]; rfl)
  have hnz : 0 < n → ∃ x, p = some x := fun h0 => by obtain ⟨x, e, _⟩ := hd.2 0 h0; exact ⟨x, e⟩
  have S0 := hid (Sd.init hi hp p n cap hnz)
  clear h hi hp hpg hd hnz
  refine callsIn_of_wp_marks Try.func42 rfl trivial ?_ rfl
  simp only [Try.ntmps42, List.size_toArray, List.length_cons, List.length_nil, Nat.reduceAdd, Nat.reduceSub, Array.replicate_succ, Array.replicate_zero, List.push_toArray, List.append_toArray, List.nil_append, List.cons_append]
  gi_wp2_with fail
  refine ⟨trivial, ?_⟩
  refine ((callsIn_wide (n := 4)).2 (H1.out _ (HI.out.1.alloc _) (HI.out.2.alloc _))).mono ?_
  rintro _ _ ⟨rfl, rfl⟩
  gi_wp2_with fail
  refine ⟨trivial, ?_⟩
  obtain ⟨W3, hW3⟩ : ∃ W3, w.alloc (.cells #[.slice p n cap] 22) = W3 := ⟨_, rfl⟩
  obtain ⟨DB, hDB⟩ : ∃ DB, w.heap.size = DB := ⟨_, rfl⟩
  have hsz3 : W3.heap.size = DB + 1 := by rw [← hW3, ← hDB]; simp
  have HZ := hid hsz3
  clear hsz3
  rw [hW3, hDB] at S0
  rw [hW3, hDB]
  clear hW3
  refine ((callsIn_wide (n := 4)).2 (pieces_mk _ _ _ _)).mono ?_
  rintro e w4 ⟨rfl, rfl⟩
  gi_wp2
  have HC := hid (Cl.made S a n W3)
  have g4 := grown_trans (World.grownBy_alloc W3 (.cells #[.pointer (some ⟨S, 0, none⟩)] 52) none) (grown_trans (World.grownBy_alloc _ (.cells #[.int .u64 a] 32) none) (World.grownBy_alloc _ (.cells #[.int .i64 n] 3) none))
  have S4 := hid (S0.out.keep g4 (fun r e => by cases e))
  have h4 : W3.heap.size + 1 + 1 + 1 = (((W3.alloc (.cells #[.pointer (some ⟨S, 0, none⟩)] 52)).alloc (.cells #[.int .u64 a] 32)).alloc (.cells #[.int .i64 n] 3)).heap.size := by simp
  have hS := Nat.lt_of_lt_of_le (lt_of_block HI.out.1.box) S0.out.fr.size
  have hM := Nat.lt_of_lt_of_le S0.out.mlt S0.out.fr.size
  obtain ⟨W4, hW4⟩ : ∃ W4, ((W3.alloc (.cells #[.pointer (some ⟨S, 0, none⟩)] 52)).alloc (.cells #[.int .u64 a] 32)).alloc (.cells #[.int .i64 n] 3) = W4 := ⟨_, rfl⟩
  rw [hW4] at HC S4 h4
  rw [hW4]
  clear g4 hW4 S0
  have hsz3 := HZ.out
  refine wpIn_rangeFunc_ownF rfl (by omega) (gf := 73) (lb := #[.pointer (some ⟨W3.heap.size + 1 + 1, 0, none⟩), .pointer (some ⟨W3.heap.size + 1, 0, none⟩), .pointer (some ⟨W3.heap.size, 0, none⟩)]) rfl trivial (enters_of Try.func73 (by kernel_rfl) rfl)
    (encs := fun x : { d : Nat // d < n } => encP f a n x.1) (Kp := Kp S M W3.heap.size) (S := fun ys => Got a n ys n) (Sp := fun pre => ∃ d, Got a n pre d) (N := n) (w0 := W4)
    (fun l J Jx W hW hJ hJx hY h0 => pieces_in S M st nn bud f a n l W3.heap.size 4 (by omega) hn ha HP.out J Jx W hJ hY (HC.out.kp (Kp.below (M := M) (N := W4.heap.size) hW (by omega) (by omega) (by omega))) (S4.out.im.kp (Kp.below (N := W4.heap.size) (b := W3.heap.size) hW (by omega) (by omega) (by omega))) h0)
    Kp.trans (fun W l o o' hl h _ _ => kp_put (S := S) (M := M) (b := W3.heap.size) (N := W4.heap.size) (by omega) (by omega) (by omega) W l o o' hl h) (Below.refl _ _) (fun _ => rfl)
    (fun pre W => Sd S M st nn bud f (stF m a n ys pre).2 w DB p n cap (stF m a n ys pre).1 W ∧ Cl S W3.heap.size a n W)
    (fun c pre W => False)
    ?own (fun c s A B row hs hg hr => hs) ⟨S4.out, HC.out⟩
    (fun x => { tmps := #[.pointer (some ⟨S, 0, none⟩), .int .u64 a, .slice p n cap, undef, undef, .pointer (some ⟨DB, 0, none⟩), .int .i64 0, .int .i64 0, .slice (some ⟨(f ((a + x.1) / 1024)).getD 0, (a + x.1) % 1024, none⟩) (plen a n x.1) (1024 - (a + x.1) % 1024), .pointer (some ⟨S, 0, none⟩), .int .u64 a, .slice p n cap, .int .i64 n, .int .i64 0, .int .i64 0, .bool false, undef, .pointer (some ⟨S, 0, none⟩), .int .u64 a, .slice p n cap, .int .i64 n, .func (.func 73) #[] #[.pointer (some ⟨W3.heap.size + 1 + 1, 0, none⟩), .pointer (some ⟨W3.heap.size + 1, 0, none⟩), .pointer (some ⟨W3.heap.size, 0, none⟩)], .slice (some ⟨(f ((a + x.1) / 1024)).getD 0, (a + x.1) % 1024, none⟩) (plen a n x.1) (1024 - (a + x.1) % 1024), undef, undef, undef, undef, undef], defers := [] }) ?assign ?body ?done ?stop
  case own =>
    rintro s A B row ⟨hl, hc⟩ hg hr
    have hb : ∀ r, row = some r → w.heap.size ≤ r ∧ ∀ cs t z, A.heap[r]? ≠ some (.cells cs t z) := by
      intro r e
      obtain ⟨h1, o, h2, h3⟩ := hr r e
      refine ⟨by omega, fun cs t z h5 => ?_⟩
      rw [h5] at h2
      cases h2
      cases h3
    have hk : ∀ (b : Nat) (cs : Array Value) (t : TypeId) (z : Nat × Nat), A.heap[b]? = some (Obj.cells cs t z) → B.heap[b]? = A.heap[b]? := fun b cs t z hb' => hg.block b (lt_of_block hb') (fun e => (hb b e.symm).2 cs t z hb')
    exact ⟨hl.keep hg hb, (hk _ _ _ _ hc.s).trans hc.s, (hk _ _ _ _ hc.a).trans hc.a, (hk _ _ _ _ hc.n).trans hc.n⟩
  case assign =>
    intro l x W K hK
    clear hsz3
    unfold encP
    gi_wp2
    exact hK
  case stop =>
    intro D c pre W _ _ h
    exact h.elim
  case body =>
    rintro l pre x W ⟨hl, hc⟩ hlt
    obtain ⟨g, hg⟩ := HP.out x.1 x.2
    obtain ⟨pd, hbox, W1, pd', hcp, hsl, hc1, hf1, hsd, hkp, hko⟩ := hl.piece (stF_le m a n ys pre) hcap HD.out hg x.2 hc
    have HR := hid (And.intro hsd (And.intro hkp (And.intro hko (hc.kp hkp))))
    have c0 : W.cell? ⟨DB, 0, none⟩ = some (.slice pd (n - (stF m a n ys pre).1) (cap - (stF m a n ys pre).1)) := by simp [World.cell?, hbox]
    rw [hg]
    simp only [Option.getD_some]
    have ES := hid (stF_snoc m a n ys pre x)
    clear hl hc hbox hsd hkp hko S4 HC hsz3 h4
    gi_wp2
    gi_region
    all_goals
      gi_wp2
      refine ⟨HR.out.2.2.1, HR.out.2.1, ?_, HR.out.2.2.2⟩
      rw [ES.out]
      exact HR.out.1
  case done =>
    rintro D xs W hD hgot ⟨hl, hc⟩ hK
    rw [Got.stF HD.out.1 FU.out SO.out hgot] at hl
    have g3 := grownBy_putObj' W D (.deferred none)
    have hl3 := hl.keep g3 (fun r e => by cases e; exact ⟨by omega, fun cs t z h5 => by rw [hK] at h5; cases h5⟩)
    have HF := hid hl3
    clear hl hc hl3 g3 S4 HC hsz3 h4
    gi_wp2
    refine ⟨by simp, .inl ⟨_, _, rfl, run_takeDeferred hK, ?_⟩⟩
    refine ⟨.int .i64 0, ?_, rfl, HF.out.im, HF.out.pg, HF.out.fr⟩
    simp [results, Try.f42, go_sem]
end Go.Proofs.Ytiddopgeomojbaa
