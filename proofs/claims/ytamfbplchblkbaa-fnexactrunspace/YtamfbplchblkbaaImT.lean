import Derived.Test.YtamfbplchblkbaaImS
import Derived.BigRegionIn
namespace Go.Proofs.Ytamfbplchblkbaa
open Go.RowKit Go.Shelf
set_option linter.unusedVariables false

attribute [local go_sem] Oper.semAt_some

/-- the data that a store reads lies apart from the space -/
def Da (S M : Nat) (f : Nat → Option Nat) (w : World) (p : Option Addr) (n : Nat) (ys : List Int) : Prop :=
  ys.length = n ∧ ∀ i, i < n → ∃ x, p = some x ∧ w.cell? (x.add i) = some (.int .u8 (ys[i]?.getD 0)) ∧ (x.add i).block < w.heap.size ∧ (x.add i).block ≠ S ∧ (x.add i).block ≠ M ∧ ∀ k, f k ≠ some (x.add i).block
theorem Da.cell {S M : Nat} {f f' : Nat → Option Nat} {w W : World} {p : Option Addr} {n : Nat} {ys : List Int} (h : Da S M f w p n ys) (hf : Fr S M f f' w W) : ∀ i, i < n → ∃ x, p = some x ∧ W.cell? (x.add i) = some (.int .u8 (ys[i]?.getD 0)) := by
  intro i hi
  obtain ⟨x, e, c, l, h1, h2, h3⟩ := h.2 i hi
  refine ⟨x, e, ?_⟩
  unfold World.cell? at c ⊢
  rw [hf.block _ l h1 h2 h3]
  exact c

/-- what holds while a store goes on: DB the box of the data, c of it spent -/
structure Sd (S M : Nat) (st nn bud : Int) (f : Nat → Option Nat) (mm : Nat → Option (Bool × List Int)) (w : World) (DB : Nat) (p : Option Addr) (n cap c : Nat) (W : World) : Prop where
  im : Im S M st nn bud f W
  pg : Pg f mm W
  fr : Fr S M f f w W
  box : ∃ pd, W.heap[DB]? = some (.cells #[.slice pd (n - c) (cap - c)] 22 (0, 0)) ∧ (c < n → ∃ x, p = some x ∧ pd = some (x.add c))
  mlt : M < w.heap.size
  dge : w.heap.size ≤ DB

theorem copy_run22 (w : World) (dp sp : Option Addr) (dLen dCap sLen sCap g off : Nat) (cur : List Value) (t : TypeId) (hg : w.heap[g]? = some (.cells cur.toArray t (0, 0))) (cs : List Value) (hn : cs.length = Nat.min sLen dLen)
    (hpos : 0 < cs.length → dp = some ⟨g, off, none⟩ ∧ ∃ ad, sp = some ad ∧ ∀ j v, cs[j]? = some v → w.cell? (ad.add j) = some v)
    (hfit : off + cs.length ≤ cur.length) (h1 : ∀ v ∈ cs, v.oneCell' = true) :
    ∃ w', (Builtin.copy_ #[22, 22] 3 #[.slice dp dLen dCap, .slice sp sLen sCap]).run Try.prog w = .ok (.int .i64 (cs.length : Nat)) w' ∧ w'.heap[g]? = some (.cells (splice cur off cs).toArray t (0, 0)) ∧ w.grownBy w' (some g) := by
  by_cases h0 : cs.length = 0
  · obtain rfl : cs = [] := List.eq_nil_of_length_eq_zero h0
    refine ⟨w, run_copy_none (P := Try.prog) w 22 22 3 5 dp sp dLen dCap sLen sCap Try.underlying22 (by kernel_rfl) (by simpa using hn.symm), by simpa [splice] using hg, grown_refl w g⟩
  · obtain ⟨rfl, ad, rfl, hsrc⟩ := hpos (by omega)
    refine ⟨_, run_copy_row (P := Try.prog) w 22 22 3 5 g off dLen dCap ad sLen sCap cur.toArray t cs Try.underlying22 (by kernel_rfl) hg hn hsrc (by simpa using hfit) h1, ?_, grown_setRow w g _⟩
    simpa [splice] using setRow_heap w g _ _ t _ hg
theorem sliced22 (pd : Option Addr) (l len cap : Nat) (hl : l ≤ len) (hc : len ≤ cap) : ∃ dp, (∀ w : World, (Instr.slice 22 (.slice pd len cap) (some (.int .i64 (l : Nat))) none none).run Try.prog w = .ok (.slice dp (len - l) (cap - l)) w) ∧ (l < len → dp = pd.map fun x => x.add l) := by
  have he : Try.prog.elem 22 = 5 := by kernel_rfl
  have h := fun w => run_slice_l (P := Try.prog) w 22 pd len cap (by rw [he]; exact Try.underlying22) .i64 (l : Int) (by omega) (by omega)
  have hs : ∀ w : World, (sizeOf (Try.prog.elem 22)).run Try.prog w = .ok 1 w := fun w => by kernel_rfl
  refine ⟨if cap = l then pd else pd.map fun x => x.add l, fun w => ?_, fun h => ?_⟩
  · rw [h w, hs]
    simp [sliced, Result.andThen]
  · rw [if_neg (by omega)]
theorem Pg.lay {f : Nat → Option Nat} {mm : Nat → Option (Bool × List Int)} {W W' : World} (h : Pg f mm W) {k g : Nat} (hf : f k = some g) {l : Bool} {xs : List Int} (hx : xs.length = 1024) (hb : W'.heap[g]? = some (.cells (pageC l xs) 85 (0, 0))) (hg : W.grownBy W' (some g)) : Pg f (updM mm k (some (l, xs))) W' := by
  refine ⟨?_, h.inj⟩
  intro j
  by_cases e : j = k
  · subst e
    exact .inr ⟨g, l, xs, hf, updM_same _ _ _, hx, hb⟩
  · rw [updM_other mm k j _ e]
    rcases h.at' j with h1 | ⟨b2, l2, xs2, h1, h2, h3, h4⟩
    · exact .inl h1
    · refine .inr ⟨b2, l2, xs2, h1, h2, h3, ?_⟩
      rw [hg.block b2 (lt_of_block h4) (fun e2 => by cases e2; exact e (h.inj j k _ h1 hf))]
      exact h4
theorem Im.grownAt {S M : Nat} {st n bud : Int} {f : Nat → Option Nat} {W W' : World} (h : Im S M st n bud f W) {g : Nat} (hg : W.grownBy W' (some g)) (h1 : g ≠ S) (h2 : g ≠ M) : Im S M st n bud f W' := by
  obtain ⟨D, ⟨es, clock, hb, r1⟩, r⟩ := h.map
  refine ⟨by rw [hg.block S (lt_of_block h.box) (by simpa using h1.symm)]; exact h.box, D, ⟨es, clock, ?_, r1⟩, r⟩
  have hlt : M < W.heap.size := by
    by_cases hl : M < W.heap.size
    · exact hl
    · rw [Array.getElem?_eq_none (by omega)] at hb; cases hb
  rw [hg.block M hlt (by simpa using h2.symm)]; exact hb
theorem Fr.grownAt {S M : Nat} {f : Nat → Option Nat} {w W W' : World} (h : Fr S M f f w W) {g : Nat} (hg : W.grownBy W' (some g)) (hk : (∃ k, f k = some g) ∨ w.heap.size ≤ g) : Fr S M f f w W' :=
  ⟨hg.os.trans h.os, hg.tape.trans h.tape, hg.output.trans h.output, Nat.le_trans h.size hg.size, fun j h0 h1 h2 h3 => by
    rw [hg.block j (Nat.lt_of_lt_of_le h0 h.size) (fun e => by
      cases e
      rcases hk with ⟨k, hk⟩ | hk
      · exact h3 k hk
      · omega)]
    exact h.block j h0 h1 h2 h3, h.made⟩
end Go.Proofs.Ytamfbplchblkbaa
