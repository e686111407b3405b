import Derived.Test.YtamfbplchblkbaaImZ
import Derived.Test.YtamfbplchblkbaaSpU
namespace Go.Proofs.Ytamfbplchblkbaa
open Go.RowKit Go.Shelf Go.Maps
set_option linter.unusedVariables false

theorem below_none {W W' : World} (h : Below W.heap.size W W') : W.grownBy W' none := ⟨h.os, h.tape, h.output, h.size, fun k hk _ => h.block k hk⟩
theorem none_below {W W' : World} (h : W.grownBy W' none) : Below W.heap.size W W' := ⟨h.os, h.tape, h.output, h.size, fun k hk => h.block k hk (by simp)⟩
theorem below_trans {a : Nat} {w W W' : World} (h : Below a w W) (k : Below W.heap.size W W') (ha : a ≤ W.heap.size) : Below a w W' :=
  ⟨k.os.trans h.os, k.tape.trans h.tape, k.output.trans h.output, Nat.le_trans h.size k.size, fun g hg => (k.block g (by omega)).trans (h.block g hg)⟩
/-- impl's run under way -/
structure Rm (w : World) (S M nn : Nat) (bud : Int) (f : Nat → Option Nat) (m : Nat → Option (Bool × List Int)) (Rb : Nat) (l : List An) (v : Value) (W : World) : Prop where
  im : Im S M 0 nn bud f W
  pg : Pg f m W
  own : W.ownsRow w.heap.size 36 2 v l.length (flatA l)
  rows : ∀ x ∈ l, W.ownsRow w.heap.size 5 1 x.2 x.1.2.length (Ns .u8 x.1.2)
  apart : l.Pairwise fun x y => ∀ g, x.2.ownBlock = some g → y.2.ownBlock ≠ some g
  res : W.heap[Rb]? = some (.cells #[.bool false, .slice none 0 0, .int .i64 0, .slice none 0 0] 29 (0, 0))
  bel : Below w.heap.size w W
  hS : w.heap.size ≤ S
  hM : w.heap.size ≤ M
  hf : ∀ k g, f k = some g → w.heap.size ≤ g
  hR : w.heap.size ≤ Rb
theorem Rm.below {w W W' : World} {S M nn Rb : Nat} {bud : Int} {f : Nat → Option Nat} {m : Nat → Option (Bool × List Int)} {l : List An} {v : Value} (h : Rm w S M nn bud f m Rb l v W) (hb : Below W.heap.size W W') : Rm w S M nn bud f m Rb l v W' := by
  have hg := below_none hb
  exact ⟨h.im.grown hg, h.pg.grown hg, own_keep h.own (fun g c _ hc => hb.block g (lt_blk hc)), fun x hx => own_keep (h.rows x hx) (fun g c _ hc => hb.block g (lt_blk hc)), h.apart, (hb.block _ (lt_blk h.res)).trans h.res, below_trans h.bel hb h.bel.size, h.hS, h.hM, h.hf, h.hR⟩
theorem own_fr {S M : Nat} {st n bud : Int} {f f' : Nat → Option Nat} {m : Nat → Option (Bool × List Int)} {W W' : World} (hi : Im S M st n bud f W) (hp : Pg f m W) (hf : Fr S M f f' W W') {base : Nat} {e : TypeId} {size : Nat} {v : Value} {k : Nat} {xs : List Value} (h : W.ownsRow base e size v k xs) (h1 : e ≠ 77) (h2 : e ≠ 85) : W'.ownsRow base e size v k xs :=
  own_keep h (fun g c _ hc => by
    obtain ⟨a1, a2, a3⟩ := hi.apartT hp hc h1 h2
    exact hf.block g (lt_blk hc) a1 a2 a3)
/-- a step -/
theorem Rm.did {w W W' : World} {S M nn Rb : Nat} {bud : Int} {f : Nat → Option Nat} {m m' : Nat → Option (Bool × List Int)} {l : List An} {v u : Value} {data : List Int} (h : Rm w S M nn bud f m Rb l v W) (hi : Ims S M nn bud f m' W W') (ho : W'.ownsRow W.heap.size 5 1 u data.length (Ns .u8 data)) :
    ∃ f', Rm w S M nn bud f' m' Rb l v W' ∧ W'.ownsRow w.heap.size 5 1 u data.length (Ns .u8 data) ∧ ∀ y ∈ l, ∀ g, y.2.ownBlock = some g → u.ownBlock ≠ some g := by
  obtain ⟨f', i', p', fr⟩ := hi
  refine ⟨f', ⟨i', p', own_fr h.im h.pg fr h.own (by decide) (by decide), fun x hx => own_fr h.im h.pg fr (h.rows x hx) (by decide) (by decide), h.apart, ?_, ?_, h.hS, h.hM, ?_, h.hR⟩, own_mono ho h.bel.size, fun y hy g hg e => ?_⟩
  · obtain ⟨a1, a2, a3⟩ := h.im.apartT h.pg h.res (by decide) (by decide)
    exact (fr.block _ (lt_blk h.res) a1 a2 a3).trans h.res
  · refine ⟨fr.os.trans h.bel.os, fr.tape.trans h.bel.tape, fr.output.trans h.bel.output, Nat.le_trans h.bel.size fr.size, fun g hg => ?_⟩
    rw [fr.block g (Nat.lt_of_lt_of_le hg h.bel.size) (by have := h.hS; omega) (by have := h.hM; omega) (fun k e => by have := h.hf k g e; omega)]
    exact h.bel.block g hg
  · intro k g e
    rcases fr.made k g e with ⟨j, hj⟩ | hj
    · exact h.hf j g hj
    · have := h.bel.size; omega
  · have h1 := (ho.lt g e).1
    have h2 := ((h.rows y hy).lt g hg).2
    omega
/-- an answer is appended -/
theorem Rm.next {w W w9 : World} {S M nn Rb : Nat} {bud : Int} {f : Nat → Option Nat} {m : Nat → Option (Bool × List Int)} {l : List An} {v v' : Value} (h : Rm w S M nn bud f m Rb l v W) (x : An)
    (ho : W.ownsRow w.heap.size 5 1 x.2 x.1.2.length (Ns .u8 x.1.2)) (ha : ∀ y ∈ l, ∀ g, y.2.ownBlock = some g → x.2.ownBlock ≠ some g)
    (h9 : w9.ownsRow w.heap.size 36 2 v' (l.length + 1) (flatA l ++ [.int .i64 x.1.1, x.2])) (hg : W.grownBy w9 v.ownBlock) : Rm w S M nn bud f m Rb (l ++ [x]) v' w9 := by
  have hne : ∀ (g : Nat) (c : Array Value) (t : TypeId) (fr : Nat × Nat), W.heap[g]? = some (.cells c t fr) → t ≠ 36 → some g ≠ v.ownBlock := fun g c t fr hc ht e => by
    obtain ⟨c', hc'⟩ := own_type h.own e.symm
    rw [hc] at hc'
    simp at hc'
    exact ht hc'.2.1
  have k5 : ∀ {u : Value} {k : Nat} {xs : List Value}, W.ownsRow w.heap.size 5 1 u k xs → w9.ownsRow w.heap.size 5 1 u k xs := fun hu => own_keep hu (fun g c _ hc => hg.block g (lt_blk hc) (hne _ _ _ _ hc (by decide)))
  have him : Im S M 0 nn bud f w9 := by
    cases hv : v.ownBlock with
    | none => rw [hv] at hg; exact h.im.grown hg
    | some r =>
      rw [hv] at hg
      obtain ⟨c, hc⟩ := own_type h.own hv
      obtain ⟨a1, a2, a3⟩ := h.im.apartT h.pg hc (by decide) (by decide)
      exact h.im.grownAt hg a1 a2
  refine ⟨him, h.pg.other (fun k b hb => ?_), by rw [flatA_snoc]; simpa using h9, fun y hy => ?_, ?_, (hg.block _ (lt_blk h.res) (hne _ _ _ _ h.res (by decide))).trans h.res, h.bel.grown hg h.bel.size (fun r hr => (h.own.lt r hr).1), h.hS, h.hM, h.hf, h.hR⟩
  · obtain ⟨l', xs, _, _, hc⟩ := h.pg.cell hb
    exact hg.block b (lt_blk hc) (hne _ _ _ _ hc (by decide))
  · rcases List.mem_append.1 hy with h1 | h1
    · exact k5 (h.rows y h1)
    · obtain rfl : y = x := by simpa using h1
      exact k5 ho
  · rw [List.pairwise_append]
    refine ⟨h.apart, by simp, fun y hy z hz => ?_⟩
    obtain rfl : z = x := by simpa using hz
    exact ha y hy
/-- the bytes of an operation -/
theorem Rm.da {w W : World} {G S M nn Rb : Nat} {bud : Int} {f : Nat → Option Nat} {m : Nat → Option (Bool × List Int)} {l : List An} {v : Value} {ops : List Op9} (hO : Oi w G ops) (h : Rm w S M nn bud f m Rb l v W) {o : Op9} (ho : o ∈ ops) : Da S M f W o.d o.dl o.ys := by
  obtain ⟨h1, h2, h3⟩ := hO.dat o ho
  refine ⟨h2, fun i hi => ?_⟩
  obtain ⟨x, e1, e2, e3⟩ := h3 i hi
  refine ⟨x, e1, ?_, Nat.lt_of_lt_of_le e3 h.bel.size, by have := h.hS; omega, by have := h.hM; omega, fun k e => by have := h.hf k _ e; omega⟩
  unfold World.cell? at e2 ⊢
  rw [h.bel.block _ e3]
  exact e2
/-- the report -/
theorem Rm.rep {w W : World} {S M nn Rb : Nat} {bud : Int} {f : Nat → Option Nat} {m : Nat → Option (Bool × List Int)} {l : List An} {v vo : Value} (h : Rm w S M nn bud f m Rb l v W) (cm : Int) (os : List Int) (ho : W.ownsRow w.heap.size 3 1 vo os.length (Ns .i64 os)) (cs : Array Value) :
    Rep w (l.map Prod.fst) cm os (.agg #[.bool true, v, .int .i64 cm, vo]) (W.setRow Rb cs) := by
  have hg := grown_setRow W Rb cs
  refine ⟨l, v, vo, rfl, rfl, h.own.kept hg (.inr (own_ne h.own h.res (by decide))), fun x hx => (h.rows x hx).kept hg (.inr (own_ne (h.rows x hx) h.res (by decide))), h.apart, ho.kept hg (.inr (own_ne ho h.res (by decide))), h.bel.grown hg h.bel.size (fun r hr => by have := h.hR; simp at hr; omega)⟩
/-- behind told -/
theorem Rm.tell {w W W' : World} {S M nn Rb : Nat} {bud : Int} {f : Nat → Option Nat} {m : Nat → Option (Bool × List Int)} {l : List An} {v : Value} (h : Rm w S M nn bud f m Rb l v W) (fr : Fr S M f f W W') :
    W'.ownsRow w.heap.size 36 2 v l.length (flatA l) ∧ (∀ x ∈ l, W'.ownsRow w.heap.size 5 1 x.2 x.1.2.length (Ns .u8 x.1.2)) ∧ W'.heap[Rb]? = some (.cells #[.bool false, .slice none 0 0, .int .i64 0, .slice none 0 0] 29 (0, 0)) ∧ Below w.heap.size w W' := by
  refine ⟨own_fr h.im h.pg fr h.own (by decide) (by decide), fun x hx => own_fr h.im h.pg fr (h.rows x hx) (by decide) (by decide), ?_, ?_⟩
  · obtain ⟨a1, a2, a3⟩ := h.im.apartT h.pg h.res (by decide) (by decide)
    exact (fr.block _ (lt_blk h.res) a1 a2 a3).trans h.res
  · refine ⟨fr.os.trans h.bel.os, fr.tape.trans h.bel.tape, fr.output.trans h.bel.output, Nat.le_trans h.bel.size fr.size, fun g hg => ?_⟩
    rw [fr.block g (Nat.lt_of_lt_of_le hg h.bel.size) (by have := h.hS; omega) (by have := h.hM; omega) (fun k e => by have := h.hf k g e; omega)]
    exact h.bel.block g hg
theorem runM_out (nn : Nat) (bud : Int) (ops : List Op9) : ∀ k j, nn ≤ j → (runM nn bud ops k).1 j = none
  | 0, _, _ => rfl
  | k + 1, j, hj => by
    simp only [runM]
    cases ops[k]? with
    | none => exact runM_out nn bud ops k j hj
    | some o => exact stepM_out nn bud _ _ _ _ _ _ _ (fun i hi => runM_out nn bud ops k i hi) j hj
theorem held_cnt {f : Nat → Option Nat} {m : Nat → Option (Bool × List Int)} {W : World} {nn : Nat} (hp : Pg f m W) (h1 : nn ≤ 4096) (hout : ∀ k, nn ≤ k → m k = none) : heldN f 0 4096 = cntM m nn := by
  rw [cntM_held hp.none_iff, show 4096 = nn + (4096 - nn) by omega, cntM_out hout]
theorem told_opens {m : Nat → Option (Bool × List Int)} {nn : Nat} (h1 : nn ≤ 4096) (hout : ∀ k, nn ≤ k → m k = none) {os : List Int} (h : Met m (fun _ => false) os) : (os.mergeSort fun x y => decide (x ≤ y)) = opensM m nn := by
  refine sort_opens m nn os h.1 (fun z => ?_)
  rw [h.2 z]
  constructor
  · rintro ⟨k, e, h2, h3, _⟩
    refine ⟨k, e, ?_, h3⟩
    by_cases hk : k < nn
    · exact hk
    · rw [hout k (by omega)] at h3; cases h3
  · rintro ⟨k, e, h2, h3⟩
    exact ⟨k, e, by omega, h3, rfl⟩

set_option maxHeartbeats 1000000 in
/-- a run with arguments that are not good -/
theorem im_run_no (nn bud : Int) (n cap : Nat) (d : Option Addr) (w : World) (h : nn < 0 ∨ 4096 < nn ∨ bud < 0 ∨ 400 < n) :
    Calls Try.prog 6 #[.int .i64 nn, .int .i64 bud, .slice d n cap] w fun e w' => e = .returned (.agg #[.bool false, .slice none 0 0, .int .i64 0, .slice none 0 0]) ∧ Below w.heap.size w w' := by
  have hb : Below w.heap.size w (w.alloc (.cells #[.bool false, .slice none 0 0, .int .i64 0, .slice none 0 0] 29)) := (Below.refl _ _).alloc (Nat.le_refl _) _
  have hL := al_last w (.cells #[.bool false, .slice none 0 0, .int .i64 0, .slice none 0 0] 29)
  have HB := hid hb
  have HL := hid hL
  clear hb hL
  have ht : (decide (nn < 0) || decide (4096 < nn) || decide (bud < 0) || decide (400 < (n : Int))) = true := by
    simp only [Bool.or_eq_true, decide_eq_true_eq]; omega
  clear h
  go_enter Try.func6, Try.ntmps6
  go_wp2_with fail
  all_goals (refine bodyPost_ret (results_cell_row (by rfl) _ _ w.heap.size 29 _ (0, 0) _ (by rfl) HL.out Try.underlying29 rfl (by kernel_rfl)) (by rfl) ?_; exact ⟨rfl, HB.out⟩)
end Go.Proofs.Ytamfbplchblkbaa
