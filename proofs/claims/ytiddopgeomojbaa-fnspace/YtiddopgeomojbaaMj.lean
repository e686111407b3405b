import Derived.Test.YtiddopgeomojbaaMa
import Derived.Shelf.Sort.Plain
import Derived.Shelf.Lay
import Derived.Test.YtiddopgeomojbaaMi
import Derived.Sort.OwnSortedInts
import Derived.Shelf.Slices.In.SortNone
import Derived.Test.YtiddopgeomojbaaMf
import Derived.Deep.MidRow
import Derived.Laws.MakeOwn
namespace Go.Proofs
shelf_lay Lays.n189 Nm 189 at Try as Try.lays189
end Go.Proofs
#print axioms Go.Proofs.Try.lays189

namespace Go.Proofs.Ytiddopgeomojbaa
open Go.ChangeShapes Go.WideShapes Go.ChangeAt Go.RowKit Go.Maps Go.Shelf
set_option linter.unusedVariables false

theorem sorts : Sorts := by
  intro v os W base h hle
  rcases h.2 with ⟨rfl, h0⟩ | ⟨g, cap, cur, rfl, hg, hb, h1, h2, h3, h4⟩
  · have e0 : os = [] := List.eq_nil_of_length_eq_zero (by simpa using h0)
    subst e0
    refine (Any.slices_Sort_int_none Try.lays189 none 0 W).mono ?_
    rintro e w' ⟨rfl, rfl⟩
    exact ⟨rfl, by simpa [Ns] using h, ⟨rfl, rfl, rfl, Nat.le_refl _, fun _ _ _ => rfl⟩⟩
  · have ht : cur.toList.take os.length = os.map (Value.int .i64) := by simpa [Ns] using h4
    refine (Any.slices_Sort_int Try.lays189 g 0 cap os W (holds_of_blockI hb ht) (lt_blk hb) (by omega)).mono ?_
    rintro e w' ⟨rfl, n, os', rfl⟩
    exact ⟨rfl, ownsRow_sortedI (List.length_mergeSort os) hg hb h1 h2 h3, grownBy_sortedI _⟩
end Go.Proofs.Ytiddopgeomojbaa
#print axioms Go.Proofs.Ytiddopgeomojbaa.sorts

namespace Go.Proofs.Ytiddopgeomojbaa
open Go.RowKit Go.Shelf Go.Maps
set_option linter.unusedVariables false

theorem below_none {W W' : World} (h : Below W.heap.size W W') : W.grownBy W' none := ⟨h.os, h.tape, h.output, h.size, fun k hk _ => h.block k hk⟩
theorem none_below {W W' : World} (h : W.grownBy W' none) : Below W.heap.size W W' := ⟨h.os, h.tape, h.output, h.size, fun k hk => h.block k hk (by simp)⟩
theorem below_trans {a : Nat} {w W W' : World} (h : Below a w W) (k : Below W.heap.size W W') (ha : a ≤ W.heap.size) : Below a w W' :=
  ⟨k.os.trans h.os, k.tape.trans h.tape, k.output.trans h.output, Nat.le_trans h.size k.size, fun g hg => (k.block g (by omega)).trans (h.block g hg)⟩
/-- impl's run under way -/
structure Rm (w : World) (S M nn : Nat) (bud : Int) (f : Nat → Option Nat) (m : Nat → Option (Bool × List Int)) (Rb : Nat) (l : List An) (v : Value) (W : World) : Prop where
  im : Im S M 0 nn bud f W
  pg : Pg f m W
  own : W.ownsRow w.heap.size 36 2 v l.length (flatA l)
  rows : ∀ x ∈ l, W.ownsRow w.heap.size 5 1 x.2 x.1.2.length (Ns .u8 x.1.2)
  apart : l.Pairwise fun x y => ∀ g, x.2.ownBlock = some g → y.2.ownBlock ≠ some g
  res : W.heap[Rb]? = some (.cells #[.bool false, .slice none 0 0, .int .i64 0, .slice none 0 0] 29 (0, 0))
  bel : Below w.heap.size w W
  hS : w.heap.size ≤ S
  hM : w.heap.size ≤ M
  hf : ∀ k g, f k = some g → w.heap.size ≤ g
  hR : w.heap.size ≤ Rb
theorem Rm.below {w W W' : World} {S M nn Rb : Nat} {bud : Int} {f : Nat → Option Nat} {m : Nat → Option (Bool × List Int)} {l : List An} {v : Value} (h : Rm w S M nn bud f m Rb l v W) (hb : Below W.heap.size W W') : Rm w S M nn bud f m Rb l v W' := by
  have hg := below_none hb
  exact ⟨h.im.grown hg, h.pg.grown hg, own_keep h.own (fun g c _ hc => hb.block g (lt_blk hc)), fun x hx => own_keep (h.rows x hx) (fun g c _ hc => hb.block g (lt_blk hc)), h.apart, (hb.block _ (lt_blk h.res)).trans h.res, below_trans h.bel hb h.bel.size, h.hS, h.hM, h.hf, h.hR⟩
theorem own_fr {S M : Nat} {st n bud : Int} {f f' : Nat → Option Nat} {m : Nat → Option (Bool × List Int)} {W W' : World} (hi : Im S M st n bud f W) (hp : Pg f m W) (hf : Fr S M f f' W W') {base : Nat} {e : TypeId} {size : Nat} {v : Value} {k : Nat} {xs : List Value} (h : W.ownsRow base e size v k xs) (h1 : e ≠ 77) (h2 : e ≠ 85) : W'.ownsRow base e size v k xs :=
  own_keep h (fun g c _ hc => by
    obtain ⟨a1, a2, a3⟩ := hi.apartT hp hc h1 h2
    exact hf.block g (lt_blk hc) a1 a2 a3)
/-- a step -/
theorem Rm.did {w W W' : World} {S M nn Rb : Nat} {bud : Int} {f : Nat → Option Nat} {m m' : Nat → Option (Bool × List Int)} {l : List An} {v u : Value} {data : List Int} (h : Rm w S M nn bud f m Rb l v W) (hi : Ims S M nn bud f m' W W') (ho : W'.ownsRow W.heap.size 5 1 u data.length (Ns .u8 data)) :
    ∃ f', Rm w S M nn bud f' m' Rb l v W' ∧ W'.ownsRow w.heap.size 5 1 u data.length (Ns .u8 data) ∧ ∀ y ∈ l, ∀ g, y.2.ownBlock = some g → u.ownBlock ≠ some g := by
  obtain ⟨f', i', p', fr⟩ := hi
  refine ⟨f', ⟨i', p', own_fr h.im h.pg fr h.own (by decide) (by decide), fun x hx => own_fr h.im h.pg fr (h.rows x hx) (by decide) (by decide), h.apart, ?_, ?_, h.hS, h.hM, ?_, h.hR⟩, own_mono ho h.bel.size, fun y hy g hg e => ?_⟩
  · obtain ⟨a1, a2, a3⟩ := h.im.apartT h.pg h.res (by decide) (by decide)
    exact (fr.block _ (lt_blk h.res) a1 a2 a3).trans h.res
  · refine ⟨fr.os.trans h.bel.os, fr.tape.trans h.bel.tape, fr.output.trans h.bel.output, Nat.le_trans h.bel.size fr.size, fun g hg => ?_⟩
    rw [fr.block g (Nat.lt_of_lt_of_le hg h.bel.size) (by have := h.hS; omega) (by have := h.hM; omega) (fun k e => by have := h.hf k g e; omega)]
    exact h.bel.block g hg
  · intro k g e
    rcases fr.made k g e with ⟨j, hj⟩ | hj
    · exact h.hf j g hj
    · have := h.bel.size; omega
  · have h1 := (ho.lt g e).1
    have h2 := ((h.rows y hy).lt g hg).2
    omega
/-- an answer is appended -/
theorem Rm.next {w W w9 : World} {S M nn Rb : Nat} {bud : Int} {f : Nat → Option Nat} {m : Nat → Option (Bool × List Int)} {l : List An} {v v' : Value} (h : Rm w S M nn bud f m Rb l v W) (x : An)
    (ho : W.ownsRow w.heap.size 5 1 x.2 x.1.2.length (Ns .u8 x.1.2)) (ha : ∀ y ∈ l, ∀ g, y.2.ownBlock = some g → x.2.ownBlock ≠ some g)
    (h9 : w9.ownsRow w.heap.size 36 2 v' (l.length + 1) (flatA l ++ [.int .i64 x.1.1, x.2])) (hg : W.grownBy w9 v.ownBlock) : Rm w S M nn bud f m Rb (l ++ [x]) v' w9 := by
  have hne : ∀ (g : Nat) (c : Array Value) (t : TypeId) (fr : Nat × Nat), W.heap[g]? = some (.cells c t fr) → t ≠ 36 → some g ≠ v.ownBlock := fun g c t fr hc ht e => by
    obtain ⟨c', hc'⟩ := own_type h.own e.symm
    rw [hc] at hc'
    simp at hc'
    exact ht hc'.2.1
  have k5 : ∀ {u : Value} {k : Nat} {xs : List Value}, W.ownsRow w.heap.size 5 1 u k xs → w9.ownsRow w.heap.size 5 1 u k xs := fun hu => own_keep hu (fun g c _ hc => hg.block g (lt_blk hc) (hne _ _ _ _ hc (by decide)))
  have him : Im S M 0 nn bud f w9 := by
    cases hv : v.ownBlock with
    | none => rw [hv] at hg; exact h.im.grown hg
    | some r =>
      rw [hv] at hg
      obtain ⟨c, hc⟩ := own_type h.own hv
      obtain ⟨a1, a2, a3⟩ := h.im.apartT h.pg hc (by decide) (by decide)
      exact h.im.grownAt hg a1 a2
  refine ⟨him, h.pg.other (fun k b hb => ?_), by rw [flatA_snoc]; simpa using h9, fun y hy => ?_, ?_, (hg.block _ (lt_blk h.res) (hne _ _ _ _ h.res (by decide))).trans h.res, h.bel.grown hg h.bel.size (fun r hr => (h.own.lt r hr).1), h.hS, h.hM, h.hf, h.hR⟩
  · obtain ⟨l', xs, _, _, hc⟩ := h.pg.cell hb
    exact hg.block b (lt_blk hc) (hne _ _ _ _ hc (by decide))
  · rcases List.mem_append.1 hy with h1 | h1
    · exact k5 (h.rows y h1)
    · obtain rfl : y = x := by simpa using h1
      exact k5 ho
  · rw [List.pairwise_append]
    refine ⟨h.apart, by simp, fun y hy z hz => ?_⟩
    obtain rfl : z = x := by simpa using hz
    exact ha y hy
/-- the bytes of an operation -/
theorem Rm.da {w W : World} {G S M nn Rb : Nat} {bud : Int} {f : Nat → Option Nat} {m : Nat → Option (Bool × List Int)} {l : List An} {v : Value} {ops : List Op9} (hO : Oi w G ops) (h : Rm w S M nn bud f m Rb l v W) {o : Op9} (ho : o ∈ ops) : Da S M f W o.d o.dl o.ys := by
  obtain ⟨h1, h2, h3⟩ := hO.dat o ho
  refine ⟨h2, fun i hi => ?_⟩
  obtain ⟨x, e1, e2, e3⟩ := h3 i hi
  refine ⟨x, e1, ?_, Nat.lt_of_lt_of_le e3 h.bel.size, by have := h.hS; omega, by have := h.hM; omega, fun k e => by have := h.hf k _ e; omega⟩
  unfold World.cell? at e2 ⊢
  rw [h.bel.block _ e3]
  exact e2
/-- the report -/
theorem Rm.rep {w W : World} {S M nn Rb : Nat} {bud : Int} {f : Nat → Option Nat} {m : Nat → Option (Bool × List Int)} {l : List An} {v vo : Value} (h : Rm w S M nn bud f m Rb l v W) (cm : Int) (os : List Int) (ho : W.ownsRow w.heap.size 3 1 vo os.length (Ns .i64 os)) (cs : Array Value) :
    Rep w (l.map Prod.fst) cm os (.agg #[.bool true, v, .int .i64 cm, vo]) (W.setRow Rb cs) := by
  have hg := grown_setRow W Rb cs
  refine ⟨l, v, vo, rfl, rfl, h.own.kept hg (.inr (own_ne h.own h.res (by decide))), fun x hx => (h.rows x hx).kept hg (.inr (own_ne (h.rows x hx) h.res (by decide))), h.apart, ho.kept hg (.inr (own_ne ho h.res (by decide))), h.bel.grown hg h.bel.size (fun r hr => by have := h.hR; simp at hr; omega)⟩
/-- behind told -/
theorem Rm.tell {w W W' : World} {S M nn Rb : Nat} {bud : Int} {f : Nat → Option Nat} {m : Nat → Option (Bool × List Int)} {l : List An} {v : Value} (h : Rm w S M nn bud f m Rb l v W) (fr : Fr S M f f W W') :
    W'.ownsRow w.heap.size 36 2 v l.length (flatA l) ∧ (∀ x ∈ l, W'.ownsRow w.heap.size 5 1 x.2 x.1.2.length (Ns .u8 x.1.2)) ∧ W'.heap[Rb]? = some (.cells #[.bool false, .slice none 0 0, .int .i64 0, .slice none 0 0] 29 (0, 0)) ∧ Below w.heap.size w W' := by
  refine ⟨own_fr h.im h.pg fr h.own (by decide) (by decide), fun x hx => own_fr h.im h.pg fr (h.rows x hx) (by decide) (by decide), ?_, ?_⟩
  · obtain ⟨a1, a2, a3⟩ := h.im.apartT h.pg h.res (by decide) (by decide)
    exact (fr.block _ (lt_blk h.res) a1 a2 a3).trans h.res
  · refine ⟨fr.os.trans h.bel.os, fr.tape.trans h.bel.tape, fr.output.trans h.bel.output, Nat.le_trans h.bel.size fr.size, fun g hg => ?_⟩
    rw [fr.block g (Nat.lt_of_lt_of_le hg h.bel.size) (by have := h.hS; omega) (by have := h.hM; omega) (fun k e => by have := h.hf k g e; omega)]
    exact h.bel.block g hg
theorem runM_out (nn : Nat) (bud : Int) (ops : List Op9) : ∀ k j, nn ≤ j → (runM nn bud ops k).1 j = none
  | 0, _, _ => rfl
  | k + 1, j, hj => by
    simp only [runM]
    cases ops[k]? with
    | none => exact runM_out nn bud ops k j hj
    | some o => exact stepM_out nn bud _ _ _ _ _ _ _ (fun i hi => runM_out nn bud ops k i hi) j hj
theorem held_cnt {f : Nat → Option Nat} {m : Nat → Option (Bool × List Int)} {W : World} {nn : Nat} (hp : Pg f m W) (h1 : nn ≤ 4096) (hout : ∀ k, nn ≤ k → m k = none) : heldN f 0 4096 = cntM m nn := by
  rw [cntM_held hp.none_iff, show 4096 = nn + (4096 - nn) by omega, cntM_out hout]
theorem told_opens {m : Nat → Option (Bool × List Int)} {nn : Nat} (h1 : nn ≤ 4096) (hout : ∀ k, nn ≤ k → m k = none) {os : List Int} (h : Met m (fun _ => false) os) : (os.mergeSort fun x y => decide (x ≤ y)) = opensM m nn := by
  refine sort_opens m nn os h.1 (fun z => ?_)
  rw [h.2 z]
  constructor
  · rintro ⟨k, e, h2, h3, _⟩
    refine ⟨k, e, ?_, h3⟩
    by_cases hk : k < nn
    · exact hk
    · rw [hout k (by omega)] at h3; cases h3
  · rintro ⟨k, e, h2, h3⟩
    exact ⟨k, e, by omega, h3, rfl⟩

set_option maxHeartbeats 1000000 in
/-- a run with arguments that are not good -/
theorem im_run_no (nn bud : Int) (n cap : Nat) (d : Option Addr) (w : World) (h : nn < 0 ∨ 4096 < nn ∨ bud < 0 ∨ 400 < n) :
    Calls Try.prog 6 #[.int .i64 nn, .int .i64 bud, .slice d n cap] w fun e w' => e = .returned (.agg #[.bool false, .slice none 0 0, .int .i64 0, .slice none 0 0]) ∧ Below w.heap.size w w' := by
  have hb : Below w.heap.size w (w.alloc (.cells #[.bool false, .slice none 0 0, .int .i64 0, .slice none 0 0] 29)) := (Below.refl _ _).alloc (Nat.le_refl _) _
  have hL := al_last w (.cells #[.bool false, .slice none 0 0, .int .i64 0, .slice none 0 0] 29)
  have HB := hid hb
  have HL := hid hL
  clear hb hL
  have ht : (decide (nn < 0) || decide (4096 < nn) || decide (bud < 0) || decide (400 < (n : Int))) = true := by
    simp only [Bool.or_eq_true, decide_eq_true_eq]; omega
  clear h
  go_enter Try.func6, Try.ntmps6
  go_wp2_with fail
  all_goals (refine bodyPost_ret (results_cell_row (by rfl) _ _ w.heap.size 29 _ (0, 0) _ (by rfl) HL.out Try.underlying29 rfl (by kernel_rfl)) (by rfl) ?_; exact ⟨rfl, HB.out⟩)
end Go.Proofs.Ytiddopgeomojbaa

namespace Go.Proofs.Ytiddopgeomojbaa
open Go.RowKit Go.Shelf Go.Maps
set_option linter.unusedVariables false

set_option maxRecDepth 20000 in
set_option maxHeartbeats 2000000 in
theorem im_run (nn : Nat) (bud : Int) (G n cap : Nat) (d : Option Addr) (ops : List Op9) (w : World) (hn : ops.length = n) (hd : 0 < n → d = some ⟨G, 0, none⟩) (hO : Oi w G ops) (hop : ∀ o ∈ ops, o.p ≤ 9223372036854775807 ∧ o.dl ≤ o.dc) (h1 : nn ≤ 4096) (h2 : 0 ≤ bud) (h3 : n ≤ 400) :
    Calls Try.prog 6 #[.int .i64 nn, .int .i64 bud, .slice d n cap] w fun e w' => ∃ r, e = .returned r ∧ Rep w (runM nn bud ops n).2 (cntM (runM nn bud ops n).1 nn) (opensM (runM nn bud ops n).1 nn) r w' := by
  obtain ⟨MF, hMF⟩ : ∃ x, (runM nn bud ops n).1 = x := ⟨_, rfl⟩
  obtain ⟨RF, hRF⟩ : ∃ x, (runM nn bud ops n).2 = x := ⟨_, rfl⟩
  rw [hMF, hRF]
  obtain ⟨cm, hCF⟩ : ∃ x, (cntM MF nn : Int) = x := ⟨_, rfl⟩
  obtain ⟨os, hOF⟩ : ∃ x, opensM MF nn = x := ⟨_, rfl⟩
  rw [hCF, hOF]
  have HCF := hid hCF
  have HOF := hid hOF
  clear hCF hOF
  have HMF := hid hMF
  have HRF := hid hRF
  clear hMF hRF
  have HO := hid hO
  have HP := hid hop
  clear hO hop
  have b1 : decide ((nn : Int) < 0) = false := decide_eq_false (by omega)
  have b2 : decide (4096 < (nn : Int)) = false := decide_eq_false (by omega)
  have b3 : decide (bud < 0) = false := decide_eq_false (by omega)
  have b4 : decide (400 < (n : Int)) = false := decide_eq_false (by omega)
  obtain ⟨i0, hi0, hz0, hz1, hz2⟩ := info_parts Try.info36
  go_enter Try.func6, Try.ntmps6
  go_wp2_with fail
  refine (im_new (nn : Int) bud _).mono ?_
  rintro e w1 ⟨S, M, rfl, him, hb, hS, hM, hSM⟩
  have hmk : ∃ w2, (Instr.makeSlice 26 (.int .i64 0) (.int .i64 n)).run Try.prog w1 = .ok (.slice (some ⟨w1.heap.size, 0, none⟩) 0 n) w2 ∧ Rm w S M nn bud (fun _ => none) (fun _ => none) w.heap.size [] (.slice (some ⟨w1.heap.size, 0, none⟩) 0 n) w2 := by
    obtain ⟨w2, e1, e2, e3⟩ := run_make_own (P := Try.prog) w1 w.heap.size 26 36 i0 _ 2 Try.underlying26 hi0 hz0 hz1 .i64 .i64 n (by rw [hz2]; omega) (by unfold maxLen; omega) (by have := hb.size; rw [al_size] at this; omega)
    have hz := hb.size
    rw [al_size] at hz hb hS hM
    have b0 : Below w.heap.size w (w.alloc (.cells #[.bool false, .slice none 0 0, .int .i64 0, .slice none 0 0] 29)) := (Below.refl _ _).alloc (Nat.le_refl _) _
    have bb : Below w.heap.size w w1 := ⟨hb.os.trans b0.os, hb.tape.trans b0.tape, hb.output.trans b0.output, by omega, fun g hg => (hb.block g (by omega)).trans (b0.block g hg)⟩
    refine ⟨w2, e1, him.grown e3, ⟨fun k => .inl ⟨rfl, rfl⟩, (fun j k b h => by cases h)⟩, e2, by simp, List.Pairwise.nil, ?_, below_trans bb (none_below e3) (by omega), by omega, by omega, (fun k g h => by cases h), Nat.le_refl _⟩
    rw [e3.block _ (by omega) (by simp), hb.block _ (by omega)]
    exact al_last _ _
  obtain ⟨w2, hmk, hR⟩ := hmk
  have F0 := hid hR
  clear him hb hS hM hSM hR
  go_wp2_with fail
  generalize w1.heap.size = ga at F0 ⊢
  clear hmk b1 b2 b3 b4
  generalize w.heap.size = Rb at F0 ⊢
  go_loopw [8, 37] (fun v i wr => ∃ k : Nat, k ≤ n ∧ i = .int .i64 k ∧ Hid (∃ l f, Rm w S M nn bud f (runM nn bud ops k).1 Rb l v wr ∧ l.map Prod.fst = (runM nn bud ops k).2)) (fun _ i _ => n - (intOf i).toNat)
  case atStart => exact ⟨0, Nat.zero_le _, rfl, [], _, F0.out, rfl⟩
  case round =>
    obtain ⟨k, hk, rfl, HL⟩ := hrel
    obtain ⟨l, f, hl, hm⟩ := HL.out
    clear HL
    by_cases hlt : k < n
    · obtain ⟨o, ho⟩ : ∃ o, ops[k]? = some o := ⟨_, List.getElem?_eq_getElem (by omega)⟩
      have HD := hd (by omega)
      subst HD
      obtain ⟨d0, d1, d2, d3, d4, d5⟩ := HO.out.six hl.bel ho
      have hlen : l.length = k := by rw [← runM_len nn bud ops k (by omega), ← hm]; simp
      have bV : Below wr.heap.size wr (wr.alloc (.cells #[.int .i64 o.kd, .int .i64 o.p, .int .i64 o.c, .int .u64 o.a, .int .i64 o.n, .slice o.d o.dl o.dc] 34)) := (Below.refl _ _).alloc (Nat.le_refl _) _
      have HV := hid (hl.below bV)
      have OV := hid (al_last wr (.cells #[.int .i64 o.kd, .int .i64 o.p, .int .i64 o.c, .int .u64 o.a, .int .i64 o.n, .slice o.d o.dl o.dc] 34))
      have hmem : o ∈ ops := List.mem_of_getElem? ho
      have ha := (HO.out.dat o hmem).1
      have HE := hid (runM_succ nn bud ops k o ho)
      have HM := hid hm
      clear hl F0 bV hm
      have hpp := HP.out o hmem
      have HG := hid (im_do S M nn bud f (runM nn bud ops k).1 o.kd o.p o.c o.a o.n o.d o.dl o.dc o.ys _ HV.out.im HV.out.pg (runM_out nn bud ops k) h1 ha hpp.1 (HV.out.da HO.out hmem) hpp.2)
      obtain ⟨st, hst⟩ : ∃ st, stepM nn bud (runM nn bud ops k).1 o.kd o.p o.c o.a o.n o.ys = st := ⟨_, rfl⟩
      rw [hst] at HG HE
      obtain ⟨m', code, data⟩ := st
      simp only at HG HE
      unfold opV at HG
      clear hst ho hmem ha hpp
      go_wp2_with fail
      refine (HG.out).mono ?_
      rintro e w3 ⟨u, rfl, hu, hi⟩
      obtain ⟨f', h3', hou, hap⟩ := HV.out.did hi hu
      have R3 := hid h3'
      have A3 := hid (And.intro hou hap)
      have hu1 : u.oneCell' = true := by
        rcases hou.2 with ⟨rfl, _⟩ | ⟨g, cap, cur, rfl, _⟩ <;> rfl
      have hus : ∃ p l c, u = .slice p l c := by
        rcases hou.2 with ⟨rfl, _⟩ | ⟨g, cap, cur, rfl, _⟩ <;> exact ⟨_, _, _, rfl⟩
      have hvs : ∃ p l c, u8 = .slice p l c := by
        rcases h3'.own.2 with ⟨rfl, _⟩ | ⟨g, cap, cur, rfl, _⟩ <;> exact ⟨_, _, _, rfl⟩
      obtain ⟨up, ul, uc, rfl⟩ := hus
      obtain ⟨vp, vl, vc, rfl⟩ := hvs
      clear hi hu h3' hou hap HG HV OV d0 d1 d2 d3 d4 d5
      have R8 := hid (R3.out.below ((Below.refl _ _).alloc (Nat.le_refl _) (.cells #[.int .i64 code, .slice up ul uc] 36)))
      go_wp2_with (at_builtin; refine wpList_append_own _ rfl _ _ 26 rfl w.heap.size 36 i0 _ 2 32 Try.underlying26 hi0 hz0 hz1 hz2 rfl (by omega) _ _ _ rfl R8.out.own _ 1 1 [.int .i64 code, .slice up ul uc] rfl rfl ?hc ?h1c ?b1 ?b2 ?b3 ?_)
      case hc => exact two_new w3 _ _ 36
      case h1c => intro x hx; simp at hx; rcases hx with rfl | rfl <;> rfl
      case b1 => unfold maxLen; omega
      case b2 => omega
      case b3 => exact R8.out.bel.size
      intro v1 w9 ho9 hg9 _
      have R9 := hid (R8.out.next ((code, data), .slice up ul uc) (own_keep A3.out.1 (fun g c _ hc => al_old _ _ _ (lt_blk hc))) A3.out.2 (by rw [hlen]; exact ho9) hg9)
      clear ho9 hg9 R8 R3 A3
      go_wp2
      go_roundw
      case rel => exact ⟨k + 1, by omega, by go_num, _, _, by rw [HE.out]; exact R9.out, by rw [HE.out]; simp [HM.out]⟩
      case measure => simp [intOf]; omega
    · have hkn : k = n := by omega
      subst hkn
      clear F0
      have hout := runM_out nn bud ops k
      rw [HMF.out] at hl hout
      rw [HRF.out] at hm
      have HT := hid (told_in sorts S M nn bud f MF wr hl.im hl.pg)
      have H0 := hid hl
      have HC := hid (held_cnt hl.pg h1 hout)
      have HOU := hid hout
      clear hl hout
      go_wp2_with fail
      refine (HT.out).mono ?_
      rintro e w4 ⟨vo, os', rfl, ho4, hmet, fr⟩
      have hos := told_opens h1 HOU.out hmet
      rw [hos, HOF.out] at ho4
      have hle : os'.length = os.length := by rw [← HOF.out, ← hos]; simp
      rw [hle] at ho4
      rw [HC.out, HCF.out]
      obtain ⟨q1, q2, q3, q4⟩ := H0.out.tell fr
      obtain ⟨va, vl, vc, rfl⟩ : ∃ a b c, vo = .slice a b c := by rcases ho4.2 with ⟨rfl, _⟩ | ⟨g, cap, cur, rfl, _⟩ <;> exact ⟨_, _, _, rfl⟩
      obtain ⟨ua, ul, uc, rfl⟩ : ∃ a b c, u8 = .slice a b c := by rcases q1.2 with ⟨rfl, _⟩ | ⟨g, cap, cur, rfl, _⟩ <;> exact ⟨_, _, _, rfl⟩
      have Q3 := hid q3
      have hg := grown_setRow w4 Rb #[.bool true, .slice ua ul uc, .int .i64 cm, .slice va vl vc]
      have ho5 := own_mono ho4 H0.out.bel.size
      have RP := hid (show Rep w (l.map Prod.fst) cm os (.agg #[.bool true, .slice ua ul uc, .int .i64 cm, .slice va vl vc]) (w4.setRow Rb #[.bool true, .slice ua ul uc, .int .i64 cm, .slice va vl vc]) from
        ⟨l, _, _, rfl, rfl, q1.kept hg (.inr (own_ne q1 q3 (by decide))), fun x hx => (q2 x hx).kept hg (.inr (own_ne (q2 x hx) q3 (by decide))), H0.out.apart, ho5.kept hg (.inr (own_ne ho5 q3 (by decide))), q4.grown hg q4.size (fun r hr => by have := H0.out.hR; simp at hr; omega)⟩)
      clear q1 q2 q3 q4 ho4 ho5 hg fr hmet hos hle HT H0 HOU HC
      go_wp2_with (first | (refine wpList_store_row rfl 29 _ _ rfl _ _ rfl rfl 29 _ Q3.out (by kernel_rfl) rfl ?o1 ?_))
      case o1 => simp [Value.oneCell']
      refine bodyPost_ret (results_cell_row (by rfl) _ _ Rb 29 _ (0, 0) _ (by rfl) (setRow_at Q3.out _) Try.underlying29 rfl (by kernel_rfl)) (by rfl) ?_
      exact ⟨_, rfl, by have h9 := RP.out; rw [hm] at h9; exact h9⟩
end Go.Proofs.Ytiddopgeomojbaa
#print axioms Go.Proofs.Ytiddopgeomojbaa.im_run

namespace Go.Proofs.Ytiddopgeomojbaa
open Go.RowKit Go.Shelf Go.Maps
set_option linter.unusedVariables false

/-- a struct is loaded from anywhere -/
theorem run_loadVar_at (w : World) (p : Addr) (ty : TypeId) (cs : List Value) (d : TypeDesc) (hc : ∀ j v, cs[j]? = some v → w.cell? (p.add j) = some v)
    (hu : Try.prog.underlying ty = some d) (hd : d.isRow = true) (hi : (Try.prog.info? ty).map (·.size) = some cs.length) :
    (loadVar ty p).run Try.prog w = .ok (.agg cs.toArray) w := by
  have hl : (loadCells p cs.length).run Try.prog w = .ok cs.toArray w := run_loadCells_list (P := Try.prog) w p cs hc
  cases hq : Try.prog.info? ty with
  | none => simp [hq] at hi
  | some i =>
    have hs : i.size = cs.length := by simpa [hq] using hi
    have hagg : (isAgg ty).run Try.prog w = .ok true w := by
      unfold isAgg
      rw [Sem.run_bind, run_underlying hu w]
      cases d <;> simp_all
    simp [loadVar, Sem.run_bind, hagg, sizeOf, typeInfo, hq, hs, hl]
theorem wpList_load_at {ops : Array Oper} {rest : List Oper} {op : Oper} {a : Act} {w : World} {Q : Exit → Act → World → Prop} (hgd : op.guard = none) (ty : TypeId) (x : Operand) (ho : op.op = .load ty x)
    (p : Addr) (hx : a.eval x = .pointer (some p)) (cs : List Value) (d : TypeDesc) (hc : ∀ j v, cs[j]? = some v → w.cell? (p.add j) = some v)
    (hu : Try.prog.underlying ty = some d) (hd : d.isRow = true) (hi : (Try.prog.info? ty).map (·.size) = some cs.length)
    (h : wpList Try.prog ops Q rest (a.put op.dst (.agg cs.toArray)) w) : wpList Try.prog ops Q (op :: rest) a w :=
  wpList_plain hgd fun _ hK => by
    unfold Oper.wp execOp
    simp only [ho, hx, Instr.loadAt, Instr.sureAddr, Sem.run_bind, Sem.run_pure, Result.andThen_ok, run_loadVar_at w p ty cs d hc hu hd hi]
    exact hK _ _ h
/-- an operation's cells -/
def opC (o : Op9) : List Value := [.int .i64 o.kd, .int .i64 o.p, .int .i64 o.c, .int .u64 o.a, .int .i64 o.n, .slice o.d o.dl o.dc]
/-- an operation that came in -/
def In1 (w : World) (o : Op9) : Prop := o.a < 18446744073709551616 ∧ o.p ≤ 9223372036854775807 ∧ o.dl ≤ maxLen ∧ ∃ zs, IsRow .u8 w o.d o.dl o.dc zs ∧ o.ys = zs.take o.dl
/-- the operations that came in -/
structure InO (w : World) (A : Option Addr) (len : Nat) (ops : List Op9) : Prop where
  hl : ops.length = len
  hm : len ≤ maxLen
  at_ : ∀ k o, ops[k]? = some o → ∃ x, A = some x ∧ (∀ j v, (opC o)[j]? = some v → w.cell? ((x.add (k * 6)).add j) = some v) ∧ In1 w o
theorem InO.below {w W : World} {A : Option Addr} {len : Nat} {ops : List Op9} (h : InO w A len ops) (hb : Below w.heap.size w W) : InO W A len ops :=
  ⟨h.hl, h.hm, fun k o ho => by
    obtain ⟨x, e, hc, h1, h2, h3, zs, h4, h5⟩ := h.at_ k o ho
    exact ⟨x, e, fun j v hv => below_cell hb (hc j v hv), h1, h2, h3, zs, h4.below hb, h5⟩⟩
def tot : List Op9 → Nat
  | [] => 0
  | o :: r => o.dl + tot r
theorem tot_app : ∀ (a b : List Op9), tot (a ++ b) = tot a + tot b
  | [], b => by simp [tot]
  | o :: r, b => by simp [tot, tot_app r b]; omega
theorem tot_take {ops : List Op9} {k : Nat} {o : Op9} (h : ops[k]? = some o) : tot (ops.take (k + 1)) = tot (ops.take k) + o.dl := by
  rw [List.take_add_one, h, tot_app]; simp [tot]
theorem tot_mem : ∀ {ops : List Op9} {o : Op9}, o ∈ ops → o.dl ≤ tot ops
  | p :: r, o, h => by
    rcases List.mem_cons.1 h with rfl | h1
    · simp [tot]
    · have := tot_mem h1; simp [tot]; omega

theorem szBy (d : Option Addr) (dl dc : Nat) (b : Nat) (w : World) (hb : b ≤ 1048576) (hd : dl ≤ maxLen) :
    Calls Try.prog 48 #[.slice d dl dc, .int .i64 b] w fun e w' => e = .returned (.int .i64 (if dl ≤ b then ((b - dl : Nat) : Int) else -1)) ∧ w' = w := by
  unfold maxLen at hd
  by_cases h : dl ≤ b
  · rw [if_pos h]
    have ht : ¬ ((b : Int) - dl < 0) := by omega
    have hw : (Lit.int .i64 ((b : Int) - dl)).wf = true := WalkArith.wf_i64 (by omega)
    have he : (b : Int) - dl = ((b - dl : Nat) : Int) := by omega
    go_enter Try.func48, Try.ntmps48
    go_wp2
    go_ret
    exact ⟨ret_int (by omega), rfl⟩
  · rw [if_neg h]
    have ht : ((b : Int) - dl < 0) := by omega
    have hw : (Lit.int .i64 ((b : Int) - dl)).wf = true := WalkArith.wf_i64 (by omega)
    go_enter Try.func48, Try.ntmps48
    go_wp2
    go_ret
    exact ⟨rfl, rfl⟩
theorem szOp (o : Op9) (b : Nat) (w : World) (hb : b ≤ 1048576) (hd : o.dl ≤ maxLen) :
    Calls Try.prog 26 #[.agg (opC o).toArray, .int .i64 b] w fun e w' => e = .returned (.int .i64 (if o.dl ≤ b then ((b - o.dl : Nat) : Int) else -1)) ∧ Below w.heap.size w w' := by
  have HS := hid (fun W => szBy o.d o.dl o.dc b W hb hd)
  have hB := hid (((Below.refl w.heap.size w).alloc (Nat.le_refl _) (.cells (opC o).toArray 61)))
  unfold opC at *
  have ht : ((if o.dl ≤ b then ((b - o.dl : Nat) : Int) else -1) < 0) ↔ ¬ o.dl ≤ b := by split <;> omega
  have hn : ¬ o.dl ≤ b → (if o.dl ≤ b then ((b - o.dl : Nat) : Int) else -1) = -1 := fun h => if_neg h
  generalize (if o.dl ≤ b then ((b - o.dl : Nat) : Int) else -1) = r at *
  by_cases h : o.dl ≤ b
  · have hr : ¬ (r < 0) := by omega
    go_enter Try.func26, Try.ntmps26
    go_wp2_with fail
    refine (HS.out _).mono ?_
    rintro e w1 ⟨rfl, rfl⟩
    go_wp2
    go_ret
    exact ⟨rfl, hB.out⟩
  · have hr : r < 0 := by omega
    go_enter Try.func26, Try.ntmps26
    go_wp2_with fail
    refine (HS.out _).mono ?_
    rintro e w1 ⟨rfl, rfl⟩
    go_wp2
    go_ret
    exact ⟨ret_int (hn h).symm, hB.out⟩

set_option maxHeartbeats 1000000 in
theorem szOps (A : Option Addr) (len cap : Nat) (ops : List Op9) (w : World) (h : InO w A len ops) :
    Calls Try.prog 10 #[.slice A len cap, .int .i64 1048576] w fun e w' => ∃ r : Int, e = .returned (.int .i64 r) ∧ (r < 0 ∨ len + tot ops ≤ 1048576) ∧ Below w.heap.size w w' := by
  have hm := h.hm
  unfold maxLen at hm
  have hw0 : (Lit.int .i64 (1048576 - (len : Int))).wf = true := WalkArith.wf_i64 (by omega)
  have HI := hid h
  clear h
  by_cases h0 : 1048576 < len
  · have ht : (1048576 - (len : Int) < 0) := by omega
    go_enter Try.func10, Try.ntmps10
    go_wp2
    go_ret
    exact ⟨_, rfl, .inl (by omega), Below.refl _ _⟩
  have ht : ¬ (1048576 - (len : Int) < 0) := by omega
  have B0 := hid (Below.refl w.heap.size w)
  go_enter Try.func10, Try.ntmps10
  go_wp2
  go_loopw [1, 5] (fun b i wr => ∃ k : Nat, k ≤ len ∧ i = .int .i64 k ∧ len + tot (ops.take k) ≤ 1048576 ∧ b = .int .i64 (1048576 - (len + tot (ops.take k)) : Nat) ∧ Hid (Below w.heap.size w wr)) (fun _ i _ => len - (intOf i).toNat)
  case atStart => exact ⟨0, Nat.zero_le _, rfl, by simp [tot]; omega, int_cast (by simp [tot]; omega), B0⟩
  case round =>
    obtain ⟨k, hk, rfl, hle, rfl, HB⟩ := hrel
    clear B0 hw0 ht
    by_cases hlt : k < len
    · obtain ⟨o, ho⟩ : ∃ o, ops[k]? = some o := ⟨_, List.getElem?_eq_getElem (by have := HI.out.hl; omega)⟩
      obtain ⟨x, rfl, hc, h1⟩ := (HI.out.below HB.out).at_ k o ho
      have HC := hid hc
      have HT := hid (tot_take ho)
      have hb0 : 1048576 - (len + tot (ops.take k)) ≤ 1048576 := by omega
      obtain ⟨b, hb⟩ : ∃ b, 1048576 - (len + tot (ops.take k)) = b := ⟨_, rfl⟩
      rw [hb] at hb0 ⊢
      have HS := hid (fun W => szOp o b W hb0 h1.2.2.1)
      have hn : ¬ o.dl ≤ b → (if o.dl ≤ b then ((b - o.dl : Nat) : Int) else -1) = -1 := fun h => if_neg h
      have hp : o.dl ≤ b → (if o.dl ≤ b then ((b - o.dl : Nat) : Int) else -1) = ((b - o.dl : Nat) : Int) := fun h => if_pos h
      generalize (if o.dl ≤ b then ((b - o.dl : Nat) : Int) else -1) = r at *
      have HN := hid hn
      have HPp := hid hp
      clear hc h1 ho hn hp
      go_wp2_with (first | (refine wpList_load_at rfl 61 _ rfl _ rfl (opC o) _ HC.out Try.underlying61 rfl (by kernel_rfl) ?_))
      refine (HS.out _).mono ?_
      rintro e w1 ⟨rfl, b1⟩
      have B1 := hid (below_trans HB.out b1 HB.out.size)
      clear b1 HB HC HS
      by_cases hd : o.dl ≤ b
      · have hr := HPp.out hd
        subst hr
        have ht : ¬ (((b - o.dl : Nat) : Int) < 0) := by omega
        go_wp2
        go_roundw
        case rel => exact ⟨k + 1, by omega, by go_num, by have := HT.out; omega, int_cast (by have := HT.out; omega), B1⟩
        case measure => simp [intOf]; omega
      · have hr := HN.out hd
        subst hr
        go_wp2
        go_ret
        exact ⟨_, rfl, .inl (by omega), B1.out⟩
    · have hkn : k = len := by omega
      subst hkn
      have ht : (ops.take k) = ops := List.take_of_length_le (by have := HI.out.hl; omega)
      rw [ht] at hle ⊢
      generalize 1048576 - (k + tot ops) = b
      go_wp2
      go_ret
      exact ⟨_, rfl, .inr hle, HB.out⟩
end Go.Proofs.Ytiddopgeomojbaa

namespace Go.Proofs.Ytiddopgeomojbaa
open Go.RowKit Go.Shelf Go.Maps
set_option linter.unusedVariables false

theorem three_new (w : World) (a b c : Obj) : ((((w.alloc a).alloc b).alloc c).heap[w.heap.size]? = some a) ∧ ((((w.alloc a).alloc b).alloc c).heap[w.heap.size + 1]? = some b) ∧ ((((w.alloc a).alloc b).alloc c).heap[w.heap.size + 1 + 1]? = some c) ∧ Below w.heap.size w (((w.alloc a).alloc b).alloc c) := by
  refine ⟨?_, ?_, ?_, (((Below.refl _ _).alloc (Nat.le_refl _) a).alloc (by rw [al_size]; omega) b).alloc (by rw [al_size, al_size]; omega) c⟩
  · rw [al_old _ _ _ (by rw [al_size, al_size]; omega), al_old _ _ _ (by rw [al_size]; omega)]; exact al_last _ _
  · rw [al_old _ _ _ (by rw [al_size, al_size]; omega), ← al_size w a]; exact al_last _ _
  · rw [← al_size w a, ← al_size (w.alloc a) b]; exact al_last _ _
/-- the copy of an operation whose bytes lie in block g -/
def cpO (o : Op9) (g : Nat) : Op9 := { o with d := some ⟨g, 0, none⟩, dc := o.dl }
set_option maxHeartbeats 1000000 in
theorem toOp (o : Op9) (w : World) (h : In1 w o) (hd : o.dl ≤ 1048576) :
    Calls Try.prog 27 #[.agg (opC o).toArray] w fun e w' => ∃ g, e = .returned (.agg (opC (cpO o g)).toArray) ∧ RowV w' g 5 (Ns .u8 o.ys) ∧ w.heap.size ≤ g ∧ Below w.heap.size w w' := by
  obtain ⟨_, _, _, zs, hr, hy⟩ := h
  have M1 := hid (fun W (hW : Below w.heap.size w W) => toBy o.d o.dl o.dc zs W (hr.below hW) hd)
  rw [← hy] at M1
  clear hr hy
  unfold cpO opC
  have T3 := hid (three_new w (.cells #[.int .i64 o.kd, .int .i64 o.p, .int .i64 o.c, .int .u64 o.a, .int .i64 o.n, .slice o.d o.dl o.dc] 61) (.cells #[.int .i64 0, .int .i64 0, .int .i64 0, .int .u64 0, .int .i64 0, .slice none 0 0] 34) (.cells #[.int .i64 o.kd, .int .i64 o.p, .int .i64 o.c, .int .u64 o.a, .int .i64 o.n, .slice none 0 0] 34))
  go_enter Try.func27, Try.ntmps27
  go_wp2_with fail
  refine (M1.out _ T3.out.2.2.2).mono ?_
  rintro e w1 ⟨rfl, r1, b1⟩
  have x1 := hid ((b1.block _ (lt_blk T3.out.2.1)).trans T3.out.2.1)
  have x2 := hid ((b1.block _ (lt_blk T3.out.2.2.1)).trans T3.out.2.2.1)
  have B1 := hid (bl_trans T3.out.2.2.2 b1)
  have R1 := hid r1
  have HG := hid (T3.out.2.2.2.size)
  clear r1 b1 T3 M1
  generalize (((w.alloc _).alloc _).alloc _).heap.size = g at R1 HG ⊢
  have hp : w1.cell? ⟨w.heap.size + 1 + 1, 5, none⟩ = some (.slice none 0 0) := by simp [World.cell?, x2.out]
  have hf : w1.frozen? ⟨w.heap.size + 1 + 1, 5, none⟩ = false := by simp [World.frozen?, x2.out]
  have y2 := hid (show (w1.setCell ⟨w.heap.size + 1 + 1, 5, none⟩ (.slice (some ⟨g, 0, none⟩) o.dl o.dl)).heap[w.heap.size + 1 + 1]? = some (.cells #[.int .i64 o.kd, .int .i64 o.p, .int .i64 o.c, .int .u64 o.a, .int .i64 o.n, .slice (some ⟨g, 0, none⟩) o.dl o.dl] 34 (0, 0)) by rw [heap_set_at x2.out]; rfl)
  have y1 := hid (show (w1.setCell ⟨w.heap.size + 1 + 1, 5, none⟩ (.slice (some ⟨g, 0, none⟩) o.dl o.dl)).heap[w.heap.size + 1]? = some (.cells #[.int .i64 0, .int .i64 0, .int .i64 0, .int .u64 0, .int .i64 0, .slice none 0 0] 34 (0, 0)) by rw [Below.heap_setCell _ _ _ _ (by dsimp only; omega)]; exact x1.out)
  have hg1 : g ≠ w.heap.size + 1 + 1 ∧ g ≠ w.heap.size + 1 := by
    obtain ⟨c, hc, _⟩ := R1.out
    exact ⟨fun e => by subst e; rw [x2.out] at hc; simp at hc, fun e => by subst e; rw [x1.out] at hc; simp at hc⟩
  have y3 := hid (R1.out.other (p := ⟨w.heap.size + 1 + 1, 5, none⟩) (by simpa using hg1.1) (.slice (some ⟨g, 0, none⟩) o.dl o.dl))
  have B2 := hid (B1.out.setCell (p := ⟨w.heap.size + 1 + 1, 5, none⟩) (by dsimp only; omega) (.slice (some ⟨g, 0, none⟩) o.dl o.dl))
  clear x1 x2 B1 R1
  go_wp2_with (first | (refine wpList_load_row rfl 34 _ rfl _ rfl _ _ _ _ y2.out Try.underlying34 rfl (by kernel_rfl) ?_) | (refine wpList_store_row rfl 34 _ _ rfl _ _ rfl rfl 34 _ y1.out (by kernel_rfl) rfl ?o1 ?_))
  case o1 => simp [Value.oneCell']
  refine bodyPost_ret (results_cell_row (by rfl) _ _ (w.heap.size + 1) 34 _ (0, 0) _ (by rfl) (setRow_at y1.out _) Try.underlying34 rfl (by kernel_rfl)) (by rfl) ?_
  refine ⟨g, rfl, y3.out.grown (grown_setRow _ _ _) hg1.2, HG.out, B2.out.grown (grown_setRow _ _ _) B2.out.size (fun r hr => by simp at hr; omega)⟩
end Go.Proofs.Ytiddopgeomojbaa

namespace Go.Proofs.Ytiddopgeomojbaa
open Go.RowKit Go.Shelf Go.Maps
set_option linter.unusedVariables false

theorem grown_setCells (b : Nat) : ∀ (vs : List Value) (o : Nat) (w : World), w.grownBy (w.setCells b o vs) (some b)
  | [], o, w => ⟨rfl, rfl, rfl, Nat.le_refl _, fun _ _ _ => rfl⟩
  | v :: r, o, w => by
    have h1 := grown_set (grown_refl w b) o v
    have h2 := grown_setCells b r (o + 1) (w.setCell ⟨b, o, none⟩ v)
    refine ⟨h2.os.trans h1.os, h2.tape.trans h1.tape, h2.output.trans h1.output, Nat.le_trans h1.size h2.size, fun k hk hn => ?_⟩
    rw [World.setCells, h2.block k (Nat.lt_of_lt_of_le hk h1.size) hn]
    exact h1.block k hk hn
theorem type_setCells (b : Nat) : ∀ (vs : List Value) (o : Nat) (w : World) (c : Array Value) (t : TypeId), w.heap[b]? = some (.cells c t (0, 0)) → ∃ c', (w.setCells b o vs).heap[b]? = some (.cells c' t (0, 0)) ∧ c'.size = c.size
  | [], o, w, c, t, h => ⟨c, h, rfl⟩
  | v :: r, o, w, c, t, h => by
    obtain ⟨c', h1, h2⟩ := type_setCells b r (o + 1) (w.setCell ⟨b, o, none⟩ v) _ t (heap_set_at h v)
    exact ⟨c', h1, by simpa using h2⟩
theorem there_row {w : World} {G N o : Nat} {c : Array Value} {t : TypeId} (h : w.heap[G]? = some (.cells c t (0, 0))) (n : Nat) (hn : o + n ≤ c.size) : w.there G o n := fun j hj => by
  constructor
  · simp [World.cell?, h]; omega
  · simp [World.frozen?, h]
/-- copies of operations: block G, the bytes in the blocks gs -/
structure Cp (B : Nat) (w : World) (G N : Nat) (ops : List Op9) (gs : List Nat) : Prop where
  typ : ∃ c, w.heap[G]? = some (.cells c 34 (0, 0)) ∧ c.size = N * 6
  at_ : ∀ k o g, ops[k]? = some o → gs[k]? = some g → w.rangeAt G (k * 6) (opC (cpO o g)) ∧ RowV w g 5 (Ns .u8 o.ys) ∧ B ≤ g
  nd : gs.Nodup
  hl : gs.length = ops.length
  hG : B ≤ G
theorem range_below {w W : World} {b o : Nat} {cs : List Value} (h : w.rangeAt b o cs) (hb : Below w.heap.size w W) : W.rangeAt b o cs := fun j v hv => below_cell hb (h j v hv)
theorem Cp.below {B G N : Nat} {w W : World} {ops : List Op9} {gs : List Nat} (h : Cp B w G N ops gs) (hb : Below w.heap.size w W) : Cp B W G N ops gs :=
  ⟨by obtain ⟨c, h1, h2⟩ := h.typ; exact ⟨c, (hb.block _ (lt_blk h1)).trans h1, h2⟩, fun k o g ho hg => by
    obtain ⟨h1, h2, h3⟩ := h.at_ k o g ho hg
    exact ⟨range_below h1 hb, h2.below hb h2.lt, h3⟩, h.nd, h.hl, h.hG⟩
theorem opC_len (o : Op9) : (opC o).length = 6 := rfl
theorem Cp.next {B G N g k : Nat} {w w1 : World} {ops : List Op9} {gs : List Nat} {o : Op9} (h : Cp B w G N (ops.take k) gs) (ho : ops[k]? = some o) (hk : k < N) (hb : Below w.heap.size w w1) (hg : w.heap.size ≤ g) (hr : RowV w1 g 5 (Ns .u8 o.ys)) (hB : B ≤ g) :
    Cp B (w1.setCells G (k * 6) (opC (cpO o g))) G N (ops.take (k + 1)) (gs ++ [g]) := by
  have h1 := h.below hb
  obtain ⟨c, hc, hs⟩ := h1.typ
  have hlk : (ops.take k).length = k := by
    have := (List.getElem?_eq_some_iff.1 ho).1
    simp; omega
  have hgk : gs.length = k := h.hl.trans hlk
  have ht : w1.there G (k * 6) 6 := there_row (N := N) hc 6 (by omega)
  have hne : ∀ {g' : Nat} {xs : List Value}, RowV w1 g' 5 xs → g' ≠ G := fun hr' e => by
    obtain ⟨c', hc', _⟩ := hr'
    subst e
    rw [hc] at hc'
    simp at hc'
  have hnew : ∀ g', g' ∈ gs → g' ≠ g := fun g' hm e => by
    obtain ⟨i, hi⟩ := List.getElem?_of_mem hm
    have hil := (List.getElem?_eq_some_iff.1 hi).1
    obtain ⟨_, r, _⟩ := h.at_ i _ g' (List.getElem?_eq_getElem (by omega)) hi
    have := r.lt
    omega
  refine ⟨?_, fun i o' g' ho' hg' => ?_, ?_, by rw [List.take_add_one, ho]; simp [hgk, hlk], h.hG⟩
  · obtain ⟨c', e1, e2⟩ := type_setCells G (opC (cpO o g)) (k * 6) w1 c 34 hc
    exact ⟨c', e1, by omega⟩
  · rw [List.take_add_one, ho] at ho'
    by_cases hik : i < k
    · rw [List.getElem?_append_left (by omega)] at ho' hg'
      obtain ⟨a1, a2, a3⟩ := h1.at_ i o' g' ho' hg'
      exact ⟨World.rangeAt_setCells_apart a1 _ _ _ (.inr (.inl (by rw [opC_len]; omega))), a2.grown (grown_setCells _ _ _ _) (hne a2), a3⟩
    · have hik' : i = k := by
        have := (List.getElem?_eq_some_iff.1 hg').1
        simp at this; omega
      subst hik'
      rw [List.getElem?_append_right (by omega), hgk] at hg'
      rw [List.getElem?_append_right (by omega), hlk] at ho'
      simp at ho' hg'
      subst ho' hg'
      exact ⟨World.rangeAt_setCells_same _ _ _ _ (by rw [opC_len]; exact ht), hr.grown (grown_setCells _ _ _ _) (hne hr), hB⟩
  · refine List.nodup_append.2 ⟨h.nd, by simp, fun a ha b hb' => ?_⟩
    simp at hb'
    subst hb'
    exact hnew a ha
theorem Try.info34 : (Try.prog.info? 34).map (fun i => (i.zero, i.size, i.bytes)) = some (some (.agg #[.int .i64 0, .int .i64 0, .int .i64 0, .int .u64 0, .int .i64 0, .slice none 0 0]), 6, 64) := by kernel_rfl

set_option maxHeartbeats 2000000 in
theorem toOps (A : Option Addr) (len cap : Nat) (ops : List Op9) (w : World) (h : InO w A len ops) (ht : len + tot ops ≤ 1048576) :
    Calls Try.prog 11 #[.slice A len cap] w fun e w' => ∃ gs, e = .returned (.slice (some ⟨w.heap.size, 0, none⟩) len len) ∧ Cp w.heap.size w' w.heap.size len ops gs ∧ Below w.heap.size w w' := by
  obtain ⟨i0, hi, hz0, hz1, hz2⟩ := info_parts Try.info34
  have hmk : (Instr.makeSlice 23 (.int .i64 len) (.int .i64 len)).run Try.prog w = .ok (.slice (some ⟨w.heap.size, 0, none⟩) len len) (w.alloc (.cells (madeCells #[.int .i64 0, .int .i64 0, .int .i64 0, .int .u64 0, .int .i64 0, .slice none 0 0] (len * 6)) 34)) := by
    have := run_make (P := Try.prog) w 23 34 i0 _ Try.underlying23 hi hz0 .i64 .i64 len len (by omega) (Int.le_refl _) (by rw [hz2]; omega) (by omega)
    rw [hz1] at this
    simpa [Value.cells] using this
  have B0 := hid ((Below.refl w.heap.size w).alloc (Nat.le_refl _) (.cells (madeCells #[.int .i64 0, .int .i64 0, .int .i64 0, .int .u64 0, .int .i64 0, .slice none 0 0] (len * 6)) 34))
  have C0 := hid (show Cp w.heap.size (w.alloc (.cells (madeCells #[.int .i64 0, .int .i64 0, .int .i64 0, .int .u64 0, .int .i64 0, .slice none 0 0] (len * 6)) 34)) w.heap.size len (ops.take 0) [] from
    ⟨⟨_, al_last _ _, size_madeCells _ _⟩, fun k o g ho _ => by simp at ho, List.nodup_nil, by simp, Nat.le_refl _⟩)
  generalize madeCells _ (len * 6) = mk at hmk B0 C0
  have HI := hid h
  clear h hi hz0 hz1 hz2
  obtain ⟨G, hG⟩ : ∃ G, w.heap.size = G := ⟨_, rfl⟩
  go_enter Try.func11, Try.ntmps11
  go_wp2
  clear hmk
  generalize w.alloc _ = W0 at B0 C0 ⊢
  rw [hG] at C0 B0
  go_loopw [4] (fun i wr => ∃ k : Nat, k ≤ len ∧ i = .int .i64 k ∧ Hid (Below G w wr) ∧ ∃ gs, Hid (Cp G wr G len (ops.take k) gs)) (fun i _ => len - (intOf i).toNat)
  case atStart => exact ⟨0, Nat.zero_le _, rfl, B0, [], C0⟩
  case round =>
    obtain ⟨k, hk, rfl, HB, gs, HC⟩ := hrel
    clear B0 C0
    by_cases hlt : k < len
    · obtain ⟨o, ho⟩ : ∃ o, ops[k]? = some o := ⟨_, List.getElem?_eq_getElem (by have := HI.out.hl; omega)⟩
      obtain ⟨x, rfl, hc, h1⟩ := (HI.out.below (hG.symm ▸ HB.out)).at_ k o ho
      have HX := hid hc
      have HT := hid (toOp o wr h1 (by have := tot_mem (List.mem_of_getElem? ho); omega))
      have HO := hid ho
      clear hc h1 ho
      go_wp2_with (first | (refine wpList_load_at rfl 61 _ rfl _ rfl (opC o) _ HX.out Try.underlying61 rfl (by kernel_rfl) ?_))
      refine (HT.out).mono ?_
      rintro e w1 ⟨g, rfl, hr, hg, hb⟩
      have C1 := hid (HC.out.next HO.out hlt hb hg hr (by have := HB.out.size; have := hG; omega))
      have TH := hid (show w1.there G (k * 6) 6 by
        obtain ⟨c, hc, hs⟩ := (HC.out.below hb).typ
        exact there_row (N := len) hc 6 (by omega))
      have B1 := hid ((below_trans HB.out hb (by rw [← hG]; exact Nat.le_trans (Nat.le_refl _) (hG.symm ▸ HB.out.size))).grown (grown_setCells G (opC (cpO o g)) (k * 6) w1) (by rw [← hG]; exact Nat.le_trans (hG.symm ▸ HB.out.size) hb.size) (fun r hr => by simp at hr; omega))
      clear hr hg hb HC HB HT HX
      obtain ⟨cs, hcs⟩ : ∃ cs, (opC (cpO o g)).toArray = cs := ⟨_, rfl⟩
      rw [hcs]
      go_wp2_with (first | (refine wpList_store_mid rfl 34 _ _ rfl G (k * 6) cs ?hx ?hy ?th ?hi ?o1 ?_))
      case hy => rfl
      case th => rw [← hcs, List.size_toArray, opC_len]; exact TH.out
      case hi => rw [← hcs, List.size_toArray, opC_len]; kernel_rfl
      case o1 => rw [← hcs]; simp [opC, Value.oneCell']
      case hx => rfl
      subst hcs
      go_roundw
      case rel => exact ⟨k + 1, by omega, by go_num, B1, _, C1⟩
      case measure => simp [intOf]; omega
    · have hkn : k = len := by omega
      subst hkn
      have ht : (ops.take k) = ops := List.take_of_length_le (by have := HI.out.hl; omega)
      rw [ht] at HC
      go_wp2
      go_ret
      rw [hG]
      exact ⟨_, rfl, HC.out, HB.out⟩
end Go.Proofs.Ytiddopgeomojbaa
