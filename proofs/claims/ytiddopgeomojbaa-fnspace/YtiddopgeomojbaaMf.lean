import Derived.Test.YtiddopgeomojbaaMe
namespace Go.Proofs.Ytiddopgeomojbaa
open Go.RowKit Go.Shelf
set_option linter.unusedVariables false

/-- an answer: its code, its bytes, and the value that holds the bytes -/
abbrev An := (Int × List Int) × Value
def flatA (l : List An) : List Value := l.flatMap fun x => [.int .i64 x.1.1, x.2]
theorem flatA_snoc (l : List An) (x : An) : flatA (l ++ [x]) = flatA l ++ [.int .i64 x.1.1, x.2] := by simp [flatA]
theorem flatA_len (l : List An) : (flatA l).length = l.length * 2 := by
  induction l with
  | nil => rfl
  | cons a l ih => simp only [flatA, List.flatMap_cons, List.length_append, List.length_cons, List.length_nil] at ih ⊢; omega
/-- the answers' bytes: each in a block of its own that is no page -/
structure Rw (B Q : Nat) (W : World) (l : List An) : Prop where
  own : ∀ x ∈ l, W.ownsRow B 5 1 x.2 x.1.2.length (Ns .u8 x.1.2) ∧ ∀ g, x.2.ownBlock = some g → ¬ IsPg Q W g
  apart : l.Pairwise fun x y => ∀ g, x.2.ownBlock = some g → y.2.ownBlock ≠ some g

/-- all but the rows of answers and the reports stay -/
structure Kt (W W' : World) : Prop where
  size : W.heap.size ≤ W'.heap.size
  block : ∀ (g : Nat) (c : Array Value) (t : TypeId) (f : Nat × Nat), W.heap[g]? = some (Obj.cells c t f) → t ≠ 36 → t ≠ 29 → W'.heap[g]? = W.heap[g]?
theorem Kt.trans {a b c : World} (h : Kt a b) (k : Kt b c) : Kt a c :=
  ⟨Nat.le_trans h.size k.size, fun g c t f h1 h2 h3 => by
    have e := h.block g c t f h1 h2 h3
    exact (k.block g c t f (e.trans h1) h2 h3).trans e⟩
theorem Kt.ofBelow {W W' : World} (h : Below W.heap.size W W') : Kt W W' := ⟨h.size, fun g c t f h1 _ _ => h.block g (lt_blk h1)⟩
theorem Kt.ofGrown {W W' : World} {r : Option Nat} (h : W.grownBy W' r) (hr : ∀ g, r = some g → ∃ (c : Array Value) (t : TypeId) (f : Nat × Nat), W.heap[g]? = some (Obj.cells c t f) ∧ (t = 36 ∨ t = 29)) : Kt W W' :=
  ⟨h.size, fun g c t f h1 h2 h3 => h.block g (lt_blk h1) (fun e => by
    obtain ⟨c', t', f', e1, e2⟩ := hr g e.symm
    rw [h1] at e1
    simp at e1
    obtain ⟨_, rfl, _⟩ := e1
    rcases e2 with e2 | e2
    · exact h2 e2
    · exact h3 e2)⟩
theorem Sx.kt {T Q n : Nat} {bud : Int} {m : Nat → Option (Bool × List Int)} {W W' : World} (h : Sx T Q n bud m W) (hb : Kt W W') : Sx T Q n bud m W' := by
  obtain ⟨c, h1, h2, h3, hinj⟩ := h.row
  refine ⟨by rw [hb.block _ _ _ _ h.box (by decide) (by decide)]; exact h.box, ⟨c, by rw [hb.block _ _ _ _ h1 (by decide) (by decide)]; exact h1, h2, fun k hk => ?_, hinj⟩, h.out⟩
  have h4 := h3 k hk
  cases hm : m k with
  | none => rw [hm] at h4; exact h4
  | some q =>
    obtain ⟨l, xs⟩ := q
    rw [hm] at h4
    obtain ⟨a1, a2, a4, g, a3, a5⟩ := h4
    exact ⟨a1, a2, a4, g, a3, by rw [hb.block _ _ _ _ a5 (by decide) (by decide)]; exact a5⟩
theorem Sx.pgT {T Q n : Nat} {bud : Int} {m : Nat → Option (Bool × List Int)} {W : World} (hs : Sx T Q n bud m W) {g : Nat} (hg : IsPg Q W g) : ∃ c, W.heap[g]? = some (.cells c 5 (0, 0)) := by
  obtain ⟨k, hk⟩ := hg
  obtain ⟨cc, h1, h2, h3, _⟩ := hs.row
  have e0 : cc[k * 3 + 2]? = some (.slice (some ⟨g, 0, none⟩) 1024 1024) := by simpa [World.cell?, h1] using hk
  have hkn : k < n := by
    by_cases hl : k < n
    · exact hl
    · rw [Array.getElem?_eq_none (by omega)] at e0; cases e0
  have h4 := h3 k hkn
  cases hm : m k with
  | none => rw [hm] at h4; rw [h4.2.2] at e0; simp at e0
  | some q =>
    obtain ⟨l, xs⟩ := q
    rw [hm] at h4
    obtain ⟨_, _, _, g', a3, a5⟩ := h4
    rw [a3] at e0
    simp at e0
    subst e0
    exact ⟨_, a5⟩
theorem Sx.pgKt {T Q n : Nat} {bud : Int} {m : Nat → Option (Bool × List Int)} {W W' : World} (hs : Sx T Q n bud m W) (hb : Kt W W') {g : Nat} (hg : IsPg Q W' g) : IsPg Q W g := by
  obtain ⟨k, hk⟩ := hg
  obtain ⟨c, h1, _⟩ := hs.row
  refine ⟨k, ?_⟩
  unfold World.cell? at hk ⊢
  rw [hb.block _ _ _ _ h1 (by decide) (by decide)] at hk
  exact hk
theorem own_keep {W W' : World} {base : Nat} {e : TypeId} {size : Nat} {v : Value} {n : Nat} {xs : List Value} (h : W.ownsRow base e size v n xs) (hk : ∀ (g : Nat) (c : Array Value), v.ownBlock = some g → W.heap[g]? = some (.cells c e (0, 0)) → W'.heap[g]? = W.heap[g]?) : W'.ownsRow base e size v n xs := by
  refine ⟨h.1, ?_⟩
  rcases h.2 with hn | ⟨g, cap, cur, rfl, hb, hgg, rest⟩
  · exact .inl hn
  · exact .inr ⟨g, cap, cur, rfl, hb, (hk g cur rfl hgg).trans hgg, rest⟩
theorem own_type {W : World} {base : Nat} {e : TypeId} {size : Nat} {v : Value} {n : Nat} {xs : List Value} (h : W.ownsRow base e size v n xs) {g : Nat} (hg : v.ownBlock = some g) : ∃ c, W.heap[g]? = some (.cells c e (0, 0)) := by
  rcases h.2 with ⟨rfl, _⟩ | ⟨g', cap, cur, rfl, hb, hgg, _⟩
  · cases hg
  · cases hg; exact ⟨_, hgg⟩
theorem Rw.kt {T Q n B : Nat} {bud : Int} {m : Nat → Option (Bool × List Int)} {W W' : World} {l : List An} (h : Rw B Q W l) (hs : Sx T Q n bud m W) (hb : Kt W W') : Rw B Q W' l :=
  ⟨fun x hx => ⟨own_keep (h.own x hx).1 (fun g c _ hc => hb.block g c 5 _ hc (by decide) (by decide)), fun g hg hp => (h.own x hx).2 g hg (hs.pgKt hb hp)⟩, h.apart⟩
theorem Rw.sf {T Q n B : Nat} {bud : Int} {m : Nat → Option (Bool × List Int)} {W W' : World} {l : List An} (h : Rw B Q W l) (hs : Sx T Q n bud m W) (hf : Sf Q W W') : Rw B Q W' l := by
  refine ⟨fun x hx => ⟨own_keep (h.own x hx).1 (fun g c hg hc => hf.block g (lt_blk hc) ?_ ((h.own x hx).2 g hg)), fun g hg hp => ?_⟩, h.apart⟩
  · rintro rfl
    obtain ⟨cc, h1, _⟩ := hs.row
    rw [hc] at h1
    simp at h1
  · obtain ⟨c, hc⟩ := own_type (h.own x hx).1 hg
    rcases hf.pg g hp with h1 | h1
    · exact (h.own x hx).2 g hg h1
    · have := lt_blk hc; omega
theorem Rw.snoc {B Q : Nat} {W : World} {l : List An} (h : Rw B Q W l) (x : An) (ho : W.ownsRow B 5 1 x.2 x.1.2.length (Ns .u8 x.1.2)) (hp : ∀ g, x.2.ownBlock = some g → ¬ IsPg Q W g) (ha : ∀ y ∈ l, ∀ g, y.2.ownBlock = some g → x.2.ownBlock ≠ some g) : Rw B Q W (l ++ [x]) := by
  refine ⟨fun y hy => ?_, ?_⟩
  · rcases List.mem_append.1 hy with h1 | h1
    · exact h.own y h1
    · obtain rfl : y = x := by simpa using h1
      exact ⟨ho, hp⟩
  · rw [List.pairwise_append]
    refine ⟨h.apart, by simp, fun y hy z hz => ?_⟩
    obtain rfl : z = x := by simpa using hz
    exact ha y hy

/-- the run under way: its report lies in block A -/
structure Rn (w : World) (T Q nn : Nat) (bud : Int) (m : Nat → Option (Bool × List Int)) (A Rb : Nat) (cm vo : Value) (l : List An) (v : Value) (W : World) : Prop where
  sx : Sx T Q nn bud m W
  rows : Rw w.heap.size Q W l
  own : W.ownsRow w.heap.size 36 2 v l.length (flatA l)
  at_ : W.heap[A]? = some (.cells #[.bool true, v, cm, vo] 29 (0, 0))
  res : W.heap[Rb]? = some (.cells #[.bool false, .slice none 0 0, .int .i64 0, .slice none 0 0] 29 (0, 0))
  bel : Below w.heap.size w W
  hA : w.heap.size ≤ A
  hR : w.heap.size ≤ Rb
  hne : A ≠ Rb
  hQ : w.heap.size ≤ Q
  hp : ∀ g, IsPg Q W g → w.heap.size ≤ g
theorem Rn.sf {w W W' : World} {T Q nn A Rb : Nat} {bud : Int} {m m' : Nat → Option (Bool × List Int)} {l : List An} {v cm vo : Value} (h : Rn w T Q nn bud m A Rb cm vo l v W) (hf : Sf Q W W') (hs : Sx T Q nn bud m' W') : Rn w T Q nn bud m' A Rb cm vo l v W' := by
  have keep : ∀ (g : Nat) (c : Array Value) (t : TypeId) (f : Nat × Nat), W.heap[g]? = some (Obj.cells c t f) → t ≠ 92 → t ≠ 5 → W'.heap[g]? = W.heap[g]? := by
    intro g c t f hg h1 h2
    refine hf.block g (lt_blk hg) ?_ (fun hp => ?_)
    · rintro rfl
      obtain ⟨cc, e1, _⟩ := h.sx.row
      rw [hg] at e1
      simp at e1
      exact h1 e1.2.1
    · obtain ⟨cc, e1⟩ := h.sx.pgT hp
      rw [hg] at e1
      simp at e1
      exact h2 e1.2.1
  refine ⟨hs, h.rows.sf h.sx hf, own_keep h.own (fun g c _ hc => keep g c 36 _ hc (by decide) (by decide)), (keep _ _ _ _ h.at_ (by decide) (by decide)).trans h.at_, (keep _ _ _ _ h.res (by decide) (by decide)).trans h.res, ?_, h.hA, h.hR, h.hne, h.hQ, fun g hg => ?_⟩
  · have hb := hf.below h.bel.size h.hQ h.hp
    exact ⟨hb.os.trans h.bel.os, hb.tape.trans h.bel.tape, hb.output.trans h.bel.output, Nat.le_trans h.bel.size hb.size, fun g hg => (hb.block g hg).trans (h.bel.block g hg)⟩
  · rcases hf.pg g hg with h1 | h1
    · exact h.hp g h1
    · have := h.bel.size; omega
theorem Rn.below {w W W' : World} {T Q nn A Rb : Nat} {bud : Int} {m : Nat → Option (Bool × List Int)} {l : List An} {v cm vo : Value} (h : Rn w T Q nn bud m A Rb cm vo l v W) (hb : Below W.heap.size W W') : Rn w T Q nn bud m A Rb cm vo l v W' :=
  h.sf (Sf.ofBelow hb h.sx.ltQ) (h.sx.below hb)

/-- an answer is appended -/
theorem Rn.next {w W w9 : World} {T Q nn A Rb : Nat} {bud : Int} {m : Nat → Option (Bool × List Int)} {l : List An} {v cm vo : Value} (h : Rn w T Q nn bud m A Rb cm vo l v W) (x : An)
    (ho : W.ownsRow w.heap.size 5 1 x.2 x.1.2.length (Ns .u8 x.1.2)) (hp : ∀ g, x.2.ownBlock = some g → ¬ IsPg Q W g) (ha : ∀ y ∈ l, ∀ g, y.2.ownBlock = some g → x.2.ownBlock ≠ some g) (g cap : Nat)
    {W8 : World} (b8 : Below W.heap.size W W8) (h9 : w9.ownsRow w.heap.size 36 2 (.slice (some ⟨g, 0, none⟩) (l.length + 1) cap) (l.length + 1) (flatA l ++ [.int .i64 x.1.1, x.2])) (hg : W8.grownBy w9 v.ownBlock) :
    w9.cell? ⟨A, 1, none⟩ = some v ∧ w9.frozen? ⟨A, 1, none⟩ = false ∧ Rn w T Q nn bud m A Rb cm vo (l ++ [x]) (.slice (some ⟨g, 0, none⟩) (l.length + 1) cap) (w9.setCell ⟨A, 1, none⟩ (.slice (some ⟨g, 0, none⟩) (l.length + 1) cap)) := by
  have h8 := h.below b8
  have k8 : Kt W W8 := Kt.ofBelow b8
  have k9 : Kt W8 w9 := Kt.ofGrown hg (fun r hr => by
    obtain ⟨c, hc⟩ := own_type h8.own hr
    exact ⟨c, 36, _, hc, .inl rfl⟩)
  have nv : ∀ (r : Nat) (c : Array Value) (f : Nat × Nat), W8.heap[r]? = some (Obj.cells c 29 f) → some r ≠ v.ownBlock := by
    intro r c f hr e
    obtain ⟨c', hc'⟩ := own_type h8.own e.symm
    rw [hr] at hc'
    simp at hc'
  have eA := (hg.block A (lt_blk h8.at_) (nv _ _ _ h8.at_)).trans h8.at_
  have eR := (hg.block Rb (lt_blk h8.res) (nv _ _ _ h8.res)).trans h8.res
  have hgA : A ≠ g := by
    rintro rfl
    obtain ⟨c', hc'⟩ := own_type h9 rfl
    rw [eA] at hc'
    simp at hc'
  have gS := grown_set (grown_refl w9 A) 1 (.slice (some ⟨g, 0, none⟩) (l.length + 1) cap)
  have kS : Kt w9 (w9.setCell ⟨A, 1, none⟩ (.slice (some ⟨g, 0, none⟩) (l.length + 1) cap)) := Kt.ofGrown gS (fun r hr => by
    cases hr
    exact ⟨_, 29, _, eA, .inr rfl⟩)
  have kall := k8.trans (k9.trans kS)
  have s9 := h8.sx.kt k9
  refine ⟨by simp [World.cell?, eA], by simp [World.frozen?, eA], ?_⟩
  refine ⟨h.sx.kt kall, ?_, ?_, ?_, ?_, ?_, h.hA, h.hR, h.hne, h.hQ, fun r hr => h.hp r (h.sx.pgKt kall hr)⟩
  · exact (h.rows.snoc x ho hp ha).kt h.sx kall
  · rw [flatA_snoc]
    have := h9.kept gS (.inr (by simpa [Value.ownBlock] using Ne.symm hgA))
    simpa using this
  · rw [heap_set_at eA]; rfl
  · rw [Below.heap_setCell _ _ _ _ (Ne.symm h.hne)]
    exact eR
  · refine Below.setCell ?_ h.hA _
    exact h8.bel.grown hg h8.bel.size (fun r hr => (h8.own.lt r hr).1)
/-- a step and its answer -/
theorem Rn.step {w W W' : World} {T Q nn A Rb : Nat} {bud : Int} {m m' : Nat → Option (Bool × List Int)} {l : List An} {v cm vo : Value} (h : Rn w T Q nn bud m A Rb cm vo l v W) (hf : Sf Q W W') (hs : Sx T Q nn bud m' W') {e : Ending} {code : Int} {data : List Int} (ha : Ans Q W W' e code data) :
    ∃ u, e = .returned (.agg #[.int .i64 code, u]) ∧ Rn w T Q nn bud m' A Rb cm vo l v W' ∧ W'.ownsRow w.heap.size 5 1 u data.length (Ns .u8 data) ∧ (∀ g, u.ownBlock = some g → ¬ IsPg Q W' g) ∧ ∀ y ∈ l, ∀ g, y.2.ownBlock = some g → u.ownBlock ≠ some g := by
  obtain ⟨u, rfl, ho, hp⟩ := ha
  refine ⟨u, rfl, h.sf hf hs, own_mono ho h.bel.size, hp, fun y hy g hg e => ?_⟩
  have h1 := (ho.lt g e).1
  have h2 := ((h.rows.own y hy).1.lt g hg).2
  omega
/-- a cell of the report is put -/
theorem Rn.put {w W : World} {T Q nn A Rb : Nat} {bud : Int} {m : Nat → Option (Bool × List Int)} {l : List An} {v cm vo : Value} (h : Rn w T Q nn bud m A Rb cm vo l v W) (i : Nat) (x cm' vo' : Value) (he : (#[.bool true, v, cm, vo] : Array Value).setIfInBounds i x = #[.bool true, v, cm', vo']) : Rn w T Q nn bud m A Rb cm' vo' l v (W.setCell ⟨A, i, none⟩ x) := by
  have gS := grown_set (grown_refl W A) i x
  have kS : Kt W (W.setCell ⟨A, i, none⟩ x) := Kt.ofGrown gS (fun r hr => by
    cases hr
    exact ⟨_, 29, _, h.at_, .inr rfl⟩)
  refine ⟨h.sx.kt kS, h.rows.kt h.sx kS, h.own.kept gS (.inr fun e => ?_), ?_, ?_, Below.setCell h.bel h.hA _, h.hA, h.hR, h.hne, h.hQ, fun r hr => h.hp r (h.sx.pgKt kS hr)⟩
  · obtain ⟨c', hc'⟩ := own_type h.own e
    rw [h.at_] at hc'
    simp at hc'
  · rw [heap_set_at h.at_, he]
  · rw [Below.heap_setCell _ _ _ _ (Ne.symm h.hne)]
    exact h.res
end Go.Proofs.Ytiddopgeomojbaa

namespace Go.Proofs.Ytiddopgeomojbaa
open Go.RowKit Go.Shelf
set_option linter.unusedVariables false

/-- an operation as it lies in memory, and the bytes that it holds -/
structure Op9 where
  kd : Int
  p : Int
  c : Int
  a : Nat
  n : Int
  d : Option Addr
  dl : Nat
  dc : Nat
  ys : List Int
/-- the operations lie in block G -/
structure Oi (w : World) (G : Nat) (ops : List Op9) : Prop where
  row : ops ≠ [] → ∃ (c : Array Value) (f : Nat × Nat), w.heap[G]? = some (.cells c 34 f) ∧ ∀ i o, ops[i]? = some o → c[i * 6]? = some (.int .i64 o.kd) ∧ c[i * 6 + 1]? = some (.int .i64 o.p) ∧ c[i * 6 + 2]? = some (.int .i64 o.c) ∧ c[i * 6 + 3]? = some (.int .u64 o.a) ∧ c[i * 6 + 4]? = some (.int .i64 o.n) ∧ c[i * 6 + 5]? = some (.slice o.d o.dl o.dc)
  dat : ∀ o ∈ ops, o.a < 18446744073709551616 ∧ o.ys.length = o.dl ∧ ∀ i, i < o.dl → ∃ x, o.d = some x ∧ w.cell? (x.add i) = some (.int .u8 (o.ys[i]?.getD 0)) ∧ (x.add i).block < w.heap.size
/-- the run: the pages and the answers behind the first operations -/
def runM (nn : Nat) (bud : Int) (ops : List Op9) : Nat → (Nat → Option (Bool × List Int)) × List (Int × List Int)
  | 0 => (fun _ => none, [])
  | k + 1 => match ops[k]? with
    | none => runM nn bud ops k
    | some o => let r := stepM nn bud (runM nn bud ops k).1 o.kd o.p o.c o.a o.n o.ys
      (r.1, (runM nn bud ops k).2 ++ [r.2])

theorem runM_len (nn : Nat) (bud : Int) (ops : List Op9) : ∀ k, k ≤ ops.length → (runM nn bud ops k).2.length = k
  | 0, _ => rfl
  | k + 1, h => by
    have ih := runM_len nn bud ops k (by omega)
    simp only [runM, List.getElem?_eq_getElem (show k < ops.length by omega), List.length_append, List.length_cons, List.length_nil, ih]
theorem runM_succ (nn : Nat) (bud : Int) (ops : List Op9) (k : Nat) (o : Op9) (h : ops[k]? = some o) : runM nn bud ops (k + 1) = ((stepM nn bud (runM nn bud ops k).1 o.kd o.p o.c o.a o.n o.ys).1, (runM nn bud ops k).2 ++ [(stepM nn bud (runM nn bud ops k).1 o.kd o.p o.c o.a o.n o.ys).2]) := by
  simp only [runM, h]
theorem Oi.dt {w W : World} {G T Q nn A Rb : Nat} {bud : Int} {m : Nat → Option (Bool × List Int)} {l : List An} {v cm vo : Value} {ops : List Op9} (h : Oi w G ops) (hr : Rn w T Q nn bud m A Rb cm vo l v W) {o : Op9} (ho : o ∈ ops) : Dt Q W o.d o.dl o.ys := by
  obtain ⟨h1, h2, h3⟩ := h.dat o ho
  refine ⟨h2, fun i hi => ?_⟩
  obtain ⟨x, e1, e2, e3⟩ := h3 i hi
  refine ⟨x, e1, ?_, Nat.lt_of_lt_of_le e3 hr.bel.size, by have := hr.hQ; omega, fun hp => by have := hr.hp _ hp; omega⟩
  unfold World.cell? at e2 ⊢
  rw [hr.bel.block _ e3]
  exact e2
theorem Oi.six {w W : World} {G : Nat} {ops : List Op9} (h : Oi w G ops) (hb : Below w.heap.size w W) {k : Nat} {o : Op9} (ho : ops[k]? = some o) : W.cell? ⟨G, k * 6, none⟩ = some (.int .i64 o.kd) ∧ W.cell? ⟨G, k * 6 + 1, none⟩ = some (.int .i64 o.p) ∧ W.cell? ⟨G, k * 6 + 2, none⟩ = some (.int .i64 o.c) ∧ W.cell? ⟨G, k * 6 + 3, none⟩ = some (.int .u64 o.a) ∧ W.cell? ⟨G, k * 6 + 4, none⟩ = some (.int .i64 o.n) ∧ W.cell? ⟨G, k * 6 + 5, none⟩ = some (.slice o.d o.dl o.dc) := by
  obtain ⟨c, f, e1, e2⟩ := h.row (fun e => by subst e; cases ho)
  have e3 : W.heap[G]? = some (.cells c 34 f) := by rw [hb.block _ (lt_blk e1)]; exact e1
  obtain ⟨a0, a1, a2, a3, a4, a5⟩ := e2 k o ho
  simp only [World.cell?, e3]
  exact ⟨a0, a1, a2, a3, a4, a5⟩

theorem Rn.first {w w1 : World} {T Q nn : Nat} {bud : Int} (hs : Sx T Q nn bud (fun _ => none) w1) (hb : Below (w.heap.size + 1) (w.alloc (.cells #[.bool false, .slice none 0 0, .int .i64 0, .slice none 0 0] 29)) w1) (hT : w.heap.size + 1 ≤ T) (hQ : w.heap.size + 1 ≤ Q) :
    Rn w T Q nn bud (fun _ => none) w1.heap.size w.heap.size (.int .i64 0) (.slice none 0 0) [] (.slice none 0 0) (w1.alloc (.cells #[.bool true, .slice none 0 0, .int .i64 0, .slice none 0 0] 29)) := by
  have hz := hb.size
  rw [al_size] at hz
  have bb : Below w.heap.size w w1 := by
    have b0 : Below w.heap.size w (w.alloc (.cells #[.bool false, .slice none 0 0, .int .i64 0, .slice none 0 0] 29)) := (Below.refl _ _).alloc (Nat.le_refl _) _
    exact ⟨hb.os.trans b0.os, hb.tape.trans b0.tape, hb.output.trans b0.output, by omega, fun g hg => (hb.block g (by omega)).trans (b0.block g hg)⟩
  have ba : Below w1.heap.size w1 (w1.alloc (.cells #[.bool true, .slice none 0 0, .int .i64 0, .slice none 0 0] 29)) := (Below.refl _ _).alloc (Nat.le_refl _) _
  refine ⟨hs.below ba, ⟨by simp, by simp⟩, ⟨rfl, .inl ⟨rfl, rfl⟩⟩, al_last _ _, ?_, bb.alloc (by omega) _, by omega, by omega, by omega, by omega, fun g hg => ?_⟩
  · rw [al_old _ _ _ (by omega), hb.block _ (by omega)]
    exact al_last _ _
  · exfalso
    obtain ⟨k, hk⟩ := hg
    obtain ⟨c, e1, e2, e3, _⟩ := (hs.below ba).row
    have e0 : c[k * 3 + 2]? = some (.slice (some ⟨g, 0, none⟩) 1024 1024) := by simpa [World.cell?, e1] using hk
    have hkn : k < nn := by
      by_cases hl : k < nn
      · exact hl
      · rw [Array.getElem?_eq_none (by omega)] at e0; cases e0
    have h4 := (e3 k hkn).2.2
    rw [h4] at e0
    simp at e0

theorem Sf.keepT {T Q n : Nat} {bud : Int} {m : Nat → Option (Bool × List Int)} {W W' : World} (hf : Sf Q W W') (hs : Sx T Q n bud m W) {g : Nat} {c : Array Value} {t : TypeId} {f : Nat × Nat} (hg : W.heap[g]? = some (Obj.cells c t f)) (h1 : t ≠ 92) (h2 : t ≠ 5) : W'.heap[g]? = some (Obj.cells c t f) := by
  rw [← hg]
  refine hf.block g (lt_blk hg) ?_ (fun hp => ?_)
  · rintro rfl
    obtain ⟨cc, e1, _⟩ := hs.row
    rw [hg] at e1
    simp at e1
    exact h1 e1.2.1
  · obtain ⟨cc, e1⟩ := hs.pgT hp
    rw [hg] at e1
    simp at e1
    exact h2 e1.2.1
theorem two_new (W : World) (x y : Value) (t : TypeId) : ∀ j u, [x, y][j]? = some u → (W.alloc (.cells #[x, y] t)).cell? ((⟨W.heap.size, 0, none⟩ : Addr).add j) = some u := by
  intro j u h
  have hadd : (⟨W.heap.size, 0, none⟩ : Addr).add j = ⟨W.heap.size, j, none⟩ := by unfold Addr.add; split <;> simp_all
  rw [hadd, cell_of_row _ _ j _ _ _ (al_last W (.cells #[x, y] t)), ← h]
  simp
/-- behind a step, ahead of its append -/
structure Did (w : World) (T Q nn : Nat) (bud : Int) (m : Nat → Option (Bool × List Int)) (A Rb O : Nat) (op : Array Value) (l : List An) (v u : Value) (code : Int) (data : List Int) (w3 : World) : Prop where
  cA : w3.cell? ⟨A, 1, none⟩ = some v
  cA8 : (w3.alloc (.cells #[.int .i64 code, u] 36)).cell? ⟨A, 1, none⟩ = some v
  o3 : w3.heap[O]? = some (.cells op 34 (0, 0))
  o8 : (w3.alloc (.cells #[.int .i64 code, u] 36)).heap[O]? = some (.cells op 34 (0, 0))
  row : (w3.alloc (.cells #[.int .i64 code, u] 36)).ownsRow w.heap.size 36 2 v l.length (flatA l)
  one : ∀ x ∈ [Value.int .i64 code, u], x.oneCell' = true
  big : w.heap.size ≤ (w3.alloc (.cells #[.int .i64 code, u] 36)).heap.size
  next : ∀ g cap w9, w9.ownsRow w.heap.size 36 2 (.slice (some ⟨g, 0, none⟩) (l.length + 1) cap) (l.length + 1) (flatA l ++ [.int .i64 code, u]) → (w3.alloc (.cells #[.int .i64 code, u] 36)).grownBy w9 v.ownBlock →
    w9.cell? ⟨A, 1, none⟩ = some v ∧ w9.frozen? ⟨A, 1, none⟩ = false ∧ Hid (w9.heap[O]? = some (.cells op 34 (0, 0))) ∧ Hid ((w9.setCell ⟨A, 1, none⟩ (.slice (some ⟨g, 0, none⟩) (l.length + 1) cap)).heap[O]? = some (.cells op 34 (0, 0))) ∧
    Hid (Rn w T Q nn bud m A Rb (.int .i64 0) (.slice none 0 0) (l ++ [((code, data), u)]) (.slice (some ⟨g, 0, none⟩) (l.length + 1) cap) (w9.setCell ⟨A, 1, none⟩ (.slice (some ⟨g, 0, none⟩) (l.length + 1) cap)))
theorem Rn.did {w V w3 : World} {T Q nn A Rb O : Nat} {bud : Int} {m m' : Nat → Option (Bool × List Int)} {op : Array Value} {l : List An} {v : Value} (h : Rn w T Q nn bud m A Rb (.int .i64 0) (.slice none 0 0) l v V) (hO : V.heap[O]? = some (.cells op 34 (0, 0))) {e : Ending} {code : Int} {data : List Int} (ha : Ans Q V w3 e code data) (hs : Sx T Q nn bud m' w3) (hf : Sf Q V w3) :
    ∃ u, e = .returned (.agg #[.int .i64 code, u]) ∧ Did w T Q nn bud m' A Rb O op l v u code data w3 := by
  have o3 := hf.keepT h.sx hO (by decide) (by decide)
  obtain ⟨u, rfl, R3, ow, hp, hap⟩ := h.step hf hs ha
  have b8 : Below w3.heap.size w3 (w3.alloc (.cells #[.int .i64 code, u] 36)) := (Below.refl _ _).alloc (Nat.le_refl _) _
  have R8 := R3.below b8
  have o8 := (b8.block O (lt_blk o3)).trans o3
  have nx := fun (g cap : Nat) (w9 : World) h9 hg => R3.next (w9 := w9) ((code, data), u) ow hp hap g cap b8 h9 hg
  have hu : u.oneCell' = true := by
    rcases ow.2 with ⟨rfl, _⟩ | ⟨g, cap, cur, rfl, _⟩ <;> rfl
  refine ⟨u, rfl, cell_of_row _ _ 1 _ _ _ R3.at_, cell_of_row _ _ 1 _ _ _ R8.at_, o3, o8, R8.own, fun x hx => (by simp at hx; rcases hx with rfl | rfl; (first | rfl | exact hu); (first | rfl | exact hu)), R8.bel.size, fun g cap w9 h9 hg => ?_⟩
  obtain ⟨n1, n2, n3⟩ := nx g cap w9 h9 hg
  have o9 : w9.heap[O]? = some (.cells op 34 (0, 0)) := by
    rw [hg.block O (lt_blk o8) (fun e => ?_)]
    · exact o8
    · obtain ⟨c', hc'⟩ := own_type R8.own e.symm
      rw [o8] at hc'
      simp at hc'
  have hne : O ≠ A := by
    rintro rfl
    have := R3.at_
    rw [o3] at this
    simp at this
  exact ⟨n1, n2, o9, (Below.heap_setCell _ _ _ _ hne).trans o9, n3⟩

theorem Try.info36 : (Try.prog.info? 36).map (fun i => (i.zero, i.size, i.bytes)) = some (some (.agg #[.int .i64 0, .slice none 0 0]), 2, 32) := by kernel_rfl
theorem load_row_at {o : Oper} {a : Act} {w : World} {ty : TypeId} {x : Operand} (ho : o.op = .load ty x) (g : Nat) (hx : a.eval x = .pointer (some ⟨g, 0, none⟩)) {cs : Array Value} (hl : (loadVar ty ⟨g, 0, none⟩).run Try.prog w = .ok (.agg cs) w) : (execOp a.eval o).run Try.prog w = .ok (.value (.agg cs)) w := by
  unfold execOp
  simp only [ho, hx, Instr.loadAt, Instr.sureAddr, Sem.run_bind, Sem.run_pure, Result.andThen_ok, hl]

/-- a report, in memory of its own -/
def Rep (w : World) (rs : List (Int × List Int)) (cm : Int) (os : List Int) (r : Value) (w' : World) : Prop :=
  ∃ (l : List An) (v vo : Value), r = .agg #[.bool true, v, .int .i64 cm, vo] ∧ l.map Prod.fst = rs ∧ w'.ownsRow w.heap.size 36 2 v l.length (flatA l) ∧ (∀ x ∈ l, w'.ownsRow w.heap.size 5 1 x.2 x.1.2.length (Ns .u8 x.1.2)) ∧ (l.Pairwise fun x y => ∀ g, x.2.ownBlock = some g → y.2.ownBlock ≠ some g) ∧ w'.ownsRow w.heap.size 3 1 vo os.length (Ns .i64 os) ∧ Below w.heap.size w w'
theorem own_ne {W : World} {base : Nat} {e : TypeId} {size : Nat} {v : Value} {n : Nat} {xs : List Value} (h : W.ownsRow base e size v n xs) {g : Nat} {c : Array Value} {t : TypeId} {f : Nat × Nat} (hg : W.heap[g]? = some (.cells c t f)) (ht : t ≠ e) : v.ownBlock ≠ some g := by
  intro e1
  obtain ⟨c', hc'⟩ := own_type h e1
  rw [hg] at hc'
  simp at hc'
  exact ht hc'.2.1
theorem Rn.rep {w W : World} {T Q nn A Rb : Nat} {bud : Int} {m : Nat → Option (Bool × List Int)} {l : List An} {v vo : Value} {cm : Int} (h : Rn w T Q nn bud m A Rb (.int .i64 cm) vo l v W) (os : List Int) (ho : W.ownsRow w.heap.size 3 1 vo os.length (Ns .i64 os)) (cs : Array Value) :
    Rep w (l.map Prod.fst) cm os (.agg #[.bool true, v, .int .i64 cm, vo]) (W.setRow Rb cs) := by
  have hg := grown_setRow W Rb cs
  refine ⟨l, v, vo, rfl, rfl, h.own.kept hg (.inr (own_ne h.own h.res (by decide))), fun x hx => (h.rows.own x hx).1.kept hg (.inr (own_ne (h.rows.own x hx).1 h.res (by decide))), h.rows.apart, ho.kept hg (.inr (own_ne ho h.res (by decide))), h.bel.grown hg h.bel.size (fun r hr => by have := h.hR; simp at hr; omega)⟩
theorem Rn.ones {w W : World} {T Q nn A Rb : Nat} {bud : Int} {m : Nat → Option (Bool × List Int)} {l : List An} {v vo : Value} {cm : Int} (h : Rn w T Q nn bud m A Rb (.int .i64 cm) vo l v W) (os : List Int) (ho : W.ownsRow w.heap.size 3 1 vo os.length (Ns .i64 os)) : (#[Value.bool true, v, .int .i64 cm, vo].all fun x => x.oneCell') = true := by
  have h1 : v.oneCell' = true := by rcases h.own.2 with ⟨rfl, _⟩ | ⟨g, cap, cur, rfl, _⟩ <;> rfl
  have h2 : vo.oneCell' = true := by rcases ho.2 with ⟨rfl, _⟩ | ⟨g, cap, cur, rfl, _⟩ <;> rfl
  have h3 : (Value.bool true).oneCell' = true := rfl
  have h4 : (Value.int .i64 cm).oneCell' = true := rfl
  simp [h1, h2, h3, h4]

set_option maxHeartbeats 1000000 in
theorem sp_run (nn : Nat) (bud : Int) (G n cap : Nat) (d : Option Addr) (ops : List Op9) (w : World) (hn : ops.length = n) (hd : 0 < n → d = some ⟨G, 0, none⟩) (hO : Oi w G ops) (h1 : nn ≤ 4096) (h2 : 0 ≤ bud) (h3 : n ≤ 400) :
    Calls Try.prog 7 #[.int .i64 nn, .int .i64 bud, .slice d n cap] w fun e w' => ∃ r, e = .returned r ∧ Rep w (runM nn bud ops n).2 (cntM (runM nn bud ops n).1 nn) (opensM (runM nn bud ops n).1 nn) r w' := by
  have HN := hid (fun W => sp_new nn bud W h1)
  obtain ⟨MF, hMF⟩ : ∃ x, (runM nn bud ops n).1 = x := ⟨_, rfl⟩
  obtain ⟨RF, hRF⟩ : ∃ x, (runM nn bud ops n).2 = x := ⟨_, rfl⟩
  rw [hMF, hRF]
  obtain ⟨cm, hCF⟩ : ∃ x, (cntM MF nn : Int) = x := ⟨_, rfl⟩
  obtain ⟨os, hOF⟩ : ∃ x, opensM MF nn = x := ⟨_, rfl⟩
  rw [hCF, hOF]
  have HCF := hid hCF
  have HOF := hid hOF
  clear hCF hOF
  have HMF := hid hMF
  have HRF := hid hRF
  clear hMF hRF
  have HO := hid hO
  clear hO
  go_enter Try.func7, Try.ntmps7
  go_wp2_with fail
  refine (HN.out _).mono ?_
  rintro e w1 ⟨T, Q, rfl, hs, hb, hT, hQ⟩
  rw [al_size] at hb hT hQ
  have F0 := hid (Rn.first hs hb hT hQ)
  clear hs hb hT hQ HN
  go_wp2
  generalize w1.alloc _ = W0 at F0 ⊢
  generalize w1.heap.size = A at F0 ⊢
  generalize hRe : w.heap.size = Rb at F0 ⊢
  go_loopw [33] (fun i wr => ∃ k : Nat, k ≤ n ∧ i = .int .i64 k ∧ Hid (∃ l v, Rn w T Q nn bud (runM nn bud ops k).1 A Rb (.int .i64 0) (.slice none 0 0) l v wr ∧ l.map Prod.fst = (runM nn bud ops k).2)) (fun i _ => n - (intOf i).toNat)
  case atStart => exact ⟨0, Nat.zero_le _, rfl, [], _, F0.out, rfl⟩
  case round =>
    obtain ⟨k, hk, rfl, HL⟩ := hrel
    obtain ⟨l, v, hl, hm⟩ := HL.out
    clear HL
    by_cases hlt : k < n
    · obtain ⟨o, ho⟩ : ∃ o, ops[k]? = some o := ⟨_, List.getElem?_eq_getElem (by omega)⟩
      have HD := hd (by omega)
      subst HD
      obtain ⟨d0, d1, d2, d3, d4, d5⟩ := HO.out.six hl.bel ho
      have hlen : l.length = k := by rw [← runM_len nn bud ops k (by omega), ← hm]; simp
      have bV : Below wr.heap.size wr (wr.alloc (.cells #[.int .i64 o.kd, .int .i64 o.p, .int .i64 o.c, .int .u64 o.a, .int .i64 o.n, .slice o.d o.dl o.dc] 34)) := (Below.refl _ _).alloc (Nat.le_refl _) _
      have HV := hid (hl.below bV)
      have OV := hid (al_last wr (.cells #[.int .i64 o.kd, .int .i64 o.p, .int .i64 o.c, .int .u64 o.a, .int .i64 o.n, .slice o.d o.dl o.dc] 34))
      have hmem : o ∈ ops := List.mem_of_getElem? ho
      have ha := (HO.out.dat o hmem).1
      have HE := hid (runM_succ nn bud ops k o ho)
      have HM := hid hm
      clear hl F0 bV hm
      go_wp2
      generalize wr.alloc _ = V at HV OV ⊢
      generalize wr.heap.size = O at OV ⊢
      have VD := hid (HV.out.below (Below.refl _ _).drew)
      have HG := hid (sp_do T Q nn bud (runM nn bud ops k).1 o.kd o.p o.c o.a o.n o.d o.dl o.dc o.ys V.drew VD.out.sx (HO.out.dt VD.out hmem) h1 ha)
      obtain ⟨st, hst⟩ : ∃ st, stepM nn bud (runM nn bud ops k).1 o.kd o.p o.c o.a o.n o.ys = st := ⟨_, rfl⟩
      rw [hst] at HG HE
      have DD := hid (fun e w3 (h : Ans Q V.drew w3 e st.2.1 st.2.2 ∧ Sx T Q nn bud st.1 w3 ∧ Sf Q V.drew w3) => VD.out.did (O := O) OV.out h.1 h.2.1 h.2.2)
      have cA1 : V.cell? ⟨A, 1, none⟩ = some v := by simp [World.cell?, HV.out.at_]
      obtain ⟨m', code, data⟩ := st
      simp only at HG HE DD
      clear hst d0 d1 d2 d3 d4 d5 HV ho hmem VD
      unfold opV at HG
      refine wp_region_held (S := fun W => Hid (W.heap[O]? = some (.cells #[.int .i64 o.kd, .int .i64 o.p, .int .i64 o.c, .int .u64 o.a, .int .i64 o.n, .slice o.d o.dl o.dc] 34 (0, 0)))) (by kernel_rfl) ?_
      simp only [List.size_toArray, List.length_cons, List.length_nil, Nat.reduceAdd, Array.replicate_succ, Array.replicate_zero, List.push_toArray, List.nil_append, List.cons_append]
      have hS : Hid (V.drew.heap[O]? = some (.cells #[.int .i64 o.kd, .int .i64 o.p, .int .i64 o.c, .int .u64 o.a, .int .i64 o.n, .slice o.d o.dl o.dc] 34 (0, 0))) := OV
      refine wpAnyH_put (i := 0) (d := 37) (v := .pointer (some ⟨A, 1, none⟩)) rfl (by kernel_rfl) (by kernel_rfl) (by kernel_rfl) (by kernel_rfl) (fun _ _ _ h => h) (Or.inl ⟨by kernel_rfl, fun _ _ => by kernel_rfl⟩) hS ?_
      simp only [List.setIfInBounds_toArray, List.set_cons_zero, List.set_cons_succ]
      refine wpAnyH_put (i := 2) (d := 39) (v := .pointer (some ⟨T, 0, none⟩)) rfl (by kernel_rfl) (by kernel_rfl) (by kernel_rfl) (by kernel_rfl) (fun _ _ _ h => h) (Or.inl ⟨by kernel_rfl, fun _ _ => by kernel_rfl⟩) hS ?_
      simp only [List.setIfInBounds_toArray, List.set_cons_zero, List.set_cons_succ]
      refine wpAnyH_put (i := 3) (d := 40) (v := .agg #[.int .i64 o.kd, .int .i64 o.p, .int .i64 o.c, .int .u64 o.a, .int .i64 o.n, .slice o.d o.dl o.dc]) rfl (by kernel_rfl) (by kernel_rfl) (by kernel_rfl) (by kernel_rfl) (fun _ _ _ h => h) (Or.inl ⟨by kernel_rfl, fun W hS => load_row_at rfl O (by rfl) (run_loadVar_row W O 34 34 _ _ _ hS.out Try.underlying34 rfl (by kernel_rfl))⟩) hS ?_
      simp only [List.setIfInBounds_toArray, List.set_cons_zero, List.set_cons_succ]
      refine wpAnyH_all (rs := [1, 4]) (by kernel_rfl) (by simp) (fun i hi => ?_)
      have hi2 : i = 1 ∨ i = 4 := by simpa using hi
      clear hi
      rcases hi2 with rfl | rfl
      · skip
        refine wpOp_do rfl (by kernel_rfl) (fun K' hK => ?_)
        go_simp
        refine hK.out _ _ ⟨hS, ?_⟩
        clear hK K'
        refine wpAnyH_one (r := 4) (by kernel_rfl) ?_
        refine wpOp_do rfl (by kernel_rfl) (fun K' hK => ?_)
        go_simp
        refine (HG.out).mono ?_
        rintro e w3 hh
        obtain ⟨u, rfl, hq⟩ := DD.out e w3 hh
        have c3 := hq.cA
        have c8 := hq.cA8
        have H3 := hid hq
        clear hq hh cA1
        refine hK.out _ _ ⟨H3.out.o3, ?_⟩
        clear hK K'
        refine wpAnyH_one (r := 5) (by kernel_rfl) ?_
        refine wpOp_do rfl (by kernel_rfl) (fun K' hK => ?_)
        go_simp
        refine hK.out _ _ ⟨H3.out.o8, ?_⟩
        clear hK K'
        refine wpAnyH_one (r := 6) (by kernel_rfl) ?_
        refine wpOp_do rfl (by kernel_rfl) (fun K' hK => ?_)
        obtain ⟨i0, hi0, hz0, hz1, hz2⟩ := info_parts Try.info36
        refine wp_append_lies _ (.tmp 38) (.tmp 42) 26 rfl w.heap.size 36 i0 _ 2 32 Try.underlying26 hi0 hz0 hz1 hz2 rfl (by omega) v l.length _ (by rfl) H3.out.row ⟨w3.heap.size, 0, none⟩ 1 1 [.int .i64 code, u] (by rfl) rfl (two_new w3 _ _ 36) H3.out.one (by omega) ?b1 ?b2 H3.out.big _ rfl ?_
        case b1 => unfold maxLen; omega
        case b2 => omega
        intro g cp w9 ho9 hg9 hgo hgl
        obtain ⟨cA1', fA', o9, oS, RN⟩ := H3.out.next g cp w9 ho9 hg9
        rw [hlen] at oS RN
        clear ho9 hg9 hgo hgl c3 c8 hi0 hz0 hz1 hz2
        refine hK.out _ _ ⟨o9, ?_⟩
        clear hK K'
        simp only [Act.put, List.setIfInBounds_toArray, List.set_cons_zero, List.set_cons_succ]
        refine wpAnyH_put (i := 7) (d := 44) (v := .pointer (some ⟨A, 1, none⟩)) rfl (by kernel_rfl) (by kernel_rfl) (by kernel_rfl) (by kernel_rfl) (fun _ _ _ h => h) (Or.inl ⟨by kernel_rfl, fun _ _ => by kernel_rfl⟩) o9 ?_
        simp only [List.setIfInBounds_toArray, List.set_cons_zero, List.set_cons_succ]
        refine wpAnyH_one (r := 8) (by kernel_rfl) ?_
        refine wpOp_do rfl (by kernel_rfl) (fun K' hK => ?_)
        go_simp
        refine hK.out _ _ ⟨oS, ?_⟩
        clear hK K'
        refine wpAnyH_done (by kernel_rfl) ?_ _
        go_wp2
        go_roundw
        case rel => exact ⟨k + 1, by omega, by go_num, _, _, by rw [HE.out]; exact RN.out, by rw [HE.out]; simp [HM.out]⟩
        case measure => simp [intOf]; omega
      · skip
        refine wpOp_do rfl (by kernel_rfl) (fun K' hK => ?_)
        go_simp
        refine (HG.out).mono ?_
        rintro e w3 hh
        obtain ⟨u, rfl, hq⟩ := DD.out e w3 hh
        have c3 := hq.cA
        have c8 := hq.cA8
        have H3 := hid hq
        clear hq hh cA1
        refine hK.out _ _ ⟨H3.out.o3, ?_⟩
        clear hK K'
        refine wpAnyH_all (rs := [1, 5]) (by kernel_rfl) (by simp) (fun i hi => ?_)
        have hi2 : i = 1 ∨ i = 5 := by simpa using hi
        clear hi
        rcases hi2 with rfl | rfl
        · skip
          refine wpOp_do rfl (by kernel_rfl) (fun K' hK => ?_)
          go_simp
          refine hK.out _ _ ⟨H3.out.o3, ?_⟩
          clear hK K'
          refine wpAnyH_one (r := 5) (by kernel_rfl) ?_
          refine wpOp_do rfl (by kernel_rfl) (fun K' hK => ?_)
          go_simp
          refine hK.out _ _ ⟨H3.out.o8, ?_⟩
          clear hK K'
          refine wpAnyH_one (r := 6) (by kernel_rfl) ?_
          refine wpOp_do rfl (by kernel_rfl) (fun K' hK => ?_)
          obtain ⟨i0, hi0, hz0, hz1, hz2⟩ := info_parts Try.info36
          refine wp_append_lies _ (.tmp 38) (.tmp 42) 26 rfl w.heap.size 36 i0 _ 2 32 Try.underlying26 hi0 hz0 hz1 hz2 rfl (by omega) v l.length _ (by rfl) H3.out.row ⟨w3.heap.size, 0, none⟩ 1 1 [.int .i64 code, u] (by rfl) rfl (two_new w3 _ _ 36) H3.out.one (by omega) ?b1 ?b2 H3.out.big _ rfl ?_
          case b1 => unfold maxLen; omega
          case b2 => omega
          intro g cp w9 ho9 hg9 hgo hgl
          obtain ⟨cA1', fA', o9, oS, RN⟩ := H3.out.next g cp w9 ho9 hg9
          rw [hlen] at oS RN
          clear ho9 hg9 hgo hgl c3 c8 hi0 hz0 hz1 hz2
          refine hK.out _ _ ⟨o9, ?_⟩
          clear hK K'
          simp only [Act.put, List.setIfInBounds_toArray, List.set_cons_zero, List.set_cons_succ]
          refine wpAnyH_put (i := 7) (d := 44) (v := .pointer (some ⟨A, 1, none⟩)) rfl (by kernel_rfl) (by kernel_rfl) (by kernel_rfl) (by kernel_rfl) (fun _ _ _ h => h) (Or.inl ⟨by kernel_rfl, fun _ _ => by kernel_rfl⟩) o9 ?_
          simp only [List.setIfInBounds_toArray, List.set_cons_zero, List.set_cons_succ]
          refine wpAnyH_one (r := 8) (by kernel_rfl) ?_
          refine wpOp_do rfl (by kernel_rfl) (fun K' hK => ?_)
          go_simp
          refine hK.out _ _ ⟨oS, ?_⟩
          clear hK K'
          refine wpAnyH_done (by kernel_rfl) ?_ _
          go_wp2
          go_roundw
          case rel => exact ⟨k + 1, by omega, by go_num, _, _, by rw [HE.out]; exact RN.out, by rw [HE.out]; simp [HM.out]⟩
          case measure => simp [intOf]; omega
        · skip
          refine wpOp_do rfl (by kernel_rfl) (fun K' hK => ?_)
          go_simp
          refine hK.out _ _ ⟨H3.out.o8, ?_⟩
          clear hK K'
          refine wpAnyH_one (r := 1) (by kernel_rfl) ?_
          refine wpOp_do rfl (by kernel_rfl) (fun K' hK => ?_)
          go_simp
          refine hK.out _ _ ⟨H3.out.o8, ?_⟩
          clear hK K'
          refine wpAnyH_one (r := 6) (by kernel_rfl) ?_
          refine wpOp_do rfl (by kernel_rfl) (fun K' hK => ?_)
          obtain ⟨i0, hi0, hz0, hz1, hz2⟩ := info_parts Try.info36
          refine wp_append_lies _ (.tmp 38) (.tmp 42) 26 rfl w.heap.size 36 i0 _ 2 32 Try.underlying26 hi0 hz0 hz1 hz2 rfl (by omega) v l.length _ (by rfl) H3.out.row ⟨w3.heap.size, 0, none⟩ 1 1 [.int .i64 code, u] (by rfl) rfl (two_new w3 _ _ 36) H3.out.one (by omega) ?b1 ?b2 H3.out.big _ rfl ?_
          case b1 => unfold maxLen; omega
          case b2 => omega
          intro g cp w9 ho9 hg9 hgo hgl
          obtain ⟨cA1', fA', o9, oS, RN⟩ := H3.out.next g cp w9 ho9 hg9
          rw [hlen] at oS RN
          clear ho9 hg9 hgo hgl c3 c8 hi0 hz0 hz1 hz2
          refine hK.out _ _ ⟨o9, ?_⟩
          clear hK K'
          simp only [Act.put, List.setIfInBounds_toArray, List.set_cons_zero, List.set_cons_succ]
          refine wpAnyH_put (i := 7) (d := 44) (v := .pointer (some ⟨A, 1, none⟩)) rfl (by kernel_rfl) (by kernel_rfl) (by kernel_rfl) (by kernel_rfl) (fun _ _ _ h => h) (Or.inl ⟨by kernel_rfl, fun _ _ => by kernel_rfl⟩) o9 ?_
          simp only [List.setIfInBounds_toArray, List.set_cons_zero, List.set_cons_succ]
          refine wpAnyH_one (r := 8) (by kernel_rfl) ?_
          refine wpOp_do rfl (by kernel_rfl) (fun K' hK => ?_)
          go_simp
          refine hK.out _ _ ⟨oS, ?_⟩
          clear hK K'
          refine wpAnyH_done (by kernel_rfl) ?_ _
          go_wp2
          go_roundw
          case rel => exact ⟨k + 1, by omega, by go_num, _, _, by rw [HE.out]; exact RN.out, by rw [HE.out]; simp [HM.out]⟩
          case measure => simp [intOf]; omega
    · have hkn : k = n := by omega
      subst hkn
      clear F0
      rw [HMF.out] at hl
      rw [HRF.out] at hm
      have HC := hid (committed_any T Q nn bud MF wr hl.sx h1)
      rw [HCF.out] at HC
      have H0 := hid hl
      clear hl
      go_wp2_with fail
      refine (HC.out).mono ?_
      rintro e w2 ⟨rfl, hb2⟩
      have R2 := H0.out.below hb2
      have c2 := cell_of_row _ _ 2 _ _ _ R2.at_
      have f2 : w2.frozen? ⟨A, 2, none⟩ = false := by simp [World.frozen?, R2.at_]
      have R3 := hid (R2.put 2 (.int .i64 cm) (.int .i64 cm) (.slice none 0 0) rfl)
      simp only [List.getElem?_toArray, List.getElem?_cons_succ, List.getElem?_cons_zero] at c2
      clear R2 hb2 HC H0
      have HP := hid (opened_any T Q nn bud MF _ R3.out.sx h1)
      rw [HOF.out] at HP
      go_wp2_with fail
      refine (HP.out).mono ?_
      rintro e w4 ⟨vo, rfl, ho4, hb4⟩
      obtain ⟨va, vl, vc, rfl⟩ : ∃ a b c, vo = .slice a b c := by rcases ho4.2 with ⟨rfl, _⟩ | ⟨g, cap, cur, rfl, _⟩ <;> exact ⟨_, _, _, rfl⟩
      have R4 := R3.out.below hb4
      have c4 := cell_of_row _ _ 3 _ _ _ R4.at_
      have f4 : w4.frozen? ⟨A, 3, none⟩ = false := by simp [World.frozen?, R4.at_]
      have ho5 := (own_mono ho4 R3.out.bel.size).kept (grown_set (grown_refl w4 A) 3 (.slice va vl vc)) (.inr (own_ne ho4 R4.at_ (by decide)))
      have R5 := hid (R4.put 3 (.slice va vl vc) (.int .i64 cm) (.slice va vl vc) rfl)
      have O5 := hid ho5
      simp only [List.getElem?_toArray, List.getElem?_cons_succ, List.getElem?_cons_zero] at c4
      clear R4 hb4 HP R3 ho5 ho4 c2 f2
      go_wp2_with (first | (refine wpList_load_row rfl 29 _ rfl _ rfl _ _ _ _ R5.out.at_ Try.underlying29 rfl (by kernel_rfl) ?_) | (refine wpList_store_row rfl 29 _ _ rfl _ _ rfl rfl 29 _ R5.out.res (by kernel_rfl) rfl ?o1 ?_))
      case o1 => exact R5.out.ones _ O5.out
      refine bodyPost_ret (results_cell_row (by rfl) _ _ Rb 29 _ (0, 0) _ (by rfl) (setRow_at R5.out.res _) Try.underlying29 rfl (by kernel_rfl)) (by rfl) ?_
      exact ⟨_, rfl, by have h9 := R5.out.rep _ O5.out; rw [hm] at h9; exact h9 _⟩
end Go.Proofs.Ytiddopgeomojbaa

namespace Go.Proofs.Ytiddopgeomojbaa
open Go.RowKit Go.Shelf
set_option linter.unusedVariables false

set_option maxHeartbeats 1000000 in
/-- a run with arguments that are not good -/
theorem sp_run_no (nn bud : Int) (n cap : Nat) (d : Option Addr) (w : World) (h : nn < 0 ∨ 4096 < nn ∨ bud < 0 ∨ 400 < n) :
    Calls Try.prog 7 #[.int .i64 nn, .int .i64 bud, .slice d n cap] w fun e w' => e = .returned (.agg #[.bool false, .slice none 0 0, .int .i64 0, .slice none 0 0]) ∧ Below w.heap.size w w' := by
  have hb : Below w.heap.size w (w.alloc (.cells #[.bool false, .slice none 0 0, .int .i64 0, .slice none 0 0] 29)) := (Below.refl _ _).alloc (Nat.le_refl _) _
  have hL := al_last w (.cells #[.bool false, .slice none 0 0, .int .i64 0, .slice none 0 0] 29)
  have HB := hid hb
  have HL := hid hL
  clear hb hL
  have ht : (decide (nn < 0) || decide (4096 < nn) || decide (bud < 0) || decide (400 < (n : Int))) = true := by
    simp only [Bool.or_eq_true, decide_eq_true_eq]; omega
  clear h
  go_enter Try.func7, Try.ntmps7
  go_wp2_with fail
  all_goals (refine bodyPost_ret (results_cell_row (by rfl) _ _ w.heap.size 29 _ (0, 0) _ (by rfl) HL.out Try.underlying29 rfl (by kernel_rfl)) (by rfl) ?_; exact ⟨rfl, HB.out⟩)
end Go.Proofs.Ytiddopgeomojbaa
