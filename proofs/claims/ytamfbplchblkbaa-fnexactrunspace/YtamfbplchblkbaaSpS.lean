import Derived.Test.YtamfbplchblkbaaSpR
namespace Go.Proofs.Ytamfbplchblkbaa
open Go.RowKit Go.Shelf
set_option linter.unusedVariables false

/-- an answer: its code, its bytes, and the value that holds the bytes -/
abbrev An := (Int × List Int) × Value
def flatA (l : List An) : List Value := l.flatMap fun x => [.int .i64 x.1.1, x.2]
theorem flatA_snoc (l : List An) (x : An) : flatA (l ++ [x]) = flatA l ++ [.int .i64 x.1.1, x.2] := by simp [flatA]
theorem flatA_len (l : List An) : (flatA l).length = l.length * 2 := by
  induction l with
  | nil => rfl
  | cons a l ih => simp only [flatA, List.flatMap_cons, List.length_append, List.length_cons, List.length_nil] at ih ⊢; omega
/-- the answers' bytes: each in a block of its own that is no page -/
structure Rw (B Q : Nat) (W : World) (l : List An) : Prop where
  own : ∀ x ∈ l, W.ownsRow B 5 1 x.2 x.1.2.length (Ns .u8 x.1.2) ∧ ∀ g, x.2.ownBlock = some g → ¬ IsPg Q W g
  apart : l.Pairwise fun x y => ∀ g, x.2.ownBlock = some g → y.2.ownBlock ≠ some g

/-- all but the rows of answers and the reports stay -/
structure Kt (W W' : World) : Prop where
  size : W.heap.size ≤ W'.heap.size
  block : ∀ (g : Nat) (c : Array Value) (t : TypeId) (f : Nat × Nat), W.heap[g]? = some (Obj.cells c t f) → t ≠ 36 → t ≠ 29 → W'.heap[g]? = W.heap[g]?
theorem Kt.trans {a b c : World} (h : Kt a b) (k : Kt b c) : Kt a c :=
  ⟨Nat.le_trans h.size k.size, fun g c t f h1 h2 h3 => by
    have e := h.block g c t f h1 h2 h3
    exact (k.block g c t f (e.trans h1) h2 h3).trans e⟩
theorem Kt.ofBelow {W W' : World} (h : Below W.heap.size W W') : Kt W W' := ⟨h.size, fun g c t f h1 _ _ => h.block g (lt_blk h1)⟩
theorem Kt.ofGrown {W W' : World} {r : Option Nat} (h : W.grownBy W' r) (hr : ∀ g, r = some g → ∃ (c : Array Value) (t : TypeId) (f : Nat × Nat), W.heap[g]? = some (Obj.cells c t f) ∧ (t = 36 ∨ t = 29)) : Kt W W' :=
  ⟨h.size, fun g c t f h1 h2 h3 => h.block g (lt_blk h1) (fun e => by
    obtain ⟨c', t', f', e1, e2⟩ := hr g e.symm
    rw [h1] at e1
    simp at e1
    obtain ⟨_, rfl, _⟩ := e1
    rcases e2 with e2 | e2
    · exact h2 e2
    · exact h3 e2)⟩
theorem Sx.kt {T Q n : Nat} {bud : Int} {m : Nat → Option (Bool × List Int)} {W W' : World} (h : Sx T Q n bud m W) (hb : Kt W W') : Sx T Q n bud m W' := by
  obtain ⟨c, h1, h2, h3, hinj⟩ := h.row
  refine ⟨by rw [hb.block _ _ _ _ h.box (by decide) (by decide)]; exact h.box, ⟨c, by rw [hb.block _ _ _ _ h1 (by decide) (by decide)]; exact h1, h2, fun k hk => ?_, hinj⟩, h.out⟩
  have h4 := h3 k hk
  cases hm : m k with
  | none => rw [hm] at h4; exact h4
  | some q =>
    obtain ⟨l, xs⟩ := q
    rw [hm] at h4
    obtain ⟨a1, a2, a4, g, a3, a5⟩ := h4
    exact ⟨a1, a2, a4, g, a3, by rw [hb.block _ _ _ _ a5 (by decide) (by decide)]; exact a5⟩
theorem Sx.pgT {T Q n : Nat} {bud : Int} {m : Nat → Option (Bool × List Int)} {W : World} (hs : Sx T Q n bud m W) {g : Nat} (hg : IsPg Q W g) : ∃ c, W.heap[g]? = some (.cells c 5 (0, 0)) := by
  obtain ⟨k, hk⟩ := hg
  obtain ⟨cc, h1, h2, h3, _⟩ := hs.row
  have e0 : cc[k * 3 + 2]? = some (.slice (some ⟨g, 0, none⟩) 1024 1024) := by simpa [World.cell?, h1] using hk
  have hkn : k < n := by
    by_cases hl : k < n
    · exact hl
    · rw [Array.getElem?_eq_none (by omega)] at e0; cases e0
  have h4 := h3 k hkn
  cases hm : m k with
  | none => rw [hm] at h4; rw [h4.2.2] at e0; simp at e0
  | some q =>
    obtain ⟨l, xs⟩ := q
    rw [hm] at h4
    obtain ⟨_, _, _, g', a3, a5⟩ := h4
    rw [a3] at e0
    simp at e0
    subst e0
    exact ⟨_, a5⟩
theorem Sx.pgKt {T Q n : Nat} {bud : Int} {m : Nat → Option (Bool × List Int)} {W W' : World} (hs : Sx T Q n bud m W) (hb : Kt W W') {g : Nat} (hg : IsPg Q W' g) : IsPg Q W g := by
  obtain ⟨k, hk⟩ := hg
  obtain ⟨c, h1, _⟩ := hs.row
  refine ⟨k, ?_⟩
  unfold World.cell? at hk ⊢
  rw [hb.block _ _ _ _ h1 (by decide) (by decide)] at hk
  exact hk
theorem own_keep {W W' : World} {base : Nat} {e : TypeId} {size : Nat} {v : Value} {n : Nat} {xs : List Value} (h : W.ownsRow base e size v n xs) (hk : ∀ (g : Nat) (c : Array Value), v.ownBlock = some g → W.heap[g]? = some (.cells c e (0, 0)) → W'.heap[g]? = W.heap[g]?) : W'.ownsRow base e size v n xs := by
  refine ⟨h.1, ?_⟩
  rcases h.2 with hn | ⟨g, cap, cur, rfl, hb, hgg, rest⟩
  · exact .inl hn
  · exact .inr ⟨g, cap, cur, rfl, hb, (hk g cur rfl hgg).trans hgg, rest⟩
theorem own_type {W : World} {base : Nat} {e : TypeId} {size : Nat} {v : Value} {n : Nat} {xs : List Value} (h : W.ownsRow base e size v n xs) {g : Nat} (hg : v.ownBlock = some g) : ∃ c, W.heap[g]? = some (.cells c e (0, 0)) := by
  rcases h.2 with ⟨rfl, _⟩ | ⟨g', cap, cur, rfl, hb, hgg, _⟩
  · cases hg
  · cases hg; exact ⟨_, hgg⟩
theorem Rw.kt {T Q n B : Nat} {bud : Int} {m : Nat → Option (Bool × List Int)} {W W' : World} {l : List An} (h : Rw B Q W l) (hs : Sx T Q n bud m W) (hb : Kt W W') : Rw B Q W' l :=
  ⟨fun x hx => ⟨own_keep (h.own x hx).1 (fun g c _ hc => hb.block g c 5 _ hc (by decide) (by decide)), fun g hg hp => (h.own x hx).2 g hg (hs.pgKt hb hp)⟩, h.apart⟩
theorem Rw.sf {T Q n B : Nat} {bud : Int} {m : Nat → Option (Bool × List Int)} {W W' : World} {l : List An} (h : Rw B Q W l) (hs : Sx T Q n bud m W) (hf : Sf Q W W') : Rw B Q W' l := by
  refine ⟨fun x hx => ⟨own_keep (h.own x hx).1 (fun g c hg hc => hf.block g (lt_blk hc) ?_ ((h.own x hx).2 g hg)), fun g hg hp => ?_⟩, h.apart⟩
  · rintro rfl
    obtain ⟨cc, h1, _⟩ := hs.row
    rw [hc] at h1
    simp at h1
  · obtain ⟨c, hc⟩ := own_type (h.own x hx).1 hg
    rcases hf.pg g hp with h1 | h1
    · exact (h.own x hx).2 g hg h1
    · have := lt_blk hc; omega
theorem Rw.snoc {B Q : Nat} {W : World} {l : List An} (h : Rw B Q W l) (x : An) (ho : W.ownsRow B 5 1 x.2 x.1.2.length (Ns .u8 x.1.2)) (hp : ∀ g, x.2.ownBlock = some g → ¬ IsPg Q W g) (ha : ∀ y ∈ l, ∀ g, y.2.ownBlock = some g → x.2.ownBlock ≠ some g) : Rw B Q W (l ++ [x]) := by
  refine ⟨fun y hy => ?_, ?_⟩
  · rcases List.mem_append.1 hy with h1 | h1
    · exact h.own y h1
    · obtain rfl : y = x := by simpa using h1
      exact ⟨ho, hp⟩
  · rw [List.pairwise_append]
    refine ⟨h.apart, by simp, fun y hy z hz => ?_⟩
    obtain rfl : z = x := by simpa using hz
    exact ha y hy

/-- the run under way: its report lies in block A -/
structure Rn (w : World) (T Q nn : Nat) (bud : Int) (m : Nat → Option (Bool × List Int)) (A Rb : Nat) (cm vo : Value) (l : List An) (v : Value) (W : World) : Prop where
  sx : Sx T Q nn bud m W
  rows : Rw w.heap.size Q W l
  own : W.ownsRow w.heap.size 36 2 v l.length (flatA l)
  at_ : W.heap[A]? = some (.cells #[.bool true, v, cm, vo] 29 (0, 0))
  res : W.heap[Rb]? = some (.cells #[.bool false, .slice none 0 0, .int .i64 0, .slice none 0 0] 29 (0, 0))
  bel : Below w.heap.size w W
  hA : w.heap.size ≤ A
  hR : w.heap.size ≤ Rb
  hne : A ≠ Rb
  hQ : w.heap.size ≤ Q
  hp : ∀ g, IsPg Q W g → w.heap.size ≤ g
theorem Rn.sf {w W W' : World} {T Q nn A Rb : Nat} {bud : Int} {m m' : Nat → Option (Bool × List Int)} {l : List An} {v cm vo : Value} (h : Rn w T Q nn bud m A Rb cm vo l v W) (hf : Sf Q W W') (hs : Sx T Q nn bud m' W') : Rn w T Q nn bud m' A Rb cm vo l v W' := by
  have keep : ∀ (g : Nat) (c : Array Value) (t : TypeId) (f : Nat × Nat), W.heap[g]? = some (Obj.cells c t f) → t ≠ 92 → t ≠ 5 → W'.heap[g]? = W.heap[g]? := by
    intro g c t f hg h1 h2
    refine hf.block g (lt_blk hg) ?_ (fun hp => ?_)
    · rintro rfl
      obtain ⟨cc, e1, _⟩ := h.sx.row
      rw [hg] at e1
      simp at e1
      exact h1 e1.2.1
    · obtain ⟨cc, e1⟩ := h.sx.pgT hp
      rw [hg] at e1
      simp at e1
      exact h2 e1.2.1
  refine ⟨hs, h.rows.sf h.sx hf, own_keep h.own (fun g c _ hc => keep g c 36 _ hc (by decide) (by decide)), (keep _ _ _ _ h.at_ (by decide) (by decide)).trans h.at_, (keep _ _ _ _ h.res (by decide) (by decide)).trans h.res, ?_, h.hA, h.hR, h.hne, h.hQ, fun g hg => ?_⟩
  · have hb := hf.below h.bel.size h.hQ h.hp
    exact ⟨hb.os.trans h.bel.os, hb.tape.trans h.bel.tape, hb.output.trans h.bel.output, Nat.le_trans h.bel.size hb.size, fun g hg => (hb.block g hg).trans (h.bel.block g hg)⟩
  · rcases hf.pg g hg with h1 | h1
    · exact h.hp g h1
    · have := h.bel.size; omega
theorem Rn.below {w W W' : World} {T Q nn A Rb : Nat} {bud : Int} {m : Nat → Option (Bool × List Int)} {l : List An} {v cm vo : Value} (h : Rn w T Q nn bud m A Rb cm vo l v W) (hb : Below W.heap.size W W') : Rn w T Q nn bud m A Rb cm vo l v W' :=
  h.sf (Sf.ofBelow hb h.sx.ltQ) (h.sx.below hb)

/-- an answer is appended -/
theorem Rn.next {w W w9 : World} {T Q nn A Rb : Nat} {bud : Int} {m : Nat → Option (Bool × List Int)} {l : List An} {v cm vo : Value} (h : Rn w T Q nn bud m A Rb cm vo l v W) (x : An)
    (ho : W.ownsRow w.heap.size 5 1 x.2 x.1.2.length (Ns .u8 x.1.2)) (hp : ∀ g, x.2.ownBlock = some g → ¬ IsPg Q W g) (ha : ∀ y ∈ l, ∀ g, y.2.ownBlock = some g → x.2.ownBlock ≠ some g) (g cap : Nat)
    {W8 : World} (b8 : Below W.heap.size W W8) (h9 : w9.ownsRow w.heap.size 36 2 (.slice (some ⟨g, 0, none⟩) (l.length + 1) cap) (l.length + 1) (flatA l ++ [.int .i64 x.1.1, x.2])) (hg : W8.grownBy w9 v.ownBlock) :
    w9.cell? ⟨A, 1, none⟩ = some v ∧ w9.frozen? ⟨A, 1, none⟩ = false ∧ Rn w T Q nn bud m A Rb cm vo (l ++ [x]) (.slice (some ⟨g, 0, none⟩) (l.length + 1) cap) (w9.setCell ⟨A, 1, none⟩ (.slice (some ⟨g, 0, none⟩) (l.length + 1) cap)) := by
  have h8 := h.below b8
  have k8 : Kt W W8 := Kt.ofBelow b8
  have k9 : Kt W8 w9 := Kt.ofGrown hg (fun r hr => by
    obtain ⟨c, hc⟩ := own_type h8.own hr
    exact ⟨c, 36, _, hc, .inl rfl⟩)
  have nv : ∀ (r : Nat) (c : Array Value) (f : Nat × Nat), W8.heap[r]? = some (Obj.cells c 29 f) → some r ≠ v.ownBlock := by
    intro r c f hr e
    obtain ⟨c', hc'⟩ := own_type h8.own e.symm
    rw [hr] at hc'
    simp at hc'
  have eA := (hg.block A (lt_blk h8.at_) (nv _ _ _ h8.at_)).trans h8.at_
  have eR := (hg.block Rb (lt_blk h8.res) (nv _ _ _ h8.res)).trans h8.res
  have hgA : A ≠ g := by
    rintro rfl
    obtain ⟨c', hc'⟩ := own_type h9 rfl
    rw [eA] at hc'
    simp at hc'
  have gS := grown_set (grown_refl w9 A) 1 (.slice (some ⟨g, 0, none⟩) (l.length + 1) cap)
  have kS : Kt w9 (w9.setCell ⟨A, 1, none⟩ (.slice (some ⟨g, 0, none⟩) (l.length + 1) cap)) := Kt.ofGrown gS (fun r hr => by
    cases hr
    exact ⟨_, 29, _, eA, .inr rfl⟩)
  have kall := k8.trans (k9.trans kS)
  have s9 := h8.sx.kt k9
  refine ⟨by simp [World.cell?, eA], by simp [World.frozen?, eA], ?_⟩
  refine ⟨h.sx.kt kall, ?_, ?_, ?_, ?_, ?_, h.hA, h.hR, h.hne, h.hQ, fun r hr => h.hp r (h.sx.pgKt kall hr)⟩
  · exact (h.rows.snoc x ho hp ha).kt h.sx kall
  · rw [flatA_snoc]
    have := h9.kept gS (.inr (by simpa [Value.ownBlock] using Ne.symm hgA))
    simpa using this
  · rw [heap_set_at eA]; rfl
  · rw [Below.heap_setCell _ _ _ _ (Ne.symm h.hne)]
    exact eR
  · refine Below.setCell ?_ h.hA _
    exact h8.bel.grown hg h8.bel.size (fun r hr => (h8.own.lt r hr).1)
/-- a step and its answer -/
theorem Rn.step {w W W' : World} {T Q nn A Rb : Nat} {bud : Int} {m m' : Nat → Option (Bool × List Int)} {l : List An} {v cm vo : Value} (h : Rn w T Q nn bud m A Rb cm vo l v W) (hf : Sf Q W W') (hs : Sx T Q nn bud m' W') {e : Ending} {code : Int} {data : List Int} (ha : Ans Q W W' e code data) :
    ∃ u, e = .returned (.agg #[.int .i64 code, u]) ∧ Rn w T Q nn bud m' A Rb cm vo l v W' ∧ W'.ownsRow w.heap.size 5 1 u data.length (Ns .u8 data) ∧ (∀ g, u.ownBlock = some g → ¬ IsPg Q W' g) ∧ ∀ y ∈ l, ∀ g, y.2.ownBlock = some g → u.ownBlock ≠ some g := by
  obtain ⟨u, rfl, ho, hp⟩ := ha
  refine ⟨u, rfl, h.sf hf hs, own_mono ho h.bel.size, hp, fun y hy g hg e => ?_⟩
  have h1 := (ho.lt g e).1
  have h2 := ((h.rows.own y hy).1.lt g hg).2
  omega
/-- a cell of the report is put -/
theorem Rn.put {w W : World} {T Q nn A Rb : Nat} {bud : Int} {m : Nat → Option (Bool × List Int)} {l : List An} {v cm vo : Value} (h : Rn w T Q nn bud m A Rb cm vo l v W) (i : Nat) (x cm' vo' : Value) (he : (#[.bool true, v, cm, vo] : Array Value).setIfInBounds i x = #[.bool true, v, cm', vo']) : Rn w T Q nn bud m A Rb cm' vo' l v (W.setCell ⟨A, i, none⟩ x) := by
  have gS := grown_set (grown_refl W A) i x
  have kS : Kt W (W.setCell ⟨A, i, none⟩ x) := Kt.ofGrown gS (fun r hr => by
    cases hr
    exact ⟨_, 29, _, h.at_, .inr rfl⟩)
  refine ⟨h.sx.kt kS, h.rows.kt h.sx kS, h.own.kept gS (.inr fun e => ?_), ?_, ?_, Below.setCell h.bel h.hA _, h.hA, h.hR, h.hne, h.hQ, fun r hr => h.hp r (h.sx.pgKt kS hr)⟩
  · obtain ⟨c', hc'⟩ := own_type h.own e
    rw [h.at_] at hc'
    simp at hc'
  · rw [heap_set_at h.at_, he]
  · rw [Below.heap_setCell _ _ _ _ (Ne.symm h.hne)]
    exact h.res
end Go.Proofs.Ytamfbplchblkbaa
