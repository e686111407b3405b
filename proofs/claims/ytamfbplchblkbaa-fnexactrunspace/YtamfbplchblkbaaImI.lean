import Derived.Test.YtamfbplchblkbaaImH
namespace Go.Proofs.Ytamfbplchblkbaa
open Go.RowKit Go.Shelf
set_option linter.unusedVariables false

/-- a byte of the pages -/
def byteAt (m : Nat → Option (Bool × List Int)) (p : Nat) : Int := ((((m (p / 1024)).map fun q => q.2).getD [])[p % 1024]?).getD 0
/-- the bytes of a piece -/
def pieceB (m : Nat → Option (Bool × List Int)) (a n d : Nat) : List Int := (List.range (plen a n d)).map fun i => byteAt m (a + (d + i))
/-- the bytes of the pieces -/
def piecesB (m : Nat → Option (Bool × List Int)) (a n : Nat) (ys : List { d : Nat // d < n }) : List Int := ys.flatMap fun x => pieceB m a n x.1
theorem piecesB_snoc (m : Nat → Option (Bool × List Int)) (a n : Nat) (ys : List { d : Nat // d < n }) (x : { d : Nat // d < n }) : piecesB m a n (ys ++ [x]) = piecesB m a n ys ++ pieceB m a n x.1 := by
  simp [piecesB, List.flatMap_append]
theorem pieceB_len (m : Nat → Option (Bool × List Int)) (a n d : Nat) : (pieceB m a n d).length = plen a n d := by simp [pieceB]
theorem plen_top (a n d : Nat) : plen a n d ≤ 1024 := by unfold plen; omega
theorem piecesB_len (m : Nat → Option (Bool × List Int)) (a n : Nat) : ∀ ys : List { d : Nat // d < n }, (piecesB m a n ys).length ≤ 1024 * ys.length
  | [] => by simp [piecesB]
  | x :: ys => by
    have h1 := piecesB_len m a n ys
    have h2 := plen_top a n x.1
    have h3 : piecesB m a n (x :: ys) = pieceB m a n x.1 ++ piecesB m a n ys := by simp [piecesB]
    rw [h3, List.length_append, pieceB_len, List.length_cons]
    omega
theorem Got.bytes {m : Nat → Option (Bool × List Int)} {a n : Nat} {ys : List { d : Nat // d < n }} {d : Nat} (h : Got a n ys d) : piecesB m a n ys = (List.range d).map fun i => byteAt m (a + i) := by
  induction h with
  | zero => rfl
  | next h hd ih =>
    rw [piecesB_snoc, ih, List.range_add, List.map_append]
    simp [pieceB]

/-- what holds while a load goes on: R the result's box, DB the box of the data -/
structure Ld (S M : Nat) (st nn bud : Int) (f : Nat → Option Nat) (m : Nat → Option (Bool × List Int)) (w : World) (R DB : Nat) (v : Value) (W : World) : Prop where
  im : Im S M st nn bud f W
  pg : Pg f m W
  fr : Fr S M f f w W
  res : W.heap[R]? = some (.cells #[.int .i64 0, .slice none 0 0] 36 (0, 0))
  box : W.heap[DB]? = some (.cells #[v] 22 (0, 0))
  mlt : M < w.heap.size
  rge : w.heap.size ≤ R
  dge : w.heap.size ≤ DB

theorem Ld.keep {S M : Nat} {st nn bud : Int} {f : Nat → Option Nat} {m : Nat → Option (Bool × List Int)} {w W W' : World} {R DB : Nat} {v : Value} {row : Option Nat} (h : Ld S M st nn bud f m w R DB v W) (hg : W.grownBy W' row)
    (hr : ∀ r, row = some r → w.heap.size ≤ r ∧ ∀ c t z, W.heap[r]? = some (.cells c t z) → t = 5) : Ld S M st nn bud f m w R DB v W' := by
  have hc : ∀ (b : Nat) (c : Array Value) (t : TypeId) (z : Nat × Nat), W.heap[b]? = some (Obj.cells c t z) → t ≠ 5 → W'.heap[b]? = some (Obj.cells c t z) := by
    intro b c t z hb ht
    rw [hg.block b (lt_of_block hb) (fun e => ht ((hr b e.symm).2 c t z hb))]
    exact hb
  have hM : W'.heap[M]? = W.heap[M]? := hg.block M (Nat.lt_of_lt_of_le h.mlt h.fr.size) (fun e => by have := (hr M e.symm).1; have := h.mlt; omega)
  refine ⟨⟨hc _ _ _ _ h.im.box (by decide), ?_⟩, ⟨?_, h.pg.inj⟩, ?_, hc _ _ _ _ h.res (by decide), hc _ _ _ _ h.box (by decide), h.mlt, h.rge, h.dge⟩
  · obtain ⟨D, ⟨es, clock, hb, r1⟩, r⟩ := h.im.map
    exact ⟨D, ⟨es, clock, hM.trans hb, r1⟩, r⟩
  · intro j
    rcases h.pg.at' j with h1 | ⟨b, l, xs, h1, h2, h3, h4⟩
    · exact .inl h1
    · exact .inr ⟨b, l, xs, h1, h2, h3, hc _ _ _ _ h4 (by decide)⟩
  · refine ⟨hg.os.trans h.fr.os, hg.tape.trans h.fr.tape, hg.output.trans h.fr.output, Nat.le_trans h.fr.size hg.size, ?_, h.fr.made⟩
    intro g h0 h1 h2 h3
    rw [hg.block g (Nat.lt_of_lt_of_le h0 h.fr.size) (fun e => by have := (hr g e.symm).1; omega)]
    exact h.fr.block g h0 h1 h2 h3

theorem Ld.store {S M : Nat} {st nn bud : Int} {f : Nat → Option Nat} {m : Nat → Option (Bool × List Int)} {w W : World} {R DB : Nat} {v : Value} (h : Ld S M st nn bud f m w R DB v W) (v' : Value) : Ld S M st nn bud f m w R DB v' (W.setCell ⟨DB, 0, none⟩ v') := by
  have hc : ∀ (b : Nat) (c : Array Value) (t : TypeId) (z : Nat × Nat), W.heap[b]? = some (Obj.cells c t z) → t ≠ 22 → (W.setCell ⟨DB, 0, none⟩ v').heap[b]? = some (Obj.cells c t z) := by
    intro b c t z hb ht
    rw [Below.heap_setCell _ _ _ _ ?_]
    · exact hb
    · intro e
      simp at e
      subst e
      rw [h.box] at hb
      cases hb
      exact ht rfl
  have hne : DB ≠ S ∧ DB ≠ M := by
    constructor
    · intro e; subst e; have h1 := h.box; rw [h.im.box] at h1; simp at h1
    · have := h.mlt; have := h.dge; omega
  refine ⟨h.im.setCell (p := ⟨DB, 0, none⟩) hne.1 hne.2 v', ⟨?_, h.pg.inj⟩, ?_, hc _ _ _ _ h.res (by decide), ?_, h.mlt, h.rge, h.dge⟩
  · intro j
    rcases h.pg.at' j with h1 | ⟨b, l, xs, h1, h2, h3, h4⟩
    · exact .inl h1
    · exact .inr ⟨b, l, xs, h1, h2, h3, hc _ _ _ _ h4 (by decide)⟩
  · refine ⟨h.fr.os, h.fr.tape, h.fr.output, by simp [World.setCell]; exact h.fr.size, ?_, h.fr.made⟩
    intro g h0 h1 h2 h3
    rw [Below.heap_setCell _ _ _ _ ?_]
    · exact h.fr.block g h0 h1 h2 h3
    · intro e
      simp at e
      have := h.dge
      omega
  · rw [heap_set_at h.box]
    rfl
theorem Ld.cells {S M : Nat} {st nn bud : Int} {f : Nat → Option Nat} {m : Nat → Option (Bool × List Int)} {w W : World} {R DB : Nat} {v : Value} (h : Ld S M st nn bud f m w R DB v W) :
    W.cell? ⟨DB, 0, none⟩ = some v ∧ W.frozen? ⟨DB, 0, none⟩ = false ∧ W.cell? ⟨R, 0, none⟩ = some (.int .i64 0) ∧ W.cell? ⟨R, 1, none⟩ = some (.slice none 0 0) ∧ W.frozen? ⟨R, 0, none⟩ = false ∧ W.frozen? ⟨R, 1, none⟩ = false := by
  have h1 := h.box
  have h2 := h.res
  refine ⟨by simp [World.cell?, h1], by simp [World.frozen?, h1], by simp [World.cell?, h2], by simp [World.cell?, h2], by simp [World.frozen?, h2], by simp [World.frozen?, h2]⟩
/-- the bytes of a piece lie in its page -/
theorem piece_cells {f : Nat → Option Nat} {m : Nat → Option (Bool × List Int)} {W : World} (h : Pg f m W) {a n d g : Nat} (hg : f ((a + d) / 1024) = some g) :
    ∀ j u, (Ns .u8 (pieceB m a n d))[j]? = some u → W.cell? ((⟨g, (a + d) % 1024, none⟩ : Addr).add j) = some u := by
  intro j u hj
  obtain ⟨l, xs, h1, h2, h3⟩ := h.cell hg
  simp only [Ns, pieceB, List.map_map, List.getElem?_map] at hj
  have hj1 : j < plen a n d := by
    rcases Nat.lt_or_ge j (plen a n d) with e | e
    · exact e
    · rw [List.getElem?_eq_none (by simpa using e)] at hj; simp at hj
  rw [List.getElem?_range hj1] at hj
  simp at hj
  have hp : (a + d) % 1024 + j < 1024 := by unfold plen at hj1; omega
  have e1 : (a + (d + j)) / 1024 = (a + d) / 1024 := by omega
  have e2 : (a + (d + j)) % 1024 = (a + d) % 1024 + j := by omega
  rw [← hj]
  simp only [byteAt, e1, e2, h1, Option.map_some, Option.getD_some]
  have e3 := pageC_byte l xs ((a + d) % 1024 + j) (by omega)
  have e4 : (⟨g, (a + d) % 1024, none⟩ : Addr).add j = ⟨g, (a + d) % 1024 + j, none⟩ := by
    by_cases e : j = 0
    · subst e; simp [Addr.add]
    · simp [Addr.add, e]
  rw [e4]
  simp only [World.cell?, h3]
  exact e3
end Go.Proofs.Ytamfbplchblkbaa
