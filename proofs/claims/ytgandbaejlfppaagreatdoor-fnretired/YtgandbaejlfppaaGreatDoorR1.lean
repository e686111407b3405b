import Derived.Test.YtgandbaejlfppaaGreatDoorM10
import Derived.Test.YtgandbaejlfppaaGreatDoorN36
import Derived.Test.YtgandbaejlfppaaGreatDoorN23
import Derived.Test.YtgandbaejlfppaaGreatDoorN18
import Derived.Test.YtgandbaejlfppaaGreatDoorN38
import Derived.Test.YtgandbaejlfppaaGreatDoorN20
namespace Go.Proofs.YtgandbaejlfppaaGreatDoor
open Go.RowKit
set_option linter.unusedVariables false
set_option maxRecDepth 20000
def opMl (a : Nat) : Op6 := ⟨0, 0, 0, a, 0, []⟩
def cycs (a k : Nat) : List Op6 := (List.range k).flatMap fun i => [opMl a, ⟨3, ((5 + 2 * i : Nat) : Int), 0, 0, 0, []⟩]
theorem cycs_succ (a k : Nat) : cycs a (k + 1) = cycs a k ++ [opMl a, ⟨3, ((5 + 2 * k : Nat) : Int), 0, 0, 0, []⟩] := by
  unfold cycs
  rw [List.range_succ, List.flatMap_append]
  simp
def opsR (a z : Nat) (x : Int) (k : Nat) : List Op6 := [opMl a, opMl a, ⟨3, 2, 0, 0, 0, []⟩, ⟨6, 2, z, 0, 0, [x]⟩] ++ cycs a k
def RetR : Prop := ∀ (cf : Cf), cf.bud = 283 → cf.mix ≤ 3 → 1 ≤ cf.fifo → cf.fifo ≤ 6 → ∀ {a : Nat}, a ≤ 1016 → ∀ {z : Nat}, z < szN (coN a) → ∀ {x : Int}, x ≠ 0 → ∀ k : Nat,
    ∃ (j : Nat) (H : Hs) (an : List An4), j < slN (coN a) ∧ runH cf (opsR a z x k) (newH cf) [] = (H, an) ∧ an.length = 4 + 2 * k ∧ (∀ (i : Nat) (b : An4), an[i]? = some b → b.code = 0 ∧ (3 < i → i % 2 = 0 → b.addr ≠ adr (coN a) 0 j)) ∧ (∃ b, an[1]? = some b ∧ b.addr = adr (coN a) 0 j) ∧ (H.st (coN a) 0 j = 2 ∨ H.st (coN a) 0 j = 3 ∨ H.st (coN a) 0 j = 4)
end Go.Proofs.YtgandbaejlfppaaGreatDoor
namespace Go.Proofs.YtgandbaejlfppaaGreatDoor
open Go.RowKit Go.Shelf Go.Maps
set_option linter.unusedVariables false
set_option maxRecDepth 20000
def RunR : Prop := ∀ (cf : Cf) (da : Option Addr) (dc : Nat) (A : Option Addr) (cap : Nat) (ops : List Oin) (w : World), Dok cf → 1 ≤ cf.large → Tb w → Sl w da cf.ds → (∀ a, da = some a → a.block < w.heap.size) → 0 < w.heap.size → Ois w A ops → (∀ q ∈ ops, q.o.ys.length ≤ q.dc ∧ -9223372036854775808 ≤ q.o.ref ∧ ∀ y ∈ q.o.ys, 0 ≤ y ∧ y ≤ 255) → ops.length ≤ 300 →
  Calls Tryz.prog 8 #[cfgV cf da dc, .slice A ops.length cap] w fun e W' => ∃ (l : List Aw) (va m0 m1 m2 m3 m4 m5 m6 m7 : Value), e = .returned (.agg #[.bool true, va, m0, m1, m2, m3, m4, m5, m6, m7]) ∧ (∀ v ∈ [va, m0, m1, m2, m3, m4, m5, m6, m7], v.oneCell' = true) ∧ l.map (·.1) = (runH cf (ops.map Oin.o) (newH cf) []).2 ∧ W'.ownsRow w.heap.size 45 4 va l.length (flatB l) ∧ W'.ownsRow w.heap.size 53 5 m2 (I1 (runH cf (ops.map Oin.o) (newH cf) []).1 12).length (flatI (runH cf (ops.map Oin.o) (newH cf) []).1 (I1 (runH cf (ops.map Oin.o) (newH cf) []).1 12)) ∧ (∀ z ∈ l, z.2.oneCell' = true) ∧ Below w.heap.size w W'
def cycI (a k : Nat) : List Oin := (cycs a k).map fun o => ⟨o, none, 0⟩
def opsI (a z : Nat) (x : Int) (H k : Nat) : List Oin := [⟨opMl a, none, 0⟩, ⟨opMl a, none, 0⟩, ⟨⟨3, 2, 0, 0, 0, []⟩, none, 0⟩, ⟨⟨6, 2, z, 0, 0, [x]⟩, some ⟨H, 0, none⟩, 1⟩] ++ cycI a k
theorem opsI_o (a z : Nat) (x : Int) (H k : Nat) : (opsI a z x H k).map Oin.o = opsR a z x k := by
  unfold opsI opsR cycI
  rw [List.map_append, List.map_map]
  congr 1
  exact List.map_id _
theorem opsI_succ (a z : Nat) (x : Int) (H k : Nat) : opsI a z x H (k + 1) = opsI a z x H k ++ [⟨opMl a, none, 0⟩, ⟨⟨3, ((5 + 2 * k : Nat) : Int), 0, 0, 0, []⟩, none, 0⟩] := by
  unfold opsI cycI
  rw [cycs_succ, List.map_append, List.append_assoc]
  rfl
theorem opsI_len (a z : Nat) (x : Int) (H : Nat) : ∀ k, (opsI a z x H k).length = 4 + 2 * k
  | 0 => rfl
  | k + 1 => by rw [opsI_succ, List.length_append, opsI_len a z x H k]; simp; omega
theorem opsI_mem (a z : Nat) (x : Int) (H : Nat) : ∀ k, ∀ q ∈ opsI a z x H k, q = ⟨opMl a, none, 0⟩ ∨ q = ⟨⟨6, 2, z, 0, 0, [x]⟩, some ⟨H, 0, none⟩, 1⟩ ∨ ∃ i : Nat, i ≤ 5 + 2 * k ∧ q = ⟨⟨3, (i : Int), 0, 0, 0, []⟩, none, 0⟩
  | 0, q, hq => by
    simp only [opsI, cycI, cycs, List.range_zero, List.flatMap_nil, List.map_nil, List.append_nil, List.mem_cons, List.not_mem_nil, or_false] at hq
    rcases hq with rfl | rfl | rfl | rfl
    · exact .inl rfl
    · exact .inl rfl
    · exact .inr (.inr ⟨2, by omega, rfl⟩)
    · exact .inr (.inl rfl)
  | k + 1, q, hq => by
    rw [opsI_succ] at hq
    rcases List.mem_append.1 hq with h | h
    · rcases opsI_mem a z x H k q h with h | h | ⟨i, hi, h⟩
      · exact .inl h
      · exact .inr (.inl h)
      · exact .inr (.inr ⟨i, by omega, h⟩)
    · simp only [List.mem_cons, List.not_mem_nil, or_false] at h
      rcases h with rfl | rfl
      · exact .inl rfl
      · exact .inr (.inr ⟨5 + 2 * k, by omega, rfl⟩)
theorem opsI_kd (a z : Nat) (x : Int) (H : Nat) : ∀ k i q, (opsI a z x H k)[i]? = some q → 3 < i → q.o.kd = if i % 2 = 0 then 0 else 3
  | 0, i, q, hq, hi => by
    have := (List.getElem?_eq_some_iff.1 hq).1
    rw [opsI_len] at this
    omega
  | k + 1, i, q, hq, hi => by
    rw [opsI_succ] at hq
    by_cases h : i < (opsI a z x H k).length
    · rw [List.getElem?_append_left h] at hq
      exact opsI_kd a z x H k i q hq hi
    · rw [List.getElem?_append_right (by omega), opsI_len] at hq
      rw [opsI_len] at h
      obtain ⟨d, hd⟩ : ∃ d, i - (4 + 2 * k) = d := ⟨_, rfl⟩
      rw [hd] at hq
      match d, hd, hq with
      | 0, hd, hq =>
        simp at hq
        subst hq
        rw [if_pos (by omega)]
        rfl
      | 1, hd, hq =>
        simp at hq
        subst hq
        rw [if_neg (by omega)]
      | d + 2, hd, hq => simp at hq
structure Fo (V : World) (a z : Nat) (x : Int) (H k : Nat) (v : Value) (W : World) : Prop where
  bel : Below V.heap.size V W
  row : W.ownsRow V.heap.size 42 6 v (opsI a z x H k).length (flatO6 (opsI a z x H k))
  byt : W.heap[H]? = some (.cells #[.int .u8 x] 5 (0, 0))
def Ois9 (W : World) (g : Nat) (ops : List Oin) : Prop := g < W.heap.size ∧ ∀ i q, ops[i]? = some q → ∀ j u, (opC6 q)[j]? = some u → W.cell? ⟨g, i * 6 + j, none⟩ = some u
theorem Fo.sl {V : World} {a z : Nat} {x : Int} {H k : Nat} {v : Value} {W : World} (h : Fo V a z x H k v W) : ∃ g cap, v = .slice (some ⟨g, 0, none⟩) (4 + 2 * k) cap ∧ Ois9 W g (opsI a z x H k) := by
  rcases h.row.2 with ⟨_, h2⟩ | ⟨g, gc, cur, h1, h2, h3, h4, h5, h6, h7⟩
  · rw [opsI_len] at h2; omega
  · refine ⟨g, gc, by rw [h1, opsI_len], lt_blk h3, fun i q hq j u hu => ?_⟩
    have hj : j < 6 := by
      have := (List.getElem?_eq_some_iff.1 hu).1
      simpa [opC6] using this
    have hi := (List.getElem?_eq_some_iff.1 hq).1
    rw [cell_of_row _ _ _ _ _ _ h3]
    have e2 : (flatO6 (opsI a z x H k))[i * 6 + j]? = some u := by rw [← hu]; exact flat_get opC6 6 (fun _ => rfl) _ i j q hq hj
    rw [← h7, List.getElem?_take, if_pos (by omega), Array.getElem?_toList] at e2
    exact e2
theorem Fo.ois {V : World} {a z : Nat} {x : Int} {H k : Nat} {v : Value} {W : World} (h : Fo V a z x H k v W) (ha : a ≤ 2000) (hz : z ≤ 2000) {g : Nat} (o : Ois9 W g (opsI a z x H k)) : Ois W (some ⟨g, 0, none⟩) (opsI a z x H k) := by
  refine ⟨fun i q hq => ⟨g, rfl, o.1, o.2 i q hq⟩, fun q hq => ?_, fun q hq i hi => ?_⟩
  · rcases opsI_mem a z x H k q hq with rfl | rfl | ⟨i, _, rfl⟩ <;> simp [opMl] <;> omega
  · rcases opsI_mem a z x H k q hq with rfl | rfl | ⟨i, _, rfl⟩
    · simp [opMl] at hi
    · obtain rfl : i = 0 := by simpa using hi
      refine ⟨_, rfl, ?_, ?_⟩
      · rw [Addr.add_mid, cell_of_row _ _ _ _ _ _ h.byt]; rfl
      · rw [Addr.add_mid]; exact lt_blk h.byt
    · simp at hi
theorem opsI_ok (a z : Nat) (x : Int) (H k : Nat) (hx : 0 ≤ x ∧ x ≤ 255) : ∀ q ∈ opsI a z x H k, q.o.ys.length ≤ q.dc ∧ -9223372036854775808 ≤ q.o.ref ∧ ∀ y ∈ q.o.ys, 0 ≤ y ∧ y ≤ 255 := by
  intro q hq
  rcases opsI_mem a z x H k q hq with rfl | rfl | ⟨i, _, rfl⟩ <;> simp [opMl] <;> omega
theorem flatO6_app (l m : List Oin) : flatO6 (l ++ m) = flatO6 l ++ flatO6 m := by simp [flatO6]
theorem flatO6_len (l : List Oin) : (flatO6 l).length = l.length * 6 := by
  induction l with
  | nil => rfl
  | cons q l ih => rw [show flatO6 (q :: l) = opC6 q ++ flatO6 l from rfl, List.length_append, ih, List.length_cons]; simp [opC6]; omega
theorem Fo.app {V : World} {a z : Nat} {x : Int} {H k : Nat} {v : Value} {W : World} (h : Fo V a z x H k v W) (hk : k ≤ 1000) : ∃ v' w',
    (Builtin.append_ #[43, 43] 43 #[v, .slice (some ⟨W.heap.size, 0, none⟩) 2 2]).run Tryz.prog (W.alloc (.cells (flatO6 [⟨opMl a, none, 0⟩, ⟨⟨3, ((5 + 2 * k : Nat) : Int), 0, 0, 0, []⟩, none, 0⟩]).toArray 42)) = .ok v' w' ∧ Fo V a z x H (k + 1) v' w' := by
  obtain ⟨i0, hi0, hz0, hz1, hz2⟩ := info_parts infoOp6
  obtain ⟨T, hT⟩ : ∃ T, flatO6 [⟨opMl a, none, 0⟩, ⟨⟨3, ((5 + 2 * k : Nat) : Int), 0, 0, 0, []⟩, none, 0⟩] = T := ⟨_, rfl⟩
  have hTl : T.length = 2 * 6 := by rw [← hT]; rfl
  have hT1 : ∀ u ∈ T, u.oneCell' = true := by
    rw [← hT]
    intro u hu
    simp [flatO6, opC6] at hu
    rcases hu with rfl | rfl | rfl | rfl | rfl | rfl | rfl | rfl | rfl | rfl | rfl | rfl <;> rfl
  have bA := (Below.refl W.heap.size W).alloc (Nat.le_refl _) (.cells T.toArray 42)
  have hB := h.bel.size
  rw [hT]
  have row1 : (W.alloc (.cells T.toArray 42)).ownsRow V.heap.size 42 6 v (opsI a z x H k).length (flatO6 (opsI a z x H k)) := h.row.alloc _
  have byt1 : (W.alloc (.cells T.toArray 42)).heap[H]? = some (.cells #[.int .u8 x] 5 (0, 0)) := by rw [bA.block _ (lt_blk h.byt)]; exact h.byt
  have hlen := opsI_len a z x H k
  obtain ⟨v', w', e1, e2, e3, _⟩ := run_append_own_at (P := Tryz.prog) (w := W.alloc (.cells T.toArray 42)) V.heap.size 43 43 42 i0 _ 6 64 Tryz.underlying43 hi0 hz0 hz1 hz2 rfl (by omega) _ _ _ row1 ⟨W.heap.size, 0, none⟩ 2 2 T hTl (row_new6 _ _ _) hT1 (by unfold maxLen; omega) (by omega) (by rw [al_size]; omega)
  refine ⟨v', w', e1, (bl_trans h.bel bA).grown e3 (bl_trans h.bel bA).size (fun r e => (row1.lt r e).1), ?_, ?_⟩
  · rw [opsI_succ, List.length_append, flatO6_app, hT]
    exact e2
  · rw [e3.block H (lt_blk byt1) (fun e => own_neT row1 byt1 (by decide) e.symm)]; exact byt1
theorem Fo.below {V : World} {a z : Nat} {x : Int} {H k : Nat} {v : Value} {W W' : World} (h : Fo V a z x H k v W) (hb : Below W.heap.size W W') : Fo V a z x H k v W' :=
  ⟨bl_trans h.bel hb, own_bel h.row hb, by rw [hb.block _ (lt_blk h.byt)]; exact h.byt⟩
theorem Fo.first (V W : World) (a z : Nat) (x : Int) (H : Nat) (b : Below V.heap.size V W) (hb : W.heap[H]? = some (.cells #[.int .u8 x] 5 (0, 0))) : Fo V a z x H 0 (.slice (some ⟨W.heap.size, 0, none⟩) 4 4) (W.alloc (.cells (flatO6 (opsI a z x H 0)).toArray 42)) := by
  have bA := (Below.refl W.heap.size W).alloc (Nat.le_refl _) (.cells (flatO6 (opsI a z x H 0)).toArray 42)
  have hl := opsI_len a z x H 0
  refine ⟨bl_trans b bA, ⟨flatO6_len _, .inr ⟨W.heap.size, 4, (flatO6 (opsI a z x H 0)).toArray, by rw [hl], b.size, al_last W _, by omega, by unfold maxLen; omega, by rw [List.size_toArray, flatO6_len, hl], ?_⟩⟩, by rw [bA.block _ (lt_blk hb)]; exact hb⟩
  exact List.take_of_length_le (Nat.le_of_eq (flatO6_len _))
theorem I1_mem {h : Hs} {c s j : Nat} (hc : c < 12) (hs : s < 6) (hj : j < slN c) (hn : h.st c s j ≠ 0) : ∃ t : Nat, (I1 h 12)[t]? = some (c, s, j) := by
  have : (c, s, j) ∈ I1 h 12 := by
    unfold I1 I2 I3
    simp only [List.mem_flatMap, List.mem_map, List.mem_filter, List.mem_range, decide_eq_true_eq]
    exact ⟨c, hc, s, hs, j, ⟨hj, hn⟩, rfl⟩
  exact List.mem_iff_getElem?.1 this
theorem slots_at {W : World} {B : Nat} {v : Value} {h : Hs} {l : List (Nat × Nat × Nat)} (row : W.ownsRow B 53 5 v l.length (flatI h l)) (hn : 0 < l.length) :
    ∃ G gc, v = .slice (some ⟨G, 0, none⟩) l.length gc ∧ G < W.heap.size ∧ ∀ i t, l[i]? = some t → W.rangeAt G (i * 5) (inC h t) := by
  rcases row.2 with ⟨_, h2⟩ | ⟨g, gc, cur, h1, h2, h3, h4, h5, h6, h7⟩
  · omega
  · refine ⟨g, gc, h1, lt_blk h3, fun i t ht j u hu => ?_⟩
    have hj : j < 5 := by
      have := (List.getElem?_eq_some_iff.1 hu).1
      simpa [inC] using this
    have hi := (List.getElem?_eq_some_iff.1 ht).1
    rw [cell_of_row _ _ _ _ _ _ h3]
    have e2 : (flatI h l)[i * 5 + j]? = some u := by rw [← hu]; exact flat_get (inC h) 5 (fun _ => rfl) _ i j t ht hj
    rw [← h7, List.getElem?_take, if_pos (by omega), Array.getElem?_toList] at e2
    exact e2
theorem ans_rg {W : World} {B : Nat} {va : Value} {l : List Aw} {an : List An4} (row : W.ownsRow B 45 4 va l.length (flatB l)) (hl : l.map (·.1) = an) (hone : ∀ z ∈ l, z.2.oneCell' = true) (hn : 0 < an.length) :
    ∃ G gc, va = .slice (some ⟨G, 0, none⟩) an.length gc ∧ G < W.heap.size ∧ ∀ j a, an[j]? = some a → ∃ v, v.oneCell' = true ∧ W.rangeAt G (j * 4) [.int .i64 a.code, .int .u64 (a.addr : Nat), .int .i64 (a.size : Nat), v] := by
  obtain ⟨G, gc, h1, h2, h3, h4⟩ := ans_at row hl hn
  refine ⟨G, gc, h1, h3, fun j a ha => ?_⟩
  obtain ⟨v, hv, c0, c1, c2, c3⟩ := h4 j a ha
  refine ⟨v, ?_, fun t u hu => ?_⟩
  · exact hone _ hv
  · match t, hu with
    | 0, hu => simp at hu; subst hu; exact c0
    | 1, hu => simp at hu; subst hu; exact c1
    | 2, hu => simp at hu; subst hu; exact c2
    | 3, hu => simp at hu; subst hu; exact c3
    | t + 4, hu => simp at hu
structure Rx (w : World) (B X : Nat) (c : Cd) (W : World) : Prop where
  bel : Below w.heap.size w W
  b0 : w.heap.size ≤ B
  x0 : w.heap.size ≤ X
  cb : W.heap[X]? = some (.cells (cdC c).toArray 26 (0, 0))
  ok : Ok4 B c W
theorem Rx.upd {w : World} {B X : Nat} {c : Cd} {W : World} (h : Rx w B X c W) (i : Nat) (v : Value) (c' : Cd) (ho : cdC c' = (cdC c).set i v) (hd : Ok4 B c' W) : Rx w B X c' (W.setCell ⟨X, i, none⟩ v) := by
  have hg : W.grownBy (W.setCell ⟨X, i, none⟩ v) (some X) := grown_set (grown_refl W X) i v
  refine ⟨h.bel.setCell h.x0 v, h.b0, h.x0, ?_, hd.kept hg (own_neT hd.d h.cb (by decide))⟩
  rw [ho]
  simp [World.setCell, Array.getElem?_modify, h.cb]
theorem Rx.cells {w : World} {B X : Nat} {c : Cd} {W : World} (h : Rx w B X c W) : W.cell? ⟨X, 0, none⟩ = some (.int .i64 c.mi) ∧ W.cell? ⟨X, 1, none⟩ = some (.int .i64 c.fi) ∧ ∀ i, W.frozen? ⟨X, i, none⟩ = false := by
  have := h.cb
  refine ⟨?_, ?_, fun i => ?_⟩ <;> simp [World.cell?, World.frozen?, this, cdC]
theorem Rx.first {w V : World} {B : Nat} {c : Cd} (b : Below w.heap.size w V) (hB : w.heap.size ≤ B) (ok : Ok4 B c V) : Rx w B V.heap.size c (V.alloc (.cells (cdC c).toArray 26)) :=
  ⟨b.alloc b.size _, hB, b.size, al_last V _, ⟨ok.k0, ok.k1, ok.dw, ok.d.alloc _⟩⟩
theorem or1 {k : Nat} (h : k ≤ 255) : 1 ≤ bits BinOp.or IntKind.u8 (k : Int) 1 ∧ bits BinOp.or IntKind.u8 (k : Int) 1 ≤ 255 := by
  have key : ∀ k : Fin 256, 1 ≤ bits BinOp.or IntKind.u8 ((k.val : Nat) : Int) 1 ∧ bits BinOp.or IntKind.u8 ((k.val : Nat) : Int) 1 ≤ 255 := by decide +kernel
  exact key ⟨k, by omega⟩
end Go.Proofs.YtgandbaejlfppaaGreatDoor
