import Derived.Test.YtcefihmnnndleaaDoorScG
import Derived.Laws.Rows
import Derived.Laws.Tables
import Derived.Deep.RegionHeld
import Derived.OrdersHeld
namespace Go.Proofs.YtcefihmnnndleaaDoor
open Go.ChangeShapes Go.WideShapes Go.ChangeAt Go.RowKit
set_option linter.unusedVariables false
set_option maxRecDepth 20000

/-- an operation as it is read -/
structure OpS where
  kind : Nat
  ref : Nat
  p : Nat
  a : Nat
  b : Nat
  data : List Nat
def namesL : List (List UInt8) := [[109, 97, 108, 108, 111, 99], [99, 97, 108, 108, 111, 99], [114, 101, 97, 108, 108, 111, 99], [102, 114, 101, 101], [117, 115, 97, 98, 108, 101], [108, 111, 97, 100], [115, 116, 111, 114, 101]]
def formsL : List (List UInt8) := [[78], [78, 78], [80, 78], [80], [80], [80, 78], [80, 88]]
/-- what one word says of an operation -/
def partM (c : UInt8) (w : List UInt8) (nums : Nat) (o : OpS) : Option OpS :=
  if c.toNat = 78 then (numM 10 20 w).map (fun n => if nums = 0 then { o with a := n } else { o with b := n })
  else if c.toNat = 80 then (placeM w).map (fun x => { o with ref := x.1, p := x.2 })
  else (dataM w).map (fun d => { o with data := o.data ++ d })
def partsM : List UInt8 → List (List UInt8) → Nat → OpS → Option OpS
  | [], _, _, o => some o
  | c :: f, ws, n, o => (partM c (ws.headD []) n o).bind (partsM f ws.tail (if c.toNat = 78 then n + 1 else n))
/-- line k of the table is meant -/
def hitM (k : Nat) (q : List (List UInt8)) : Bool := decide (q.headD [] = namesL.getD k [] ∧ q.length = (formsL.getD k []).length + 1)
/-- an operation's line -/
def opM (q : List (List UInt8)) : Option OpS :=
  ((List.range 7).find? (fun k => hitM k q)).bind fun k => partsM (formsL.getD k []) q.tail 0 ⟨k, 0, 0, 0, 0, []⟩
theorem opM_none {q : List (List UInt8)} (h : ∀ j, j < 7 → hitM j q = false) : opM q = none := by
  have : (List.range 7).find? (fun k => hitM k q) = none := List.find?_eq_none.2 fun x hx => by simp [h x (List.mem_range.1 hx)]
  rw [opM, this]; rfl
theorem opM_hit {q : List (List UInt8)} {k : Nat} (hk : k < 7) (h : ∀ j, j < k → hitM j q = false) (hh : hitM k q = true) : opM q = partsM (formsL.getD k []) q.tail 0 ⟨k, 0, 0, 0, 0, []⟩ := by
  have : (List.range 7).find? (fun k => hitM k q) = some k := by
    rw [List.find?_range_eq_some]
    exact ⟨hh, by simpa using hk, fun j hj => by simp [h j hj]⟩
  rw [opM, this]; rfl
def zeroC : List Value := [.int .i64 0, .int .i64 0, .int .u64 0, .int .u64 0, .int .u64 0, .slice none 0 0]
/-- an operation's cells -/
def opC (o : OpS) (dv : Value) : List Value := [.int .i64 (o.kind : Int), .int .i64 (o.ref : Int), .int .u64 (o.p : Int), .int .u64 (o.a : Int), .int .u64 (o.b : Int), dv]
def dv8 (l : List Nat) : List Value := l.map (fun n : Nat => Value.int .u8 (n : Int))
/-- a box, cell by cell -/
def Bx (W : World) (g : Nat) (e : TypeId) (cs : List Value) : Prop := W.heap[g]? = some (.cells cs.toArray e (0, 0))
theorem Bx.lt {W : World} {g : Nat} {e : TypeId} {cs : List Value} (h : Bx W g e cs) : g < W.heap.size := lt_of_block h
theorem Bx.below {W W' : World} {g B : Nat} {e : TypeId} {cs : List Value} (h : Bx W g e cs) (hb : Below B W W') (hg : g < B) : Bx W' g e cs := (hb.block g hg).trans h
theorem Bx.cell {W : World} {g : Nat} {e : TypeId} {cs : List Value} (h : Bx W g e cs) (i : Nat) : W.cell? ⟨g, i, none⟩ = cs[i]? := by
  rw [cell_of_row _ _ i _ _ _ h]; simp
theorem Bx.free {W : World} {g : Nat} {e : TypeId} {cs : List Value} (h : Bx W g e cs) (i : Nat) : W.frozen? ⟨g, i, none⟩ = false := by
  unfold Bx at h; simp [World.frozen?, h]
theorem Bx.set {W : World} {g : Nat} {e : TypeId} {cs : List Value} (h : Bx W g e cs) (i : Nat) (v : Value) : Bx (W.setCell ⟨g, i, none⟩ v) g e (cs.set i v) := by
  unfold Bx at h ⊢; simp [World.setCell, Array.getElem?_modify, h]
theorem Bx.other {W : World} {g : Nat} {e : TypeId} {cs : List Value} (h : Bx W g e cs) {p : Addr} (hp : g ≠ p.block) (v : Value) : Bx (W.setCell p v) g e cs := (Below.heap_setCell _ _ _ _ hp).trans h
theorem Bx.grown {W W' : World} {g : Nat} {e : TypeId} {cs : List Value} {o : Option Nat} (h : Bx W g e cs) (hg : W.grownBy W' o) (hne : some g ≠ o) : Bx W' g e cs := (hg.block g h.lt hne).trans h
theorem Bx.apart {W : World} {g : Nat} {e : TypeId} {cs : List Value} (h : Bx W g e cs) {B : Nat} {e2 : TypeId} {sz : Nat} {v : Value} {n : Nat} {xs : List Value} (ho : W.ownsRow B e2 sz v n xs) (hne : e ≠ e2) : some g ≠ v.ownBlock := fun q => by
  obtain ⟨x, hx⟩ := own_obj ho q.symm
  unfold Bx at h
  rw [h] at hx
  simp at hx
  exact hne hx.2
theorem own_set {W : World} {B : Nat} {e : TypeId} {sz : Nat} {v : Value} {n : Nat} {xs : List Value} (h : W.ownsRow B e sz v n xs) {p : Addr} (hp : some p.block ≠ v.ownBlock) (u : Value) : (W.setCell p u).ownsRow B e sz v n xs := by
  refine ⟨h.1, ?_⟩
  rcases h.2 with h0 | ⟨g, cap, cur, rfl, hg, hh, rest⟩
  · exact .inl h0
  · exact .inr ⟨g, cap, cur, rfl, hg, by rw [Below.heap_setCell _ _ _ _ (fun q => hp (by simp [Value.ownBlock, q]))]; exact hh, rest⟩
theorem results_row2 {P : Program} {fn : Func} {p u : Tmp} {ty : TypeId} (h : fn.results = #[.cell p ty, .tmp u]) (tmps : Array Value) (w : World) (g : Nat) (t : TypeId) (cs : Array Value) (fr : Nat × Nat) (d : TypeDesc)
    (hp : tmps.getD p undef = .pointer (some ⟨g, 0, none⟩)) (hg : w.heap[g]? = some (.cells cs t fr))
    (hu : P.underlying ty = some d) (hd : (match d with | .struct _ | .array _ _ => true | _ => false) = true) (hi : (P.info? ty).map (·.size) = some cs.size) :
    (results fn tmps).run P w = .ok (.tuple #[.agg cs, tmps.getD u undef]) w := by
  have hp' : tmps[p]?.getD undef = .pointer (some ⟨g, 0, none⟩) := by simpa using hp
  simp [results, h, hp', asAddr, run_loadVar_row w g t ty cs fr d hg hu hd hi]
theorem results_row3 {P : Program} {fn : Func} {p u u2 : Tmp} {ty : TypeId} (h : fn.results = #[.cell p ty, .tmp u, .tmp u2]) (tmps : Array Value) (w : World) (g : Nat) (t : TypeId) (cs : Array Value) (fr : Nat × Nat) (d : TypeDesc)
    (hp : tmps.getD p undef = .pointer (some ⟨g, 0, none⟩)) (hg : w.heap[g]? = some (.cells cs t fr))
    (hu : P.underlying ty = some d) (hd : (match d with | .struct _ | .array _ _ => true | _ => false) = true) (hi : (P.info? ty).map (·.size) = some cs.size) :
    (results fn tmps).run P w = .ok (.tuple #[.agg cs, tmps.getD u undef, tmps.getD u2 undef]) w := by
  have hp' : tmps[p]?.getD undef = .pointer (some ⟨g, 0, none⟩) := by simpa using hp
  simp [results, h, hp', asAddr, run_loadVar_row w g t ty cs fr d hg hu hd hi]
structure Sp3 (w W : World) (R N1 N2 : Nat) : Prop where
  r : Bx W R 45 zeroC
  nm : RowV W N1 9 (namesL.map wv)
  fm : RowV W N2 9 (formsL.map wv)
  bel : Below w.heap.size w W
  rw : w.heap.size ≤ R ∧ w.heap.size ≤ N1 ∧ w.heap.size ≤ N2
  ne : R ≠ N1 ∧ R ≠ N2
theorem rowv_mk {W : World} {g : Nat} {e : TypeId} {c : Array Value} (h : W.heap[g]? = some (.cells c e (0, 0))) : RowV W g e c.toList := ⟨c, h, by simp, fun i hi => by simp at hi; simp [hi]⟩
theorem sp3_mk (w : World) : Sp3 w (((w.alloc (.cells zeroC.toArray 45)).alloc (.cells (namesL.map wv).toArray 9)).alloc (.cells (formsL.map wv).toArray 9)) w.heap.size (w.heap.size + 1) (w.heap.size + 1 + 1) := by
  have s1 : (w.alloc (.cells zeroC.toArray 45)).heap.size = w.heap.size + 1 := by simp
  have s2 : ((w.alloc (.cells zeroC.toArray 45)).alloc (.cells (namesL.map wv).toArray 9)).heap.size = w.heap.size + 1 + 1 := by simp
  refine ⟨?_, ?_, ?_, ?_, by omega, by omega⟩
  · unfold Bx
    rw [al_old _ _ _ (by omega), al_old _ _ _ (by omega), al_last]
  · refine rowv_mk (c := (namesL.map wv).toArray) ?_
    rw [al_old _ _ _ (by omega), ← s1, al_last]
  · refine rowv_mk (c := (formsL.map wv).toArray) ?_
    rw [← s2, al_last]
  · exact (((Below.refl _ w).alloc (Nat.le_refl _) _).alloc (by omega) _).alloc (by omega) _
theorem Sp3.name {w W : World} {R N1 N2 : Nat} (h : Sp3 w W R N1 N2) {k : Nat} (hk : k < 7) : W.cell? ⟨N1, k, none⟩ = some (.string (bs (namesL.getD k []))) := by
  rw [h.nm.cell k (by simpa [namesL] using hk)]
  simp [namesL, wv]
  rcases k with _ | _ | _ | _ | _ | _ | _ | k <;> first | rfl | omega
theorem Sp3.form {w W : World} {R N1 N2 : Nat} (h : Sp3 w W R N1 N2) {k : Nat} (hk : k < 7) : W.cell? ⟨N2, k, none⟩ = some (.string (bs (formsL.getD k []))) := by
  rw [h.fm.cell k (by simpa [formsL] using hk)]
  simp [formsL, wv]
  rcases k with _ | _ | _ | _ | _ | _ | _ | k <;> first | rfl | omega
theorem ws_cell {B : Nat} {W : World} {g n c : Nat} {q : List (List UInt8)} (h : Ws B W (.slice (some ⟨g, 0, none⟩) n c) q) (hn : n = q.length) {k : Nat} (hk : k < q.length) : W.cell? ⟨g, k, none⟩ = some (.string (bs (q.getD k []))) := by
  subst hn
  have h1 := (RowV.ofOwns h).cell k (by simpa using hk)
  rw [h1]
  simp [hk, wv]
/-- the result of an operation's line -/
def OpR (w W : World) (o : Option OpS) (v : Value) : Prop := ∃ dv cs, v = .tuple #[.agg cs, .bool o.isSome] ∧ (o = none → cs = zeroC.toArray) ∧ ∀ x, o = some x → cs = (opC x dv).toArray ∧ W.ownsRow w.heap.size 5 1 dv x.data.length (dv8 x.data)
theorem own_below {W W' : World} {B : Nat} {e : TypeId} {sz : Nat} {v : Value} {n : Nat} {xs : List Value} (h : W.ownsRow B e sz v n xs) (hb : Below W.heap.size W W') : W'.ownsRow B e sz v n xs := by
  refine ⟨h.1, ?_⟩
  rcases h.2 with h0 | ⟨g, cap, cur, rfl, hg, hh, rest⟩
  · exact .inl h0
  · exact .inr ⟨g, cap, cur, rfl, hg, by rw [hb.block g (lt_of_block hh)]; exact hh, rest⟩
theorem own_mono {W : World} {B B2 : Nat} {e : TypeId} {sz : Nat} {v : Value} {n : Nat} {xs : List Value} (h : W.ownsRow B e sz v n xs) (hb : B2 ≤ B) : W.ownsRow B2 e sz v n xs := by
  refine ⟨h.1, ?_⟩
  rcases h.2 with h0 | ⟨g, cap, cur, rfl, hg, rest⟩
  · exact .inl h0
  · exact .inr ⟨g, cap, cur, rfl, Nat.le_trans hb hg, rest⟩
theorem own_setRow {W : World} {B : Nat} {e : TypeId} {sz : Nat} {v : Value} {n : Nat} {xs : List Value} (h : W.ownsRow B e sz v n xs) {r : Nat} (hp : some r ≠ v.ownBlock) (cs : Array Value) : (W.setRow r cs).ownsRow B e sz v n xs := by
  refine ⟨h.1, ?_⟩
  rcases h.2 with h0 | ⟨g, cap, cur, rfl, hg, hh, rest⟩
  · exact .inl h0
  · exact .inr ⟨g, cap, cur, rfl, hg, by rw [setRow_other _ _ _ _ (fun q => hp (by simp [Value.ownBlock, q]))]; exact hh, rest⟩
/-- an operation under way -/
structure Sp4 (w W : World) (R N2 O : Nat) (o : OpS) (dv : Value) : Prop where
  r : Bx W R 45 zeroC
  fm : RowV W N2 9 (formsL.map wv)
  bx : Bx W O 45 (opC o dv)
  dt : W.ownsRow w.heap.size 5 1 dv o.data.length (dv8 o.data)
  bel : Below w.heap.size w W
  ge : w.heap.size ≤ R ∧ w.heap.size ≤ N2 ∧ w.heap.size ≤ O
  ne : R ≠ O ∧ N2 ≠ O ∧ N2 ≠ R
theorem Sp3.open {w W : World} {R N1 N2 : Nat} (h : Sp3 w W R N1 N2) (k : Nat) (hne : N2 ≠ R) : Sp4 w (W.alloc (.cells (opC ⟨k, 0, 0, 0, 0, []⟩ (.slice none 0 0)).toArray 45)) R N2 W.heap.size ⟨k, 0, 0, 0, 0, []⟩ (.slice none 0 0) := by
  have b := (Below.refl W.heap.size W).alloc (Nat.le_refl _) (.cells (opC ⟨k, 0, 0, 0, 0, []⟩ (.slice none 0 0)).toArray 45)
  have hr := h.r.lt
  have hf := h.fm.lt
  refine ⟨h.r.below b h.r.lt, h.fm.below b h.fm.lt, al_last _ _, ⟨by simp [dv8], .inl ⟨rfl, rfl⟩⟩, h.bel.alloc (by have := h.bel.size; omega) _, ⟨h.rw.1, h.rw.2.2, by have := h.bel.size; omega⟩, by omega, by omega, hne⟩
theorem Sp4.below {w W W' : World} {R N2 O : Nat} {o : OpS} {dv : Value} (h : Sp4 w W R N2 O o dv) (hb : Below W.heap.size W W') : Sp4 w W' R N2 O o dv :=
  ⟨h.r.below hb h.r.lt, h.fm.below hb h.fm.lt, h.bx.below hb h.bx.lt, own_below h.dt hb, h.bel.trans (hb.mono h.bel.size), h.ge, h.ne⟩
theorem Sp4.form {w W : World} {R N2 O : Nat} {o : OpS} {dv : Value} (h : Sp4 w W R N2 O o dv) {k : Nat} (hk : k < 7) : W.cell? ⟨N2, k, none⟩ = some (.string (bs (formsL.getD k []))) := by
  rw [h.fm.cell k (by simpa [formsL] using hk)]
  simp [formsL, wv]
  rcases k with _ | _ | _ | _ | _ | _ | _ | k <;> first | rfl | omega
theorem form_cell {W : World} {N2 : Nat} (h : RowV W N2 9 (formsL.map wv)) {k : Nat} (hk : k < 7) : W.cell? ⟨N2, k, none⟩ = some (.string (bs (formsL.getD k []))) := by
  rw [h.cell k (by simpa [formsL] using hk)]
  simp [formsL, wv]
  rcases k with _ | _ | _ | _ | _ | _ | _ | k <;> first | rfl | omega
theorem Sp4.set {w W : World} {R N2 O : Nat} {o o' : OpS} {dv : Value} (h : Sp4 w W R N2 O o dv) (i : Nat) (hi : i < 6) (v : Value) (hd : o'.data = o.data) (hc : (opC o dv).set i v = opC o' dv) : Sp4 w (W.setCell ⟨O, i, none⟩ v) R N2 O o' dv := by
  have b1 := h.bx.set i v
  rw [hc] at b1
  exact ⟨h.r.other h.ne.1 v, h.fm.other h.ne.2.1 v, b1, hd ▸ own_set h.dt (h.bx.apart h.dt (by decide)) v, h.bel.setCell h.ge.2.2 v, h.ge, h.ne⟩
theorem form_le (k : Nat) : (formsL.getD k []).length ≤ 2 := by
  rcases k with _ | _ | _ | _ | _ | _ | _ | k <;> first | decide | (simp [formsL])
theorem form_let {k j : Nat} (hk : k < 7) (hj : j < (formsL.getD k []).length) : ((formsL.getD k [])[j].toNat = 78 ∨ (formsL.getD k [])[j].toNat = 80) ∨ ((formsL.getD k [])[j].toNat = 88 ∧ j + 1 = (formsL.getD k []).length) := by
  rcases k with _ | _ | _ | _ | _ | _ | _ | k <;> first | omega | (rcases j with _ | _ | j <;> first | (exfalso; simp [formsL] at hj; done) | (exfalso; simp [formsL] at hj; omega) | (simp [formsL]; done))
theorem sp_place_n (s : ByteArray) (w : World) (hs : s.size ≤ 1048576) (h : placeM s.data.toList = none) :
    Calls Tryd.prog 27 #[.string s] w fun e w' => ∃ r p : Nat, e = .returned (.tuple #[.int .i64 (r : Int), .int .u64 (p : Int), .bool false]) ∧ w' = w := by
  refine (sp_place s w hs).mono ?_
  rintro e w' ⟨v, rfl, ⟨r, p, _, _, rfl, _⟩, rfl⟩
  rw [h]
  exact ⟨r, p, rfl, rfl⟩
theorem sp_place_s (s : ByteArray) (w : World) (hs : s.size ≤ 1048576) (r p : Nat) (h : placeM s.data.toList = some (r, p)) :
    Calls Tryd.prog 27 #[.string s] w fun e w' => e = .returned (.tuple #[.int .i64 (r : Int), .int .u64 (p : Int), .bool true]) ∧ w' = w := by
  refine (sp_place s w hs).mono ?_
  rintro e w' ⟨v, rfl, ⟨r', p', _, _, rfl, hx⟩, rfl⟩
  rw [h]
  obtain ⟨rfl, rfl⟩ := Prod.mk.inj (hx _ h)
  exact ⟨rfl, rfl⟩
theorem sp_hex_n (s : ByteArray) (w : World) (hs : s.size ≤ 1048576) (h : ¬ (allH s.data.toList = true ∧ 0 < s.size)) :
    Calls Tryd.prog 28 #[.string s] w fun e w' => ∃ a c, e = .returned (.tuple #[.slice a 0 c, .bool false]) ∧ Below w.heap.size w w' := by
  refine (sp_hex s w hs).mono ?_
  rintro e w' ⟨v, rfl, h1, h2, h3⟩
  cases ha : allH s.data.toList with
  | false => rw [h1 ha]; exact ⟨none, 0, by simp, h3⟩
  | true =>
    have h0 : s.size = 0 := by
      rcases Nat.eq_zero_or_pos s.size with h0 | h0
      · exact h0
      · exact absurd ⟨ha, h0⟩ h
    obtain ⟨a, m, c, rfl, hm⟩ := own_sl3 (h2 ha)
    rw [h0] at hm
    subst hm
    exact ⟨a, c, by simp [h0], h3⟩
theorem sp_hex_y (s : ByteArray) (w : World) (hs : s.size ≤ 1048576) (h : allH s.data.toList = true) (h0 : 0 < s.size) :
    Calls Tryd.prog 28 #[.string s] w fun e w' => ∃ hg c, e = .returned (.tuple #[.slice (some ⟨hg, 0, none⟩) s.size c, .bool true]) ∧ w.heap.size ≤ hg ∧ RowV w' hg 5 (hv s.data.toList) ∧ Below w.heap.size w w' := by
  refine (sp_hex s w hs).mono ?_
  rintro e w' ⟨v, rfl, h1, h2, h3⟩
  have ho := h2 h
  rcases ho.2 with ⟨rfl, h9⟩ | ⟨g, cap, cur, rfl, hg, hh, h3', h4, h5, h6⟩
  · omega
  · exact ⟨g, cap, by simp [h, h0], hg, RowV.ofOwns ho, h3⟩
theorem pairs_len : ∀ l : List Nat, (pairs l).length = l.length / 2
  | [] => rfl
  | [_] => by simp [pairs]
  | a :: b :: r => by simp only [pairs, List.length_cons, pairs_len r]; omega
theorem pairs_get : ∀ (l : List Nat) (i : Nat), 2 * i + 1 < l.length → (pairs l)[i]? = some (l.getD (2 * i) 0 * 16 + l.getD (2 * i + 1) 0)
  | [], i, h => by simp at h
  | [_], i, h => by simp at h
  | a :: b :: r, 0, h => rfl
  | a :: b :: r, i + 1, h => by
    have := pairs_get r i (by simp at h; omega)
    simp only [pairs, List.getElem?_cons_succ, this]
    rw [show 2 * (i + 1) = 2 * i + 1 + 1 by omega, show 2 * i + 1 + 1 + 1 = (2 * i + 1) + 1 + 1 by omega]
    rfl
theorem dv8_snoc (l : List Nat) (i : Nat) (x : Nat) (h : l[i]? = some x) : dv8 (l.take (i + 1)) = dv8 (l.take i) ++ [.int .u8 (x : Int)] := by
  rw [List.take_add_one, h]; simp [dv8]
theorem hex_lt {l : List UInt8} (h : allH l = true) (i : Nat) : (hexs l).getD i 0 < 16 := by
  by_cases hi : i < l.length
  · have := List.all_eq_true.1 h l[i] (List.getElem_mem hi)
    simpa [hexs, hi] using this
  · simp [hexs, show ¬ i < l.length from hi]
theorem hv_cell {W : World} {g : Nat} {l : List UInt8} (h : RowV W g 5 (hv l)) (i : Nat) (hi : i < l.length) : W.cell? ⟨g, i, none⟩ = some (.int .u8 (((hexs l).getD i 0 : Nat) : Int)) := by
  rw [h.cell i (by simpa [hv, hexs] using hi)]
  simp [hv, hexs, hi]
/-- bytes two by two -/
structure Sp5 (w W : World) (R N2 O hg B2 : Nat) (o : OpS) (dv : Value) (wl : List UInt8) (i : Nat) : Prop where
  r : Bx W R 45 zeroC
  fm : RowV W N2 9 (formsL.map wv)
  bx : Bx W O 45 (opC o dv)
  dt : W.ownsRow B2 5 1 dv i (dv8 ((pairs (hexs wl)).take i))
  hx : RowV W hg 5 (hv wl)
  bel : Below w.heap.size w W
  ge : w.heap.size ≤ R ∧ w.heap.size ≤ N2 ∧ w.heap.size ≤ O
  ne : R ≠ O ∧ N2 ≠ O ∧ N2 ≠ R
  lt : hg < B2 ∧ O < B2 ∧ R < B2 ∧ N2 < B2 ∧ B2 ≤ W.heap.size ∧ w.heap.size ≤ B2
  no : hg ≠ O
theorem Sp4.five {w W W' : World} {R N2 O hg : Nat} {o : OpS} {wl : List UInt8} (h : Sp4 w W R N2 O o (.slice none 0 0)) (hb : Below W.heap.size W W') (hx : RowV W' hg 5 (hv wl)) (hge : W.heap.size ≤ hg) : Sp5 w W' R N2 O hg W'.heap.size o (.slice none 0 0) wl 0 := by
  have h4 := h.below hb
  have l1 := h.bx.lt
  exact ⟨h4.r, h4.fm, h4.bx, ⟨by simp [dv8], .inl ⟨rfl, rfl⟩⟩, hx, h4.bel, h.ge, h.ne, ⟨hx.lt, h4.bx.lt, h4.r.lt, h4.fm.lt, Nat.le_refl _, h4.bel.size⟩, by omega⟩
/-- two digits more: the append and the store -/
theorem Sp5.more {w W : World} {R N2 O hg B2 : Nat} {o : OpS} {dv : Value} {wl : List UInt8} {i : Nat} (h : Sp5 w W R N2 O hg B2 o dv wl i) (x : Nat) (hx : (pairs (hexs wl))[i]? = some x) (hi : i ≤ 1048576) :
    ∃ v' w', (Builtin.append_ #[22, 22] 22 #[dv, .slice (some ⟨W.heap.size, 0, none⟩) 1 1]).run Tryd.prog (W.alloc (.cells #[.int .u8 (x : Int)] 5)) = .ok v' w' ∧ (∃ a m c, v' = .slice a m c) ∧ w'.cell? ⟨O, 5, none⟩ = some dv ∧ w'.frozen? ⟨O, 5, none⟩ = false ∧ RowV w' hg 5 (hv wl) ∧ Sp5 w (w'.setCell ⟨O, 5, none⟩ v') R N2 O hg B2 o v' wl (i + 1) := by
  obtain ⟨v', w', e1, o1, g1⟩ := appB slBy h.dt h.lt.2.2.2.2.1 #[.int .u8 (x : Int)] rfl (by simp [Value.oneCell']) (by omega)
  have hne : ∀ g, g < B2 → some g ≠ dv.ownBlock := fun g hg e => by have := (h.dt.lt g e.symm).1; omega
  have hbx := h.bx.grown g1 (hne _ h.lt.2.1)
  have hr := h.r.grown g1 (hne _ h.lt.2.2.1)
  have hgb : ∀ g, g < B2 → w'.heap[g]? = W.heap[g]? := fun g hg => g1.block g (by have := h.lt.2.2.2.2.1; omega) (hne g hg)
  have hrow : ∀ (g : Nat) (e : TypeId) (xs : List Value), RowV W g e xs → g < B2 → RowV w' g e xs := fun g e xs ⟨cc, hc, hc2⟩ hg => ⟨cc, (hgb g hg).trans hc, hc2⟩
  have hbel : Below w.heap.size w w' := h.bel.grown g1 h.bel.size (fun r e => by have := (h.dt.lt r e).1; have := h.lt.2.2.2.2.2; omega)
  have hdt : w'.ownsRow B2 5 1 v' (i + 1) (dv8 ((pairs (hexs wl)).take (i + 1))) := by rw [dv8_snoc _ _ _ hx]; exact o1
  obtain ⟨a, m, c, hv', _⟩ := own_sl3 o1
  refine ⟨v', w', e1, ⟨a, m, c, hv'⟩, hbx.cell 5, hbx.free 5, hrow _ _ _ h.hx h.lt.1, ?_⟩
  exact ⟨hr.other h.ne.1 v', (hrow _ _ _ h.fm h.lt.2.2.2.1).other h.ne.2.1 v', by simpa [opC] using hbx.set 5 v', own_set hdt (hbx.apart hdt (by decide)) v', (hrow _ _ _ h.hx h.lt.1).other h.no v', hbel.setCell h.ge.2.2 v', h.ge, h.ne,
    ⟨h.lt.1, h.lt.2.1, h.lt.2.2.1, h.lt.2.2.2.1, by rw [show (w'.setCell ⟨O, 5, none⟩ v').heap.size = w'.heap.size by simp [World.setCell]]; exact Nat.le_trans h.lt.2.2.2.2.1 g1.size, h.lt.2.2.2.2.2⟩, h.no⟩
/-- one operation of a drawn region, carried out -/
theorem wpOp_do {P : Program} {ops : Array Oper} {Q : Exit → Act → World → Prop} {i : Nat} {o : Oper} {K : Act → World → Prop} {a : Act} {w : World} (hi : ops[i]? = some o) (hw : Region.wanted o (yielded ops a.tmps) = true)
    (h : ∀ K' : Act → World → Prop, Hid (∀ a w, K a w → K' a w) → o.wp P a w K' Q) : wpOp P ops Q i K a w := by
  unfold wpOp; simp only [hi, hw, if_true]; exact .inl (h K fun _ _ h => h)
theorem wpAnyH_one {P : Program} {md : Region.Mode} {ops : Array Oper} {Q : Exit → Act → World → Prop} {S : World → Prop} {r fuel : Nat} {listed : Array Bool} {a : Act} {w : World} (hr : Region.ready md ops listed = [r])
    (h : wpOp P ops Q r (fun a' w' => S w' ∧ wpAnyH P md ops Q S fuel (listed.setIfInBounds r true) a' w') a w) : wpAnyH P md ops Q S (fuel + 1) listed a w :=
  wpAnyH_all hr (by simp) (fun i hi => by
    obtain rfl : i = r := by simpa using hi
    exact h)

theorem wpAnyH_put {P : Program} {md : Region.Mode} {ops : Array Oper} {Q : Exit → Act → World → Prop} {S : World → Prop} {i d : Nat} {oi : Oper} {v : Value} {fuel : Nat} {listed : Array Bool} {a : Act} {w : World} (hi : ops[i]? = some oi) (hd : oi.dst = some d)
    (hs : Region.noSelect ops = true) (hf : Region.free md ops listed i = true) (hr : (Region.ready md ops listed).contains i = true)
    (hQ : ∀ c a w, Q (.panic c) (a.put oi.dst v) w → Q (.panic c) a w) (hy : YieldsIf P ops S oi v a) (hS : S w)
    (h : wpAnyH P md ops Q S fuel (listed.setIfInBounds i true) { a with tmps := a.tmps.setIfInBounds d v } w) : wpAnyH P md ops Q S (fuel + 1) listed a w :=
  wpAnyH_take hi hs hf hr hQ hy hS (by
    have e : a.put oi.dst v = { a with tmps := a.tmps.setIfInBounds d v } := by rw [hd]; rfl
    rw [e]; exact h)

theorem wpOp_app {P : Program} {t : TypeId} {ops : Array Oper} {Q : Exit → Act → World → Prop} {i : Nat} {o : Oper} {K : Act → World → Prop} {a : Act} {w : World} (hi : ops[i]? = some o) (hgd : o.guard = none) (s x : Operand)
    (ho : o.op = .call { callee := .builtin .append, args := #[s, x], argTypes := #[t, t] }) (ht : o.type = t) {v v2 v' : Value} {w' : World} (hs : a.eval s = v) (hx : a.eval x = v2)
    (hr : (Builtin.append_ #[t, t] t #[v, v2]).run P w = .ok v' w') (hK : K (a.put o.dst v') w') : wpOp P ops Q i K a w := by
  refine wpOp_do hi (by simp [Region.wanted, hgd]) (fun K' hK' => ?_)
  unfold Oper.wp
  simp [execOp, ho, ht, resolve, invoke, builtin, hs, hx, hr, Result.andThen]
  exact hK'.out _ _ hK
theorem Sp5.drew {w W : World} {R N2 O hg B2 : Nat} {o : OpS} {dv : Value} {wl : List UInt8} {i : Nat} (h : Sp5 w W R N2 O hg B2 o dv wl i) : Sp5 w W.drew R N2 O hg B2 o dv wl i :=
  ⟨h.r, h.fm, h.bx, h.dt, h.hx, h.bel.drew, h.ge, h.ne, h.lt, h.no⟩
theorem form_noX {k j : Nat} (hk : k < 6) (hj : j < (formsL.getD k []).length) : (formsL.getD k [])[j].toNat = 78 ∨ (formsL.getD k [])[j].toNat = 80 := by
  rcases k with _ | _ | _ | _ | _ | _ | k <;> first | omega | (rcases j with _ | _ | j <;> first | (exfalso; simp [formsL] at hj; done) | (exfalso; simp [formsL] at hj; omega) | (simp [formsL]; done))
theorem form_noN {j : Nat} (hj : j < (formsL.getD 6 []).length) : ¬ (formsL.getD 6 [])[j].toNat = 78 := by
  rcases j with _ | _ | j <;> first | (exfalso; simp [formsL] at hj; done) | (exfalso; simp [formsL] at hj; omega) | (simp [formsL]; done)
theorem hit_uniq {k k2 : Nat} {q : List (List UInt8)} (hk : k < 7) (hk2 : k2 < 7) (h : hitM k q = true) (h2 : hitM k2 q = true) : k = k2 := by
  simp only [hitM, decide_eq_true_eq] at h h2
  have he : namesL.getD k [] = namesL.getD k2 [] := h.1.symm.trans h2.1
  have key : ∀ a, a < 7 → ∀ b, b < 7 → namesL.getD a [] = namesL.getD b [] → a = b := by decide
  exact key k hk k2 hk2 he
theorem wrap_u8 {n : Int} (h0 : 0 ≤ n) (h : n < 256) : IntKind.u8.wrap n = n := by simp [IntKind.wrap, IntKind.bits, IntKind.signed]; omega
theorem wrap_i64 {n : Int} (h0 : 0 ≤ n) (h : n < 9223372036854775808) : IntKind.i64.wrap n = n := by simp [IntKind.wrap, IntKind.bits, IntKind.signed]; omega
theorem op_one (o : OpS) (a : Option Addr) (m n : Nat) : (opC o (.slice a m n)).toArray.all (·.oneCell') = true := by simp [opC, Value.oneCell']
theorem bs_at {t : ByteArray} {f : List UInt8} (h : t = bs f) (j : Nat) (h1 : j < t.size) (h2 : j < f.length) : t[j] = f[j] := by subst h; rfl
end Go.Proofs.YtcefihmnnndleaaDoor
