import Derived.Test.YtcefihmnnndleaaDoorScE
namespace Go.Proofs.YtcefihmnnndleaaDoor
open Go.ChangeShapes Go.WideShapes Go.ChangeAt Go.RowKit
set_option linter.unusedVariables false

/-- the lines of a text, the first of them begun -/
def linesM : List UInt8 → List UInt8 → List (List UInt8)
  | [], _ => []
  | c :: r, cur => if c.toNat = 10 then cur :: linesM r [] else if r = [] then [cur ++ [c]] else linesM r (cur ++ [c])
/-- bytes as values -/
def bv (l : List UInt8) : List Value := l.map (fun b : UInt8 => Value.int .u8 ((b.toNat : Nat) : Int))
theorem bv_len (l : List UInt8) : (bv l).length = l.length := by simp [bv]
theorem bv_snoc (l : List UInt8) (c : UInt8) : bv (l ++ [c]) = bv l ++ [.int .u8 ((c.toNat : Nat) : Int)] := by simp [bv]
theorem bv_get (l : List UInt8) (i : Nat) (h : i < l.length) : (bv l)[i]? = some (.int .u8 ((l[i].toNat : Nat) : Int)) := by simp [bv, h]

/-- a line that lies below B1 -/
def Ln (B1 : Nat) (W : World) (u : Value) (l : List UInt8) : Prop := (u = .slice none 0 0 ∧ l = []) ∨ ∃ g c, u = .slice (some ⟨g, 0, none⟩) l.length c ∧ (g < B1 ∧ l.length ≤ c) ∧ RowV W g 5 (bv l)
theorem Ln.mono {B1 B2 : Nat} {W : World} {u : Value} {l : List UInt8} (h : Ln B1 W u l) (hb : B1 ≤ B2) : Ln B2 W u l := by
  rcases h with h | ⟨g, c, h1, h2, h3⟩
  · exact .inl h
  · exact .inr ⟨g, c, h1, ⟨by omega, h2.2⟩, h3⟩
theorem Ln.keep {B1 : Nat} {W W' : World} {u : Value} {l : List UInt8} (h : Ln B1 W u l) (hk : ∀ g, g < B1 → ∀ x, W.heap[g]? = some (.cells x 5 (0, 0)) → W'.heap[g]? = W.heap[g]?) : Ln B1 W' u l := by
  rcases h with h | ⟨g, c, h1, h2, ⟨x, h3, h4⟩⟩
  · exact .inl h
  · exact .inr ⟨g, c, h1, h2, x, by rw [hk g h2.1 x h3]; exact h3, h4⟩
theorem own_obj {W : World} {B : Nat} {e : TypeId} {sz : Nat} {v : Value} {n : Nat} {xs : List Value} (h : W.ownsRow B e sz v n xs) {r : Nat} (hr : v.ownBlock = some r) : ∃ x, W.heap[r]? = some (.cells x e (0, 0)) := by
  rcases h.2 with ⟨rfl, h0⟩ | ⟨g, cap, cur, rfl, hg, hh, h3, h4, h5, h6⟩
  · cases hr
  · simp [Value.ownBlock] at hr
    subst hr
    exact ⟨_, hh⟩
theorem own_apart {W : World} {B1 B2 : Nat} {e1 e2 : TypeId} {s1 s2 : Nat} {v1 v2 : Value} {n1 n2 : Nat} {x1 x2 : List Value} (h1 : W.ownsRow B1 e1 s1 v1 n1 x1) (h2 : W.ownsRow B2 e2 s2 v2 n2 x2) (hne : e1 ≠ e2) : v1.ownBlock = none ∨ v1.ownBlock ≠ v2.ownBlock := by
  cases e : v1.ownBlock with
  | none => exact .inl rfl
  | some r =>
    refine .inr fun e2 => ?_
    obtain ⟨x, hx⟩ := own_obj h1 e
    obtain ⟨y, hy⟩ := own_obj h2 e2.symm
    rw [hx] at hy
    simp at hy
    exact hne hy.2
theorem own_sl3 {W : World} {B : Nat} {e : TypeId} {sz : Nat} {v : Value} {n : Nat} {xs : List Value} (h : W.ownsRow B e sz v n xs) : ∃ a m c, v = .slice a m c ∧ m = n := by
  rcases h.2 with ⟨rfl, h0⟩ | ⟨g, cap, c, rfl, _⟩
  · exact ⟨none, 0, 0, rfl, h0.symm⟩
  · exact ⟨_, _, _, rfl, rfl⟩
theorem own_ln {W : World} {B : Nat} {v : Value} {l : List UInt8} (h : W.ownsRow B 5 1 v l.length (bv l)) : Ln W.heap.size W v l := by
  rcases h.2 with ⟨rfl, h0⟩ | ⟨g, cap, cur, rfl, hg, hh, h3, h4, h5, h6⟩
  · exact .inl ⟨rfl, List.eq_nil_of_length_eq_zero h0⟩
  · exact .inr ⟨g, cap, rfl, ⟨lt_of_block hh, by omega⟩, RowV.ofOwns h⟩
/-- one element more, just laid: whatever the base -/
theorem appB {T e : TypeId} {z : Value} {sz bb : Nat} (S : Sl1 T e z sz bb) {W : World} {B : Nat} {v : Value} {n : Nat} {xs : List Value} (hown : W.ownsRow B e sz v n xs) (hB : B ≤ W.heap.size)
    (c : Array Value) (hl : c.size = sz) (h1 : ∀ u ∈ c.toList, u.oneCell' = true) (hn : n ≤ 2000000) :
    ∃ v' w', (Builtin.append_ #[T, T] T #[v, .slice (some ⟨W.heap.size, 0, none⟩) 1 1]).run Tryd.prog (W.alloc (.cells c e)) = .ok v' w' ∧ w'.ownsRow B e sz v' (n + 1) (xs ++ c.toList) ∧ W.grownBy w' v.ownBlock := by
  have hown2 : (W.alloc (.cells c e)).ownsRow B e sz v n xs := hown.alloc _
  have hsz : W.heap.size ≤ (W.alloc (.cells c e)).heap.size := ((Below.refl W.heap.size W).alloc (Nat.le_refl _) _).size
  obtain ⟨v', w', e1, e2, e3⟩ := appX S hown2 (by omega) ⟨W.heap.size, 0, none⟩ 1 1 c.toList (by simp [hl]) (fun j u hj => by
    have hlast : (W.alloc (.cells c e)).heap[W.heap.size]? = some (.cells c e (0, 0)) := al_last _ _
    rw [Addr.add_mid, Nat.zero_add, cell_of_row _ _ j _ _ _ hlast]
    simpa using hj) h1 (by omega)
  refine ⟨v', w', e1, e2, ⟨e3.os, e3.tape, e3.output, Nat.le_trans hsz e3.size, fun k hk hne => ?_⟩⟩
  rw [e3.block k (by omega) hne, al_old _ _ _ hk]
theorem lines_step {c : UInt8} {r cur : List UInt8} : linesM (c :: r) cur = if c.toNat = 10 then cur :: linesM r [] else if r = [] then [cur ++ [c]] else linesM r (cur ++ [c]) := rfl

/-- the lines that are done, the one that is begun -/
structure LnI (w W : World) (l : List UInt8) (k : Nat) (v lv : Value) (ps : List (Value × List UInt8)) (cur : List UInt8) (B1 : Nat) : Prop where
  eq : linesM l [] = ps.map (·.2) ++ linesM (l.drop k) cur
  out : W.ownsRow w.heap.size 22 1 v ps.length (ps.map (·.1))
  line : W.ownsRow B1 5 1 lv cur.length (bv cur)
  b1 : w.heap.size ≤ B1
  b2 : B1 ≤ W.heap.size
  done : ∀ p ∈ ps, Ln B1 W p.1 p.2
  bel : Below w.heap.size w W
  n1 : ps.length ≤ k
  n2 : cur.length ≤ k
theorem LnI.start (w : World) (l : List UInt8) : LnI w w l 0 (.slice none 0 0) (.slice none 0 0) [] [] w.heap.size :=
  ⟨by simp, nil_own w 22 1, nil_own w 5 1, Nat.le_refl _, Nat.le_refl _, by simp, Below.refl _ w, by simp, by simp⟩
/-- a byte is put behind the line -/
theorem LnI.byte {w W : World} {l : List UInt8} {k : Nat} {v lv : Value} {ps : List (Value × List UInt8)} {cur : List UInt8} {B1 : Nat} (h : LnI w W l k v lv ps cur B1) (c : UInt8) (hc : l.drop k = c :: l.drop (k + 1)) (h10 : ¬ c.toNat = 10) (hk : k ≤ 1048576) :
    ∃ lv' W', (Builtin.append_ #[22, 22] 22 #[lv, .slice (some ⟨W.heap.size, 0, none⟩) 1 1]).run Tryd.prog (W.alloc (.cells #[.int .u8 ((c.toNat : Nat) : Int)] 5)) = .ok lv' W' ∧ W'.ownsRow w.heap.size 22 1 v ps.length (ps.map (·.1)) ∧ W'.ownsRow B1 5 1 lv' (cur ++ [c]).length (bv (cur ++ [c])) ∧ B1 ≤ W'.heap.size ∧ (∀ p ∈ ps, Ln B1 W' p.1 p.2) ∧ Below w.heap.size w W' := by
  obtain ⟨lv', W', e1, o1, g1⟩ := appB slBy h.line h.b2 #[.int .u8 ((c.toNat : Nat) : Int)] rfl (by simp [Value.oneCell']) (by have := h.n2; omega)
  have hne : ∀ g, g < B1 → some g ≠ lv.ownBlock := fun g hg e => by have := (h.line.lt g e.symm).1; omega
  refine ⟨lv', W', e1, ?_, ?_, Nat.le_trans h.b2 g1.size, fun p hp => ?_, ?_⟩
  · exact h.out.kept g1 (own_apart h.out h.line (by decide))
  · rw [bv_snoc, List.length_append]; exact o1
  · exact (h.done p hp).keep fun g hg x hx => g1.block g (by have := h.b2; omega) (hne g hg)
  · exact h.bel.grown g1 h.bel.size (fun r e => by have := (h.line.lt r e).1; have := h.b1; omega)
/-- the line is done -/
theorem ln_push {w W : World} {v lv : Value} {ps : List (Value × List UInt8)} {cur : List UInt8} {B1 : Nat} (ho : W.ownsRow w.heap.size 22 1 v ps.length (ps.map (·.1))) (hl : W.ownsRow B1 5 1 lv cur.length (bv cur)) (hb : B1 ≤ W.heap.size) (hd : ∀ p ∈ ps, Ln B1 W p.1 p.2) (hw : Below w.heap.size w W) (hn : ps.length ≤ 1048577) :
    ∃ v' W', (Builtin.append_ #[40, 40] 40 #[v, .slice (some ⟨W.heap.size, 0, none⟩) 1 1]).run Tryd.prog (W.alloc (.cells #[lv] 22)) = .ok v' W' ∧ W'.ownsRow w.heap.size 22 1 v' (ps ++ [(lv, cur)]).length ((ps ++ [(lv, cur)]).map (·.1)) ∧ (∀ p ∈ ps ++ [(lv, cur)], Ln W'.heap.size W' p.1 p.2) ∧ Below w.heap.size w W' := by
  have h1c : lv.oneCell' = true := by
    rcases hl.2 with ⟨rfl, h0⟩ | ⟨g, cap, c, rfl, _⟩ <;> rfl
  obtain ⟨v', W', e1, o1, g1⟩ := appB slLn ho hw.size #[lv] rfl (by simpa using h1c) (by omega)
  have hne : ∀ g x, W.heap[g]? = some (.cells x 5 (0, 0)) → some g ≠ v.ownBlock := fun g x hx e => by
    obtain ⟨y, hy⟩ := own_obj ho e.symm
    rw [hx] at hy
    simp at hy
  refine ⟨v', W', e1, by simpa using o1, fun p hp => ?_, hw.grown g1 hw.size (fun r e => (ho.lt r e).1)⟩
  have kk : ∀ B2, B2 ≤ W.heap.size → ∀ q : Value × List UInt8, Ln B2 W q.1 q.2 → Ln W'.heap.size W' q.1 q.2 := fun B2 hB2 q hq => (hq.keep fun g hg x hx => g1.block g (by omega) (hne g x hx)).mono (by have := g1.size; omega)
  rcases List.mem_append.1 hp with hp | hp
  · exact kk B1 hb p (hd p hp)
  · simp at hp
    subst hp
    exact kk W.heap.size (Nat.le_refl _) (lv, cur) (own_ln hl)
theorem LnI.fresh {w W : World} {l : List UInt8} {k : Nat} {v : Value} {ps : List (Value × List UInt8)} (he : linesM l [] = ps.map (·.2) ++ linesM (l.drop k) []) (ho : W.ownsRow w.heap.size 22 1 v ps.length (ps.map (·.1))) (hd : ∀ p ∈ ps, Ln W.heap.size W p.1 p.2) (hw : Below w.heap.size w W) (hn : ps.length ≤ k) :
    LnI w W l k v (.slice none 0 0) ps [] W.heap.size := ⟨he, ho, nil_own W 5 1, hw.size, Nat.le_refl _, hd, hw, hn, by simp⟩
/-- lines in memory -/
def Lns (B : Nat) (W : World) (v : Value) (ls : List (List UInt8)) : Prop := ∃ ps : List (Value × List UInt8), ps.map (·.2) = ls ∧ W.ownsRow B 22 1 v ps.length (ps.map (·.1)) ∧ ∀ p ∈ ps, Ln W.heap.size W p.1 p.2

set_option maxHeartbeats 1000000 in
theorem sp_lines (g n c : Nat) (l : List UInt8) (w : World) (hl : l.length = n) (hn : n ≤ 1048576) (hr : RowV w g 5 (bv l)) :
    Calls Tryd.prog 18 #[.slice (some ⟨g, 0, none⟩) n c] w fun e w' => ∃ v, e = .returned v ∧ Lns w.heap.size w' v (linesM l []) ∧ Below w.heap.size w w' := by
  go_enter Tryd.func18, Tryd.ntmps18
  go_wp2
  go_loopw [3, 4, 9] (fun v lv i wr => ∃ (k : Nat) (ps : List (Value × List UInt8)) (cur : List UInt8) (B1 : Nat), k ≤ n ∧ i = .int .i64 (k : Int) ∧ Hid (LnI w wr l k v lv ps cur B1)) (fun _ _ i _ => n - (intOf i).toNat)
  case atStart => exact ⟨0, [], [], w.heap.size, Nat.zero_le _, rfl, hid (LnI.start w l)⟩
  case round =>
    obtain ⟨k, ps, cur, B1, hk, rfl, HI⟩ := hrel
    by_cases hlt : k < n
    · have hc := hid (show l.drop k = l[k]'(by omega) :: l.drop (k + 1) from List.drop_eq_getElem_cons (by omega))
      have hcell : wr.cell? ⟨g, k, none⟩ = some (.int .u8 (((l[k]'(by omega)).toNat : Nat) : Int)) := by
        have h1 := (hr.below HI.out.bel hr.lt).cell k (by rw [bv_len]; omega)
        rw [h1, bv_get l k (by omega)]
      generalize l[k]'(by omega) = b at hc hcell
      by_cases h10 : b.toNat = 10
      · have h10' : (((b.toNat : Nat) : Int) == 10) = true := by rw [beq_iff_eq]; omega
        have h10n : (((b.toNat : Nat) : Int) != 10) = false := by simp; omega
        obtain ⟨v1, w1, e1, o1, d1, b1⟩ := ln_push HI.out.out HI.out.line HI.out.b2 HI.out.done HI.out.bel (by have := HI.out.n1; omega)
        have HN := hid (LnI.fresh (k := k + 1) (by rw [HI.out.eq, hc.out, lines_step, if_pos h10]; simp) o1 d1 b1 (by have := HI.out.n1; simp; omega))
        obtain ⟨la, lm, lc, rfl, hlm⟩ := own_sl3 HI.out.line
        clear o1 d1 b1 HI h10 hlm
        go_wp2_with (at_builtin; refine list_app rfl (.tmp 29) (.tmp 31) (by with_reducible rfl) rfl rfl rfl e1 ?_)
        go_roundw
        case rel => exact ⟨k + 1, _, _, _, by omega, by go_num, HN⟩
        case measure => simp [intOf]; omega
      · have h10' : (((b.toNat : Nat) : Int) == 10) = false := by rw [beq_eq_false_iff_ne]; omega
        have h10n : (((b.toNat : Nat) : Int) != 10) = true := by simp; omega
        obtain ⟨v1, w1, e1, o1, l1, s1, d1, b1⟩ := HI.out.byte b hc.out h10 (by omega)
        by_cases hlast : k + 1 = n
        · have hlast' : ((k : Int) == (n : Int) - 1) = true := by rw [beq_iff_eq]; omega
          obtain ⟨v2, w2, e2, o2, d2, b2⟩ := ln_push o1 l1 s1 d1 b1 (by have := HI.out.n1; omega)
          have hdn : l.drop (k + 1) = [] := List.drop_eq_nil_of_le (by omega)
          have HN := hid (LnI.fresh (k := k + 1) (by rw [HI.out.eq, hc.out, lines_step, if_neg h10, if_pos hdn, hdn]; simp [linesM]) o2 d2 b2 (by have := HI.out.n1; simp; omega))
          obtain ⟨la, lm, lc, rfl, hlm⟩ := own_sl3 l1
          have HLT := hid hlast
          clear o1 d1 b1 o2 d2 b2 HI h10 hlm l1 s1 hdn hlast
          go_wp2_with (at_builtin; first | (refine list_app (t := 22) rfl (.tmp 16) (.tmp 18) (by with_reducible rfl) rfl rfl rfl e1 ?_; clear e1) | refine list_app (t := 40) rfl (.tmp 29) (.tmp 31) (by with_reducible rfl) rfl rfl rfl e2 ?_)
          go_roundw
          case rel => exact ⟨k + 1, _, _, _, by omega, by go_num, HN⟩
          case measure => simp [intOf]; omega
        · have hlast' : ((k : Int) == (n : Int) - 1) = false := by rw [beq_eq_false_iff_ne]; omega
          have hdn : ¬ l.drop (k + 1) = [] := by intro h0; have := congrArg List.length h0; simp at this; omega
          have HN : Hid (LnI w w1 l (k + 1) u3 v1 ps (cur ++ [b]) B1) := hid ⟨by rw [HI.out.eq, hc.out, lines_step, if_neg h10, if_neg hdn], o1, l1, HI.out.b1, s1, d1, b1, by have := HI.out.n1; omega, by have := HI.out.n2; simp; omega⟩
          clear o1 d1 b1 HI h10 l1 s1 hdn
          go_wp2_with (at_builtin; refine list_app rfl (.tmp 16) (.tmp 18) (by with_reducible rfl) rfl rfl rfl e1 ?_)
          go_roundw
          case rel => exact ⟨k + 1, _, _, _, by omega, by go_num, HN⟩
          case measure => simp [intOf]; omega
    · have hdn : l.drop k = [] := List.drop_eq_nil_of_le (by omega)
      have HE := hid (show Lns w.heap.size wr u3 (linesM l []) from ⟨ps, by rw [HI.out.eq, hdn]; simp [linesM], HI.out.out, fun p hp => (HI.out.done p hp).mono HI.out.b2⟩)
      have HB := hid HI.out.bel
      clear HI hdn
      go_wp2
      go_ret
      exact ⟨_, rfl, HE.out, HB.out⟩
end Go.Proofs.YtcefihmnnndleaaDoor
