import Derived.Test.YtcefihmnnndleaaDoorScJ
import Derived.Maps.AppendAt
namespace Go.Proofs.YtcefihmnnndleaaDoor
open Go.ChangeShapes Go.WideShapes Go.ChangeAt Go.RowKit
set_option linter.unusedVariables false

/-- what has been read -/
structure RdS where
  cf : CfS
  ops : List OpS
  bad : List Int
/-- one line -/
def lineM (i : Nat) (l : List UInt8) (s : RdS) : RdS :=
  if wordsM l [] = [] then s else
    match opM (wordsM l []) with
    | some o => { s with ops := s.ops ++ [o] }
    | none => match setM s.cf (wordsM l []) with
      | some c => { s with cf := c }
      | none => { s with bad := s.bad ++ [((i + 1 : Nat) : Int)] }
def linesF : List (List UInt8) → Nat → RdS → RdS
  | [], _, s => s
  | l :: r, i, s => linesF r (i + 1) (lineM i l s)
def startM : RdS := ⟨⟨2, 4, 2, 100, 1, []⟩, [], []⟩
def zeroM : RdS := ⟨⟨0, 0, 0, 0, 0, []⟩, [], []⟩
/-- a script -/
def readM (t : List UInt8) : RdS := if 20000 < t.length then zeroM else linesF (linesM t []) 0 startM

theorem words_len : ∀ (l cur : List UInt8), (wordsM l cur).length ≤ l.length + 1
  | [], cur => by unfold wordsM; split <;> simp
  | c :: r, cur => by
    unfold wordsM
    have h1 := words_len r []
    have h2 := words_len r (cur ++ [c])
    split
    · split <;> simp <;> omega
    · simp; omega
theorem words_mem : ∀ (l cur x : List UInt8), x ∈ wordsM l cur → x.length ≤ l.length + cur.length
  | [], cur, x, h => by
    unfold wordsM at h
    split at h
    · cases h
    · simp at h; subst h; simp
  | c :: r, cur, x, h => by
    unfold wordsM at h
    split at h
    · split at h
      · have := words_mem r [] x h; simp at this ⊢; omega
      · rcases List.mem_cons.1 h with h | h
        · subst h; simp
        · have := words_mem r [] x h; simp at this ⊢; omega
    · have := words_mem r (cur ++ [c]) x h; simp at this ⊢; omega
theorem lines_mem : ∀ (l cur x : List UInt8), x ∈ linesM l cur → x.length ≤ l.length + cur.length
  | [], cur, x, h => by cases h
  | c :: r, cur, x, h => by
    rw [lines_step] at h
    split at h
    · rcases List.mem_cons.1 h with h | h
      · subst h; simp
      · have := lines_mem r [] x h; simp at this ⊢; omega
    · split at h
      · simp at h; subst h; simp; omega
      · have := lines_mem r (cur ++ [c]) x h; simp at this ⊢; omega
theorem lines_len : ∀ (l cur : List UInt8), (linesM l cur).length ≤ l.length
  | [], cur => by simp [linesM]
  | c :: r, cur => by
    rw [lines_step]
    have h1 := lines_len r []
    have h2 := lines_len r (cur ++ [c])
    split
    · simp; omega
    · split <;> simp <;> omega
theorem intsM_len : ∀ (ws : List (List UInt8)) (ns : List Int), intsM ws = some ns → ns.length = ws.length
  | [], ns, h => by simp [intsM] at h; subst h; rfl
  | w :: r, ns, h => by
    unfold intsM at h
    cases h1 : intM w with
    | none => rw [h1] at h; cases h
    | some n =>
      cases h2 : intsM r with
      | none => rw [h1, h2] at h; cases h
      | some m =>
        rw [h1, h2] at h
        simp at h
        subst h
        simp [intsM_len r m h2]
theorem setM_draws {c c' : CfS} {q : List (List UInt8)} (h : setM c q = some c') : c'.draws.length ≤ c.draws.length + q.length := by
  unfold setM at h
  split at h
  · cases hk : keyM (q.getD 1 []) with
    | none => rw [hk] at h; cases h
    | some k => rw [hk] at h; simp at h; subst h; simp
  · cases hi : intsM q.tail with
    | none => rw [hi] at h; cases h
    | some ns =>
      rw [hi, Option.bind_some] at h
      have hl := intsM_len _ _ hi
      rw [List.length_tail] at hl
      split at h
      · simp at h; subst h; simp
      · split at h
        · simp at h; subst h; simp; omega
        · cases h
/-- the rows of the types 22, 5 and 9 stay -/
def K2 (W W' : World) : Prop := W.heap.size ≤ W'.heap.size ∧ ∀ (g : Nat) (x : Array Value) (t : TypeId), W.heap[g]? = some (.cells x t (0, 0)) → (t = 22 ∨ t = 5 ∨ t = 9) → W'.heap[g]? = some (.cells x t (0, 0))
theorem K2.refl (W : World) : K2 W W := ⟨Nat.le_refl _, fun _ _ _ h _ => h⟩
theorem K2.trans {A B C : World} (h : K2 A B) (k : K2 B C) : K2 A C := ⟨Nat.le_trans h.1 k.1, fun g x t hx ht => k.2 g x t (h.2 g x t hx ht) ht⟩
theorem K2.below {W W' : World} (h : Below W.heap.size W W') : K2 W W' := ⟨h.size, fun g x t hx _ => by rw [h.block g (lt_of_block hx)]; exact hx⟩
theorem K2.grown {W W' : World} {B : Nat} {e : TypeId} {sz : Nat} {v : Value} {n : Nat} {xs : List Value} (h : W.grownBy W' v.ownBlock) (ho : W.ownsRow B e sz v n xs) (he : ¬ (e = 22 ∨ e = 5 ∨ e = 9)) : K2 W W' := ⟨h.size, fun g x t hx ht => by
  rw [h.block g (lt_of_block hx) (fun q => by
    obtain ⟨y, hy⟩ := own_obj ho q.symm
    rw [hx] at hy
    simp at hy
    exact he (hy.2 ▸ ht))]; exact hx⟩
theorem K2.row {W : World} {g : Nat} {e : TypeId} {cs : List Value} (h : Bx W g e cs) (he : ¬ (e = 22 ∨ e = 5 ∨ e = 9)) (c : Array Value) : K2 W (W.setRow g c) := ⟨by simp, fun k x t hx ht => by
  rw [setRow_other _ _ _ _ (fun q => by
    subst q
    unfold Bx at h
    rw [h] at hx
    simp at hx
    exact he (hx.2 ▸ ht))]; exact hx⟩
theorem Lns.keep {B : Nat} {W W' : World} {v : Value} {ls : List (List UInt8)} (h : Lns B W v ls) (k : K2 W W') : Lns B W' v ls := by
  obtain ⟨ps, h1, h2, h3⟩ := h
  refine ⟨ps, h1, ⟨h2.1, ?_⟩, fun p hp => ?_⟩
  · rcases h2.2 with h0 | ⟨g, cap, cur, rfl, hg, hh, rest⟩
    · exact .inl h0
    · exact .inr ⟨g, cap, cur, rfl, hg, k.2 g _ _ hh (.inl rfl), rest⟩
  · rcases h3 p hp with h0 | ⟨g, c, a1, a2, ⟨x, a3, a4⟩⟩
    · exact .inl h0
    · exact .inr ⟨g, c, a1, ⟨by have := k.1; omega, a2.2⟩, x, k.2 g _ _ a3 (.inr (.inl rfl)), a4⟩
theorem K2.own {W W' : World} (k : K2 W W') {B : Nat} {e : TypeId} {sz : Nat} {v : Value} {n : Nat} {xs : List Value} (h : W.ownsRow B e sz v n xs) (he : e = 22 ∨ e = 5 ∨ e = 9) : W'.ownsRow B e sz v n xs := by
  refine ⟨h.1, ?_⟩
  rcases h.2 with h0 | ⟨g, cap, cur, rfl, hg, hh, rest⟩
  · exact .inl h0
  · exact .inr ⟨g, cap, cur, rfl, hg, k.2 g _ _ hh he, rest⟩
/-- one element more, just laid: and where the row lies then -/
theorem appC {T e : TypeId} {z : Value} {sz bb : Nat} (S : Sl1 T e z sz bb) {W : World} {B : Nat} {v : Value} {n : Nat} {xs : List Value} (hown : W.ownsRow B e sz v n xs) (hB : B ≤ W.heap.size)
    (c : Array Value) (hl : c.size = sz) (h1 : ∀ u ∈ c.toList, u.oneCell' = true) (hn : n ≤ 2000000) :
    ∃ v' w', (Builtin.append_ #[T, T] T #[v, .slice (some ⟨W.heap.size, 0, none⟩) 1 1]).run Tryd.prog (W.alloc (.cells c e)) = .ok v' w' ∧ w'.ownsRow B e sz v' (n + 1) (xs ++ c.toList) ∧ W.grownBy w' v.ownBlock ∧ (v'.ownBlock = v.ownBlock ∨ v'.ownBlock = some (W.heap.size + 1)) := by
  have hown2 : (W.alloc (.cells c e)).ownsRow B e sz v n xs := hown.alloc _
  have hsz : (W.alloc (.cells c e)).heap.size = W.heap.size + 1 := by simp
  obtain ⟨i0, hi0, hz0, hz1, hz2⟩ := info_parts S.info
  have hbb : (n + 1) * bb ≤ 2000001 * 100 := Nat.mul_le_mul (by omega) S.small
  obtain ⟨v', w', e1, e2, e3, _, e5⟩ := run_append_own_at (P := Tryd.prog) (W.alloc (.cells c e)) B T T e i0 _ sz bb S.und hi0 hz0 hz1 hz2 S.cells S.pos v n _ hown2 ⟨W.heap.size, 0, none⟩ 1 1 c.toList (by simp [hl]) (fun j u hj => by
    have hlast : (W.alloc (.cells c e)).heap[W.heap.size]? = some (.cells c e (0, 0)) := al_last _ _
    rw [Addr.add_mid, Nat.zero_add, cell_of_row _ _ j _ _ _ hlast]
    simpa using hj) h1 (by unfold maxLen; omega) (by omega) (by omega)
  refine ⟨v', w', e1, e2, ⟨e3.os, e3.tape, e3.output, by have := e3.size; omega, fun k hk hne => ?_⟩, by rw [hsz] at e5; exact e5⟩
  rw [e3.block k (by omega) hne, al_old _ _ _ hk]
end Go.Proofs.YtcefihmnnndleaaDoor
