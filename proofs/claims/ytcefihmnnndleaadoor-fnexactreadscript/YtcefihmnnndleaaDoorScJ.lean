import Derived.Test.YtcefihmnnndleaaDoorScH
import Derived.Laws.CopyRow
import Derived.Laws.CopyOwn
namespace Go.Proofs.YtcefihmnnndleaaDoor
open Go.ChangeShapes Go.WideShapes Go.ChangeAt Go.RowKit
set_option linter.unusedVariables false
set_option maxRecDepth 20000

structure CfS where
  mix : Int
  fifo : Int
  large : Int
  budget : Int
  key : Nat
  draws : List Int
def cfC (c : CfS) (dv : Value) : List Value := [.int .i64 c.mix, .int .i64 c.fifo, .int .i64 c.large, .int .i64 c.budget, .int .u64 (c.key : Int), dv]
def kwKey : List UInt8 := [107, 101, 121]
def kwHeap : List UInt8 := [104, 101, 97, 112]
def kwDraws : List UInt8 := [100, 114, 97, 119, 115]
def intsM : List (List UInt8) → Option (List Int)
  | [] => some []
  | w :: r => (intM w).bind fun n => (intsM r).map (n :: ·)
/-- a line of the heap's shape -/
def setM (c : CfS) (q : List (List UInt8)) : Option CfS :=
  if q.headD [] = kwKey ∧ q.length = 2 then (keyM (q.getD 1 [])).map (fun k : Nat => { c with key := k })
  else (intsM q.tail).bind fun ns => if q.headD [] = kwHeap ∧ ns.length = 4 then some { c with mix := ns.getD 0 0, fifo := ns.getD 1 0, large := ns.getD 2 0, budget := ns.getD 3 0 }
    else if q.headD [] = kwDraws then some { c with draws := c.draws ++ ns } else none

def foldH (l : List UInt8) (n : Nat) : Nat := l.foldl (fun n b => n * 16 + dgt b.toNat) n
theorem valL_hex : ∀ (l : List UInt8) (n : Nat), allH l = true → (n + 1) * 16 ^ l.length ≤ 18446744073709551616 → valL 16 l n = some (foldH l n)
  | [], n, _, _ => rfl
  | c :: r, n, ha, hb => by
    simp only [allH, List.all_cons, Bool.and_eq_true, decide_eq_true_eq] at ha
    rw [List.length_cons, Nat.pow_succ', ← Nat.mul_assoc] at hb
    have h1 : (n * 16 + dgt c.toNat + 1) * 16 ^ r.length ≤ (n + 1) * 16 * 16 ^ r.length := Nat.mul_le_mul_right _ (by omega)
    have h2 : n * 16 + dgt c.toNat + 1 ≤ (n * 16 + dgt c.toNat + 1) * 16 ^ r.length := Nat.le_mul_of_pos_right _ (Nat.pow_pos (by omega))
    rw [valL_yes ⟨ha.1, by omega⟩, valL_hex r _ ha.2 (by omega)]
    rfl
theorem valL_hex_no : ∀ (l : List UInt8) (n : Nat), allH l = false → valL 16 l n = none
  | [], n, h => by cases h
  | c :: r, n, h => by
    rw [valL]
    split
    · rename_i hc
      have : allH r = false := by
        simp only [allH, List.all_cons, Bool.and_eq_false_iff, decide_eq_false_iff_not] at h
        exact h.resolve_left (fun h => h hc.1)
      exact valL_hex_no r _ this
    · rfl
theorem key_yes {l : List UInt8} (h : allH l = true) (h0 : 0 < l.length) (h1 : l.length ≤ 16) : keyM l = some (foldH l 0) := by
  rw [keyM, numM, if_pos ⟨h0, h1⟩, valL_hex l 0 h]
  rw [Nat.zero_add, Nat.one_mul]
  exact Nat.le_trans (Nat.pow_le_pow_right (by omega) h1) (by decide)
theorem key_no {l : List UInt8} (h : ¬ (allH l = true ∧ 0 < l.length)) : keyM l = none := by
  rw [keyM, numM]
  split
  · rename_i hl
    exact valL_hex_no l 0 (by cases ha : allH l with | false => rfl | true => exact absurd ⟨ha, hl.1⟩ h)
  · rfl
theorem key_long {l : List UInt8} (h : 16 < l.length) : keyM l = none := by rw [keyM, numM, if_neg (by omega)]
theorem fold_snoc (l : List UInt8) (k : Nat) (c : UInt8) (n : Nat) (h : l.drop k = c :: l.drop (k + 1)) : foldH (l.take (k + 1)) n = foldH (l.take k) n * 16 + dgt c.toNat := by
  have hk : l[k]? = some c := by rw [← List.head?_drop, h]; rfl
  rw [List.take_add_one, hk]
  simp [foldH]
theorem fold_lt : ∀ (l : List UInt8) (n : Nat), allH l = true → foldH l n < (n + 1) * 16 ^ l.length
  | [], n, _ => by simp [foldH]
  | c :: r, n, ha => by
    simp only [allH, List.all_cons, Bool.and_eq_true, decide_eq_true_eq] at ha
    have h0 := fold_lt r (n * 16 + dgt c.toNat) ha.2
    have h1 : (n * 16 + dgt c.toNat + 1) * 16 ^ r.length ≤ (n + 1) * 16 * 16 ^ r.length := Nat.mul_le_mul_right _ (by omega)
    rw [List.length_cons, Nat.pow_succ', ← Nat.mul_assoc]
    exact Nat.lt_of_lt_of_le h0 h1
theorem allH_take {l : List UInt8} (h : allH l = true) (k : Nat) : allH (l.take k) = true := by
  rw [allH, List.all_eq_true] at h ⊢
  exact fun x hx => h x (List.mem_of_mem_take hx)
/-- all of an owned row is put behind another -/
theorem appO {T e : TypeId} {z : Value} {sz bb : Nat} (S : Sl1 T e z sz bb) {W : World} {B : Nat} {v : Value} {n : Nat} {xs : List Value} (hown : W.ownsRow B e sz v n xs) (hB : B ≤ W.heap.size)
    {B2 : Nat} {v2 : Value} {m : Nat} {ys : List Value} (h2 : W.ownsRow B2 e sz v2 m ys) (h1 : ∀ u ∈ ys, u.oneCell' = true) (hn : n + m ≤ 2000000000) :
    ∃ v' w', (Builtin.append_ #[T, T] T #[v, v2]).run Tryd.prog W = .ok v' w' ∧ w'.ownsRow B e sz v' (n + m) (xs ++ ys) ∧ W.grownBy w' v.ownBlock := by
  rcases h2.2 with ⟨rfl, h0⟩ | ⟨g, cap, cur, rfl, hg, hh, h3, h4, h5, h6⟩
  · subst h0
    have hy : ys = [] := List.eq_nil_of_length_eq_zero (by rw [h2.1]; simp)
    subst hy
    obtain ⟨i0, hi0, hz0, hz1, hz2⟩ := info_parts S.info
    subst hz1
    refine ⟨v, W, run_append_owned_none (P := Tryd.prog) (w := W) B T T e i0 _ S.und hi0 v _ _ hown, by simpa using hown, ⟨rfl, rfl, rfl, Nat.le_refl _, fun _ _ _ => rfl⟩⟩
  · exact appX S hown hB ⟨g, 0, none⟩ m cap ys h2.1 (fun j u hj => by
      have hj' := (List.getElem?_eq_some_iff.1 hj).1
      rw [Addr.add_mid, Nat.zero_add, cell_of_row _ _ j _ _ _ hh, ← hj, ← h6, List.getElem?_take_of_lt (by rw [← h2.1]; exact hj'), Array.getElem?_toList]) h1 hn
theorem cf_one (c : CfS) (a : Option Addr) (m n : Nat) : (cfC c (.slice a m n)).toArray.all (·.oneCell') = true := by simp [cfC, Value.oneCell']
def iv (l : List Int) : List Value := l.map (Value.int .i64)
theorem iv_one (l : List Int) : ∀ u ∈ iv l, u.oneCell' = true := fun u hu => by
  simp only [iv, List.mem_map] at hu
  obtain ⟨_, _, rfl⟩ := hu
  rfl
end Go.Proofs.YtcefihmnnndleaaDoor
