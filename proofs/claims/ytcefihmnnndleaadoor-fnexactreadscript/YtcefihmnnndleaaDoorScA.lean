import Derived.Test.YtcefihmnnndleaaDoorBase
namespace Go.Proofs.YtcefihmnnndleaaDoor
open Go.ChangeShapes Go.WideShapes Go.ChangeAt Go.RowKit
set_option linter.unusedVariables false

/-- a digit's value; 16 where it is none -/
def dgt (b : Nat) : Nat := if 48 ≤ b ∧ b ≤ 57 then b - 48 else if 97 ≤ b ∧ b ≤ 102 then b - 87 else if 65 ≤ b ∧ b ≤ 70 then b - 55 else 16
def valL (base : Nat) : List UInt8 → Nat → Option Nat
  | [], n => some n
  | c :: r, n => if dgt c.toNat < base ∧ n * base + dgt c.toNat < 18446744073709551616 then valL base r (n * base + dgt c.toNat) else none
def numM (base most : Nat) (l : List UInt8) : Option Nat := if 1 ≤ l.length ∧ l.length ≤ most then valL base l 0 else none
/-- an integer: minus and a number of nine digits -/
def fst (l : List UInt8) : Nat := match l with | [] => 0 | c :: _ => c.toNat
def intM (l : List UInt8) : Option Int := if fst l = 45 then (numM 10 9 l.tail).map (fun n : Nat => -(n : Int)) else (numM 10 9 l).map (fun n : Nat => (n : Int))
/-- what stands ahead of the first sign -/
def sgn (b : UInt8) : Bool := b.toNat == 43 || b.toNat == 45
def cutM (l : List UInt8) : Nat := l.findIdx sgn
/-- what wraps round below zero -/
def negM (n : Nat) : Nat := (18446744073709551616 - n) % 18446744073709551616
/-- an earlier answer with a distance: Ref and P -/
def refM (l : List UInt8) : Option (Nat × Nat) :=
  (numM 10 3 (l.take (cutM l))).bind fun k => if k = 0 then none else if cutM l = l.length then some (k, 0) else (numM 10 9 (l.drop (cutM l + 1))).map (fun n : Nat => (k, if fst (l.drop (cutM l)) = 45 then negM n else n))
/-- an address: Ref and P -/
def placeM (l : List UInt8) : Option (Nat × Nat) := if fst l = 36 then refM l.tail else (numM 10 20 l).map (fun n : Nat => (0, n))
/-- all of them hexadecimal digits -/
def allH (l : List UInt8) : Bool := l.all fun b => dgt b.toNat < 16
def hexs (l : List UInt8) : List Nat := l.map fun b => dgt b.toNat
/-- two and two -/
def pairs : List Nat → List Nat
  | a :: b :: r => (a * 16 + b) :: pairs r
  | _ => []
def keyM (l : List UInt8) : Option Nat := numM 16 16 l
def dataM (l : List UInt8) : Option (List Nat) := if l.length % 2 = 0 ∧ allH l ∧ 0 < l.length then some (pairs (hexs l)) else none

theorem dgt_le (b : Nat) : dgt b ≤ 16 := by unfold dgt; split <;> (try split) <;> (try split) <;> omega
theorem dgt_ten (b : Nat) : dgt b < 10 ↔ 48 ≤ b ∧ b ≤ 57 := by unfold dgt; split <;> (try split) <;> (try split) <;> omega
theorem dgt_dec {b : Nat} (h : 48 ≤ b ∧ b ≤ 57) : dgt b = b - 48 := by unfold dgt; rw [if_pos h]
theorem valL_lt {base : Nat} : ∀ (l : List UInt8) (n m : Nat), n < 18446744073709551616 → valL base l n = some m → m < 18446744073709551616
  | [], n, m, hn, h => by simp [valL] at h; omega
  | c :: r, n, m, hn, h => by
    unfold valL at h
    split at h
    · rename_i hc; exact valL_lt r _ m hc.2 h
    · cases h
theorem numM_lt {base most : Nat} {l : List UInt8} {m : Nat} (h : numM base most l = some m) : m < 18446744073709551616 := by
  unfold numM at h
  split at h
  · exact valL_lt l 0 m (by omega) h
  · cases h
end Go.Proofs.YtcefihmnnndleaaDoor
