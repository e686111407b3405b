import Derived.Test.YtcefihmnnndleaaDoorNuK
import Derived.Carry
import Derived.MapKept
namespace Go.Proofs.YtcefihmnnndleaaDoor
open Go.ChangeShapes Go.WideShapes Go.ChangeAt Go.RowKit
set_option linter.unusedVariables false
set_option maxRecDepth 20000
set_option linter.unusedSimpArgs false
set_option maxHeartbeats 400000 in
theorem im_oper (S k : Nat) (a : Option Addr) (m c : Nat) (w : World) :
    Calls Tryd.prog 39 #[.pointer (some ⟨S, 0, none⟩), .int .i64 (k : Int), .slice a m c] w fun e w' => e = .returned (.func (.func 50) #[] #[.pointer (some ⟨w.heap.size + 1 + 1, 0, none⟩), .pointer (some ⟨w.heap.size + 1, 0, none⟩), .pointer (some ⟨w.heap.size, 0, none⟩)]) ∧ w' = ((w.alloc (.cells #[.pointer (some ⟨S, 0, none⟩)] 50)).alloc (.cells #[.int .i64 (k : Int)] 3)).alloc (.cells #[.slice a m c] 102) := by
  go_enter Tryd.func39, Tryd.ntmps39
  go_wp2
  go_ret
  exact ⟨rfl, rfl⟩
/-- a map from words -/
def Mp (W : World) (M : Nat) (es : List (List UInt8 × Value)) : Prop := ∃ arr clock, W.heap[M]? = some (.map arr clock) ∧ arr.toList.map (fun e => (e.key, e.val)) = es.map (fun e => (Value.string (bs e.1), e.2))
def lk (l : List UInt8) : List (List UInt8 × Value) → Option Value
  | [] => none
  | e :: r => if e.1 = l then some e.2 else lk l r
theorem bs_eq (a b : List UInt8) : (bs a == bs b) = decide (a = b) := by
  rw [Bool.eq_iff_iff, MapKept.bytes_beq, decide_eq_true_eq]
  exact ⟨fun h => by have := congrArg (fun s : ByteArray => s.data.toList) h; exact this, fun h => by rw [h]⟩
theorem find_str (l : List UInt8) : ∀ (L : List MapEntry) (es : List (List UInt8 × Value)) (i : Nat), L.map (fun e => (e.key, e.val)) = es.map (fun e => (Value.string (bs e.1), e.2)) → ∃ r, Instr.findNow .string (.string (bs l)) L i = some r ∧ r.map (·.2) = lk l es
  | [], [], i, h => ⟨none, rfl, rfl⟩
  | [], _ :: _, i, h => by cases h
  | _ :: _, [], i, h => by cases h
  | x :: L, e :: es, i, h => by
    simp only [List.map_cons, List.cons.injEq, Prod.mk.injEq] at h
    obtain ⟨⟨h1, h2⟩, h3⟩ := h
    have hs : Instr.sameNow .string (.string (bs l)) x.key = some (decide (l = e.1)) := by
      rw [h1]
      show some (bs l == bs e.1) = _
      rw [bs_eq]
    by_cases he : l = e.1
    · refine ⟨some (i, x.val), ?_, ?_⟩
      · unfold Instr.findNow
        rw [hs]; simp [he]
      · simp [lk, he, h2]
    · obtain ⟨r, hr, hl⟩ := find_str l L es (i + 1) h3
      refine ⟨r, ?_, ?_⟩
      · unfold Instr.findNow
        rw [hs]; simp [he]; exact hr
      · rw [hl, lk, if_neg (Ne.symm he)]
theorem run_look {W : World} {M : Nat} {es : List (List UInt8 × Value)} (h : Mp W M es) (l : List UInt8) :
    (Instr.lookup 67 (.map (some M)) (.string (bs l)) true).run Tryd.prog W = .ok (match lk l es with | some v => .tuple #[v, .bool true] | none => .tuple #[.nilFunc, .bool false]) W := by
  obtain ⟨arr, clock, h1, h2⟩ := h
  obtain ⟨r, hr, hl⟩ := find_str l arr.toList es 0 h2
  have hz : (zeroValue 78).run Tryd.prog W = .ok .nilFunc W := by kernel_rfl
  have g1 := MapKept.run_getObj_map (P := Tryd.prog) h1
  have g2 := fun em => MapKept.run_checkKey (P := Tryd.prog) (w := W) (k := .string (bs l)) Tryd.underlying9 trivial em 9999
  have g3 := MapKept.run_findKey (P := Tryd.prog) (w := W) Tryd.underlying9 hr
  rw [← hl]
  unfold Instr.lookup
  simp only [Sem.run_bind, run_underlying Tryd.underlying67, Result.andThen, g1, Sem.run_pure, g2, g3]
  cases r with
  | none => simp [hz, Result.andThen]
  | some q => simp [Result.andThen]
theorem run_put {W : World} {M : Nat} {es : List (List UInt8 × Value)} (h : Mp W M es) (l : List UInt8) (v : Value) (hn : lk l es = none) :
    ∃ W', (Instr.mapUpdate 67 (.map (some M)) (.string (bs l)) v).run Tryd.prog W = .ok () W' ∧ Mp W' M (es ++ [(l, v)]) ∧ W.grownBy W' (some M) := by
  obtain ⟨arr, clock, h1, h2⟩ := h
  obtain ⟨r, hr, hl⟩ := find_str l arr.toList es 0 h2
  rw [hn] at hl
  cases r with
  | some q => cases hl
  | none =>
    have hM := lt_of_block h1
    refine ⟨{ W with heap := W.heap.setIfInBounds M (.map (arr.push ⟨.string (bs l), v, clock⟩) (clock + 1)) }, ?_, ⟨arr.push ⟨.string (bs l), v, clock⟩, clock + 1, by simp [hM], by simp [h2]⟩, ⟨rfl, rfl, rfl, by simp, fun k hk hne => ?_⟩⟩
    · have g1 := MapKept.run_getObj_map (P := Tryd.prog) h1
      have g2 := MapKept.run_checkKey (P := Tryd.prog) (w := W) (k := .string (bs l)) Tryd.underlying9 trivial false 9999
      have g3 := MapKept.run_findKey (P := Tryd.prog) (w := W) Tryd.underlying9 hr
      have g4 := fun o => MapKept.run_setObj_map (P := Tryd.prog) o h1
      unfold Instr.mapUpdate
      simp only [Sem.run_bind, run_underlying Tryd.underlying67, Result.andThen, g1, g2, g3, g4]
    · have : k ≠ M := fun e => hne (by rw [e])
      simp [Array.getElem?_setIfInBounds, Ne.symm this]
end Go.Proofs.YtcefihmnnndleaaDoor
