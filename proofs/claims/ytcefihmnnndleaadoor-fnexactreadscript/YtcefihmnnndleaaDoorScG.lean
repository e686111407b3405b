import Derived.Test.YtcefihmnnndleaaDoorScF
import Derived.Laws.BytesString
namespace Go.Proofs.YtcefihmnnndleaaDoor
open Go.ChangeShapes Go.WideShapes Go.ChangeAt Go.RowKit
set_option linter.unusedVariables false

/-- the words of a line, the first of them begun -/
def wordsM : List UInt8 → List UInt8 → List (List UInt8)
  | [], cur => if cur = [] then [] else [cur]
  | c :: r, cur => if c.toNat = 32 then (if cur = [] then wordsM r [] else cur :: wordsM r []) else wordsM r (cur ++ [c])
def bs (l : List UInt8) : ByteArray := ⟨l.toArray⟩
theorem bs_list (l : List UInt8) : (bs l).data.toList = l := rfl
theorem bs_size (l : List UInt8) : (bs l).size = l.length := rfl
theorem bs_self (s : ByteArray) : bs s.data.toList = s := rfl
def wv (l : List UInt8) : Value := .string (bs l)
def Ws (B : Nat) (W : World) (v : Value) (ws : List (List UInt8)) : Prop := W.ownsRow B 9 1 v ws.length (ws.map wv)

theorem push_list (r : ByteArray) (b : UInt8) : (r.push b).data.toList = r.data.toList ++ [b] := by simp [ByteArray.push]
theorem fold_bs (l : List UInt8) : ∀ r : ByteArray, (l.map (fun b : UInt8 => ((b.toNat : Nat) : Int))).foldl (fun r n => r.push (UInt8.ofNat n.toNat)) r = bs (r.data.toList ++ l) := by
  induction l with
  | nil => intro r; simp [bs_self]
  | cons c l ih =>
    intro r
    rw [List.map_cons, List.foldl_cons, ih, push_list]
    simp
theorem bv_ints (l : List UInt8) : bv l = (l.map (fun b : UInt8 => ((b.toNat : Nat) : Int))).map (Value.int .u8) := by simp [bv]
/-- a stretch of a row of bytes as a string -/
theorem conv_row {w : World} {g : Nat} {l : List UInt8} (h : RowV w g 5 (bv l)) (a m c : Nat) (ham : a + m ≤ l.length) :
    (convert 22 9 (.slice (some ⟨g, a, none⟩) m c)).run Tryd.prog w = .ok (.string (bs ((l.drop a).take m))) w := by
  rw [run_convert_bytes_string w 22 9 5 _ m c Tryd.underlying22 Tryd.underlying5 Tryd.underlying9]
  have hl : ((l.drop a).take m).length = m := by simp; omega
  have e := run_bytesToString (P := Tryd.prog) w ⟨g, a, none⟩ m c (((l.drop a).take m).map (fun b : UInt8 => ((b.toNat : Nat) : Int))) (by
    have := run_loadCells_list (P := Tryd.prog) w ⟨g, a, none⟩ (bv ((l.drop a).take m)) (fun j v hj => by
      have hj2 := (List.getElem?_eq_some_iff.1 hj).1
      rw [bv_len, hl] at hj2
      rw [Addr.add_mid, h.cell (a + j) (by rw [bv_len]; omega), bv_get l _ (by omega), ← hj, bv_get _ _ (by omega)]
      simp)
    rw [bv_len, hl] at this
    rw [← bv_ints]
    exact this)
  rw [fold_bs] at e
  exact e
set_option maxHeartbeats 1000000 in
theorem sp_words_row (g n c : Nat) (l : List UInt8) (w : World) (hl : l.length = n) (hn : n ≤ 1048576) (hnc : n ≤ c) (hr : RowV w g 5 (bv l)) :
    Calls Tryd.prog 19 #[.slice (some ⟨g, 0, none⟩) n c] w fun e w' => ∃ v, e = .returned v ∧ Ws w.heap.size w' v (wordsM l []) ∧ Below w.heap.size w w' := by
  go_enter Tryd.func19, Tryd.ntmps19
  go_wp2
  go_loopw [3, 4, 5] (fun v at_ i wr => ∃ (k a : Nat) (ws : List (List UInt8)), k ≤ n + 1 ∧ a ≤ k ∧ i = .int .i64 (k : Int) ∧ at_ = .int .i64 (a : Int) ∧ Hid (if k = n + 1 then wordsM l [] = ws else wordsM l [] = ws ++ wordsM (l.drop k) ((l.drop a).take (k - a))) ∧ Hid (Ws w.heap.size wr v ws) ∧ Hid (Below w.heap.size w wr) ∧ ws.length ≤ k) (fun _ _ i _ => n + 1 - (intOf i).toNat)
  case atStart => exact ⟨0, 0, [], by omega, by omega, rfl, rfl, hid (by simp), hid (nil_own w 9 1), hid (Below.refl _ w), by simp⟩
  case round =>
    obtain ⟨k, a, ws, hk, ha, rfl, rfl, HE, HW, HB, hws⟩ := hrel
    by_cases hle : k ≤ n
    · have HE := hid (show wordsM l [] = ws ++ wordsM (l.drop k) ((l.drop a).take (k - a)) by have := HE.out; rw [if_neg (by omega)] at this; exact this)
      by_cases hlt : k < n
      · have hc := hid (show l.drop k = l[k]'(by omega) :: l.drop (k + 1) from List.drop_eq_getElem_cons (by omega))
        have hcell : wr.cell? ⟨g, k, none⟩ = some (.int .u8 (((l[k]'(by omega)).toNat : Nat) : Int)) := by
          have h1 := (hr.below HB.out hr.lt).cell k (by rw [bv_len]; omega)
          rw [h1, bv_get l k (by omega)]
        have HX := hid (show (l.drop a).take (k + 1 - a) = (l.drop a).take (k - a) ++ [l[k]'(by omega)] by
          rw [show k + 1 - a = (k - a) + 1 by omega, List.take_add_one]
          simp [show a + (k - a) = k by omega, show k < l.length by omega])
        generalize l[k]'(by omega) = b at hc hcell HX
        by_cases h32 : b.toNat = 32
        · have h32' : (((b.toNat : Nat) : Int) != 32) = false := by simp; omega
          by_cases hak : a < k
          · have hcur : ¬ (l.drop a).take (k - a) = [] := by intro h0; have := congrArg List.length h0; simp at this; omega
            have e0 := conv_row (hr.below HB.out hr.lt) a (k - a) (c - a) (by omega)
            have := appE slSt HW.out HB.out #[wv ((l.drop a).take (k - a))] rfl (by simp [wv, Value.oneCell']) (by omega)
            obtain ⟨v1, w1, e1, o1, b1, g1⟩ := this
            have HN := hid (show wordsM l [] = (ws ++ [(l.drop a).take (k - a)]) ++ wordsM (l.drop (k + 1)) ((l.drop (k + 1)).take (k + 1 - (k + 1))) by rw [HE.out, hc.out]; simp [wordsM, h32, hcur])
            have O1 := hid (show Ws w.heap.size w1 v1 (ws ++ [(l.drop a).take (k - a)]) by unfold Ws; simpa using o1)
            have B1 := hid b1
            clear o1 b1 g1 HE HW HB hcur hc HX h32
            go_wp2_with (at_builtin; refine list_app rfl (.tmp 26) (.tmp 32) (by with_reducible rfl) rfl rfl rfl e1 ?_)
            go_roundw
            case rel => exact ⟨k + 1, k + 1, _, by omega, by omega, by go_num, by go_num, hid (by rw [if_neg (by omega)]; exact HN.out), O1, B1, by simp; omega⟩
            case measure => simp [intOf]; omega
          · have hak2 : a = k := by omega
            subst hak2
            have HN := hid (show wordsM l [] = ws ++ wordsM (l.drop (a + 1)) ((l.drop (a + 1)).take (a + 1 - (a + 1))) by rw [HE.out, hc.out]; simp [wordsM, h32])
            clear HE hc HX h32
            go_wp2
            go_roundw
            case rel => exact ⟨a + 1, a + 1, _, by omega, by omega, by go_num, by go_num, hid (by rw [if_neg (by omega)]; exact HN.out), HW, HB, by omega⟩
            case measure => simp [intOf]; omega
        · have h32' : (((b.toNat : Nat) : Int) != 32) = true := by simp; omega
          have HN := hid (show wordsM l [] = ws ++ wordsM (l.drop (k + 1)) ((l.drop a).take (k + 1 - a)) by rw [HE.out, hc.out, HX.out]; simp [wordsM, h32])
          clear HE hc HX h32
          go_wp2
          go_roundw
          case rel => exact ⟨k + 1, a, _, by omega, by omega, by go_num, rfl, hid (by rw [if_neg (by omega)]; exact HN.out), HW, HB, by omega⟩
          case measure => simp [intOf]; omega
      · have hkn : k = n := by omega
        have hdn : l.drop k = [] := List.drop_eq_nil_of_le (by omega)
        by_cases hak : a < k
        · have hcur : ¬ (l.drop a).take (k - a) = [] := by intro h0; have := congrArg List.length h0; simp at this; omega
          have e0 := conv_row (hr.below HB.out hr.lt) a (k - a) (c - a) (by omega)
          have := appE slSt HW.out HB.out #[wv ((l.drop a).take (k - a))] rfl (by simp [wv, Value.oneCell']) (by omega)
          obtain ⟨v1, w1, e1, o1, b1, g1⟩ := this
          have HN := hid (show wordsM l [] = ws ++ [(l.drop a).take (k - a)] by rw [HE.out, hdn]; simp [wordsM, hcur])
          have O1 := hid (show Ws w.heap.size w1 v1 (ws ++ [(l.drop a).take (k - a)]) by unfold Ws; simpa using o1)
          have B1 := hid b1
          have HK := hid hkn
          clear o1 b1 g1 HE HW HB hcur hdn hkn
          go_wp2_with (at_builtin; refine list_app rfl (.tmp 26) (.tmp 32) (by with_reducible rfl) rfl rfl rfl e1 ?_)
          go_roundw
          case rel => exact ⟨k + 1, k + 1, _, by omega, by omega, by go_num, by go_num, hid (by rw [if_pos (by have := HK.out; omega)]; exact HN.out), O1, B1, by simp; omega⟩
          case measure => simp [intOf]; omega
        · have hak2 : a = k := by omega
          subst hak2
          have HN := hid (show wordsM l [] = ws by rw [HE.out, hdn]; simp [wordsM])
          have HK := hid hkn
          clear HE hdn hkn
          go_wp2
          go_roundw
          case rel => exact ⟨a + 1, a + 1, _, by omega, by omega, by go_num, by go_num, hid (by rw [if_pos (by have := HK.out; omega)]; exact HN.out), HW, HB, by omega⟩
          case measure => simp [intOf]; omega
    · have HN := hid (show wordsM l [] = ws by have := HE.out; rw [if_pos (by omega)] at this; exact this)
      clear HE
      go_wp2
      go_ret
      exact ⟨_, rfl, HN.out ▸ HW.out, HB.out⟩
set_option maxHeartbeats 400000 in
theorem sp_words_nil (w : World) :
    Calls Tryd.prog 19 #[.slice none 0 0] w fun e w' => ∃ v, e = .returned v ∧ Ws w.heap.size w' v [] ∧ Below w.heap.size w w' := by
  go_enter Tryd.func19, Tryd.ntmps19
  go_wp2
  go_loopw [3, 4, 5] (fun v at_ i wr => ∃ (k : Nat), k ≤ 1 ∧ i = .int .i64 (k : Int) ∧ at_ = .int .i64 (k : Int) ∧ v = .slice none 0 0 ∧ wr = w) (fun _ _ i _ => 1 - (intOf i).toNat)
  case atStart => exact ⟨0, by omega, rfl, rfl, rfl, rfl⟩
  case round =>
    obtain ⟨k, hk, rfl, rfl, rfl, rfl⟩ := hrel
    by_cases h0 : k = 0
    · subst h0
      go_wp2
      go_roundw
      case rel => exact ⟨1, by omega, by go_num, by go_num, rfl, trivial⟩
      case measure => simp [intOf]
    · obtain rfl : k = 1 := by omega
      go_wp2
      go_ret
      exact ⟨_, rfl, nil_own wr 9 1, Below.refl _ _⟩
theorem sp_words (u : Value) (l : List UInt8) (w : World) (hu : Ln w.heap.size w u l) (hn : l.length ≤ 1048576) :
    Calls Tryd.prog 19 #[u] w fun e w' => ∃ v, e = .returned v ∧ Ws w.heap.size w' v (wordsM l []) ∧ Below w.heap.size w w' := by
  rcases hu with ⟨rfl, rfl⟩ | ⟨g, c, rfl, hg, hr⟩
  · exact sp_words_nil w
  · exact sp_words_row g l.length c l w rfl hn hg.2 hr
end Go.Proofs.YtcefihmnnndleaaDoor
