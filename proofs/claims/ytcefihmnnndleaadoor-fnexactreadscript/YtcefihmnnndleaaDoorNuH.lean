import Derived.Test.YtcefihmnnndleaaDoorNuG
namespace Go.Proofs.YtcefihmnnndleaaDoor
open Go.ChangeShapes Go.WideShapes Go.ChangeAt Go.RowKit
set_option linter.unusedVariables false
set_option maxRecDepth 20000

/-- words that may be read -/
def Wd (W : World) (sa : Option Addr) (ws : List (List UInt8)) : Prop := ws = [] ∨ ∃ g off, sa = some ⟨g, off, none⟩ ∧ ∀ k, k < ws.length → W.cell? ⟨g, off + k, none⟩ = some (.string (bs (ws.getD k [])))
theorem Wd.below {W W' : World} {sa : Option Addr} {ws : List (List UInt8)} (h : Wd W sa ws) (hb : Below W.heap.size W W') : Wd W' sa ws := by
  rcases h with h | ⟨g, off, h1, h2⟩
  · exact .inl h
  · exact .inr ⟨g, off, h1, fun k hk => below_cell hb (h2 k hk)⟩
theorem wrap_int {n : Nat} (h : n < 1000000000) : IntKind.i64.wrap (IntKind.u64.wrap (-(n : Int))) = -(n : Int) := by
  simp [IntKind.wrap, IntKind.bits, IntKind.signed]; omega
theorem intM_y {l : List UInt8} (h : fst l = 45) : intM l = (numM 10 9 l.tail).map (fun n : Nat => -(n : Int)) := by rw [intM, if_pos h]
theorem intM_n {l : List UInt8} (h : ¬ fst l = 45) : intM l = (numM 10 9 l).map (fun n : Nat => (n : Int)) := by rw [intM, if_neg h]
theorem ints_step (ws : List (List UInt8)) (k : Nat) (h : k < ws.length) : intsM (ws.drop k) = (intM (ws.getD k [])).bind fun n => (intsM (ws.drop (k + 1))).map (n :: ·) := by
  rw [List.drop_eq_getElem_cons h, intsM]
  have : ws[k] = ws.getD k [] := by simp [h]
  rw [this]
/-- what integers leaves -/
def IntsP (a1 : Addr) (w w' : World) (r : Option (List Int)) (e : Ending) : Prop := Below w.heap.size w w' ∧ match r with
  | some ns => ∃ v, e = .returned (.tuple #[v, .nilIface]) ∧ w'.ownsRow w.heap.size 3 1 v ns.length (iv ns)
  | none => ∃ v, e = .returned (.tuple #[.slice none 0 0, v]) ∧ Ue a1 v
set_option maxHeartbeats 1000000 in
theorem im_integers (sa : Option Addr) (m c : Nat) (ws : List (List UInt8)) (a1 : Addr) (w : World) (hm : m = ws.length) (hw : Wd w sa ws) (hml : m ≤ 1048576) (hwl : ∀ x ∈ ws, x.length ≤ 1048576) (h1 : w.cell? ⟨1, 0, none⟩ = some (.iface 141 (.pointer (some a1)))) :
    Calls Tryd.prog 48 #[.slice sa m c] w fun e w' => IntsP a1 w w' (intsM ws) e := by
  have HW := hid hw
  have HM := hid hm
  have HWL := hid (fun (k : Nat) (hk : k < ws.length) => (show (ws.getD k []).length ≤ 1048576 by
    have : ws.getD k [] = ws[k] := by simp [hk]
    rw [this]; exact hwl _ (List.getElem_mem hk)))
  clear hw hm hwl
  go_enter Tryd.func48, Tryd.ntmps48
  go_wp2_with fail
  go_loopw [4, 13] (fun nv i wr => ∃ (k : Nat) (ns : List Int), k ≤ m ∧ i = .int .i64 (k : Int) ∧ ns.length = k ∧ Hid (intsM ws = (intsM (ws.drop k)).map (ns ++ ·)) ∧ Hid (wr.ownsRow w.heap.size 3 1 nv ns.length (iv ns)) ∧ Hid (Below w.heap.size w wr)) (fun _ i _ => m - (intOf i).toNat)
  case atStart => exact ⟨0, [], Nat.zero_le _, rfl, rfl, hid (by simp), hid ⟨by simp [iv], .inl ⟨rfl, rfl⟩⟩, hid (Below.refl _ _)⟩
  case round =>
    obtain ⟨k, ns, hk, rfl, hnk, HI, HO, HB⟩ := hrel
    by_cases hlt : k < m
    · have hkl : k < ws.length := by have := HM.out; omega
      obtain ⟨g, off, rfl, hcell⟩ : ∃ g off, sa = some ⟨g, off, none⟩ ∧ w.cell? ⟨g, off + k, none⟩ = some (.string (bs (ws.getD k []))) := by
        rcases HW.out with h9 | ⟨g, off, h9, h8⟩
        · rw [h9] at hkl; simp at hkl
        · exact ⟨g, off, h9, h8 k hkl⟩
      have cw := below_cell HB.out hcell
      have hwk := HWL.out k hkl
      have HST := hid (ints_step ws k hkl)
      clear hcell
      obtain ⟨wl, hwlE⟩ : ∃ l, l = ws.getD k [] := ⟨_, rfl⟩
      rw [← hwlE] at cw hwk HST
      obtain ⟨wS, hwS⟩ : ∃ s, s = bs wl := ⟨_, rfl⟩
      rw [← hwS] at cw
      have hws : wS.size ≤ 1048576 := by rw [hwS, bs_size]; exact hwk
      have hwd : wS.data.toList = wl := by rw [hwS, bs_list]
      clear hwS hwk hwlE hkl
      have h1r := below_cell HB.out h1
      have hnb : ns.length ≤ 2000000 := by omega
      by_cases h45 : fst wl = 45
      · have hcut := fun w9 => im_cut_y wS 45 w9 (by rw [hwd]; exact h45) (by decide)
        have htl : (wS.extract 1 wS.size).data.toList = wl.tail := by rw [ext_tail, hwd]
        have hts : (wS.extract 1 wS.size).size ≤ 1048576 := by rw [ext_size]; omega
        have HIM := hid (intM_y h45)
        generalize wS.extract 1 wS.size = t at hcut htl hts
        clear h45
        cases hn : numM 10 9 wl.tail with
        | none =>
          have hC := im_number_n t 10 9 a1 wr hts (by omega) (by omega) (by omega) h1r (by rw [htl]; exact hn)
          unfold wE at hC
          have HN := hid (show intsM ws = none by rw [HI.out, HST.out, HIM.out, hn]; rfl)
          clear HI HST HIM hn htl
          go_wp2_with (first | (go_at_call 51; refine (hcut _).mono ?_; rintro e w9 ⟨rfl, rfl⟩) | (go_at_call 49; refine hC.mono ?_; rintro e w8 ⟨rfl, hb⟩))
          go_ret2
          have hbb := HB.out.trans (hb.mono HB.out.size)
          rw [HN.out]
          exact ⟨hbb, _, rfl, .inr ⟨_, rfl⟩⟩
        | some n =>
          have hC := im_number_s t 10 9 n a1 wr hts (by omega) (by omega) (by omega) h1r (by rw [htl]; exact hn)
          have hn9 : n < 1000000000 := numM_ten hn
          have HI2 := hid (show intsM ws = (intsM (ws.drop (k + 1))).map ((ns ++ [-(n : Int)]) ++ ·) by
            rw [HI.out, HST.out, HIM.out, hn]
            cases intsM (ws.drop (k + 1)) <;> simp)
          have hwi := wrap_int hn9
          clear HI HST HIM hn htl
          go_wp2_with (go_at_call 51; refine (hcut _).mono ?_; rintro e w9 ⟨rfl, rfl⟩)
          refine hC.mono ?_
          rintro e w8 ⟨rfl, hb⟩
          have HO8 := own_below HO.out hb
          have HB8 := HB.out.trans (hb.mono HB.out.size)
          obtain ⟨v2, w2, e2, o2, b2, g2⟩ := appE slIn HO8 HB8 #[.int .i64 (-(n : Int))] rfl (by simp [Value.oneCell']) hnb
          have O2 := hid (show w2.ownsRow w.heap.size 3 1 v2 (ns ++ [-(n : Int)]).length (iv (ns ++ [-(n : Int)])) by rw [show iv (ns ++ [-(n : Int)]) = iv ns ++ [.int .i64 (-(n : Int))] by simp [iv], List.length_append]; exact o2)
          have B2 := hid b2
          clear hC HO HO8 HB8 o2 b2 g2 hb
          go_wp2_with (at_builtin; refine list_app rfl (.tmp 33) (.tmp 36) (by with_reducible rfl) rfl rfl rfl e2 ?_)
          go_roundw
          case rel => exact ⟨k + 1, _, by omega, by go_num, by simp [hnk], HI2, O2, B2⟩
          case measure => simp [intOf]; omega
      · have hcut := fun w9 => im_cut_n wS 45 w9 (by rw [hwd]; exact h45)
        have HIM := hid (intM_n h45)
        clear h45
        cases hn : numM 10 9 wl with
        | none =>
          have hC := im_number_n wS 10 9 a1 wr hws (by omega) (by omega) (by omega) h1r (by rw [hwd]; exact hn)
          unfold wE at hC
          have HN := hid (show intsM ws = none by rw [HI.out, HST.out, HIM.out, hn]; rfl)
          clear HI HST HIM hn hwd
          go_wp2_with (first | (go_at_call 51; refine (hcut _).mono ?_; rintro e w9 ⟨rfl, rfl⟩) | (go_at_call 49; refine hC.mono ?_; rintro e w8 ⟨rfl, hb⟩))
          go_ret2
          have hbb := HB.out.trans (hb.mono HB.out.size)
          rw [HN.out]
          exact ⟨hbb, _, rfl, .inr ⟨_, rfl⟩⟩
        | some n =>
          have hC := im_number_s wS 10 9 n a1 wr hws (by omega) (by omega) (by omega) h1r (by rw [hwd]; exact hn)
          have hn9 : n < 1000000000 := numM_ten hn
          have HI2 := hid (show intsM ws = (intsM (ws.drop (k + 1))).map ((ns ++ [(n : Int)]) ++ ·) by
            rw [HI.out, HST.out, HIM.out, hn]
            cases intsM (ws.drop (k + 1)) <;> simp)
          clear HI HST HIM hn hwd
          go_wp2_with (go_at_call 51; refine (hcut _).mono ?_; rintro e w9 ⟨rfl, rfl⟩)
          refine hC.mono ?_
          rintro e w8 ⟨rfl, hb⟩
          have HO8 := own_below HO.out hb
          have HB8 := HB.out.trans (hb.mono HB.out.size)
          obtain ⟨v2, w2, e2, o2, b2, g2⟩ := appE slIn HO8 HB8 #[.int .i64 (n : Int)] rfl (by simp [Value.oneCell']) hnb
          have O2 := hid (show w2.ownsRow w.heap.size 3 1 v2 (ns ++ [(n : Int)]).length (iv (ns ++ [(n : Int)])) by rw [show iv (ns ++ [(n : Int)]) = iv ns ++ [.int .i64 (n : Int)] by simp [iv], List.length_append]; exact o2)
          have B2 := hid b2
          clear hC HO HO8 HB8 o2 b2 g2 hb
          go_wp2_with (at_builtin; refine list_app rfl (.tmp 33) (.tmp 36) (by with_reducible rfl) rfl rfl rfl e2 ?_)
          go_roundw
          case rel => exact ⟨k + 1, _, by omega, by go_num, by simp [hnk], HI2, O2, B2⟩
          case measure => simp [intOf]; omega
    · have HN := hid (show intsM ws = some ns by
        rw [HI.out, List.drop_eq_nil_of_le (by have := HM.out; omega)]
        simp [intsM])
      clear HI
      go_wp2_with fail
      go_ret2
      rw [HN.out]
      exact ⟨HB.out, _, rfl, HO.out⟩
end Go.Proofs.YtcefihmnnndleaaDoor
