import Derived.Test.YtcefihmnnndleaaDoorNuE
import Derived.Lib.OthersKept
import Derived.Shelf.Strings.Runes
namespace Go.Proofs.YtcefihmnnndleaaDoor
open Go.ChangeShapes Go.WideShapes Go.ChangeAt Go.RowKit Go.Lib
set_option linter.unusedVariables false
set_option maxRecDepth 20000
set_option linter.unusedSimpArgs false

theorem get_at (s : ByteArray) (p : Nat) (h : p < s.size) : s.get! p = s[p]'h := by
  simp [ByteArray.get!, getElem!_pos, h]
  rfl
/-- what follows the first byte of a rune that is none of ASCII -/
theorem decode_cont (s : ByteArray) (pos : Nat) (h : pos < s.size) (ha : ¬ (s[pos]'h).toNat < 128) (k : Nat) (hk : k < (Utf8.decode s pos).2) : pos + k < s.size ∧ 128 ≤ (s.get! (pos + k)).toNat := by
  have e : s.get! (pos + 0) = s[pos]'h := get_at s pos h
  simp only [Utf8.decode, e, ha, if_false] at hk
  have hk0 : k = 0 → pos + k < s.size ∧ 128 ≤ (s.get! (pos + k)).toNat := fun e0 => by
    subst e0; rw [e]; exact ⟨by simpa using h, by omega⟩
  by_cases c0 : k = 0
  · exact hk0 c0
  · repeat' split at hk
    all_goals (try (simp at hk; omega))
    all_goals (rename_i hc hd; simp only [Bool.and_eq_true, decide_eq_true_eq, beq_iff_eq] at hc)
    · have e1 : k = 1 := by simp at hk; omega
      subst e1; exact ⟨hc.2.1, by have := hc.2.2; omega⟩
    · have e1 : k = 1 ∨ k = 2 := by simp at hk; omega
      rcases e1 with rfl | rfl
      · exact ⟨hc.1.2.1, by have := hc.1.2.2; omega⟩
      · exact ⟨hc.2.1, by have := hc.2.2; omega⟩
    · have e1 : k = 1 ∨ k = 2 ∨ k = 3 := by simp at hk; omega
      rcases e1 with rfl | rfl | rfl
      · exact ⟨hc.1.1.2.1, by have := hc.1.1.2.2; omega⟩
      · exact ⟨hc.1.2.1, by have := hc.1.2.2; omega⟩
      · exact ⟨hc.2.1, by have := hc.2.2; omega⟩
theorem decode_pos (s : ByteArray) (pos : Nat) : 0 < (Utf8.decode s pos).2 := by
  simp only [Utf8.decode]
  repeat' split
  all_goals simp
def anyR (l : List UInt8) : Int := if cutM l < l.length then (cutM l : Int) else -1
theorem pm_list : pm.data.toList = [43, 45] := rfl
theorem any_tie (l : List UInt8) : Lib.indexAny l [43, 45] = anyR l := by
  induction l with
  | nil => rfl
  | cons b l ih =>
    have hs : ([43, 45] : List UInt8).contains b = sgn b := by
      simp only [sgn, List.contains_cons, List.contains_nil, Bool.or_false]
      have h1 : (b == 43) = (b.toNat == 43) := by rw [Bool.eq_iff_iff]; simp; exact ⟨fun h => by subst h; rfl, fun h => UInt8.toNat_inj.1 h⟩
      have h2 : (b == 45) = (b.toNat == 45) := by rw [Bool.eq_iff_iff]; simp; exact ⟨fun h => by subst h; rfl, fun h => UInt8.toNat_inj.1 h⟩
      rw [h1, h2]
    rw [Lib.indexAny, hs, ih]
    unfold anyR cutM
    rw [List.findIdx_cons]
    have hle : l.findIdx sgn ≤ l.length := List.findIdx_le_length
    cases sgn b with
    | true => simp
    | false =>
      by_cases h9 : l.findIdx sgn < l.length
      · simp [h9]
      · simp [h9]
theorem cut_skip {l : List UInt8} {p n : Nat} (h : ∀ k, k < n → ∃ b, l[p + k]? = some b ∧ sgn b = false) : p + (l.drop p).findIdx sgn = p + n + (l.drop (p + n)).findIdx sgn := by
  induction n generalizing p with
  | zero => simp
  | succ n ih =>
    obtain ⟨b, hb, hs⟩ := h 0 (by omega)
    have hpl : p < l.length := (List.getElem?_eq_some_iff.1 (by simpa using hb)).1
    have hd : l.drop p = b :: l.drop (p + 1) := by
      rw [List.drop_eq_getElem_cons hpl]
      have := List.getElem?_eq_getElem hpl
      simp at hb
      rw [this] at hb
      simp at hb
      rw [hb]
    rw [cut_step hd, if_neg (by simp [hs]), ih (p := p + 1) (fun k hk => by
      have := h (k + 1) (by omega)
      rw [show p + 1 + k = p + (k + 1) by omega]; exact this)]
    rw [show p + 1 + n = p + (n + 1) by omega]
theorem sgn_far {b : UInt8} (h : 128 ≤ b.toNat) : sgn b = false := by
  simp only [sgn, Bool.or_eq_false_iff, beq_eq_false_iff_ne]; omega
set_option maxHeartbeats 1000000 in
theorem im_any_short (s : ByteArray) (w : World) (h8 : s.size ≤ 8) :
    Calls Tryd.prog 52 #[.string s, .string pm] w fun e w' => e = .returned (.int .i64 (anyR s.data.toList)) ∧ Below w.heap.size w w' := by
  obtain ⟨l, hl⟩ : ∃ l, l = s.data.toList := ⟨_, rfl⟩
  have hll : l.length = s.size := by rw [hl]; simp
  have HL := hid hl
  rw [← hl]
  clear hl
  have hpm : pm.size = 2 := rfl
  have hpe : (pm.toList == ([] : List UInt8)) = false := by rw [Lib.toList_data, pm_list]; rfl
  have h8' : decide ((8 : Int) < (s.size : Int)) = false := by simp; omega
  have hSU := Any.strings_shouldUseASCIISet (P := Tryd.prog) (ρ := Tryd.lays153_ren) { Tryd.lays153 with } ((s.size : Nat) : Int) w
  rw [h8'] at hSU
  have hSU' : Calls Tryd.prog 61 #[.int .i64 (s.size : Int)] w fun e w' => e = .returned (.bool false) ∧ w' = w := hSU
  clear hSU
  go_enter Tryd.func52, Tryd.ntmps52
  go_wp2_with (go_at_call 61; refine hSU'.mono ?_; rintro e w' ⟨rfl, rfl⟩)
  obtain ⟨IT, hIT⟩ : ∃ IT, IT = w'.heap.size := ⟨_, rfl⟩
  have hit0 : (w'.iter s 0).heap[IT]? = some (.stringIter s 0) := by rw [hIT]; exact World.iter_heap _ _ _
  have hbl0 := hid (show Below w'.heap.size w' (w'.iter s 0) from (Below.refl _ _).alloc (Nat.le_refl _) _)
  rw [← hIT]
  have HIT := hid hIT
  clear hIT
  go_loopw [] (fun wr => ∃ pos : Nat, pos ≤ s.size ∧ wr.heap[IT]? = some (.stringIter s pos) ∧ Hid (Below w'.heap.size w' wr) ∧ Hid (cutM l = pos + (l.drop pos).findIdx sgn)) (fun wr => s.size - wr.iterPos IT)
  case atStart => exact ⟨0, Nat.zero_le _, hit0, hbl0, hid (by simp [cutM])⟩
  case round =>
    clear hit0 hbl0
    obtain ⟨pos, hp, hit, HB, HC⟩ := hrel
    have hitl := lt_of_block hit
    have hmp : wr.iterPos IT = pos := by simp [World.iterPos, hit]
    by_cases hlt : pos < s.size
    · have hnx := fun ty => run_next_any_at (P := Tryd.prog) wr IT s pos ty hit hlt
      have hitn : ∀ p, (wr.iterAt IT s p).heap[IT]? = some (.stringIter s p) := fun p => iterAt_heap wr IT s pos p hit
      have hbn : ∀ p, Below w'.heap.size w' (wr.iterAt IT s p) := fun p => HB.out.trans ⟨rfl, rfl, rfl, by simp [World.iterAt], fun k hk => by
        have := HIT.out
        simp [World.iterAt, Array.getElem?_setIfInBounds]
        intro e; omega⟩
      by_cases ha : (s[pos]'hlt).toNat < 128
      · rw [decode_ascii s pos hlt ha] at hnx
        have hd := drop_cons s pos hlt
        rw [← HL.out] at hd
        have hC := fun w9 => Any.strings_IndexRune_ascii (P := Tryd.prog) (ρ := Tryd.lays153_ren) { Tryd.lays153 with } pm (((s[pos]'hlt).toNat : Nat) : Int) w9 (by omega) (by omega)
        have hC' : ∀ w9, Calls Tryd.prog 60 #[.string pm, .int .i32 (((s[pos]'hlt).toNat : Nat) : Int)] w9 fun e w8 => e = .returned (.int .i64 (Lib.indexByte [43, 45] (s[pos]'hlt))) ∧ w8 = w9 := fun w9 => by
          have h9 := hC w9
          rw [pm_list, Int.toNat_natCast, show (s[pos]'hlt).toNat.toUInt8 = s[pos]'hlt from UInt8.ofNat_toNat] at h9
          exact h9
        clear hC
        have hstep := cut_step hd
        cases hsg : sgn (s[pos]'hlt) with
        | true =>
          obtain ⟨ib, hib, hge⟩ : ∃ ib : Int, Lib.indexByte [43, 45] (s[pos]'hlt) = ib ∧ 0 ≤ ib := ⟨_, rfl, by
            simp only [sgn, Bool.or_eq_true, beq_iff_eq] at hsg
            rcases hsg with h9 | h9
            · rw [show s[pos]'hlt = 43 from UInt8.toNat_inj.1 h9]; decide
            · rw [show s[pos]'hlt = 45 from UInt8.toNat_inj.1 h9]; decide⟩
          have HA := hid (show anyR l = (pos : Int) by
            unfold anyR
            rw [HC.out, hstep, if_pos hsg, if_pos (by omega)])
          rw [hib] at hC'
          clear hib hstep hsg hd hmp
          go_wp2_with (go_at_call 60; refine (hC' _).mono ?_; rintro e w8 ⟨rfl, rfl⟩)
          go_ret
          exact ⟨by rw [HA.out]; rfl, hbn _⟩
        | false =>
          have hib : Lib.indexByte [43, 45] (s[pos]'hlt) = -1 := by
            simp only [sgn, Bool.or_eq_false_iff, beq_eq_false_iff_ne] at hsg
            have h1 : ¬ s[pos]'hlt = 43 := fun e => hsg.1 (by rw [e]; rfl)
            have h2 : ¬ s[pos]'hlt = 45 := fun e => hsg.2 (by rw [e]; rfl)
            simp [Lib.indexByte, Ne.symm h1, Ne.symm h2, h1, h2]
          have HC2 := hid (show cutM l = pos + 1 + (l.drop (pos + 1)).findIdx sgn by rw [HC.out, hstep, if_neg (by simp [hsg])])
          have HB2 := hid (hbn (pos + 1))
          have hit2 := hid (hitn (pos + 1))
          rw [hib] at hC'
          clear hib hstep hsg hd hbn
          go_wp2_with (go_at_call 60; refine (hC' _).mono ?_; rintro e w8 ⟨rfl, rfl⟩)
          go_roundw
          case rel => exact ⟨pos + 1, by omega, hit2.out, HB2, HC2⟩
          case measure => rw [hmp]; simp [World.iterPos, hit2.out]; omega
      · have hfar := decode_far s pos hlt ha
        have hle := decode_le s pos
        have hcont := decode_cont s pos hlt ha
        obtain ⟨r, hr⟩ : ∃ r, r = (Utf8.decode s pos).1 := ⟨_, rfl⟩
        obtain ⟨sz, hsz⟩ : ∃ sz, sz = (Utf8.decode s pos).2 := ⟨_, rfl⟩
        have hsz0 : 0 < sz := by rw [hsz]; exact decode_pos s pos
        rw [← hr] at hnx hfar hle
        rw [← hsz] at hnx hcont
        clear hr hsz
        have hC : ∀ w9, Calls Tryd.prog 60 #[.string pm, .int .i32 (r : Int)] w9 fun e w8 => e = .returned (.int .i64 (-1)) ∧ Below w9.heap.size w9 w8 := fun w9 => by
          by_cases h9 : r = 65533
          · rw [h9]; exact im_ixr_e w9
          · exact im_ixr_f r hfar hle h9 w9
        have hpe : pos + sz ≤ s.size := by have := (hcont (sz - 1) (by omega)).1; omega
        have HC2 := hid (show cutM l = pos + sz + (l.drop (pos + sz)).findIdx sgn by
          rw [HC.out]
          refine cut_skip fun k hk => ?_
          have h9 := hcont k hk
          refine ⟨s[pos + k]'h9.1, ?_, sgn_far ?_⟩
          · rw [HL.out]; simp [h9.1]; rfl
          · rw [← get_at s (pos + k) h9.1]; exact h9.2)
        have HBN := hid (hbn (pos + sz))
        have HITN := hid (hitn (pos + sz))
        have hszI : IT < (wr.iterAt IT s (pos + sz)).heap.size := by simp [World.iterAt]; exact hitl
        clear hcont hfar hbn hitn
        go_wp2_with fail
        refine (hC _).mono ?_
        rintro e w8 ⟨rfl, hb8⟩
        have HB8 := hid (HBN.out.trans (hb8.mono HBN.out.size))
        have HIT8 := hid ((hb8.block IT hszI).trans HITN.out)
        clear hb8 hC
        go_wp2_with fail
        go_roundw
        case rel => exact ⟨pos + sz, hpe, HIT8.out, HB8, HC2⟩
        case measure => rw [hmp]; simp [World.iterPos, HIT8.out]; omega
    · have hnx := fun ty => run_next_end_at (P := Tryd.prog) wr IT s pos ty hit hlt
      have HA := hid (show anyR l = -1 by
        unfold anyR
        rw [if_neg (by rw [HC.out, List.drop_eq_nil_of_le (by omega)]; simp; omega)])
      go_wp2_with fail
      go_ret
      exact ⟨by rw [HA.out]; rfl, HB.out⟩
theorem info120 : (Tryd.prog.info? 120).map (fun i => (i.zero, i.size)) = some (some (.agg (Array.replicate 256 (.bool false))), 256) := by kernel_rfl
theorem im_any (s : ByteArray) (w : World) (hs : s.size ≤ 1048576) :
    Calls Tryd.prog 52 #[.string s, .string pm] w fun e w' => e = .returned (.int .i64 (anyR s.data.toList)) ∧ Below w.heap.size w w' := by
  by_cases h8 : s.size ≤ 8
  · exact im_any_short s w h8
  · have h := Any.strings_IndexAny_long (P := Tryd.prog) (ρ := Tryd.lays153_ren) Tryd.lays153 (zero_of_info info120).1 (zero_of_info info120).2 s pm w (by decide) (by omega) (by omega) (by decide) (fun j b hj => by
      rw [pm_list] at hj
      rcases j with _ | _ | j
      · simp at hj; subst hj; decide
      · simp at hj; subst hj; decide
      · simp at hj)
    refine Calls.mono h ?_
    rintro e w' ⟨rfl, rfl⟩
    rw [pm_list, any_tie]
    exact ⟨rfl, ((Below.refl _ w).alloc (Nat.le_refl _) _).alloc (by simp) _⟩
end Go.Proofs.YtcefihmnnndleaaDoor
