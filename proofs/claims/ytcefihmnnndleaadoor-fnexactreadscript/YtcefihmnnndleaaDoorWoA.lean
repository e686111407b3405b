import Derived.Test.YtcefihmnnndleaaDoorNuF
import Derived.Test.YtcefihmnnndleaaDoorLyA
import Derived.Test.YtcefihmnnndleaaDoorScM
namespace Go.Proofs.YtcefihmnnndleaaDoor
open Go.ChangeShapes Go.WideShapes Go.ChangeAt Go.RowKit Go.Lib
set_option linter.unusedVariables false
set_option maxRecDepth 20000
set_option linter.unusedSimpArgs false

def pc (l : List UInt8) (a b : Nat) : List UInt8 := (l.take b).drop a
theorem pc_same (l : List UInt8) (a : Nat) : pc l a a = [] := by
  unfold pc; apply List.drop_eq_nil_of_le; simp; omega
theorem pc_snoc (l : List UInt8) (a b : Nat) (h : b < l.length) (hab : a ≤ b) : pc l a (b + 1) = pc l a b ++ [l[b]] := by
  unfold pc
  rw [List.take_add_one, List.getElem?_eq_getElem h, List.drop_append_of_le_length (by simp; omega)]
  rfl
theorem pc_ne (l : List UInt8) (a b : Nat) (h : b ≤ l.length) (hab : a < b) : pc l a b ≠ [] := by
  unfold pc; intro e; have := congrArg List.length e; simp at this; omega
theorem words_one {l : List UInt8} {b : Nat} (h : b < l.length) (cur : List UInt8) (hc : l[b].toNat ≠ 32) : wordsM (l.drop b) cur = wordsM (l.drop (b + 1)) (cur ++ [l[b]]) := by
  rw [List.drop_eq_getElem_cons h]
  conv => lhs; unfold wordsM
  rw [if_neg hc]
theorem words_sp {l : List UInt8} {b : Nat} (h : b < l.length) (cur : List UInt8) (hc : l[b].toNat = 32) : wordsM (l.drop b) cur = (if cur = [] then wordsM (l.drop (b + 1)) [] else cur :: wordsM (l.drop (b + 1)) []) := by
  rw [List.drop_eq_getElem_cons h]
  conv => lhs; unfold wordsM
  rw [if_pos hc]
theorem words_skip (l : List UInt8) (a : Nat) : ∀ (n b : Nat), a ≤ b → b + n ≤ l.length → (∀ k (hk : b + k < l.length), k < n → l[b + k].toNat ≠ 32) → wordsM (l.drop b) (pc l a b) = wordsM (l.drop (b + n)) (pc l a (b + n))
  | 0, b, _, _, _ => rfl
  | n + 1, b, hab, hl, h => by
    have hb : b < l.length := by omega
    rw [words_one hb _ (h 0 hb (by omega)), ← pc_snoc l a b hb hab, words_skip l a n (b + 1) (by omega) (by omega) (fun k hk hkn => by
      have := h (k + 1) (by omega) (by omega)
      have e : b + 1 + k = b + (k + 1) := by omega
      simp only [e]; exact this)]
    rw [show b + 1 + n = b + (n + 1) by omega]
def sp32 (r : Nat) : Bool := r == 32
def opn (l : List UInt8) (st : Option Nat) (pos : Nat) : List UInt8 := match st with | some a => pc l a pos | none => []
theorem fields_tie (s : ByteArray) (l : List UInt8) (hl : l = s.data.toList) : ∀ (f pos : Nat) (st : Option Nat) (acc : List (Nat × Nat)), s.size ≤ pos + f → pos ≤ s.size → (∀ a, st = some a → a < pos) →
    (closeSpans s (spansFromP sp32 s f pos st acc)).map (fun x => pc l x.1 x.2) = acc.map (fun x => pc l x.1 x.2) ++ wordsM (l.drop pos) (opn l st pos) := by
  have hsz : s.size = l.length := by rw [hl]; exact size_eq s
  intro f
  induction f with
  | zero =>
    intro pos st acc h1 h2 h3
    have e : pos = l.length := by omega
    subst e
    have hw : wordsM (l.drop l.length) (opn l st l.length) = if opn l st l.length = [] then [] else [opn l st l.length] := by rw [List.drop_length]; rfl
    rw [hw]
    cases st with
    | none => simp [spansFromP, closeSpans, opn]
    | some a => simp [spansFromP, closeSpans, opn, pc_ne l a _ (Nat.le_refl _) (h3 a rfl), hsz]
  | succ f ih =>
    intro pos st acc h1 h2 h3
    by_cases hp : pos < s.size
    · have hpl : pos < l.length := by omega
      have hb : s[pos]'hp = l[pos] := by subst hl; rfl
      unfold spansFromP
      rw [if_pos hp]
      by_cases ha : (s[pos]'hp).toNat < 128
      · rw [decode_ascii s pos hp ha]
        by_cases hc : l[pos].toNat = 32
        · rw [if_pos (by rw [hb, hc]; rfl), words_sp hpl _ hc]
          cases st with
          | none =>
            show (closeSpans s (spansFromP sp32 s f (pos + 1) none acc)).map _ = _
            rw [ih _ _ _ (by omega) (by omega) (fun a h => by cases h)]
            simp [opn]
          | some a =>
            show (closeSpans s (spansFromP sp32 s f (pos + 1) none (acc ++ [(a, pos)]))).map _ = _
            rw [ih _ _ _ (by omega) (by omega) (fun a h => by cases h)]
            simp [opn, pc_ne l a pos (by omega) (h3 a rfl)]
        · rw [if_neg (by rw [hb]; simp [sp32]; exact hc), words_one hpl _ hc]
          cases st with
          | none =>
            show (closeSpans s (spansFromP sp32 s f (pos + 1) (some pos) acc)).map _ = _
            rw [ih _ _ _ (by omega) (by omega) (fun a h => by cases h; omega)]
            simp only [opn]
            rw [pc_snoc l pos pos hpl (Nat.le_refl _), pc_same]
          | some a =>
            show (closeSpans s (spansFromP sp32 s f (pos + 1) (some a) acc)).map _ = _
            rw [ih _ _ _ (by omega) (by omega) (fun b h => by cases h; have := h3 a rfl; omega)]
            simp only [opn]
            rw [pc_snoc l a pos hpl (by have := h3 a rfl; omega)]
      · have hf := decode_far s pos hp ha
        have hd := decode_pos s pos
        have hco := decode_cont s pos hp ha
        have hend : pos + (Utf8.decode s pos).2 ≤ l.length := by
          have := (hco ((Utf8.decode s pos).2 - 1) (by omega)).1; omega
        have hsk : ∀ k (hk : pos + k < l.length), k < (Utf8.decode s pos).2 → l[pos + k].toNat ≠ 32 := fun k hk hkn => by
          have := hco k hkn
          have e : s.get! (pos + k) = l[pos + k] := by rw [get_at s _ this.1]; subst hl; rfl
          rw [e] at this; omega
        rw [if_neg (by simp [sp32]; omega)]
        generalize (Utf8.decode s pos).2 = n at *
        cases st with
        | none =>
          show (closeSpans s (spansFromP sp32 s f (pos + n) (some pos) acc)).map _ = _
          rw [ih _ _ _ (by omega) (by omega) (fun a h => by cases h; omega)]
          simp only [opn]
          rw [← words_skip l pos n pos (Nat.le_refl _) hend hsk, pc_same]
        | some a =>
          have := h3 a rfl
          show (closeSpans s (spansFromP sp32 s f (pos + n) (some a) acc)).map _ = _
          rw [ih _ _ _ (by omega) (by omega) (fun b h => by cases h; omega)]
          simp only [opn]
          rw [← words_skip l a n pos (by omega) hend hsk]
    · rw [spansFromP_end sp32 s _ _ _ _ hp]
      have e : pos = l.length := by omega
      subst e
      have hw : wordsM (l.drop l.length) (opn l st l.length) = if opn l st l.length = [] then [] else [opn l st l.length] := by rw [List.drop_length]; rfl
      rw [hw]
      cases st with
      | none => simp [closeSpans, opn]
      | some a => simp [closeSpans, opn, pc_ne l a _ (Nat.le_refl _) (h3 a rfl), hsz]
theorem bs_ext {s t : ByteArray} (h : s.data.toList = t.data.toList) : s = t := by
  rw [← bs_self s, h, bs_self]
theorem goFields_words (s : ByteArray) : goFieldsP sp32 s = (wordsM s.data.toList []).map bs := by
  have h := fields_tie s s.data.toList rfl s.size 0 none [] (by omega) (by omega) (fun a h => by cases h)
  rw [List.map_nil, List.nil_append, List.drop_zero] at h
  show (closeSpans s (spansFromP sp32 s s.size 0 none [])).map (fun x => s.extract x.1 x.2) = (wordsM s.data.toList (opn s.data.toList none 0)).map bs
  rw [← h, List.map_map]
  apply List.map_congr_left
  intro x _
  apply bs_ext
  show (s.extract x.1 x.2).data.toList = pc s.data.toList x.1 x.2
  rw [ByteArray.data_extract, Array.toList_extract, List.extract_eq_take_drop, pc, List.drop_take]

theorem pred47 (w : World) : PredAt Tryd.prog 47 #[] encR sp32 w := by
  intro W x _
  show Calls Tryd.prog 47 #[.int .i32 (x : Int)] W _
  have hx : (((x : Nat) : Int) == 32) = sp32 x := by rw [Bool.eq_iff_iff]; simp [sp32]; omega
  go_enter Tryd.func47, Tryd.ntmps47
  go_wp2
  go_ret
  exact ⟨rfl, 0, rfl⟩
def WordsP (w w' : World) (l : List UInt8) (e : Ending) : Prop := Below w.heap.size w w' ∧ ∃ A, w.heap.size ≤ A ∧ e = .returned (.slice (some ⟨A, 0, none⟩) (wordsM l []).length (wordsM l []).length) ∧ ∀ k, k < (wordsM l []).length → w'.cell? ⟨A, k, none⟩ = some (.string (bs ((wordsM l []).getD k [])))
set_option maxHeartbeats 1000000 in
theorem im_wordsOf (s : ByteArray) (w : World) (hs : s.size ≤ 1048576) : Calls Tryd.prog 33 #[.string s] w fun e w' => WordsP w w' s.data.toList e := by
  have hC := Any.strings_FieldsFunc Tryd.lays229 47 #[] (enters_of Tryd.func47 (by kernel_rfl) rfl) sp32 s w (by omega) (pred47 w) (by kernel_rfl) (by kernel_rfl)
  rw [goFields_words] at hC
  replace hC : Calls Tryd.prog 46 #[.string s, .func (.func 47) #[] #[]] w fun e w' => WordsP w w' s.data.toList e := hC.mono (by
    rintro e w' ⟨A, rfl, h1, h2, h3⟩
    refine ⟨h3, A, h1, by simp, fun k hk => ?_⟩
    rcases h2.2 with ⟨h9, _⟩ | ⟨g, cap, cur, hv, hg, hh, a1, a2, a3, a4⟩
    · cases h9
    · cases hv
      have h6 : cur.toList.take ((wordsM s.data.toList []).map bs).length = ((wordsM s.data.toList []).map bs).map Value.string := by simpa using a4
      rw [cell_of_row _ _ k _ _ _ hh, ← Array.getElem?_toList]
      have h7 := congrArg (fun l => l[k]?) h6
      rw [List.getElem?_take_of_lt (by simpa using hk)] at h7
      rw [h7]
      simp [hk])
  go_enter Tryd.func33, Tryd.ntmps33
  go_wp2_with fail
  refine hC.mono ?_
  rintro e w1 ⟨hb, A, hA, rfl, hc⟩
  go_wp2_with fail
  go_ret
  exact ⟨hb, A, hA, rfl, hc⟩
end Go.Proofs.YtcefihmnnndleaaDoor
