import Derived.Test.YtcefihmnnndleaaDoorObB
import Derived.Test.YtcefihmnnndleaaDoorIeA
namespace Go.Proofs.YtcefihmnnndleaaDoor
open Go.ChangeShapes Go.WideShapes Go.ChangeAt Go.RowKit
set_option linter.unusedVariables false
set_option maxRecDepth 20000
set_option linter.unusedSimpArgs false
/-- the pieces between bytes 10 -/
def splitM : List UInt8 → List UInt8 → List (List UInt8)
  | [], cur => [cur]
  | c :: r, cur => if c.toNat = 10 then cur :: splitM r [] else splitM r (cur ++ [c])
theorem pre10 (b : UInt8) (l : List UInt8) : (([10] : List UInt8).isPrefixOf (b :: l) = true) ↔ b.toNat = 10 := by
  simp only [List.isPrefixOf, Bool.and_true, beq_iff_eq]
  exact ⟨fun h => by rw [← h]; rfl, fun h => UInt8.toNat_inj.1 h.symm⟩
theorem split_miss : ∀ (l cur : List UInt8), Lib.index l [10] = -1 → splitM l cur = [cur ++ l]
  | [], cur, _ => by simp [splitM]
  | b :: l, cur, h => by
    unfold Lib.index at h
    by_cases hb : b.toNat = 10
    · rw [if_pos ((pre10 b l).2 hb)] at h; cases h
    · rw [if_neg (fun e => hb ((pre10 b l).1 e))] at h
      have hi : Lib.index l [10] = -1 := by
        by_cases h9 : (Lib.index l [10] == -1) = true
        · exact beq_iff_eq.1 h9
        · rw [if_neg h9] at h; have := Lib.index_ge l [10]; omega
      unfold splitM
      rw [if_neg hb, split_miss l _ hi]
      simp
theorem split_hit : ∀ (l cur : List UInt8) (i : Nat), Lib.index l [10] = i → splitM l cur = (cur ++ l.take i) :: splitM (l.drop (i + 1)) []
  | [], cur, i, h => by simp [Lib.index] at h
  | b :: l, cur, i, h => by
    unfold Lib.index at h
    by_cases hb : b.toNat = 10
    · rw [if_pos ((pre10 b l).2 hb)] at h
      have : i = 0 := by omega
      subst this
      conv => lhs; unfold splitM
      rw [if_pos hb]
      simp
    · rw [if_neg (fun e => hb ((pre10 b l).1 e))] at h
      by_cases h9 : (Lib.index l [10] == -1) = true
      · rw [if_pos h9] at h; omega
      · rw [if_neg h9] at h
        obtain ⟨j, rfl⟩ : ∃ j, i = j + 1 := ⟨i - 1, by
          have := Lib.index_ge l [10]
          have : Lib.index l [10] ≠ -1 := fun e => h9 (beq_iff_eq.2 e)
          omega⟩
        conv => lhs; unfold splitM
        rw [if_neg hb, split_hit l _ j (by omega)]
        simp
def nl : ByteArray := ⟨#[10]⟩
theorem splitB_tie : ∀ (k : Nat) (s : ByteArray), Lib.countB s nl = k → (Lib.splitB nl 0 k s).map (fun t => t.data.toList) = splitM s.data.toList []
  | 0, s, hk => by
    rcases Lib.indexB_cases s nl with hix | ⟨i, hix, _⟩
    · rw [split_miss _ _ hix]; simp [Lib.splitB]
    · have := Lib.countB_hit s nl i (by decide) hix; omega
  | k + 1, s, hk => by
    rcases Lib.indexB_cases s nl with hix | ⟨i, hix, _⟩
    · rw [Lib.countB_miss s nl hix] at hk; omega
    · rw [Lib.splitB_hit nl 0 k s i hix, List.map_cons, splitB_tie k _ (by have := Lib.countB_hit s nl i (by decide) hix; omega), split_hit _ _ i hix]
      rw [Lib.extract_to_end]
      congr 1
      rw [ByteArray.data_extract, Array.toList_extract, List.extract_eq_take_drop]
      simp
theorem split_lines : ∀ (l cur : List UInt8), (l ≠ [] ∨ cur = []) → splitM l cur = linesM l cur ∨ splitM l cur = linesM l cur ++ [[]]
  | [], cur, h => by
    have : cur = [] := by rcases h with h | h <;> simp_all
    subst this
    exact .inr rfl
  | c :: r, cur, _ => by
    rw [lines_step]
    unfold splitM
    by_cases hc : c.toNat = 10
    · rw [if_pos hc, if_pos hc]
      rcases split_lines r [] (.inr rfl) with h | h
      · exact .inl (by rw [h])
      · exact .inr (by rw [h]; rfl)
    · rw [if_neg hc, if_neg hc]
      by_cases hr : r = []
      · subst hr
        exact .inl rfl
      · rw [if_neg hr]
        exact split_lines r _ (.inl hr)
theorem linesF_snoc : ∀ (a : List (List UInt8)) (i : Nat) (s : RdS), linesF (a ++ [[]]) i s = linesF a i s
  | [], i, s => rfl
  | x :: a, i, s => linesF_snoc a (i + 1) _
theorem split_read (l : List UInt8) (h : l.length ≤ 20000) : readM l = linesF (splitM l []) 0 startM := by
  rw [readM, if_neg (by omega)]
  rcases split_lines l [] (.inr rfl) with e | e
  · rw [e]
  · rw [e, linesF_snoc]
theorem split_len : ∀ (l cur : List UInt8), (splitM l cur).length ≤ l.length + 1
  | [], cur => by simp [splitM]
  | c :: r, cur => by
    have h1 := split_len r []
    have h2 := split_len r (cur ++ [c])
    unfold splitM
    split <;> simp <;> omega
theorem split_mem : ∀ (l cur x : List UInt8), x ∈ splitM l cur → x.length ≤ l.length + cur.length
  | [], cur, x, h => by simp [splitM] at h; subst h; simp
  | c :: r, cur, x, h => by
    unfold splitM at h
    split at h
    · rcases List.mem_cons.1 h with h | h
      · subst h; simp
      · have := split_mem r [] x h; simp at this ⊢; omega
    · have := split_mem r _ x h; simp at this ⊢; omega
theorem linesF_at (ls : List (List UInt8)) (k : Nat) (s : RdS) (h : k < ls.length) : linesF (ls.drop k) k s = linesF (ls.drop (k + 1)) (k + 1) (lineM k ls[k] s) := by
  rw [List.drop_eq_getElem_cons h]; rfl
theorem lineS_grow {s s' : RdS} {q : List (List UInt8)} (h : lineS s q = some s') : s'.ops.length ≤ s.ops.length + 1 ∧ s'.cf.draws.length ≤ s.cf.draws.length + q.length ∧ s'.bad = s.bad := by
  unfold lineS at h
  split at h
  · cases h; exact ⟨by omega, by omega, rfl⟩
  · cases ho : opM q with
    | some o => rw [ho] at h; cases h; exact ⟨by simp, by simp, rfl⟩
    | none =>
      rw [ho] at h
      cases hc : setM s.cf q with
      | none => rw [hc] at h; cases h
      | some c => rw [hc] at h; cases h; exact ⟨by simp, setM_draws hc, rfl⟩
theorem im_split (s : ByteArray) (m : Int) (w : World) (hs : s.size ≤ 1048576) (hm : w.cell? ⟨2, 0, none⟩ = some (.int .i64 m)) :
    Calls Tryd.prog 31 #[.string s, .string nl] w fun e w' => e = .returned (.slice (some ⟨w.heap.size, 0, none⟩) (splitM s.data.toList []).length (splitM s.data.toList []).length) ∧ w' = w.alloc (.cells ((splitM s.data.toList []).map wv).toArray 9) := by
  have h := Any.strings_Split Tryd.lays146 (by kernel_rfl) s nl m w (by omega) hm (by decide)
  have hl := Lib.splitB_all nl (by decide) 0 _ s rfl
  have ht := splitB_tie _ s rfl
  have e1 : (splitM s.data.toList []).length = Lib.countB s nl + 1 := by rw [← ht, List.length_map, hl]
  have e2 : (splitM s.data.toList []).map wv = (Lib.splitB nl 0 (Lib.countB s nl) s).map Value.string := by
    rw [← ht, List.map_map]
    rfl
  rw [e1, e2]
  exact h
theorem Ss.badMore {B S : Nat} {W : World} {s : RdS} {dv ov bd : Value} {ps : List (OpS × Value)} (h : Ss B S W s dv ov bd ps) (i : Int) (hn : s.bad.length ≤ 2000000) :
    ∃ v' W', (Builtin.append_ #[24, 24] 24 #[bd, .slice (some ⟨W.heap.size, 0, none⟩) 1 1]).run Tryd.prog (W.alloc (.cells #[.int .i64 i] 3)) = .ok v' W' ∧ Bx W' S 57 (cfC s.cf dv ++ [ov, bd]) ∧ Gb B S W W' ∧ (∃ a m c, v' = .slice a m c) ∧ Ss B S (W'.setCell ⟨S, 7, none⟩ v') { s with bad := s.bad ++ [i] } dv ov v' ps := by
  obtain ⟨v', W', e1, o1, g1, e5⟩ := appC slIn h.res.bdo h.bw #[.int .i64 i] rfl (by simp [Value.oneCell']) hn
  have b1 := h.bx.grown g1 (h.bx.apart h.res.bdo (by decide))
  have hg := (Gb.refl B S W).grown g1 (fun r e => (h.res.bdo.lt r e).1) h.bw
  have hk : K2 W W' := K2.grown g1 h.res.bdo (by decide)
  obtain ⟨a, m, c, hv, _⟩ := own_sl3 o1
  have o2 : W'.ownsRow B 3 1 v' (s.bad ++ [i]).length (iv (s.bad ++ [i])) := by
    rw [show iv (s.bad ++ [i]) = iv s.bad ++ [.int .i64 i] by simp [iv], List.length_append]; exact o1
  have hop := h.res.op.kept g1 (own_apart h.res.op h.res.bdo (by decide))
  have hdt := h.res.dt.kept g1 (apart_of h.res.ap)
  refine ⟨v', W', e1, b1, hg, ⟨a, m, c, hv⟩, ⟨by simpa [cfC] using b1.set 7 v', ⟨own_set hdt (b1.apart hdt (by decide)) v', own_set hop (b1.apart hop (by decide)) v', h.res.eq, fun p hp => ?_, own_set o2 (b1.apart o2 (by decide)) v', ?_, h.res.pw⟩, h.sb, ?_⟩⟩
  · have := hk.own (h.res.dd p hp) (by decide)
    exact own_set this (b1.apart this (by decide)) v'
  · intro r hr h2
    rcases e5 with e5 | e5
    · exact h.res.ap r hr (e5 ▸ h2)
    · rw [e5] at h2
      cases h2
      have := (h.res.dt.lt _ hr).2
      omega
  · have := h.bw; have := g1.size; simp [World.setCell]; omega
def startC : List Value := cfC startM.cf nil0 ++ [nil0, nil0]
theorem Ss.start {B S : Nat} {W : World} (h : Bx W S 57 startC) (hS : S < B) (hB : B ≤ W.heap.size) : Ss B S W startM nil0 nil0 nil0 [] :=
  ⟨h, ⟨⟨by simp [startM, iv], .inl ⟨rfl, rfl⟩⟩, ⟨by simp [flatP], .inl ⟨rfl, rfl⟩⟩, rfl, by simp, ⟨by simp [startM, iv], .inl ⟨rfl, rfl⟩⟩, (fun r h => by cases h), .nil⟩, hS, hB⟩
end Go.Proofs.YtcefihmnnndleaaDoor
