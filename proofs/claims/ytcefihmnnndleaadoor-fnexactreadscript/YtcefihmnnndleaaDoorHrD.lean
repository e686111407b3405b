import Derived.Test.YtcefihmnnndleaaDoorHrC
namespace Go.Proofs.YtcefihmnnndleaaDoor
open Go.ChangeShapes Go.WideShapes Go.ChangeAt Go.RowKit
set_option linter.unusedVariables false
set_option maxRecDepth 20000
set_option linter.unusedSimpArgs false

theorem pairs_le : ∀ (l : List Nat), (pairs l).length ≤ l.length
  | [] => by simp [pairs]
  | [a] => by simp [pairs]
  | a :: b :: r => by have := pairs_le r; simp [pairs]; omega
theorem part_len {c : UInt8} {w : List UInt8} {n : Nat} {o o2 : OpS} (h : partM c w n o = some o2) : o2.data.length ≤ o.data.length + w.length := by
  unfold partM at h
  split at h
  · cases hn : numM 10 20 w with
    | none => rw [hn] at h; cases h
    | some q => rw [hn] at h; simp at h; subst h; split <;> simp
  · split at h
    · cases hn : placeM w with
      | none => rw [hn] at h; cases h
      | some q => rw [hn] at h; simp at h; subst h; simp
    · cases hn : dataM w with
      | none => rw [hn] at h; cases h
      | some d =>
        rw [hn] at h; simp at h; subst h
        unfold dataM at hn
        split at hn
        · cases hn
          have := pairs_le (hexs w)
          simp [hexs] at this ⊢; omega
        · cases hn
theorem headD_len {ws : List (List UInt8)} {N : Nat} (h : ∀ x ∈ ws, x.length ≤ N) : (ws.headD []).length ≤ N := by
  cases ws with
  | nil => simp
  | cons x r => exact h x (by simp)
theorem parts_len : ∀ (f : List UInt8) (ws : List (List UInt8)) (n : Nat) (o o2 : OpS) (N : Nat), (∀ x ∈ ws, x.length ≤ N) → partsM f ws n o = some o2 → o2.data.length ≤ o.data.length + f.length * N
  | [], ws, n, o, o2, N, _, h => by cases h; simp
  | c :: f, ws, n, o, o2, N, hw, h => by
    unfold partsM at h
    cases hp : partM c (ws.headD []) n o with
    | none => rw [hp] at h; cases h
    | some o3 =>
      rw [hp] at h
      have h1 := part_len hp
      have h2 := headD_len hw
      have h3 := parts_len f ws.tail _ o3 o2 N (fun x hx => hw x (List.mem_of_mem_tail hx)) h
      rw [List.length_cons, Nat.succ_mul]
      omega
theorem forms_len (k : Nat) : (formsL.getD k []).length ≤ 2 := by
  rcases k with _ | _ | _ | _ | _ | _ | _ | k <;> simp [formsL]
theorem opM_len {q : List (List UInt8)} {o : OpS} {N : Nat} (hq : ∀ x ∈ q, x.length ≤ N) (h : opM q = some o) : o.data.length ≤ 2 * N := by
  unfold opM at h
  cases hf : (List.range 7).find? (fun k => hitM k q) with
  | none => rw [hf] at h; cases h
  | some k =>
    rw [hf] at h
    have h1 := parts_len _ _ _ _ _ N (fun x hx => hq x (List.mem_of_mem_tail hx)) h
    have h2 := forms_len k
    have h3 : (formsL.getD k []).length * N ≤ 2 * N := Nat.mul_le_mul_right _ h2
    simp only [List.length_nil, Nat.zero_add] at h1
    omega
theorem lineS_data {s s' : RdS} {q : List (List UInt8)} {N : Nat} (hq : ∀ x ∈ q, x.length ≤ N) (h : lineS s q = some s') (hs : ∀ o ∈ s.ops, o.data.length ≤ 2 * N) : ∀ o ∈ s'.ops, o.data.length ≤ 2 * N := by
  unfold lineS at h
  split at h
  · cases h; exact hs
  · cases ho : opM q with
    | some o =>
      rw [ho] at h; cases h
      intro o2 h2
      rcases List.mem_append.1 h2 with h2 | h2
      · exact hs o2 h2
      · simp at h2; subst h2; exact opM_len hq ho
    | none =>
      rw [ho] at h
      cases hc : setM s.cf q with
      | none => rw [hc] at h; cases h
      | some c => rw [hc] at h; cases h; exact hs
def sumL (ls : List (List UInt8)) : Nat := (ls.map (fun x => x.length + 1)).sum
theorem lines_sum : ∀ (l cur : List UInt8), sumL (linesM l cur) ≤ l.length + cur.length + 1
  | [], cur => by simp [linesM, sumL]
  | c :: r, cur => by
    rw [lines_step]
    have h1 := lines_sum r []
    have h2 := lines_sum r (cur ++ [c])
    unfold sumL at *
    split
    · simp at h1 ⊢; omega
    · split
      · simp; omega
      · simp at h2 ⊢; omega
theorem linesF_bd : ∀ (ls : List (List UInt8)) (i : Nat) (s : RdS), (∀ x ∈ ls, x.length ≤ 20000) → (∀ o ∈ s.ops, o.data.length ≤ 40000) →
    (linesF ls i s).ops.length ≤ s.ops.length + ls.length ∧ (linesF ls i s).bad.length ≤ s.bad.length + ls.length ∧ (linesF ls i s).cf.draws.length ≤ s.cf.draws.length + sumL ls ∧ ∀ o ∈ (linesF ls i s).ops, o.data.length ≤ 40000
  | [], i, s, _, h => ⟨by simp [linesF], by simp [linesF], by simp [linesF], h⟩
  | l :: r, i, s, hl, h => by
    have hw : ∀ x ∈ wordsM l [], x.length ≤ 20000 := fun x hx => by
      have h5 := words_mem _ _ _ hx
      have h6 := hl l (by simp)
      rw [List.length_nil] at h5
      omega
    have hwl := words_len l []
    have hr : ∀ x ∈ r, x.length ≤ 20000 := fun x hx => hl x (List.mem_cons_of_mem _ hx)
    rw [show linesF (l :: r) i s = linesF r (i + 1) (lineM i l s) from rfl, lineM_G]
    have hsum : sumL (l :: r) = l.length + 1 + sumL r := by simp [sumL]
    cases hL : lineS s (wordsM l []) with
    | some s' =>
      have h1 := lineS_grow hL
      have h2 := lineS_data (N := 20000) hw hL h
      obtain ⟨a1, a2, a3, a4⟩ := linesF_bd r (i + 1) s' hr h2
      rw [Option.getD_some]
      refine ⟨by rw [List.length_cons]; omega, by rw [List.length_cons]; rw [h1.2.2] at a2; omega, by omega, a4⟩
    | none =>
      obtain ⟨a1, a2, a3, a4⟩ := linesF_bd r (i + 1) { s with bad := s.bad ++ [((i + 1 : Nat) : Int)] } hr h
      rw [Option.getD_none]
      simp only [List.length_append, List.length_cons, List.length_nil] at a1 a2 a3 ⊢
      refine ⟨by omega, by omega, by omega, a4⟩
/-- how much was read -/
structure Sm (s : RdS) : Prop where
  op : s.ops.length ≤ 20000
  bad : s.bad.length ≤ 20000
  dr : s.cf.draws.length ≤ 20001
  dat : ∀ o ∈ s.ops, o.data.length ≤ 40000
theorem readM_sm (l : List UInt8) : Sm (readM l) := by
  unfold readM
  split
  · exact ⟨by simp [zeroM], by simp [zeroM], by simp [zeroM], by simp [zeroM]⟩
  · rename_i h
    have h1 := lines_len l []
    have h2 := lines_sum l []
    obtain ⟨a1, a2, a3, a4⟩ := linesF_bd (linesM l []) 0 startM (fun x hx => by have h3 := lines_mem l [] x hx; rw [List.length_nil] at h3; omega) (by simp [startM])
    rw [show startM.ops.length = 0 from rfl] at a1
    rw [show startM.bad.length = 0 from rfl] at a2
    rw [show startM.cf.draws.length = 0 from rfl] at a3
    rw [List.length_nil] at h2
    exact ⟨by omega, by omega, by omega, a4⟩
theorem totD_bound : ∀ (l : List Pv), (∀ x ∈ l, x.1.data.length ≤ 40000) → totD l ≤ l.length * 40000
  | [], _ => by simp [totD]
  | x :: r, h => by
    have h1 := h x (by simp)
    have h2 := totD_bound r (fun y hy => h y (by simp [hy]))
    simp only [totD, List.length_cons]
    omega
end Go.Proofs.YtcefihmnnndleaaDoor
