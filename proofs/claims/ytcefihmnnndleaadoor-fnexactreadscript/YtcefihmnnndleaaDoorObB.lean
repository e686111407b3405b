import Derived.Test.YtcefihmnnndleaaDoorObA
import Derived.Test.YtcefihmnnndleaaDoorNuL
import Derived.Test.YtcefihmnnndleaaDoorNuM
import Derived.Test.YtcefihmnnndleaaDoorNuN
import Derived.Test.YtcefihmnnndleaaDoorNuO
namespace Go.Proofs.YtcefihmnnndleaaDoor
open Go.ChangeShapes Go.WideShapes Go.ChangeAt Go.RowKit
set_option linter.unusedVariables false
set_option maxRecDepth 20000
set_option linter.unusedSimpArgs false
/-- a line by its words; nothing where it is unclear -/
def lineS (s : RdS) (q : List (List UInt8)) : Option RdS := if q = [] then some s else match opM q with
  | some o => some { s with ops := s.ops ++ [o] }
  | none => (setM s.cf q).map (fun c => { s with cf := c })
theorem lineM_S (i : Nat) (l : List UInt8) (s : RdS) : lineM i l s = (match lineS s (wordsM l []) with | some s' => s' | none => { s with bad := s.bad ++ [((i + 1 : Nat) : Int)] }) := by
  unfold lineM lineS
  split
  · rfl
  · cases opM (wordsM l []) with
    | some o => rfl
    | none => cases setM s.cf (wordsM l []) <;> rfl
theorem words_pos : ∀ (l cur x : List UInt8), x ∈ wordsM l cur → 0 < x.length
  | [], cur, x, h => by
    unfold wordsM at h
    split at h
    · cases h
    · rename_i hc; simp at h; subst h; exact List.length_pos_iff.2 hc
  | c :: r, cur, x, h => by
    unfold wordsM at h
    split at h
    · split at h
      · exact words_pos r [] x h
      · rename_i hc
        rcases List.mem_cons.1 h with h | h
        · subst h; exact List.length_pos_iff.2 hc
        · exact words_pos r [] x h
    · exact words_pos r _ x h
theorem line0 (s : RdS) (r : List (List UInt8)) : lineS s ([109, 97, 108, 108, 111, 99] :: r) = opO [40] [78] 0 s r := by
  have hset : setM s.cf ([109, 97, 108, 108, 111, 99] :: r) = none := by
    unfold setM
    rw [if_neg (by simp [kwKey])]
    cases intsM ([109, 97, 108, 108, 111, 99] :: r).tail with
    | none => rfl
    | some ns => simp [kwHeap, kwDraws]
  rw [lineS, if_neg (by simp), hset]
  unfold opO
  by_cases h : r.length = List.length ([40] : List Nat)
  · rw [opM_hit (k := 0) (by omega) (fun j hj => by
      unfold hitM
      rcases j with j <;> first | omega | simp [namesL]) (by simp at h; simp [hitM, namesL, formsL, h]), if_pos h]
    show (match partsM [78] r 0 ⟨0, 0, 0, 0, 0, []⟩ with | some o => _ | none => _) = _
    cases partsM [78] r 0 ⟨0, 0, 0, 0, 0, []⟩ <;> rfl
  · rw [opM_none (fun j hj => by
      unfold hitM
      rcases j with _ | _ | _ | _ | _ | _ | _ | j <;> first | omega | (simp at h; simp [namesL, formsL, h])), if_neg h]
    rfl
theorem line1 (s : RdS) (r : List (List UInt8)) : lineS s ([99, 97, 108, 108, 111, 99] :: r) = opO [40, 41] [78, 78] 1 s r := by
  have hset : setM s.cf ([99, 97, 108, 108, 111, 99] :: r) = none := by
    unfold setM
    rw [if_neg (by simp [kwKey])]
    cases intsM ([99, 97, 108, 108, 111, 99] :: r).tail with
    | none => rfl
    | some ns => simp [kwHeap, kwDraws]
  rw [lineS, if_neg (by simp), hset]
  unfold opO
  by_cases h : r.length = List.length ([40, 41] : List Nat)
  · rw [opM_hit (k := 1) (by omega) (fun j hj => by
      unfold hitM
      rcases j with _ | j <;> first | omega | simp [namesL]) (by simp at h; simp [hitM, namesL, formsL, h]), if_pos h]
    show (match partsM [78, 78] r 0 ⟨1, 0, 0, 0, 0, []⟩ with | some o => _ | none => _) = _
    cases partsM [78, 78] r 0 ⟨1, 0, 0, 0, 0, []⟩ <;> rfl
  · rw [opM_none (fun j hj => by
      unfold hitM
      rcases j with _ | _ | _ | _ | _ | _ | _ | j <;> first | omega | (simp at h; simp [namesL, formsL, h])), if_neg h]
    rfl
theorem line2 (s : RdS) (r : List (List UInt8)) : lineS s ([114, 101, 97, 108, 108, 111, 99] :: r) = opO [42, 40] [80, 78] 2 s r := by
  have hset : setM s.cf ([114, 101, 97, 108, 108, 111, 99] :: r) = none := by
    unfold setM
    rw [if_neg (by simp [kwKey])]
    cases intsM ([114, 101, 97, 108, 108, 111, 99] :: r).tail with
    | none => rfl
    | some ns => simp [kwHeap, kwDraws]
  rw [lineS, if_neg (by simp), hset]
  unfold opO
  by_cases h : r.length = List.length ([42, 40] : List Nat)
  · rw [opM_hit (k := 2) (by omega) (fun j hj => by
      unfold hitM
      rcases j with _ | _ | j <;> first | omega | simp [namesL]) (by simp at h; simp [hitM, namesL, formsL, h]), if_pos h]
    show (match partsM [80, 78] r 0 ⟨2, 0, 0, 0, 0, []⟩ with | some o => _ | none => _) = _
    cases partsM [80, 78] r 0 ⟨2, 0, 0, 0, 0, []⟩ <;> rfl
  · rw [opM_none (fun j hj => by
      unfold hitM
      rcases j with _ | _ | _ | _ | _ | _ | _ | j <;> first | omega | (simp at h; simp [namesL, formsL, h])), if_neg h]
    rfl
theorem line3 (s : RdS) (r : List (List UInt8)) : lineS s ([102, 114, 101, 101] :: r) = opO [42] [80] 3 s r := by
  have hset : setM s.cf ([102, 114, 101, 101] :: r) = none := by
    unfold setM
    rw [if_neg (by simp [kwKey])]
    cases intsM ([102, 114, 101, 101] :: r).tail with
    | none => rfl
    | some ns => simp [kwHeap, kwDraws]
  rw [lineS, if_neg (by simp), hset]
  unfold opO
  by_cases h : r.length = List.length ([42] : List Nat)
  · rw [opM_hit (k := 3) (by omega) (fun j hj => by
      unfold hitM
      rcases j with _ | _ | _ | j <;> first | omega | simp [namesL]) (by simp at h; simp [hitM, namesL, formsL, h]), if_pos h]
    show (match partsM [80] r 0 ⟨3, 0, 0, 0, 0, []⟩ with | some o => _ | none => _) = _
    cases partsM [80] r 0 ⟨3, 0, 0, 0, 0, []⟩ <;> rfl
  · rw [opM_none (fun j hj => by
      unfold hitM
      rcases j with _ | _ | _ | _ | _ | _ | _ | j <;> first | omega | (simp at h; simp [namesL, formsL, h])), if_neg h]
    rfl
theorem line4 (s : RdS) (r : List (List UInt8)) : lineS s ([117, 115, 97, 98, 108, 101] :: r) = opO [42] [80] 4 s r := by
  have hset : setM s.cf ([117, 115, 97, 98, 108, 101] :: r) = none := by
    unfold setM
    rw [if_neg (by simp [kwKey])]
    cases intsM ([117, 115, 97, 98, 108, 101] :: r).tail with
    | none => rfl
    | some ns => simp [kwHeap, kwDraws]
  rw [lineS, if_neg (by simp), hset]
  unfold opO
  by_cases h : r.length = List.length ([42] : List Nat)
  · rw [opM_hit (k := 4) (by omega) (fun j hj => by
      unfold hitM
      rcases j with _ | _ | _ | _ | j <;> first | omega | simp [namesL]) (by simp at h; simp [hitM, namesL, formsL, h]), if_pos h]
    show (match partsM [80] r 0 ⟨4, 0, 0, 0, 0, []⟩ with | some o => _ | none => _) = _
    cases partsM [80] r 0 ⟨4, 0, 0, 0, 0, []⟩ <;> rfl
  · rw [opM_none (fun j hj => by
      unfold hitM
      rcases j with _ | _ | _ | _ | _ | _ | _ | j <;> first | omega | (simp at h; simp [namesL, formsL, h])), if_neg h]
    rfl
theorem line5 (s : RdS) (r : List (List UInt8)) : lineS s ([108, 111, 97, 100] :: r) = opO [42, 40] [80, 78] 5 s r := by
  have hset : setM s.cf ([108, 111, 97, 100] :: r) = none := by
    unfold setM
    rw [if_neg (by simp [kwKey])]
    cases intsM ([108, 111, 97, 100] :: r).tail with
    | none => rfl
    | some ns => simp [kwHeap, kwDraws]
  rw [lineS, if_neg (by simp), hset]
  unfold opO
  by_cases h : r.length = List.length ([42, 40] : List Nat)
  · rw [opM_hit (k := 5) (by omega) (fun j hj => by
      unfold hitM
      rcases j with _ | _ | _ | _ | _ | j <;> first | omega | simp [namesL]) (by simp at h; simp [hitM, namesL, formsL, h]), if_pos h]
    show (match partsM [80, 78] r 0 ⟨5, 0, 0, 0, 0, []⟩ with | some o => _ | none => _) = _
    cases partsM [80, 78] r 0 ⟨5, 0, 0, 0, 0, []⟩ <;> rfl
  · rw [opM_none (fun j hj => by
      unfold hitM
      rcases j with _ | _ | _ | _ | _ | _ | _ | j <;> first | omega | (simp at h; simp [namesL, formsL, h])), if_neg h]
    rfl
theorem line6 (s : RdS) (r : List (List UInt8)) : lineS s ([115, 116, 111, 114, 101] :: r) = opO [42, 43] [80, 88] 6 s r := by
  have hset : setM s.cf ([115, 116, 111, 114, 101] :: r) = none := by
    unfold setM
    rw [if_neg (by simp [kwKey])]
    cases intsM ([115, 116, 111, 114, 101] :: r).tail with
    | none => rfl
    | some ns => simp [kwHeap, kwDraws]
  rw [lineS, if_neg (by simp), hset]
  unfold opO
  by_cases h : r.length = List.length ([42, 43] : List Nat)
  · rw [opM_hit (k := 6) (by omega) (fun j hj => by
      unfold hitM
      rcases j with _ | _ | _ | _ | _ | _ | j <;> first | omega | simp [namesL]) (by simp at h; simp [hitM, namesL, formsL, h]), if_pos h]
    show (match partsM [80, 88] r 0 ⟨6, 0, 0, 0, 0, []⟩ with | some o => _ | none => _) = _
    cases partsM [80, 88] r 0 ⟨6, 0, 0, 0, 0, []⟩ <;> rfl
  · rw [opM_none (fun j hj => by
      unfold hitM
      rcases j with _ | _ | _ | _ | _ | _ | _ | j <;> first | omega | (simp at h; simp [namesL, formsL, h])), if_neg h]
    rfl
theorem opM_other {x : List UInt8} {r : List (List UInt8)} (h : ∀ k, k < 7 → x ≠ namesL.getD k []) : opM (x :: r) = none := opM_none fun j hj => by
  unfold hitM
  have := h j hj
  simp at this
  simp [this]
theorem lineKey (s : RdS) (r : List (List UInt8)) : lineS s (kwKey :: r) = keyO s r := by
  rw [lineS, if_neg (by simp), opM_other (fun k hk => by rcases k with _ | _ | _ | _ | _ | _ | _ | k <;> first | omega | simp [kwKey, namesL])]
  unfold setM keyO
  by_cases h : r.length = 1
  · rw [if_pos ⟨rfl, by simp [h]⟩, if_pos h]
    simp [Option.map_map]
    rfl
  · rw [if_neg (by simp; exact h), if_neg h]
    cases intsM (kwKey :: r).tail with
    | none => rfl
    | some ns => simp [kwHeap, kwDraws, kwKey]
theorem lineHeap (s : RdS) (r : List (List UInt8)) : lineS s (kwHeap :: r) = heapO s r := by
  rw [lineS, if_neg (by simp), opM_other (fun k hk => by rcases k with _ | _ | _ | _ | _ | _ | _ | k <;> first | omega | simp [kwHeap, namesL])]
  unfold setM heapO
  rw [if_neg (by simp [kwHeap, kwKey])]
  show Option.map _ ((intsM r).bind _) = _
  cases intsM r with
  | none => rfl
  | some ns =>
    by_cases h : ns.length = 4
    · simp [h]
    · simp [h, kwHeap, kwDraws]
theorem lineDraws (s : RdS) (r : List (List UInt8)) : lineS s (kwDraws :: r) = drawO s r := by
  rw [lineS, if_neg (by simp), opM_other (fun k hk => by rcases k with _ | _ | _ | _ | _ | _ | _ | k <;> first | omega | simp [kwDraws, namesL])]
  unfold setM drawO
  rw [if_neg (by simp [kwDraws, kwKey])]
  show Option.map _ ((intsM r).bind _) = _
  cases intsM r with
  | none => rfl
  | some ns => simp [kwHeap, kwDraws]
theorem lineOther (s : RdS) (x : List UInt8) (r : List (List UInt8)) (h : ∀ k, k < 7 → x ≠ namesL.getD k []) (h1 : x ≠ kwKey) (h2 : x ≠ kwHeap) (h3 : x ≠ kwDraws) : lineS s (x :: r) = none := by
  rw [lineS, if_neg (by simp), opM_other h]
  unfold setM
  rw [if_neg (by simp [h1])]
  show Option.map _ ((intsM r).bind _) = _
  cases intsM r with
  | none => rfl
  | some ns => simp [h2, h3]
theorem Cl.of {B S p k : Nat} {W : World} {fs : List Nat} (h : ClF W S p k fs) (h1 : S < p) (h2 : p + 3 < B) : Cl B S W (p + 1 + 1 + 1) (p + 1 + 1) (p + 1) p k fs := by
  refine ⟨?_, ?_, ?_, fun j f hf => ?_, by omega, by omega, by omega, by omega, by omega⟩
  · unfold World.cell?; rw [h.b3]; rfl
  · unfold World.cell?; rw [h.b2]; rfl
  · unfold World.cell?; rw [h.b1]; rfl
  · rw [cell_of_row _ _ j _ _ _ h.b0]
    simp [rowF, hf, fv]
theorem OrdP.ret {B S : Nat} {a1 : Addr} {w w' : World} {s : RdS} {r : Option RdS} {e : Ending} (h : OrdP B S a1 w w' s r e) : ∃ v, e = .returned v := by
  unfold OrdP at h
  cases r with
  | none => obtain ⟨_, ⟨v, h1, _⟩, _⟩ := h; exact ⟨v, h1⟩
  | some q => obtain ⟨_, h1, _⟩ := h; exact ⟨_, h1⟩
set_option maxHeartbeats 1000000 in
theorem im_obey (B S M : Nat) (p : Nat → Nat) (a1 : Addr) (A n : Nat) (q : List (List UInt8)) (s : RdS) (dv ov bd : Value) (ps : List (OpS × Value)) (w : World) (hs : Ss B S w s dv ov bd ps) (hM : Mp w M (kwsO S p)) (hcl : ∀ i fs, fsO[i]? = some fs → ClF w S (p i) i fs) (hlt : ∀ i, i < 7 → S < p i ∧ p i + 3 < B)
    (hn : n = q.length) (hq : ∀ k, k < q.length → w.cell? ⟨A, k, none⟩ = some (.string (bs (q.getD k [])))) (hnl : n ≤ 1048576) (hwl : ∀ x ∈ q, 0 < x.length ∧ x.length ≤ 1048576) (h1 : w.cell? ⟨1, 0, none⟩ = some (.iface 141 (.pointer (some a1)))) (hdl : s.cf.draws.length ≤ 1000000000) (hol : s.ops.length ≤ 2000000) :
    Calls Tryd.prog 32 #[.map (some M), .slice (some ⟨A, 0, none⟩) n n] w fun e w' => OrdP B S a1 w w' s (lineS s q) e := by
  cases q with
  | nil =>
    subst hn
    refine (obey0 M A w).mono ?_
    rintro e w1 ⟨rfl, rfl⟩
    exact OrdP.yes (Gb.refl _ _ _) hs
  | cons x r =>
    have hn0 : 0 < n := by simp at hn; omega
    have hx : w.cell? ⟨A, 0, none⟩ = some (.string (bs x)) := hq 0 (by simp)
    have hr := run_look hM x
    have hm : n - 1 = r.length := by simp at hn; omega
    have hw : ∀ sa : Option Addr, (n = 1 ∨ sa = some ⟨A, 1, none⟩) → Wd w sa r := fun sa h9 => by
      rcases h9 with h9 | h9
      · exact .inl (List.eq_nil_of_length_eq_zero (by omega))
      · exact .inr ⟨A, 1, h9, fun k hk => by
          have := hq (k + 1) (by simp; omega)
          rw [Nat.add_comm 1 k]; simpa using this⟩
    have hml : n - 1 ≤ 1048576 := by omega
    have hwl2 : ∀ y ∈ r, 0 < y.length ∧ y.length ≤ 1048576 := fun y hy => hwl y (List.mem_cons_of_mem _ hy)
    have hwl3 : ∀ y ∈ r, y.length ≤ 1048576 := fun y hy => (hwl2 y hy).2
    by_cases e0 : x = [104, 101, 97, 112]
    · subst e0
      rw [show lk [104, 101, 97, 112] (kwsO S p) = some (.func (.func 36) #[.pointer (some ⟨S, 0, none⟩)] #[]) by simp [kwsO, lk]] at hr
      skip
      rw [show lineS s ([104, 101, 97, 112] :: r) = _ from lineHeap s r]
      exact obey36 M A n S [104, 101, 97, 112] w _ (fun e w' h => h.ret) hn0 hnl hx hr (fun sa c h9 => im_setHeap B S a1 sa (n - 1) c r s dv ov bd ps w hs hm (hw sa h9) hml hwl3 h1)
    by_cases e1 : x = [107, 101, 121]
    · subst e1
      rw [show lk [107, 101, 121] (kwsO S p) = some (.func (.func 37) #[.pointer (some ⟨S, 0, none⟩)] #[]) by simp [kwsO, lk]] at hr
      skip
      rw [show lineS s ([107, 101, 121] :: r) = _ from lineKey s r]
      exact obey37 M A n S [107, 101, 121] w _ (fun e w' h => h.ret) hn0 hnl hx hr (fun sa c h9 => im_setKey B S a1 sa (n - 1) c r s dv ov bd ps w hs hm (hw sa h9) hml hwl3 h1)
    by_cases e2 : x = [100, 114, 97, 119, 115]
    · subst e2
      rw [show lk [100, 114, 97, 119, 115] (kwsO S p) = some (.func (.func 38) #[.pointer (some ⟨S, 0, none⟩)] #[]) by simp [kwsO, lk]] at hr
      skip
      rw [show lineS s ([100, 114, 97, 119, 115] :: r) = _ from lineDraws s r]
      exact obey38 M A n S [100, 114, 97, 119, 115] w _ (fun e w' h => h.ret) hn0 hnl hx hr (fun sa c h9 => im_addDraws B S a1 sa (n - 1) c r s dv ov bd ps w hs hm (hw sa h9) hml hwl3 h1 hdl)
    by_cases e3 : x = [109, 97, 108, 108, 111, 99]
    · subst e3
      rw [show lk [109, 97, 108, 108, 111, 99] (kwsO S p) = some (fvO (p 0)) by simp [kwsO, lk]] at hr
      unfold fvO at hr
      rw [show lineS s ([109, 97, 108, 108, 111, 99] :: r) = _ from line0 s r]
      exact obey50 M A n (p 0 + 1 + 1 + 1) (p 0 + 1 + 1) (p 0 + 1) [109, 97, 108, 108, 111, 99] w _ (fun e w' h => h.ret) hn0 hnl hx hr (fun sa c h9 => im_opA B S a1 0 (p 0 + 1 + 1 + 1) (p 0 + 1 + 1) (p 0 + 1) (p 0) sa (n - 1) c r s dv ov bd ps w hs (Cl.of (hcl 0 [40] rfl) (hlt 0 (by omega)).1 (hlt 0 (by omega)).2) hm (hw sa h9) hml hwl2 h1 hol)
    by_cases e4 : x = [99, 97, 108, 108, 111, 99]
    · subst e4
      rw [show lk [99, 97, 108, 108, 111, 99] (kwsO S p) = some (fvO (p 1)) by simp [kwsO, lk]] at hr
      unfold fvO at hr
      rw [show lineS s ([99, 97, 108, 108, 111, 99] :: r) = _ from line1 s r]
      exact obey50 M A n (p 1 + 1 + 1 + 1) (p 1 + 1 + 1) (p 1 + 1) [99, 97, 108, 108, 111, 99] w _ (fun e w' h => h.ret) hn0 hnl hx hr (fun sa c h9 => im_opB B S a1 1 (p 1 + 1 + 1 + 1) (p 1 + 1 + 1) (p 1 + 1) (p 1) sa (n - 1) c r s dv ov bd ps w hs (Cl.of (hcl 1 [40, 41] rfl) (hlt 1 (by omega)).1 (hlt 1 (by omega)).2) hm (hw sa h9) hml hwl2 h1 hol)
    by_cases e5 : x = [114, 101, 97, 108, 108, 111, 99]
    · subst e5
      rw [show lk [114, 101, 97, 108, 108, 111, 99] (kwsO S p) = some (fvO (p 2)) by simp [kwsO, lk]] at hr
      unfold fvO at hr
      rw [show lineS s ([114, 101, 97, 108, 108, 111, 99] :: r) = _ from line2 s r]
      exact obey50 M A n (p 2 + 1 + 1 + 1) (p 2 + 1 + 1) (p 2 + 1) [114, 101, 97, 108, 108, 111, 99] w _ (fun e w' h => h.ret) hn0 hnl hx hr (fun sa c h9 => im_opC B S a1 2 (p 2 + 1 + 1 + 1) (p 2 + 1 + 1) (p 2 + 1) (p 2) sa (n - 1) c r s dv ov bd ps w hs (Cl.of (hcl 2 [42, 40] rfl) (hlt 2 (by omega)).1 (hlt 2 (by omega)).2) hm (hw sa h9) hml hwl2 h1 hol)
    by_cases e6 : x = [102, 114, 101, 101]
    · subst e6
      rw [show lk [102, 114, 101, 101] (kwsO S p) = some (fvO (p 3)) by simp [kwsO, lk]] at hr
      unfold fvO at hr
      rw [show lineS s ([102, 114, 101, 101] :: r) = _ from line3 s r]
      exact obey50 M A n (p 3 + 1 + 1 + 1) (p 3 + 1 + 1) (p 3 + 1) [102, 114, 101, 101] w _ (fun e w' h => h.ret) hn0 hnl hx hr (fun sa c h9 => im_opD B S a1 3 (p 3 + 1 + 1 + 1) (p 3 + 1 + 1) (p 3 + 1) (p 3) sa (n - 1) c r s dv ov bd ps w hs (Cl.of (hcl 3 [42] rfl) (hlt 3 (by omega)).1 (hlt 3 (by omega)).2) hm (hw sa h9) hml hwl2 h1 hol)
    by_cases e7 : x = [117, 115, 97, 98, 108, 101]
    · subst e7
      rw [show lk [117, 115, 97, 98, 108, 101] (kwsO S p) = some (fvO (p 4)) by simp [kwsO, lk]] at hr
      unfold fvO at hr
      rw [show lineS s ([117, 115, 97, 98, 108, 101] :: r) = _ from line4 s r]
      exact obey50 M A n (p 4 + 1 + 1 + 1) (p 4 + 1 + 1) (p 4 + 1) [117, 115, 97, 98, 108, 101] w _ (fun e w' h => h.ret) hn0 hnl hx hr (fun sa c h9 => im_opD B S a1 4 (p 4 + 1 + 1 + 1) (p 4 + 1 + 1) (p 4 + 1) (p 4) sa (n - 1) c r s dv ov bd ps w hs (Cl.of (hcl 4 [42] rfl) (hlt 4 (by omega)).1 (hlt 4 (by omega)).2) hm (hw sa h9) hml hwl2 h1 hol)
    by_cases e8 : x = [108, 111, 97, 100]
    · subst e8
      rw [show lk [108, 111, 97, 100] (kwsO S p) = some (fvO (p 5)) by simp [kwsO, lk]] at hr
      unfold fvO at hr
      rw [show lineS s ([108, 111, 97, 100] :: r) = _ from line5 s r]
      exact obey50 M A n (p 5 + 1 + 1 + 1) (p 5 + 1 + 1) (p 5 + 1) [108, 111, 97, 100] w _ (fun e w' h => h.ret) hn0 hnl hx hr (fun sa c h9 => im_opC B S a1 5 (p 5 + 1 + 1 + 1) (p 5 + 1 + 1) (p 5 + 1) (p 5) sa (n - 1) c r s dv ov bd ps w hs (Cl.of (hcl 5 [42, 40] rfl) (hlt 5 (by omega)).1 (hlt 5 (by omega)).2) hm (hw sa h9) hml hwl2 h1 hol)
    by_cases e9 : x = [115, 116, 111, 114, 101]
    · subst e9
      rw [show lk [115, 116, 111, 114, 101] (kwsO S p) = some (fvO (p 6)) by simp [kwsO, lk]] at hr
      unfold fvO at hr
      rw [show lineS s ([115, 116, 111, 114, 101] :: r) = _ from line6 s r]
      exact obey50 M A n (p 6 + 1 + 1 + 1) (p 6 + 1 + 1) (p 6 + 1) [115, 116, 111, 114, 101] w _ (fun e w' h => h.ret) hn0 hnl hx hr (fun sa c h9 => im_opE B S a1 6 (p 6 + 1 + 1 + 1) (p 6 + 1 + 1) (p 6 + 1) (p 6) sa (n - 1) c r s dv ov bd ps w hs (Cl.of (hcl 6 [42, 43] rfl) (hlt 6 (by omega)).1 (hlt 6 (by omega)).2) hm (hw sa h9) hml hwl2 h1 hol)
    rw [show lk x (kwsO S p) = none by simp [kwsO, lk, Ne.symm e0, Ne.symm e1, Ne.symm e2, Ne.symm e3, Ne.symm e4, Ne.symm e5, Ne.symm e6, Ne.symm e7, Ne.symm e8, Ne.symm e9]] at hr
    rw [lineOther s x r (fun k hk => by rcases k with _ | _ | _ | _ | _ | _ | _ | k <;> first | omega | assumption) e1 e0 e2]
    refine (obeyN M A n x a1 w hn0 hnl hx h1 hr).mono ?_
    rintro e w1 ⟨rfl, rfl⟩
    exact OrdP.no (Gb.refl _ _ _) (.inr ⟨_, rfl⟩) hs
end Go.Proofs.YtcefihmnnndleaaDoor
