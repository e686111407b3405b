import Derived.Test.YtcefihmnnndleaaDoorScO
import Derived.Test.YtcefihmnnndleaaDoorScM
import Derived.OwnWalk
import Derived.Laws.CopyRow
import Derived.Laws.CopyOwn
import Derived.Deep.DeepCutAuto
import Derived.Deep.CutBlock
namespace Go.Proofs.YtcefihmnnndleaaDoor
open Go.ChangeShapes Go.WideShapes Go.ChangeAt Go.RowKit
set_option linter.unusedVariables false
set_option maxRecDepth 20000

def flatP (ps : List (OpS × Value)) : List Value := ps.flatMap fun p => opC p.1 p.2
theorem flatP_snoc (ps : List (OpS × Value)) (p : OpS × Value) : flatP (ps ++ [p]) = flatP ps ++ opC p.1 p.2 := by simp [flatP]
/-- what was read, in memory of its own -/
structure Res (B : Nat) (W : World) (s : RdS) (dv ov bd : Value) (ps : List (OpS × Value)) : Prop where
  dt : W.ownsRow B 3 1 dv s.cf.draws.length (iv s.cf.draws)
  op : W.ownsRow B 45 6 ov ps.length (flatP ps)
  eq : ps.map (·.1) = s.ops
  dd : ∀ p ∈ ps, W.ownsRow B 5 1 p.2 p.1.data.length (dv8 p.1.data)
  bdo : W.ownsRow B 3 1 bd s.bad.length (iv s.bad)
  ap : ∀ r, dv.ownBlock = some r → bd.ownBlock ≠ some r
  pw : ps.Pairwise fun p q => ∀ r, p.2.ownBlock = some r → q.2.ownBlock ≠ some r
theorem Res.below {B : Nat} {W W' : World} {s : RdS} {dv ov bd : Value} {ps : List (OpS × Value)} (h : Res B W s dv ov bd ps) (hb : Below W.heap.size W W') : Res B W' s dv ov bd ps :=
  ⟨own_below h.dt hb, own_below h.op hb, h.eq, fun p hp => own_below (h.dd p hp) hb, own_below h.bdo hb, h.ap, h.pw⟩
/-- a reading under way -/
structure Rq (w W : World) (C R : Nat) (s : RdS) (dv ov bd : Value) (ps : List (OpS × Value)) : Prop where
  r : Bx W R 26 zeroF
  bx : Bx W C 26 (cfC s.cf dv)
  res : Res w.heap.size W s dv ov bd ps
  bel : Below w.heap.size w W
  ge : w.heap.size ≤ C ∧ w.heap.size ≤ R
  ne : C ≠ R
theorem Rq.below {w W W' : World} {C R : Nat} {s : RdS} {dv ov bd : Value} {ps : List (OpS × Value)} (h : Rq w W C R s dv ov bd ps) (hb : Below W.heap.size W W') : Rq w W' C R s dv ov bd ps :=
  ⟨h.r.below hb h.r.lt, h.bx.below hb h.bx.lt, h.res.below hb, h.bel.trans (hb.mono h.bel.size), h.ge, h.ne⟩
def nilV : Value := .slice none 0 0
theorem Rq.start (w : World) : Rq w ((w.alloc (.cells zeroF.toArray 26)).alloc (.cells (cfC startM.cf nilV).toArray 26)) (w.heap.size + 1) w.heap.size startM nilV nilV nilV [] := by
  have s1 : (w.alloc (.cells zeroF.toArray 26)).heap.size = w.heap.size + 1 := by simp
  refine ⟨?_, ?_, ⟨⟨by simp [startM, iv], .inl ⟨rfl, rfl⟩⟩, ⟨by simp [flatP], .inl ⟨rfl, rfl⟩⟩, rfl, by simp, ⟨by simp [startM, iv], .inl ⟨rfl, rfl⟩⟩, (fun r h => by cases h), .nil⟩, ?_, by omega, by omega⟩
  · unfold Bx; rw [al_old _ _ _ (by omega), al_last]
  · unfold Bx; rw [← s1, al_last]
  · exact ((Below.refl _ w).alloc (Nat.le_refl _) _).alloc (by omega) _
theorem apart_of {v1 v2 : Value} (h : ∀ r, v1.ownBlock = some r → v2.ownBlock ≠ some r) : v1.ownBlock = none ∨ v1.ownBlock ≠ v2.ownBlock := by
  cases e : v1.ownBlock with
  | none => exact .inl rfl
  | some r => exact .inr (fun h2 => h r e h2.symm)
/-- an operation more -/
theorem Rq.opMore {w W : World} {C R : Nat} {s : RdS} {dv ov bd : Value} {ps : List (OpS × Value)} (h : Rq w W C R s dv ov bd ps) (o : OpS) (ov1 : Value) (B1 : Nat) (hd : W.ownsRow B1 5 1 ov1 o.data.length (dv8 o.data)) (hB1 : w.heap.size ≤ B1) (hnew : ∀ p ∈ ps, ∀ r, p.2.ownBlock = some r → r < B1) (hn : ps.length ≤ 2000000) :
    ∃ v' W', (Builtin.append_ #[27, 27] 27 #[ov, .slice (some ⟨W.heap.size, 0, none⟩) 1 1]).run Tryd.prog (W.alloc (.cells (opC o ov1).toArray 45)) = .ok v' W' ∧ Rq w W' C R { s with ops := s.ops ++ [o] } dv v' bd (ps ++ [(o, ov1)]) ∧ K2 W W' := by
  obtain ⟨v', W', e1, o1, g1⟩ := appB slOp h.res.op h.bel.size (opC o ov1).toArray (by simp [opC]) (by
    obtain ⟨a, m, c, rfl, _⟩ := own_sl3 hd
    intro u hu
    simp [opC] at hu
    rcases hu with rfl | rfl | rfl | rfl | rfl | rfl <;> rfl) hn
  have hk : K2 W W' := K2.grown g1 h.res.op (by decide)
  refine ⟨v', W', e1, ⟨h.r.grown g1 (h.r.apart h.res.op (by decide)), h.bx.grown g1 (h.bx.apart h.res.op (by decide)), ⟨h.res.dt.kept g1 (own_apart h.res.dt h.res.op (by decide)), ?_, ?_, ?_, h.res.bdo.kept g1 (own_apart h.res.bdo h.res.op (by decide)), h.res.ap, ?_⟩, h.bel.grown g1 h.bel.size (fun r e => (h.res.op.lt r e).1), h.ge, h.ne⟩, hk⟩
  · rw [flatP_snoc, List.length_append]; exact o1
  · simp [h.res.eq]
  · intro p hp
    rcases List.mem_append.1 hp with hp | hp
    · exact hk.own (h.res.dd p hp) (by decide)
    · simp at hp; subst hp; exact own_mono (hk.own hd (by decide)) hB1
  · refine List.pairwise_append.2 ⟨h.res.pw, List.pairwise_singleton _ _, fun p hp q hq r hr h2 => ?_⟩
    simp at hq
    subst hq
    have := hnew p hp r hr
    have := (hd.lt r h2).1
    omega
/-- a line more that is not clear -/
theorem Rq.badMore {w W : World} {C R : Nat} {s : RdS} {dv ov bd : Value} {ps : List (OpS × Value)} (h : Rq w W C R s dv ov bd ps) (x : Int) (hn : s.bad.length ≤ 2000000) :
    ∃ v' W', (Builtin.append_ #[24, 24] 24 #[bd, .slice (some ⟨W.heap.size, 0, none⟩) 1 1]).run Tryd.prog (W.alloc (.cells #[.int .i64 x] 3)) = .ok v' W' ∧ Rq w W' C R { s with bad := s.bad ++ [x] } dv ov v' ps ∧ K2 W W' := by
  obtain ⟨v', W', e1, o1, g1, e5⟩ := appC slIn h.res.bdo h.bel.size #[.int .i64 x] rfl (by simp [Value.oneCell']) hn
  have hk : K2 W W' := K2.grown g1 h.res.bdo (by decide)
  refine ⟨v', W', e1, ⟨h.r.grown g1 (h.r.apart h.res.bdo (by decide)), h.bx.grown g1 (h.bx.apart h.res.bdo (by decide)), ⟨h.res.dt.kept g1 (apart_of h.res.ap), h.res.op.kept g1 (own_apart h.res.op h.res.bdo (by decide)), h.res.eq, fun p hp => hk.own (h.res.dd p hp) (by decide), ?_, ?_, h.res.pw⟩, h.bel.grown g1 h.bel.size (fun r e => (h.res.bdo.lt r e).1), h.ge, h.ne⟩, hk⟩
  · rw [show iv (s.bad ++ [x]) = iv s.bad ++ [.int .i64 x] by simp [iv], List.length_append]; exact o1
  · intro r hr h2
    rcases e5 with e5 | e5
    · exact h.res.ap r hr (e5 ▸ h2)
    · have := (h.res.dt.lt r hr).2
      rw [e5] at h2
      cases h2
      omega
/-- the shape turns -/
theorem Rq.cfMore {w W W' : World} {C R : Nat} {s : RdS} {dv ov bd dv' : Value} {ps : List (OpS × Value)} (h : Rq w W C R s dv ov bd ps) (hb : Below W.heap.size W W') (c' : CfS) (hd : W'.ownsRow w.heap.size 3 1 dv' c'.draws.length (iv c'.draws)) (hor : dv' = dv ∨ ∀ r, dv'.ownBlock = some r → W.heap.size ≤ r) :
    Rq w (W'.setRow C (cfC c' dv').toArray) C R { s with cf := c' } dv' ov bd ps := by
  have h1 := h.below hb
  have hk : K2 W' (W'.setRow C (cfC c' dv').toArray) := K2.row h1.bx (by decide) _
  refine ⟨?_, setRow_heap _ _ _ _ _ _ h1.bx, ⟨own_setRow hd (h1.bx.apart hd (by decide)) _, own_setRow h1.res.op (h1.bx.apart h1.res.op (by decide)) _, h.res.eq, fun p hp => hk.own (h1.res.dd p hp) (by decide), own_setRow h1.res.bdo (h1.bx.apart h1.res.bdo (by decide)) _, ?_, h.res.pw⟩, below_setRow h1.bel h.ge.1 _, h.ge, h.ne⟩
  · unfold Bx; rw [setRow_other _ _ _ _ (Ne.symm h.ne)]; exact h1.r
  · intro r hr h2
    rcases hor with rfl | hor
    · exact h.res.ap r hr h2
    · have := hor r hr
      have := (h.res.bdo.lt r h2).2
      omega
def Bnd (k : Nat) (s : RdS) (n : Nat) : Prop := s.cf.draws.length ≤ k * 20001 ∧ n ≤ k ∧ s.bad.length ≤ k
theorem Bnd.next {k n : Nat} {s : RdS} (h : Bnd k s n) : Bnd (k + 1) s n := by
  obtain ⟨h1, h2, h3⟩ := h
  refine ⟨?_, by omega, by omega⟩
  rw [Nat.succ_mul]; exact Nat.le_trans h1 (Nat.le_add_right _ _)
theorem Bnd.op {k n : Nat} {s : RdS} (h : Bnd k s n) (o : OpS) : Bnd (k + 1) { s with ops := s.ops ++ [o] } (n + 1) := ⟨h.next.1, Nat.succ_le_succ h.2.1, h.next.2.2⟩
theorem Bnd.bad {k n : Nat} {s : RdS} (h : Bnd k s n) (x : Int) : Bnd (k + 1) { s with bad := s.bad ++ [x] } n := ⟨h.next.1, h.next.2.1, by
  show (s.bad ++ [x]).length ≤ k + 1
  rw [List.length_append]; exact Nat.succ_le_succ h.2.2⟩
theorem Bnd.cf {k n : Nat} {s : RdS} (h : Bnd k s n) {c : CfS} {q : List (List UInt8)} (hq : q.length ≤ 20001) (hs : setM s.cf q = some c) : Bnd (k + 1) { s with cf := c } n := ⟨by
  show c.draws.length ≤ (k + 1) * 20001
  rw [Nat.succ_mul]
  exact Nat.le_trans (setM_draws hs) (Nat.add_le_add h.1 hq), h.next.2.1, h.next.2.2⟩
theorem Bnd.dr {k n : Nat} {s : RdS} (h : Bnd k s n) (hk : k ≤ 20000) : s.cf.draws.length ≤ 1000000000 := Nat.le_trans h.1 (Nat.le_trans (Nat.mul_le_mul_right 20001 hk) (by decide))
theorem linesF_step (ls : List (List UInt8)) (k : Nat) (s : RdS) (h : k < ls.length) : linesF (ls.drop k) k s = linesF (ls.drop (k + 1)) (k + 1) (lineM k ls[k] s) := by
  rw [List.drop_eq_getElem_cons h, linesF]
set_option maxHeartbeats 4000000 in
theorem sp_read_no (g n c : Nat) (l : List UInt8) (w : World) (hl : l.length = n) (hn : 20000 < n) (hn2 : n ≤ 1048576) :
    Calls Tryd.prog 4 #[.slice (some ⟨g, 0, none⟩) n c] w fun e w' => ∃ dv ov bd ps, e = .returned (.tuple #[.agg (cfC (readM l).cf dv).toArray, ov, bd]) ∧ Res w.heap.size w' (readM l) dv ov bd ps ∧ Below w.heap.size w w' := by
  have HZ := hid (show readM l = zeroM by rw [readM, if_pos (by omega)])
  have HR : Hid ((w.alloc (.cells zeroF.toArray 26)).heap[w.heap.size]? = some (.cells zeroF.toArray 26 (0, 0))) := hid (al_last _ _)
  have HS := hid (setRow_self (w.alloc (.cells zeroF.toArray 26)) w.heap.size zeroF.toArray 26 (0, 0) HR.out)
  have HB := hid ((Below.refl w.heap.size w).alloc (Nat.le_refl _) (.cells zeroF.toArray 26))
  go_enter Tryd.func4, Tryd.ntmps4
  go_wp2_with (refine wpList_store_row rfl 26 _ _ rfl _ _ rfl rfl 26 _ HR.out (by kernel_rfl) rfl (by simp [Value.oneCell']) ?_)
  refine Eq.mp (congrArg _ HS.out.symm) ?_
  refine bodyPost_ret (results_row3 (by rfl) _ _ w.heap.size 26 _ (0, 0) _ (by rfl) HR.out Tryd.underlying26 rfl (by kernel_rfl)) (by rfl) ?_
  rw [HZ.out]
  exact ⟨nilV, nilV, nilV, [], rfl, ⟨⟨by simp [zeroM, iv], .inl ⟨rfl, rfl⟩⟩, ⟨by simp [flatP], .inl ⟨rfl, rfl⟩⟩, rfl, by simp, ⟨by simp [zeroM, iv], .inl ⟨rfl, rfl⟩⟩, (fun r h => by cases h), .nil⟩, HB.out⟩
set_option maxHeartbeats 4000000 in
theorem sp_read_yes (g n c : Nat) (l : List UInt8) (w : World) (hl : l.length = n) (hn : ¬ 20000 < n) (hr : RowV w g 5 (bv l)) :
    Calls Tryd.prog 4 #[.slice (some ⟨g, 0, none⟩) n c] w fun e w' => ∃ dv ov bd ps, e = .returned (.tuple #[.agg (cfC (readM l).cf dv).toArray, ov, bd]) ∧ Res w.heap.size w' (readM l) dv ov bd ps ∧ Below w.heap.size w w' := by
  obtain ⟨ls, hls⟩ : ∃ ls, ls = linesM l [] := ⟨_, rfl⟩
  have HM := hid (show readM l = linesF (ls.drop 0) 0 startM by rw [readM, if_neg (by omega), hls]; rfl)
  have HLM := hid (fun x (hx : x ∈ ls) => (show x.length ≤ 20000 by rw [hls] at hx; have := lines_mem l [] x hx; simp at this; omega))
  have hLL : ls.length ≤ 20000 := by rw [hls]; have := lines_len l []; omega
  have HQ := hid (Rq.start w)
  obtain ⟨W0, hW0⟩ : ∃ W, W = ((w.alloc (.cells zeroF.toArray 26)).alloc (.cells (cfC startM.cf nilV).toArray 26)) := ⟨_, rfl⟩
  rw [← hW0] at HQ
  have hC := sp_lines g n c l W0 hl (by omega) (hr.below HQ.out.bel hr.lt)
  rw [← hls] at hC
  have HW0 := hid hW0
  have HLS := hid hls
  rw [hW0] at hC
  clear hW0 hls hr
  go_enter Tryd.func4, Tryd.ntmps4
  go_wp2_with fail
  refine hC.mono ?_
  rintro e w1 ⟨lv, rfl, HL0, hb1⟩
  rw [← HW0.out] at HL0 hb1
  have HL := hid HL0
  have HQ1 := hid (HQ.out.below hb1)
  obtain ⟨BL, hBL⟩ : ∃ B, B = W0.heap.size := ⟨_, rfl⟩
  rw [← hBL] at HL
  obtain ⟨C, hCe⟩ : ∃ C, C = w.heap.size + 1 := ⟨_, rfl⟩
  rw [← hCe] at HQ1 ⊢
  obtain ⟨la, L, lc, rfl, hL⟩ : ∃ la L lc, lv = .slice la L lc ∧ L = ls.length := by
    obtain ⟨ps0, h1, h2, _⟩ := HL.out
    obtain ⟨la, L, lc, h3, h4⟩ := own_sl3 h2
    exact ⟨la, L, lc, h3, by rw [h4, ← h1]; simp⟩
  have HLE := hid hL
  have hL2 : L ≤ 20000 := by omega
  clear hC HL0 hb1 HQ hBL hCe hL
  go_wp2_with fail
  have hn' : decide ((20000 : Int) < (n : Int)) = false := by simp; omega
  try simp only [hn']
  go_loopw [6, 7, 22] (fun ov bd i wr => ∃ (k : Nat) (s : RdS) (dv : Value) (ps : List (OpS × Value)), k ≤ L ∧ i = .int .i64 (k : Int) ∧ Hid (readM l = linesF (ls.drop k) k s) ∧ Hid (Rq w wr C w.heap.size s dv ov bd ps) ∧ Hid (Lns BL wr (.slice la L lc) ls) ∧ Hid (Bnd k s ps.length)) (fun _ _ i _ => L - (intOf i).toNat)
  case atStart => exact ⟨0, startM, nilV, [], Nat.zero_le _, rfl, HM, HQ1, HL, hid ⟨by simp [startM], by simp, by simp [startM]⟩⟩
  case round =>
    clear HQ1 HL HM
    obtain ⟨k, s, dv, ps, hk, rfl, HM, HQ, HL, HN⟩ := hrel
    by_cases hlt : k < L
    · obtain ⟨lg, u, rfl, hcell, hLn, hln⟩ : ∃ lg u, la = some ⟨lg, 0, none⟩ ∧ wr.cell? ⟨lg, k, none⟩ = some u ∧ Ln wr.heap.size wr u (ls.getD k []) ∧ (ls.getD k []).length ≤ 20000 := by
        obtain ⟨ps0, h1, h2, h3⟩ := HL.out
        have hkl : k < ps0.length := by have := HLE.out; rw [← h1] at this; simp at this; omega
        have hls9 : ls.getD k [] = (ps0[k]).2 := by rw [← h1]; simp [hkl]
        rcases h2.2 with ⟨h9, h8⟩ | ⟨lg, cap, cur, h9, hg, hh, _⟩
        · omega
        · simp only [Value.slice.injEq] at h9
          obtain ⟨rfl, h7, rfl⟩ := h9
          refine ⟨lg, (ps0[k]).1, rfl, ?_, by rw [hls9]; exact h3 _ (List.getElem_mem hkl), by rw [hls9]; exact HLM.out _ (by rw [← h1]; exact List.mem_map_of_mem (List.getElem_mem hkl))⟩
          rw [h7] at h2
          rw [(RowV.ofOwns h2).cell k (by simpa using hkl)]
          simp [hkl]
      have hkL : k < ls.length := by have := HLE.out; omega
      have HST := hid (HM.out.trans (linesF_step ls k s hkL))
      have hgd : ls[k] = ls.getD k [] := by simp [hkL]
      rw [hgd] at HST
      obtain ⟨x, hx⟩ : ∃ x, x = ls.getD k [] := ⟨_, rfl⟩
      rw [← hx] at HST hLn hln
      clear hx hgd HM
      obtain ⟨ua, um, uc, rfl⟩ : ∃ ua um uc, u = .slice ua um uc := by
        rcases hLn with ⟨rfl, _⟩ | ⟨g9, c9, rfl, _⟩
        · exact ⟨_, _, _, rfl⟩
        · exact ⟨_, _, _, rfl⟩
      have hC := sp_words _ x wr hLn (by omega)
      clear hLn
      go_wp2_with fail
      refine hC.mono ?_
      rintro e w2 ⟨qv, rfl, hws, hb2⟩
      have HQ2 := hid (HQ.out.below hb2)
      have HL2 := hid (HL.out.keep (K2.below hb2))
      have HWS := hid hws
      have hql := words_len x []
      have hqm := words_mem x []
      clear hC HQ HL hcell
      obtain ⟨q, hq⟩ : ∃ q, q = wordsM x [] := ⟨_, rfl⟩
      rw [← hq] at HWS hql hqm hws
      obtain ⟨qa, qn, qc, rfl, hqn⟩ := own_sl3 hws
      by_cases h0 : qn = 0
      · have h0' : ((qn : Int) == 0) = true := by rw [beq_iff_eq]; omega
        have HST2 := hid (show readM l = linesF (ls.drop (k + 1)) (k + 1) s by
          rw [HST.out, lineM, if_pos (by rw [← hq]; exact List.eq_nil_of_length_eq_zero (by omega))])
        have HQN := hid hqn
        clear HST hws hqn hb2 h0
        go_wp2_with fail
        go_roundw
        case rel => exact ⟨k + 1, s, dv, ps, by omega, by go_num, HST2, HQ2, HL2, hid HN.out.next⟩
        case measure => simp [intOf]; omega
      · have h0' : ((qn : Int) == 0) = false := by rw [beq_eq_false_iff_ne]; omega
        have hqne : ¬ wordsM x [] = [] := fun h => h0 (by rw [hqn, hq, h]; rfl)
        have hO := sp_op _ q _ w2 HWS.out (by omega) (by omega) (fun y hy => by have := hqm y hy; simp at this; omega)
        have hql2 : q.length ≤ 20001 := by omega
        have hqp : 0 < q.length := by omega
        have HQN := hid hqn
        have HQE := hid hq
        clear hws hb2 h0 hqn hq
        go_wp2_with fail
        refine hO.mono ?_
        rintro e w3 ⟨r, rfl, ⟨odv, cs, rfl, hcz, hcs⟩, hb3⟩
        have hw2 : w.heap.size ≤ w2.heap.size := HQ2.out.bel.size
        have HNW := hid (fun p (hp : p ∈ ps) r (hr : p.2.ownBlock = some r) => ((HQ2.out.res.dd p hp).lt r hr).2)
        have HQ3 := hid (HQ2.out.below hb3)
        have HL3 := hid (HL2.out.keep (K2.below hb3))
        have HWS3 := hid (show Ws wr.heap.size w3 (.slice qa qn qc) q from own_below HWS.out hb3)
        clear hO HQ2 HL2 HWS
        cases ho : opM q with
        | some o =>
          obtain ⟨rfl, hown⟩ := hcs o ho
          have hb4 : Below w3.heap.size w3 (w3.alloc (.cells (opC o odv).toArray 45)) := (Below.refl _ w3).alloc (Nat.le_refl _) _
          have HQ4 := hid (HQ3.out.below hb4)
          have HL4 := hid (HL3.out.keep (K2.below hb4))
          obtain ⟨v5, w5, e5, q5, k5⟩ := HQ4.out.opMore o odv w2.heap.size (own_below hown hb4) hw2 HNW.out (by have := HN.out.2.1; omega)
          have HST2 := hid (show readM l = linesF (ls.drop (k + 1)) (k + 1) { s with ops := s.ops ++ [o] } by rw [HST.out, lineM, if_neg hqne, ← HQE.out, ho])
          have HQ5 := hid q5
          have HL5 := hid (HL4.out.keep k5)
          have HBX : Hid ((w3.alloc (.cells (opC o odv).toArray 45)).heap[w3.heap.size]? = some (.cells (opC o odv).toArray 45 (0, 0))) := hid (al_last _ _)
          obtain ⟨oa, om, oc, rfl, hom⟩ := own_sl3 hown
          clear hom
          clear hcz hcs ho hown HQ3 HQ4 HL3 HL4 hb4 q5 k5 HST hqne
          unfold opC at e5 HBX ⊢
          go_upto_region 13 with fail
          obtain ⟨W4, hW4⟩ : ∃ W, W = (w3.alloc (.cells #[.int .i64 (o.kind : Int), .int .i64 (o.ref : Int), .int .u64 (o.p : Int), .int .u64 (o.a : Int), .int .u64 (o.b : Int), .slice oa om oc] 45)) := ⟨_, rfl⟩
          have e5' : (Builtin.append_ #[27, 27] 27 #[u6, .slice (some ⟨W4.heap.size, 0, none⟩) 1 1]).run Tryd.prog (W4.alloc (.cells #[.int .i64 (o.kind : Int), .int .i64 (o.ref : Int), .int .u64 (o.p : Int), .int .u64 (o.a : Int), .int .u64 (o.b : Int), .slice oa om oc] 45)) = .ok v5 w5 := by rw [hW4]; exact e5
          have HBX' : Hid (W4.heap[w3.heap.size]? = some (.cells #[.int .i64 (o.kind : Int), .int .i64 (o.ref : Int), .int .u64 (o.p : Int), .int .u64 (o.a : Int), .int .u64 (o.b : Int), .slice oa om oc] 45 (0, 0))) := by rw [hW4]; exact HBX
          refine Eq.mp (congrArg _ hW4) ?_
          clear hW4 e5 HBX
          generalize w3.heap.size = O9 at HBX' ⊢
          go_wp2_with (first | (at_builtin; refine list_app rfl (.tmp 38) (.tmp 40) (by with_reducible rfl) rfl rfl rfl e5' ?_) | (refine wpList_load_row rfl 45 _ rfl O9 rfl 45 _ (0, 0) _ HBX'.out Tryd.underlying45 rfl (by kernel_rfl) ?_))
          go_roundw
          case rel => exact ⟨k + 1, _, _, _, by omega, by go_num, HST2, HQ5, HL5, hid (by rw [List.length_append]; exact HN.out.op o)⟩
          case measure => simp [intOf]; omega
        | none =>
          obtain rfl := hcz ho
          have hb4 : Below w3.heap.size w3 (w3.alloc (.cells zeroC.toArray 45)) := (Below.refl _ w3).alloc (Nat.le_refl _) _
          have HQ4 := hid (HQ3.out.below hb4)
          have HL4 := hid (HL3.out.keep (K2.below hb4))
          have HWS4 := hid (show Ws wr.heap.size (w3.alloc (.cells zeroC.toArray 45)) (.slice qa qn qc) q from own_below HWS3.out hb4)
          have hS := sp_set s.cf dv (.slice qa qn qc) q wr.heap.size w.heap.size (w3.alloc (.cells zeroC.toArray 45)) HWS4.out hqp (by omega) (fun y hy => by have := hqm y hy; simp at this; omega) HQ4.out.res.dt HQ4.out.bel.size (HN.out.dr (by omega))
          have HBC : Hid ((w3.alloc (.cells zeroC.toArray 45)).heap[C]? = some (.cells (cfC s.cf dv).toArray 26 (0, 0))) := hid HQ4.out.bx
          have HST2 := hid (show readM l = linesF (ls.drop (k + 1)) (k + 1) (match setM s.cf q with | some c => { s with cf := c } | none => { s with bad := s.bad ++ [((k + 1 : Nat) : Int)] }) by rw [HST.out, lineM, if_neg hqne, ← HQE.out, ho]; cases setM s.cf q <;> rfl)
          clear hcz hcs ho HQ3 HL3 hb4 HST hqne HNW HWS3
          unfold zeroC
          go_upto_region 15 with fail
          obtain ⟨W4, hW4⟩ : ∃ W, W = (w3.alloc (.cells zeroC.toArray 45)) := ⟨_, rfl⟩
          rw [← hW4] at hS HBC HQ4 HL4
          refine Eq.mp (congrArg _ hW4) ?_
          clear hW4 HWS4
          obtain ⟨da, dm, dc, rfl, hdm⟩ := own_sl3 HQ4.out.res.dt
          clear hdm
          go_wp2_with (refine wpList_load_row rfl 26 _ rfl C rfl 26 _ (0, 0) _ HBC.out Tryd.underlying26 rfl (by kernel_rfl) ?_)
          refine hS.mono ?_
          rintro e w6 ⟨r, rfl, ⟨dv6, rfl, hd6, hor6⟩, hb6⟩
          have HB6 : Hid (w6.heap[C]? = some (.cells (cfC s.cf (.slice da dm dc)).toArray 26 (0, 0))) := hid ((HQ4.out.below hb6).bx)
          have HQ6 := hid (HQ4.out.cfMore hb6 _ hd6 hor6)
          have HL6 := hid (HL4.out.keep ((K2.below hb6).trans (K2.row (HQ4.out.below hb6).bx (by decide) (cfC ((setM s.cf q).getD s.cf) dv6).toArray)))
          obtain ⟨ea, em, ec, rfl, hem⟩ := own_sl3 hd6
          clear hem hd6 hor6 hb6 hS HBC HQ4 HL4
          cases hset : setM s.cf q with
          | some c6 =>
            rw [hset] at HST2 HQ6 HL6
            have HST3 := hid (show readM l = linesF (ls.drop (k + 1)) (k + 1) { s with cf := c6 } from HST2.out)
            have HBN := hid (HN.out.cf hql2 hset)
            have HQ7 := hid (show Rq w (w6.setRow C (cfC c6 (.slice ea em ec)).toArray) C w.heap.size { s with cf := c6 } (.slice ea em ec) u6 u7 ps from HQ6.out)
            have HL7 := hid (show Lns BL (w6.setRow C (cfC c6 (.slice ea em ec)).toArray) (.slice (some ⟨lg, 0, none⟩) L lc) ls from HL6.out)
            clear hset HST2 HQ6 HL6
            simp only [Option.getD_some, Option.isSome_some]
            go_upto_region 16 with (refine wpList_store_row rfl 26 _ _ rfl C _ rfl rfl 26 _ HB6.out (by kernel_rfl) rfl (cf_one _ _ _ _) ?_)
            obtain ⟨W7, hW7⟩ : ∃ W, W = w6.setRow C (cfC c6 (.slice ea em ec)).toArray := ⟨_, rfl⟩
            rw [← hW7] at HQ7 HL7
            refine Eq.mp (congrArg _ hW7) ?_
            clear hW7
            go_wp2_with fail
            go_roundw
            case rel => exact ⟨k + 1, _, _, _, by omega, by go_num, HST3, HQ7, HL7, HBN⟩
            case measure => simp [intOf]; omega
          | none =>
            rw [hset] at HST2 HQ6 HL6
            have HQ7 := hid (show Rq w (w6.setRow C (cfC s.cf (.slice ea em ec)).toArray) C w.heap.size s (.slice ea em ec) u6 u7 ps from HQ6.out)
            have HL7 := hid (show Lns BL (w6.setRow C (cfC s.cf (.slice ea em ec)).toArray) (.slice (some ⟨lg, 0, none⟩) L lc) ls from HL6.out)
            have HST3 := hid (show readM l = linesF (ls.drop (k + 1)) (k + 1) { s with bad := s.bad ++ [((k + 1 : Nat) : Int)] } from HST2.out)
            clear hset HST2 HQ6 HL6
            simp only [Option.getD_none, Option.isSome_none]
            go_upto_region 17 with (refine wpList_store_row rfl 26 _ _ rfl C _ rfl rfl 26 _ HB6.out (by kernel_rfl) rfl (cf_one _ _ _ _) ?_)
            obtain ⟨W7, hW7⟩ : ∃ W, W = w6.setRow C (cfC s.cf (.slice ea em ec)).toArray := ⟨_, rfl⟩
            rw [← hW7] at HQ7 HL7
            refine Eq.mp (congrArg _ hW7) ?_
            clear hW7
            obtain ⟨v8, w8, e8, q8, k8⟩ := HQ7.out.badMore ((k + 1 : Nat) : Int) (by have := HN.out.2.2; omega)
            have e8' : (Builtin.append_ #[24, 24] 24 #[u7, .slice (some ⟨W7.heap.size, 0, none⟩) 1 1]).run Tryd.prog (W7.alloc (.cells #[.int .i64 ((k : Int) + 1)] 3)) = .ok v8 w8 := e8
            have HQ8 := hid q8
            have HL8 := hid (HL7.out.keep k8)
            have HBN := hid (HN.out.bad ((k + 1 : Nat) : Int))
            clear e8 q8 k8 HQ7 HL7
            go_wp2_with (at_builtin; refine list_app rfl (.tmp 50) (.tmp 53) (by with_reducible rfl) rfl rfl rfl e8' ?_)
            go_roundw
            case rel => exact ⟨k + 1, _, _, _, by omega, by go_num, HST3, HQ8, HL8, HBN⟩
            case measure => simp [intOf]; omega
    · have HE := hid (show readM l = s by rw [HM.out, List.drop_eq_nil_of_le (by have := HLE.out; omega)]; rfl)
      obtain ⟨da, dm, dc, rfl, hdm⟩ := own_sl3 HQ.out.res.dt
      have HR : Hid (wr.heap[w.heap.size]? = some (.cells zeroF.toArray 26 (0, 0))) := hid HQ.out.r
      have HO : Hid (wr.heap[C]? = some (.cells (cfC s.cf (.slice da dm dc)).toArray 26 (0, 0))) := hid HQ.out.bx
      have HRR := hid (setRow_heap wr w.heap.size _ (cfC s.cf (.slice da dm dc)).toArray 26 (0, 0) HR.out)
      have HBB := hid (below_setRow HQ.out.bel (Nat.le_refl _) (cfC s.cf (.slice da dm dc)).toArray)
      have HRS := hid (show Res w.heap.size (wr.setRow w.heap.size (cfC s.cf (.slice da dm dc)).toArray) s (.slice da dm dc) u6 u7 ps from by
        have hk := K2.row HQ.out.r (by decide) (cfC s.cf (.slice da dm dc)).toArray
        exact ⟨own_setRow HQ.out.res.dt (HQ.out.r.apart HQ.out.res.dt (by decide)) _, own_setRow HQ.out.res.op (HQ.out.r.apart HQ.out.res.op (by decide)) _, HQ.out.res.eq, fun p hp => hk.own (HQ.out.res.dd p hp) (by decide), own_setRow HQ.out.res.bdo (HQ.out.r.apart HQ.out.res.bdo (by decide)) _, HQ.out.res.ap, HQ.out.res.pw⟩)
      clear HQ HL HM hdm HN
      go_upto_region 19 with fail
      go_wp2_with (first | (refine wpList_load_row rfl 26 _ rfl C rfl 26 _ (0, 0) _ HO.out Tryd.underlying26 rfl (by kernel_rfl) ?_) | (refine wpList_store_row rfl 26 _ _ rfl _ _ rfl rfl 26 _ HR.out (by kernel_rfl) rfl (cf_one _ _ _ _) ?_))
      refine bodyPost_ret (results_row3 (by rfl) _ _ w.heap.size 26 _ (0, 0) _ (by rfl) HRR.out Tryd.underlying26 rfl (by kernel_rfl)) (by rfl) ?_
      rw [HE.out]
      exact ⟨_, _, _, _, rfl, HRS.out, HBB.out⟩
end Go.Proofs.YtcefihmnnndleaaDoor
