import Derived.Test.YtcefihmnnndleaaDoorNuH
import Derived.Test.YtcefihmnnndleaaDoorScN
namespace Go.Proofs.YtcefihmnnndleaaDoor
open Go.ChangeShapes Go.WideShapes Go.ChangeAt Go.RowKit
set_option linter.unusedVariables false
set_option maxRecDepth 20000

/-- all below B stays, but block S -/
structure Gb (B S : Nat) (w w' : World) : Prop where
  os : w'.os = w.os
  tape : w'.tape = w.tape
  out : w'.output = w.output
  size : w.heap.size ≤ w'.heap.size
  block : ∀ k, k < B → k ≠ S → w'.heap[k]? = w.heap[k]?
theorem Gb.refl (B S : Nat) (w : World) : Gb B S w w := ⟨rfl, rfl, rfl, Nat.le_refl _, fun _ _ _ => rfl⟩
theorem Gb.trans {B S : Nat} {a b c : World} (h : Gb B S a b) (k : Gb B S b c) : Gb B S a c := ⟨k.os.trans h.os, k.tape.trans h.tape, k.out.trans h.out, Nat.le_trans h.size k.size, fun i hi hne => (k.block i hi hne).trans (h.block i hi hne)⟩
theorem Gb.below {B S : Nat} {w w' : World} (h : Below w.heap.size w w') (hB : B ≤ w.heap.size) : Gb B S w w' := ⟨h.os, h.tape, h.output, h.size, fun k hk _ => h.block k (by omega)⟩
theorem Gb.set {B S : Nat} {a w : World} (h : Gb B S a w) (i : Nat) (v : Value) : Gb B S a (w.setCell ⟨S, i, none⟩ v) := h.trans ⟨rfl, rfl, rfl, by simp [World.setCell], fun k _ hne => Below.heap_setCell _ _ _ _ hne⟩
theorem Gb.grown {B S : Nat} {a w w' : World} {v : Value} (h : Gb B S a w) (g : w.grownBy w' v.ownBlock) (hv : ∀ r, v.ownBlock = some r → B ≤ r) (hB : B ≤ w.heap.size) : Gb B S a w' := h.trans ⟨g.os, g.tape, g.output, g.size, fun k hk _ => g.block k (by omega) (fun e => by have := hv k e.symm; omega)⟩
theorem Gb.cell {B S : Nat} {w w' : World} (h : Gb B S w w') {a : Addr} (hB : a.block < B) (hne : a.block ≠ S) : w'.cell? a = w.cell? a := by
  have := h.block a.block hB hne
  unfold World.cell?
  rw [this]
/-- a script that is being read -/
structure Ss (B S : Nat) (W : World) (s : RdS) (dv ov bd : Value) (ps : List (OpS × Value)) : Prop where
  bx : Bx W S 57 (cfC s.cf dv ++ [ov, bd])
  res : Res B W s dv ov bd ps
  sb : S < B
  bw : B ≤ W.heap.size
theorem Ss.below {B S : Nat} {W W' : World} {s : RdS} {dv ov bd : Value} {ps : List (OpS × Value)} (h : Ss B S W s dv ov bd ps) (hb : Below W.heap.size W W') : Ss B S W' s dv ov bd ps :=
  ⟨h.bx.below hb h.bx.lt, h.res.below hb, h.sb, Nat.le_trans h.bw hb.size⟩
/-- what an order leaves -/
def OrdP (B S : Nat) (a1 : Addr) (w w' : World) (s : RdS) (r : Option RdS) (e : Ending) : Prop := Gb B S w w' ∧ match r with
  | some s' => e = .returned .nilIface ∧ ∃ dv ov bd ps, Ss B S w' s' dv ov bd ps
  | none => (∃ v, e = .returned v ∧ Ue a1 v) ∧ ∃ dv ov bd ps, Ss B S w' s dv ov bd ps
theorem OrdP.no {B S : Nat} {a1 : Addr} {w w' : World} {s : RdS} {v : Value} (g : Gb B S w w') (hu : Ue a1 v) {dv ov bd : Value} {ps : List (OpS × Value)} (h : Ss B S w' s dv ov bd ps) : OrdP B S a1 w w' s none (.returned v) := ⟨g, ⟨v, rfl, hu⟩, dv, ov, bd, ps, h⟩
theorem OrdP.yes {B S : Nat} {a1 : Addr} {w w' : World} {s s' : RdS} (g : Gb B S w w') {dv ov bd : Value} {ps : List (OpS × Value)} (h : Ss B S w' s' dv ov bd ps) : OrdP B S a1 w w' s (some s') (.returned .nilIface) := ⟨g, rfl, dv, ov, bd, ps, h⟩
/-- a cell of the shape turns -/
theorem Ss.cf {B S : Nat} {W : World} {s : RdS} {dv ov bd : Value} {ps : List (OpS × Value)} (h : Ss B S W s dv ov bd ps) (i : Nat) (v : Value) (c' : CfS) (hd : c'.draws = s.cf.draws) (hc : (cfC s.cf dv ++ [ov, bd]).set i v = cfC c' dv ++ [ov, bd]) :
    Ss B S (W.setCell ⟨S, i, none⟩ v) { s with cf := c' } dv ov bd ps := by
  have b1 := h.bx.set i v
  rw [hc] at b1
  exact ⟨b1, ⟨hd ▸ own_set h.res.dt (h.bx.apart h.res.dt (by decide)) v, own_set h.res.op (h.bx.apart h.res.op (by decide)) v, h.res.eq, fun p hp => own_set (h.res.dd p hp) (h.bx.apart (h.res.dd p hp) (by decide)) v, own_set h.res.bdo (h.bx.apart h.res.bdo (by decide)) v, h.res.ap, h.res.pw⟩, h.sb, by have := h.bw; simp [World.setCell]; exact this⟩
def keyO (s : RdS) (ws : List (List UInt8)) : Option RdS := if ws.length = 1 then (keyM (ws.getD 0 [])).map (fun k : Nat => { s with cf := { s.cf with key := k } }) else none
set_option maxHeartbeats 1000000 in
theorem im_setKey (B S : Nat) (a1 : Addr) (sa : Option Addr) (m c : Nat) (ws : List (List UInt8)) (s : RdS) (dv ov bd : Value) (ps : List (OpS × Value)) (w : World) (hs : Ss B S w s dv ov bd ps) (hm : m = ws.length) (hw : Wd w sa ws) (hml : m ≤ 1048576) (hwl : ∀ x ∈ ws, x.length ≤ 1048576) (h1 : w.cell? ⟨1, 0, none⟩ = some (.iface 141 (.pointer (some a1)))) :
    Calls Tryd.prog 37 #[.pointer (some ⟨S, 0, none⟩), .slice sa m c] w fun e w' => OrdP B S a1 w w' s (keyO s ws) e := by
  have HS := hid hs
  by_cases h0 : m = 1
  · have h0' : ((m : Int) != 1) = false := by simp; omega
    have hl1 : ws.length = 1 := by omega
    obtain ⟨g, off, rfl, hcell⟩ : ∃ g off, sa = some ⟨g, off, none⟩ ∧ w.cell? ⟨g, off + 0, none⟩ = some (.string (bs (ws.getD 0 []))) := by
      rcases hw with h9 | ⟨g, off, h9, h8⟩
      · rw [h9] at hl1; cases hl1
      · exact ⟨g, off, h9, h8 0 (by omega)⟩
    have hwk : (ws.getD 0 []).length ≤ 1048576 := by
      have : ws.getD 0 [] = ws[0] := by simp [hl1]
      rw [this]; exact hwl _ (List.getElem_mem _)
    have HK := hid (show keyO s ws = (keyM (ws.getD 0 [])).map (fun k : Nat => { s with cf := { s.cf with key := k } }) by rw [keyO, if_pos hl1])
    obtain ⟨wl, hwlE⟩ : ∃ l, l = ws.getD 0 [] := ⟨_, rfl⟩
    rw [← hwlE] at hcell hwk HK
    obtain ⟨wS, hwS⟩ : ∃ s, s = bs wl := ⟨_, rfl⟩
    rw [← hwS, Nat.add_zero] at hcell
    have hws : wS.size ≤ 1048576 := by rw [hwS, bs_size]; exact hwk
    have hwd : wS.data.toList = wl := by rw [hwS, bs_list]
    have hm1 : 0 < m := by omega
    have HM := hid hm
    clear hwS hwk hwlE hl1 hm h0 hw hwl hs
    cases hn : keyM wl with
    | none =>
      have hC := im_number_n wS 16 16 a1 w hws (by omega) (by omega) (by omega) h1 (by rw [hwd]; exact hn)
      unfold wE at hC
      have HN := hid (show keyO s ws = none by rw [HK.out, hn]; rfl)
      clear hn HK
      go_enter Tryd.func37, Tryd.ntmps37
      go_wp2_with fail
      refine hC.mono ?_
      rintro e w1 ⟨rfl, hb⟩
      have H1 := hid (HS.out.below hb)
      clear hC
      go_wp2_with fail
      go_ret
      rw [HN.out]
      exact OrdP.no (Gb.below hb HS.out.bw) (.inr ⟨_, rfl⟩) H1.out
    | some k =>
      have hC := im_number_s wS 16 16 k a1 w hws (by omega) (by omega) (by omega) h1 (by rw [hwd]; exact hn)
      have HN := hid (show keyO s ws = some { s with cf := { s.cf with key := k } } by rw [HK.out, hn]; rfl)
      clear hn HK
      go_enter Tryd.func37, Tryd.ntmps37
      go_wp2_with fail
      refine hC.mono ?_
      rintro e w1 ⟨rfl, hb⟩
      have h1s := HS.out.below hb
      have H2 := hid (h1s.cf 4 (.int .u64 (k : Int)) { s.cf with key := k } rfl rfl)
      have c4 : w1.cell? ⟨S, 4, none⟩ = some (.int .u64 (s.cf.key : Int)) := h1s.bx.cell 4
      have f4 := h1s.bx.free 4
      generalize s.cf.key = k9 at c4
      clear hC h1s
      go_wp2_with fail
      go_ret
      rw [HN.out]
      exact OrdP.yes ((Gb.below hb HS.out.bw).set 4 _) H2.out
  · have h0' : ((m : Int) != 1) = true := by simp; omega
    have HN := hid (show keyO s ws = none by rw [keyO, if_neg (by omega)])
    clear hm h0 hs
    go_enter Tryd.func37, Tryd.ntmps37
    go_wp2_with fail
    go_ret
    rw [HN.out]
    exact OrdP.no (Gb.refl _ _ _) (.inl rfl) HS.out
def drawO (s : RdS) (ws : List (List UInt8)) : Option RdS := (intsM ws).map (fun ns => { s with cf := { s.cf with draws := s.cf.draws ++ ns } })
/-- all of an owned row is put behind another: and where it lies then -/
theorem appP {T e : TypeId} {z : Value} {sz bb : Nat} (S : Sl1 T e z sz bb) {W : World} {B : Nat} {v : Value} {n : Nat} {xs : List Value} (hown : W.ownsRow B e sz v n xs) (hB : B ≤ W.heap.size)
    {B2 : Nat} {v2 : Value} {m : Nat} {ys : List Value} (h2 : W.ownsRow B2 e sz v2 m ys) (h1 : ∀ u ∈ ys, u.oneCell' = true) (hn : n + m ≤ 2000000000) :
    ∃ v' w', (Builtin.append_ #[T, T] T #[v, v2]).run Tryd.prog W = .ok v' w' ∧ w'.ownsRow B e sz v' (n + m) (xs ++ ys) ∧ W.grownBy w' v.ownBlock ∧ (v'.ownBlock = v.ownBlock ∨ v'.ownBlock = some W.heap.size) := by
  rcases h2.2 with ⟨rfl, h0⟩ | ⟨g, cap, cur, rfl, hg, hh, h3, h4, h5, h6⟩
  · subst h0
    have hy : ys = [] := List.eq_nil_of_length_eq_zero (by rw [h2.1]; simp)
    subst hy
    obtain ⟨i0, hi0, hz0, hz1, hz2⟩ := info_parts S.info
    subst hz1
    refine ⟨v, W, run_append_owned_none (P := Tryd.prog) (w := W) B T T e i0 _ S.und hi0 v _ _ hown, by simpa using hown, ⟨rfl, rfl, rfl, Nat.le_refl _, fun _ _ _ => rfl⟩, .inl rfl⟩
  · obtain ⟨i0, hi0, hz0, hz1, hz2⟩ := info_parts S.info
    have hbb : (n + m) * bb ≤ 2000000000 * 100 := Nat.mul_le_mul hn S.small
    obtain ⟨v', w', e1, e2, e3, _, e5⟩ := run_append_own_at (P := Tryd.prog) W B T T e i0 _ sz bb S.und hi0 hz0 hz1 hz2 S.cells S.pos v n _ hown ⟨g, 0, none⟩ m cap ys h2.1 (fun j u hj => by
      have hj' := (List.getElem?_eq_some_iff.1 hj).1
      rw [Addr.add_mid, Nat.zero_add, cell_of_row _ _ j _ _ _ hh, ← hj, ← h6, List.getElem?_take_of_lt (by rw [← h2.1]; exact hj'), Array.getElem?_toList]) h1 (by unfold maxLen; omega) (by omega) hB
    exact ⟨v', w', e1, e2, e3, e5⟩
theorem apart_sym {v1 v2 : Value} (h : ∀ r, v1.ownBlock = some r → v2.ownBlock ≠ some r) : ∀ r, v2.ownBlock = some r → v1.ownBlock ≠ some r := fun r e h2 => h r h2 e
theorem Ss.draw {B S : Nat} {W : World} {s : RdS} {dv ov bd : Value} {ps : List (OpS × Value)} (h : Ss B S W s dv ov bd ps) {B2 : Nat} {nv : Value} {ns : List Int} (hn : W.ownsRow B2 3 1 nv ns.length (iv ns)) (hd : s.cf.draws.length + ns.length ≤ 2000000000) :
    ∃ v' W', (Builtin.append_ #[24, 24] 24 #[dv, nv]).run Tryd.prog W = .ok v' W' ∧ Bx W' S 57 (cfC s.cf dv ++ [ov, bd]) ∧ Gb B S W W' ∧ (∃ a m c, v' = .slice a m c) ∧ Ss B S (W'.setCell ⟨S, 5, none⟩ v') { s with cf := { s.cf with draws := s.cf.draws ++ ns } } v' ov bd ps := by
  obtain ⟨v', W', e1, o1, g1, e5⟩ := appP slIn h.res.dt h.bw hn (iv_one _) hd
  have b1 := h.bx.grown g1 (h.bx.apart h.res.dt (by decide))
  have hg := (Gb.refl B S W).grown g1 (fun r e => (h.res.dt.lt r e).1) h.bw
  have hk : K2 W W' := K2.grown g1 h.res.dt (by decide)
  obtain ⟨a, m, c, hv, _⟩ := own_sl3 o1
  have o2 : W'.ownsRow B 3 1 v' (s.cf.draws ++ ns).length (iv (s.cf.draws ++ ns)) := by
    rw [show iv (s.cf.draws ++ ns) = iv s.cf.draws ++ iv ns by simp [iv], List.length_append]; exact o1
  have hop := h.res.op.kept g1 (own_apart h.res.op h.res.dt (by decide))
  have hbd := h.res.bdo.kept g1 (apart_of (apart_sym h.res.ap))
  refine ⟨v', W', e1, b1, hg, ⟨a, m, c, hv⟩, ⟨by simpa [cfC] using b1.set 5 v', ⟨own_set o2 (b1.apart o2 (by decide)) v', own_set hop (b1.apart hop (by decide)) v', h.res.eq, fun p hp => ?_, own_set hbd (b1.apart hbd (by decide)) v', ?_, h.res.pw⟩, h.sb, ?_⟩⟩
  · have := hk.own (h.res.dd p hp) (by decide)
    exact own_set this (b1.apart this (by decide)) v'
  · intro r hr h2
    rcases e5 with e5 | e5
    · exact h.res.ap r (e5 ▸ hr) h2
    · rw [e5] at hr
      cases hr
      have := (h.res.bdo.lt _ h2).2
      omega
  · have := h.bw; have := g1.size; simp [World.setCell]; omega
set_option maxHeartbeats 1000000 in
theorem im_addDraws (B S : Nat) (a1 : Addr) (sa : Option Addr) (m c : Nat) (ws : List (List UInt8)) (s : RdS) (dv ov bd : Value) (ps : List (OpS × Value)) (w : World) (hs : Ss B S w s dv ov bd ps) (hm : m = ws.length) (hw : Wd w sa ws) (hml : m ≤ 1048576) (hwl : ∀ x ∈ ws, x.length ≤ 1048576) (h1 : w.cell? ⟨1, 0, none⟩ = some (.iface 141 (.pointer (some a1)))) (hdl : s.cf.draws.length ≤ 1000000000) :
    Calls Tryd.prog 38 #[.pointer (some ⟨S, 0, none⟩), .slice sa m c] w fun e w' => OrdP B S a1 w w' s (drawO s ws) e := by
  have hI := im_integers sa m c ws a1 w hm hw hml hwl h1
  have HS := hid hs
  have hnl := fun ns => intsM_len ws ns
  have HM := hid hm
  clear hw hwl hs hm
  cases hi : intsM ws with
  | none =>
    rw [hi] at hI
    have HN := hid (show drawO s ws = none by rw [drawO, hi]; rfl)
    clear hi hnl
    go_enter Tryd.func38, Tryd.ntmps38
    go_wp2_with fail
    refine hI.mono ?_
    rintro e w1 ⟨hb, v, rfl, hu⟩
    have H1 := hid (HS.out.below hb)
    clear hI
    rcases hu with rfl | ⟨s9, rfl⟩
    · go_wp2_with fail
      go_ret
      rw [HN.out]
      exact OrdP.no (Gb.below hb HS.out.bw) (.inl rfl) H1.out
    · unfold wE
      go_wp2_with fail
      go_ret
      rw [HN.out]
      exact OrdP.no (Gb.below hb HS.out.bw) (.inr ⟨s9, rfl⟩) H1.out
  | some ns =>
    rw [hi] at hI
    have HN := hid (show drawO s ws = some { s with cf := { s.cf with draws := s.cf.draws ++ ns } } by rw [drawO, hi]; rfl)
    have hnl2 : ns.length ≤ 1048576 := by rw [hnl ns hi, ← HM.out]; exact hml
    clear hi hnl
    go_enter Tryd.func38, Tryd.ntmps38
    go_wp2_with fail
    refine hI.mono ?_
    rintro e w1 ⟨hb, nv, rfl, hown⟩
    have h1s := HS.out.below hb
    obtain ⟨v2, w2, e2, b2, g2, ⟨ea, em, ec, rfl⟩, s2⟩ := h1s.draw hown (by omega)
    have S2 := hid s2
    have G2 := hid (((Gb.below hb HS.out.bw).trans g2).set 5 (.slice ea em ec))
    obtain ⟨da, dm, dc, rfl, hdm⟩ := own_sl3 h1s.res.dt
    obtain ⟨na, nm, nc, rfl, hnm⟩ := own_sl3 hown
    have c5 : w1.cell? ⟨S, 5, none⟩ = some (.slice da dm dc) := h1s.bx.cell 5
    have c5b : w2.cell? ⟨S, 5, none⟩ = some (.slice da dm dc) := b2.cell 5
    have f5 := b2.free 5
    clear hI h1s b2 g2 s2 hown hdm hnm
    go_wp2_with (at_builtin; refine list_app rfl (.tmp 20) (.tmp 21) (by with_reducible rfl) rfl rfl rfl e2 ?_)
    go_ret
    rw [HN.out]
    exact OrdP.yes G2.out S2.out
end Go.Proofs.YtcefihmnnndleaaDoor
