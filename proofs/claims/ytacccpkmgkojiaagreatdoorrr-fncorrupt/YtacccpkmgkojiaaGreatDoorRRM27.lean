import Derived.Below
import Derived.BigGuardIn
import Derived.BigQuiet
import Derived.BigRegionIn
import Derived.Conc.MuLone
import Derived.Deep.AppendLies
import Derived.Deep.CutBlock
import Derived.Deep.DeepCutAuto
import Derived.Deep.LoopGhost
import Derived.Deep.MidRow
import Derived.Deep.OwnRows
import Derived.Deep.QuietTactic
import Derived.Deep.RegionHeld
import Derived.Deep.RegionLaw
import Derived.Deep.RegionWith
import Derived.KernelRfl
import Derived.Laws.BytesString
import Derived.Laws.CopyOwn
import Derived.Laws.OwnMore
import Derived.Laws.Rows
import Derived.Laws.Tables
import Derived.Lib.SliceRun
import Derived.Lib.SmallJoins
import Derived.LoopIn
import Derived.LoopNIn
import Derived.Maps.OwnOps
import Derived.Maps.OwnSet
import Derived.Maps.RangeWalk
import Derived.OpenShut
import Derived.OrdersHeld
import Derived.OwnWalkIn
import Derived.ProofKit
import Derived.RangeFuncBound
import Derived.RangeFuncCalls
import Derived.RangeFuncLeaves
import Derived.RangeFuncNested
import Derived.Shelf.Abstract
import Derived.Shelf.Bits.Mul64
import Derived.Shelf.RegionOpen
import Derived.TacticsInMore
import Derived.Test.YtacccpkmgkojiaaGreatDoorRRProg
import Derived.WalkKit
import Derived.WalkLawsBesides
import Derived.Test.YtacccpkmgkojiaaGreatDoorRRM00
import Derived.Test.YtacccpkmgkojiaaGreatDoorRRM01
import Derived.Test.YtacccpkmgkojiaaGreatDoorRRM02
import Derived.Test.YtacccpkmgkojiaaGreatDoorRRM04
import Derived.Test.YtacccpkmgkojiaaGreatDoorRRM05
import Derived.Test.YtacccpkmgkojiaaGreatDoorRRM06
import Derived.Test.YtacccpkmgkojiaaGreatDoorRRM07
import Derived.Test.YtacccpkmgkojiaaGreatDoorRRM08
import Derived.Test.YtacccpkmgkojiaaGreatDoorRRM09
import Derived.Test.YtacccpkmgkojiaaGreatDoorRRM10
import Derived.Test.YtacccpkmgkojiaaGreatDoorRRM14
import Derived.Test.YtacccpkmgkojiaaGreatDoorRRM15
import Derived.Test.YtacccpkmgkojiaaGreatDoorRRM17
import Derived.Test.YtacccpkmgkojiaaGreatDoorRRM18
import Derived.Test.YtacccpkmgkojiaaGreatDoorRRM19
import Derived.Test.YtacccpkmgkojiaaGreatDoorRRM20
import Derived.Test.YtacccpkmgkojiaaGreatDoorRRM22
import Derived.Test.YtacccpkmgkojiaaGreatDoorRRM24
import Derived.Test.YtacccpkmgkojiaaGreatDoorRRM26
namespace Go.Proofs.YtacccpkmgkojiaaGreatDoorRR
set_option linter.unusedVariables false
set_option linter.unusedSimpArgs false
set_option maxRecDepth 20000
set_option maxHeartbeats 8000000
open Go.RowKit Go.Maps
theorem room_free {cf:Cf} {h:Hs} (i:Inv cf h) {s g p:Nat} (hr:roomL h (g+p+1)=some s):(∀ j,j < p→(h.m (s+g+j)).isSome=false)∧(h.rg.any fun r=>r.base==(s+g)*1024)=false:=by
 obtain⟨r1,r2,r3⟩:=room_in hr;constructor
 ·intro j hj
  cases hk:(h.m (s+g+j)).isSome with
  | false=>rfl
  | true =>
   obtain⟨r,hr,_,h1,h2⟩:=(i.big _ (by omega)).1 hk;have:=r3 r hr;have he:r.ext=r.guards+r.pages+1:=rfl;omega
 cases hk:(h.rg.any fun r=>r.base==(s+g)*1024) with
 | false=>rfl
 | true =>
  obtain⟨r,hr,hb⟩:=List.any_eq_true.1 hk;have hb':(r.first+r.guards)*1024=(s+g)*1024:=by simpa [Rg9.base] using hb
  have:=r3 r hr;have he:r.ext=r.guards+r.pages+1:=rfl;omega
theorem cov_filter (s g p:Nat) (st rq:Int) (l:List Nat):(l.filter fun x => !cov ⟨s,g,p,st,rq⟩ x)=l.filter fun b=>b/1024 < s || s+(g+p+1)≤b/1024:=by
 congr 1
 funext x
 have he:(⟨s,g,p,st,rq⟩:Rg9).ext=g+p+1:=rfl;unfold cov;rw [he];dsimp only
 by_cases h1:s≤x/1024 <;> by_cases h2:x/1024 < s+(g+p+1) <;> simp [h1,h2] <;> omega
theorem ror9 {W W':World} {o:Option Nat} {e:Ending} (h:RoR W o e W'):(∃ s:Nat,e=.returned (Vi (s:Nat))∧o=some s∧Below W.heap.size W W')∨(e=.panicked (refV 1)∧o=none∧Below W.heap.size W W'):=by
 cases h with
 | yes s _ b=>exact .inl ⟨s,rfl,rfl,b⟩
 | no _ b=>exact .inr ⟨rfl,rfl,b⟩
theorem one_of {W:World} {g:Nat} {v:Value} {t:TypeId} (h:W.heap[g]?=some (.cells #[v] t (0,0))):W.cell? ⟨g,0,none⟩=some v:=by rw [cell_of_row _ _ _ _ _ _ h];rfl
theorem lc_of {g:Nat} {r:Rg9} {W:World} (h:W.heap[g]?=some (.cells (lgC r) 188 (0,0))) (h1:r.first≤300) (h2:r.guards≤3) (h3:r.pages≤18014398509481984):Lc g r W:=by
 refine⟨?_,?_,?_,?_,?_,h1,h2,h3⟩ <;> rw [cell_of_row _ _ _ _ _ _ h] <;> rfl
theorem pagesN_max {a:Nat} (h:a < 18446744073709551616):pagesN a≤18014398509481984:=by
 unfold pagesN
 split <;> omega
theorem im_takeRange (B : Nat) (y : Ly) (d : Dy) (cf : Cf) (h : Hs) (an : Value) (a : Nat) (W : World) (hp : Hp B y d cf h W) (gd : Gd d h an) (i : Inv cf h) (ha : 1016 < a) (ha2 : a < 18446744073709551616) (hu : h.used + 2000 ≤ 1000000) (dk : Dok cf) (hf : h.rg.length < 4096) (hrl : h.rel.length ≤ 100000) :
    Calls Tryz.prog 91 #[.pointer (some ⟨y.P, 0, none⟩), .int .u64 (a : Nat)] W (TaW B y cf an d.lg W (mallocM cf h a)) := by
  have HMM := hid (mallocM_large cf h ha)
  obtain ⟨mres, hmres⟩ : ∃ mres, mallocM cf h a = mres := ⟨_, rfl⟩
  rw [hmres] at HMM ⊢
  clear hmres
  have HP0 := hid hp
  have GD0 := hid gd
  have I0 := hid i
  have DR := hid (fun V (hV : Below W.heap.size W V) => im_draw B y d cf h 3 V (hp.below hV) (by omega) (by omega) (by omega) dk.len)
  have PF := hid (fun V => im_pagesFor a V ha2)
  clear hp gd i
  go_enter Tryz.func91, Tryz.ntmps91
  go_wp2_with fail
  have bV0 : Below W.heap.size W (W.alloc (.cells #[.pointer (some ⟨y.P, 0, none⟩)] 77)) := (Below.refl _ _).alloc (Nat.le_refl _) _
  have x0 := al_last W (.cells #[.pointer (some ⟨y.P, 0, none⟩)] 77)
  refine (DR.out _ bV0).mono ?_
  rintro e V1 ⟨rfl, hp1, b1⟩
  have hdl : dr cf h 3 < 3 := by
    unfold dr
    omega
  have HP1 := hid hp1
  have BI1 := hid (Bi.trans (Bi.ofBelow bV0 HP0.out.bW) b1)
  have X2 := hid (show V1.heap[W.heap.size]? = some (.cells #[.pointer (some ⟨y.P, 0, none⟩)] 77 (0, 0)) from b1.ky.cells _ _ _ _ x0 (by unfold hI; decide))
  generalize hX2e : W.heap.size = x2 at *
  clear hp1 b1 x0 bV0 DR HP0 hX2e
  generalize hdd : dr cf h 3 = dd at *
  have HDD := hid hdd
  clear hdd
  go_wp2_with fail
  refine (PF.out _).mono ?_
  rintro e V2 ⟨rfl, rfl⟩
  clear PF
  go_upto_region 3 with fail
  generalize hV3e : (V2.alloc (.cells #[.int .i64 1, .int .i64 (wrap64 (a : Nat)), .int .i64 0, .int .i64 (1 + (dd : Nat)), .int .i64 (pagesN a : Nat)] 188)).alloc (.cells #[.pointer (some ⟨V2.heap.size, 0, none⟩)] 175) = V3
  have b3 : Below V2.heap.size V2 V3 := by rw [← hV3e]; exact ((Below.refl _ _).alloc (Nat.le_refl _) _).alloc (by rw [al_size]; omega) _
  have hL : V3.heap[V2.heap.size]? = some (.cells (lgC ⟨0, 1 + dd, pagesN a, 1, wrap64 (a : Nat)⟩) 188 (0, 0)) := by
    rw [← hV3e, al_old _ _ _ (by rw [al_size]; omega), al_last]
    simp [lgC]
  have hX5 : V3.heap[V2.heap.size + 1]? = some (.cells #[.pointer (some ⟨V2.heap.size, 0, none⟩)] 175 (0, 0)) := by
    have h1 := al_last (V2.alloc (.cells #[.int .i64 1, .int .i64 (wrap64 (a : Nat)), .int .i64 0, .int .i64 (1 + (dd : Nat)), .int .i64 (pagesN a : Nat)] 188)) (.cells #[.pointer (some ⟨V2.heap.size, 0, none⟩)] 175)
    rw [al_size, hV3e] at h1
    exact h1
  have HP3 := hid (HP1.out.below b3)
  have BI3 := hid (BI1.out.add b3 HP1.out.bW)
  have X2b := hid (show V3.heap[x2]? = some (.cells #[.pointer (some ⟨y.P, 0, none⟩)] 77 (0, 0)) by rw [b3.block _ (lt_blk X2.out)]; exact X2.out)
  have HBL := hid (show B ≤ V2.heap.size from HP1.out.bW)
  have NL := hid (show ∀ k, d.lg k ≠ some V2.heap.size from fun k hk => by
    have h1 := HP1.out.lo k
    rw [hk] at h1
    have h2 : h.rg.any (fun r => r.base == k) = true := h1.symm
    obtain ⟨r, hr, hrk⟩ := List.any_eq_true.1 h2
    have hrk' : r.base = k := by simpa using hrk
    obtain ⟨g, e1, _, e3⟩ := HP1.out.lb r hr
    rw [hrk', hk] at e1
    cases e1
    have := lt_blk e3
    omega)
  have HPL := hid (fun V (hV : Below V2.heap.size V2 V) => And.intro (HP1.out.below hV) (BI1.out.add hV HP1.out.bW))
  have B3 := hid b3
  have X2c := hid (fun V (hV : Below V2.heap.size V2 V) => show V.heap[x2]? = some (.cells #[.pointer (some ⟨y.P, 0, none⟩)] 77 (0, 0)) by rw [hV.block _ (lt_blk X2.out)]; exact X2.out)
  clear hV3e b3 HP1 BI1 X2
  obtain ⟨L, hLe⟩ : ∃ L, V2.heap.size = L := ⟨_, rfl⟩
  have HLE := hid hLe
  rw [hLe] at hL hX5 HBL NL ⊢
  clear hLe
  generalize hX5e : L + 1 = X5 at *
  have HL := hid hL
  have HX5 := hid hX5
  have HLX := hid (show L ≠ X5 by omega)
  clear hL hX5 hX5e
  have PG := hid (pagesN_max ha2)
  obtain ⟨pp, hpp⟩ : ∃ pp, pagesN a = pp := ⟨_, rfl⟩
  have HPP := hid hpp
  rw [hpp] at HL PG ⊢
  clear hpp
  rw [HPP.out] at HMM
  have I1 := hid (I0.out.used (h.used + 1))
  have G1 := hid (show Gd d { h with used := h.used + 1 } an from ⟨GD0.out.on, GD0.out.un, GD0.out.an⟩)
  clear I0 GD0 HDD
  generalize hh1 : ({ h with used := h.used + 1 } : Hs) = h1 at *
  have hf1 : h1.rg.length < 4096 := by rw [← hh1]; exact hf
  have hrl1 : h1.rel.length ≤ 100000 := by rw [← hh1]; exact hrl
  clear hh1 hf hrl hu
  generalize hwa : wrap64 (a : Nat) = wa at *
  have HWA := hid hwa
  clear hwa
  have CK := hid (show ∀ V, Below V3.heap.size V3 V → V.cell? ⟨X5, 0, none⟩ = some (.pointer (some ⟨L, 0, none⟩)) ∧ V.cell? ⟨x2, 0, none⟩ = some (.pointer (some ⟨y.P, 0, none⟩)) from fun V hV => ⟨by rw [cell_of_row _ _ _ _ _ _ (show V.heap[X5]? = _ by rw [hV.block _ (lt_blk HX5.out)]; exact HX5.out)]; rfl, by rw [cell_of_row _ _ _ _ _ _ (show V.heap[x2]? = _ by rw [hV.block _ (lt_blk X2b.out)]; exact X2b.out)]; rfl⟩)
  have LC0 := hid (show ∀ V, Below V3.heap.size V3 V → Lc L ⟨0, 1 + dd, pp, 1, wa⟩ V from fun V hV => lc_of (by rw [hV.block _ (lt_blk HL.out)]; exact HL.out) (by simp) (by simp; omega) PG.out)
  have EX := hid (fun V (hV : Below V3.heap.size V3 V) => im_extent L ⟨0, 1 + dd, pp, 1, wa⟩ V (LC0.out V hV))
  have RO := hid (fun V (hV : Below V3.heap.size V3 V) => im_room B y d cf h1 (1 + dd + pp + 1) V (HP3.out.below hV) I1.out (by omega) (by have := PG.out; omega))
  have NOW := hid (show ∀ U, roomL h1 (1 + dd + pp + 1) = none → Below V3.heap.size V3 U → TaW B y cf an d.lg W mres (.panicked (refV 1)) U from fun U hr hU => by
    have e1 : mres = (none, h1) := by
      rw [HMM.out]
      split
      · rfl
      · rw [hr]; rfl
    rw [e1]
    exact ⟨.no _ _ (Hg.tk ⟨d, HP3.out.below hU, G1.out⟩), BI3.out.add hU HP3.out.bW⟩)
  have FZ := hid (show ∀ V, Below V3.heap.size V3 V → V.frozen? ⟨L, 2, none⟩ = false from fun V hV => by
    have : V.heap[L]? = _ := (hV.block _ (lt_blk HL.out)).trans HL.out
    simp [World.frozen?, this])
  have ST2 := hid (show ∀ V (s : Nat), Below V3.heap.size V3 V → (V.setCell ⟨L, 2, none⟩ (.int .i64 (s : Nat))).heap[L]? = some (.cells (lgC ⟨s, 1 + dd, pp, 1, wa⟩) 188 (0, 0)) ∧ (V.setCell ⟨L, 2, none⟩ (.int .i64 (s : Nat))).heap[X5]? = some (.cells #[.pointer (some ⟨L, 0, none⟩)] 175 (0, 0)) ∧ Hp B y d cf h1 (V.setCell ⟨L, 2, none⟩ (.int .i64 (s : Nat))) ∧ Bi B W (V.setCell ⟨L, 2, none⟩ (.int .i64 (s : Nat))) ∧ (V.setCell ⟨L, 2, none⟩ (.int .i64 (s : Nat))).heap[x2]? = some (.cells #[.pointer (some ⟨y.P, 0, none⟩)] 77 (0, 0)) from fun V s hV => by
    have hVL : V.heap[L]? = _ := (hV.block _ (lt_blk HL.out)).trans HL.out
    have hVX : V.heap[X5]? = _ := (hV.block _ (lt_blk HX5.out)).trans HX5.out
    have k : Below V2.heap.size V2 (V.setCell ⟨L, 2, none⟩ (.int .i64 (s : Nat))) := by
      have k1 : Below V2.heap.size V2 V := B3.out.trans (hV.mono B3.out.size)
      exact k1.grown (grown_set (grown_refl V L) 2 _) k1.size (fun r hr => by simp at hr; have := HLE.out; omega)
    refine ⟨by simp [World.setCell, Array.getElem?_modify, hVL, lgC], ?_, (HPL.out _ k).1, (HPL.out _ k).2, X2c.out _ k⟩
    rw [Below.heap_setCell _ _ _ _ (fun e => HLX.out e.symm)]
    exact hVX)
  generalize hrm : roomL h1 (1 + dd + pp + 1) = rm at *
  have HRM := hid hrm
  clear hrm
  refine wp_region_held (S := fun W9 => W9.cell? ⟨X5, 0, none⟩ = some (.pointer (some ⟨L, 0, none⟩)) ∧ W9.cell? ⟨x2, 0, none⟩ = some (.pointer (some ⟨y.P, 0, none⟩))) (by kernel_rfl) ?_
  simp only [List.size_toArray, List.length_cons, List.length_nil, Nat.reduceAdd, Array.replicate_succ, Array.replicate_zero, List.push_toArray, List.nil_append, List.cons_append]
  have hS := CK.out _ (Below.refl _ _).drew
  refine wpAnyH_put (i := 0) (d := 19) (v := .pointer (some ⟨L, 0, none⟩)) rfl (by kernel_rfl) (by kernel_rfl) (by kernel_rfl) (by kernel_rfl) (fun _ _ _ h => h) (Or.inl ⟨by kernel_rfl, fun W hS => by obtain ⟨y0, y1⟩ := hS; first | (go_simp; done) | (go_simp; omega)⟩) hS ?_
  simp only [List.setIfInBounds_toArray, List.set_cons_zero, List.set_cons_succ]
  refine wpAnyH_put (i := 1) (d := 20) (v := .pointer (some ⟨y.P, 0, none⟩)) rfl (by kernel_rfl) (by kernel_rfl) (by kernel_rfl) (by kernel_rfl) (fun _ _ _ h => h) (Or.inl ⟨by kernel_rfl, fun W hS => by obtain ⟨y0, y1⟩ := hS; first | (go_simp; done) | (go_simp; omega)⟩) hS ?_
  simp only [List.setIfInBounds_toArray, List.set_cons_zero, List.set_cons_succ]
  refine wpAnyH_put (i := 2) (d := 21) (v := .pointer (some ⟨L, 0, none⟩)) rfl (by kernel_rfl) (by kernel_rfl) (by kernel_rfl) (by kernel_rfl) (fun _ _ _ h => h) (Or.inl ⟨by kernel_rfl, fun W hS => by obtain ⟨y0, y1⟩ := hS; first | (go_simp; done) | (go_simp; omega)⟩) hS ?_
  simp only [List.setIfInBounds_toArray, List.set_cons_zero, List.set_cons_succ]
  refine wpAnyH_one (r := 3) (by kernel_rfl) ?_
  refine wpOp_do rfl (by kernel_rfl) (fun K' hK => ?_)
  go_simp
  refine (EX.out _ (Below.refl _ _).drew).mono ?_
  rintro e U1 ⟨rfl, rfl⟩
  have q1 := CK.out _ (Below.refl _ V3).drew.drew
  refine hK.out _ _ ⟨q1, ?_⟩
  clear hS
  have hS := q1
  clear hK K'
  refine wpAnyH_one (r := 4) (by kernel_rfl) ?_
  refine wpOp_do rfl (by kernel_rfl) (fun K' hK => ?_)
  go_simp
  refine (RO.out _ (Below.refl _ V3).drew.drew).mono ?_
  rintro e U2 hro
  rcases ror9 hro with ⟨s, rfl, hrs, b2⟩ | ⟨rfl, hrs, b2⟩
  rotate_left
  · have k2 : Below V3.heap.size V3 U2 := (Below.refl _ V3).drew.drew.trans ⟨b2.os, b2.tape, b2.output, b2.size, b2.block⟩
    exact ⟨rfl, NOW.out U2 hrs k2⟩
  have k2 : Below V3.heap.size V3 U2 := (Below.refl _ V3).drew.drew.trans ⟨b2.os, b2.tape, b2.output, b2.size, b2.block⟩
  have q2 := CK.out _ k2
  refine hK.out _ _ ⟨q2, ?_⟩
  clear hS hro
  have hS := q2
  have c2L := (LC0.out U2 k2).c2
  have f2L : U2.frozen? ⟨L, 2, none⟩ = false := FZ.out U2 k2
  clear hK K'
  refine wpAnyH_put (i := 5) (d := 24) (v := .pointer (some ⟨L, 0, none⟩)) rfl (by kernel_rfl) (by kernel_rfl) (by kernel_rfl) (by kernel_rfl) (fun _ _ _ h => h) (Or.inl ⟨by kernel_rfl, fun _ _ => by kernel_rfl⟩) hS ?_
  simp only [List.setIfInBounds_toArray, List.set_cons_zero, List.set_cons_succ]
  refine wpAnyH_put (i := 6) (d := 25) (v := .pointer (some ⟨L, 2, none⟩)) rfl (by kernel_rfl) (by kernel_rfl) (by kernel_rfl) (by kernel_rfl) (fun _ _ _ h => h) (Or.inl ⟨by kernel_rfl, fun _ _ => by kernel_rfl⟩) hS ?_
  simp only [List.setIfInBounds_toArray, List.set_cons_zero, List.set_cons_succ]
  refine wpAnyH_one (r := 7) (by kernel_rfl) ?_
  refine wpOp_do rfl (by kernel_rfl) (fun K' hK => ?_)
  go_simp
  obtain ⟨hL4, hX4, hp4, bi4, hx4⟩ := ST2.out U2 s k2
  have q3 : _ ∧ _ := ⟨one_of hX4, one_of hx4⟩
  refine hK.out _ _ ⟨q3, ?_⟩
  clear hK K'
  refine wpAnyH_done (by kernel_rfl) ?_ _
  generalize U2.setCell ⟨L, 2, none⟩ (.int .i64 (s : Nat)) = V4 at *
  have HRS := hid (HRM.out.trans hrs)
  have HRQ := hid hrs
  obtain ⟨r1, r2, r3⟩ := room_in HRS.out
  have hwa : wa = (a : Nat) := by
    rw [← HWA.out]
    have q := pagesN_le a
    rw [HPP.out] at q
    exact wrap64_in (by omega) (by omega)
  subst hwa
  obtain ⟨hfree, hany⟩ := room_free I1.out HRS.out
  obtain ⟨r, hr⟩ : ∃ r : Rg9, r = ⟨s, 1 + dd, pp, 1, (a : Nat)⟩ := ⟨_, rfl⟩
  have HR := hid hr
  rw [← hr] at hL4
  have hb9 : r.base = (s + (1 + dd)) * 1024 := by rw [hr]; rfl
  have hbl : r.base < 18446744073709551616 := by rw [hb9]; omega
  have HL4 := hid hL4
  have HX4 := hid hX4
  have Hx4 := hid hx4
  have HP4 := hid hp4
  have BI4 := hid bi4
  have FRE := hid hfree
  have H0 := hid (show d.lg r.base = none by
    have := hp4.lo r.base
    rw [hb9, hany] at this
    rw [hb9]
    simpa using this)
  have HB9 := hid hb9
  have RIN := hid (And.intro r1 r2)
  have PP1 := hid (show 1 ≤ pp by have := pagesN_pos ha; rw [HPP.out] at this; exact this)
  clear hL4 hX4 hx4 hp4 bi4 hfree hany hr hb9 r1 r2 r3 q1 q2 q3 hS k2 b2 c2L f2L NOW RO EX LC0 CK FZ ST2 HPL B3 X2c HLE hrs HL HX5 X2b HP3 BI3 HRM HPP HWA PG
  have CK := hid (show V4.cell? ⟨X5, 0, none⟩ = some (.pointer (some ⟨L, 0, none⟩)) ∧ V4.cell? ⟨x2, 0, none⟩ = some (.pointer (some ⟨y.P, 0, none⟩)) ∧ V4.cell? ⟨y.P, 115, none⟩ = some (.map (some y.R)) from ⟨one_of HX4.out, one_of Hx4.out, HP4.out.cell 115 (by omega) _ rfl⟩)
  have LC4 := hid (show ∀ V, Below V4.heap.size V4 V → Lc L r V from fun V hV => lc_of (by rw [hV.block _ (lt_blk HL4.out)]; exact HL4.out) (by rw [HR.out]; have := RIN.out; simp; omega) (by rw [HR.out]; simp; omega) (by rw [HR.out]; have := RIN.out; simp; omega))
  have LB := hid (fun V (hV : Below V4.heap.size V4 V) => im_lbase L r V (LC4.out V hV))
  have CD := hid (show V4.drew.drew.cell? ⟨X5, 0, none⟩ = some (.pointer (some ⟨L, 0, none⟩)) ∧ V4.drew.drew.cell? ⟨x2, 0, none⟩ = some (.pointer (some ⟨y.P, 0, none⟩)) ∧ V4.drew.drew.cell? ⟨y.P, 115, none⟩ = some (.map (some y.R)) from CK.out)
  have HPD := hid (HP4.out.below (Below.refl _ V4).drew.drew)
  go_upto_region 4 with fail
  refine wp_region_held (S := fun W9 => W9.cell? ⟨X5, 0, none⟩ = some (.pointer (some ⟨L, 0, none⟩)) ∧ W9.cell? ⟨x2, 0, none⟩ = some (.pointer (some ⟨y.P, 0, none⟩)) ∧ W9.cell? ⟨y.P, 115, none⟩ = some (.map (some y.R))) (by kernel_rfl) ?_
  simp only [List.size_toArray, List.length_cons, List.length_nil, Nat.reduceAdd, Array.replicate_succ, Array.replicate_zero, List.push_toArray, List.nil_append, List.cons_append]
  have hS := CK.out
  refine wpAnyH_put (i := 0) (d := 26) (v := .pointer (some ⟨y.P, 0, none⟩)) rfl (by kernel_rfl) (by kernel_rfl) (by kernel_rfl) (by kernel_rfl) (fun _ _ _ h => h) (Or.inl ⟨by kernel_rfl, fun W hS => by obtain ⟨y0, y1, y2⟩ := hS; first | (go_simp; done) | (go_simp; omega)⟩) hS ?_
  simp only [List.setIfInBounds_toArray, List.set_cons_zero, List.set_cons_succ]
  refine wpAnyH_put (i := 1) (d := 27) (v := .pointer (some ⟨y.P, 0, none⟩)) rfl (by kernel_rfl) (by kernel_rfl) (by kernel_rfl) (by kernel_rfl) (fun _ _ _ h => h) (Or.inl ⟨by kernel_rfl, fun _ _ => by kernel_rfl⟩) hS ?_
  simp only [List.setIfInBounds_toArray, List.set_cons_zero, List.set_cons_succ]
  refine wpAnyH_put (i := 2) (d := 28) (v := .pointer (some ⟨y.P, 115, none⟩)) rfl (by kernel_rfl) (by kernel_rfl) (by kernel_rfl) (by kernel_rfl) (fun _ _ _ h => h) (Or.inl ⟨by kernel_rfl, fun _ _ => by kernel_rfl⟩) hS ?_
  simp only [List.setIfInBounds_toArray, List.set_cons_zero, List.set_cons_succ]
  refine wpAnyH_put (i := 3) (d := 29) (v := .map (some y.R)) rfl (by kernel_rfl) (by kernel_rfl) (by kernel_rfl) (by kernel_rfl) (fun _ _ _ h => h) (Or.inl ⟨by kernel_rfl, fun W hS => by obtain ⟨y0, y1, y2⟩ := hS; first | (go_simp; done) | (go_simp; omega)⟩) hS ?_
  simp only [List.setIfInBounds_toArray, List.set_cons_zero, List.set_cons_succ]
  refine wpAnyH_put (i := 4) (d := 30) (v := .pointer (some ⟨L, 0, none⟩)) rfl (by kernel_rfl) (by kernel_rfl) (by kernel_rfl) (by kernel_rfl) (fun _ _ _ h => h) (Or.inl ⟨by kernel_rfl, fun W hS => by obtain ⟨y0, y1, y2⟩ := hS; first | (go_simp; done) | (go_simp; omega)⟩) hS ?_
  simp only [List.setIfInBounds_toArray, List.set_cons_zero, List.set_cons_succ]
  refine wpAnyH_put (i := 6) (d := 32) (v := .pointer (some ⟨L, 0, none⟩)) rfl (by kernel_rfl) (by kernel_rfl) (by kernel_rfl) (by kernel_rfl) (fun _ _ _ h => h) (Or.inl ⟨by kernel_rfl, fun W hS => by obtain ⟨y0, y1, y2⟩ := hS; first | (go_simp; done) | (go_simp; omega)⟩) hS ?_
  simp only [List.setIfInBounds_toArray, List.set_cons_zero, List.set_cons_succ]
  refine wpAnyH_one (r := 5) (by kernel_rfl) ?_
  refine wpOp_do rfl (by kernel_rfl) (fun K' hK => ?_)
  go_simp
  refine (LB.out _ (Below.refl _ _).drew).mono ?_
  rintro e U1 ⟨rfl, rfl⟩
  have q1 := CD.out
  refine hK.out _ _ ⟨q1, ?_⟩
  clear hS
  have hS := q1
  clear hK K'
  refine wpAnyH_one (r := 7) (by kernel_rfl) ?_
  refine wpOp_do rfl (by kernel_rfl) (fun K' hK => ?_)
  obtain ⟨V5, hput, mr5, mt5⟩ := HPD.out.mp.put r.base L hbl H0.out hf1
  have k5 := turned_ky mt5 HPD.out.mp.typ
  refine wpo_update 90 (.tmp 29) (.tmp 31) (.tmp 32) (vm := .map (some y.R)) (vx := .int .u64 (r.base : Nat)) (vu := .pointer (some ⟨L, 0, none⟩)) (by kernel_rfl) (by kernel_rfl) (by kernel_rfl) (by kernel_rfl) hput ?_
  refine hK.out _ _ ⟨⟨k5.cellK q1.1, k5.cellK q1.2.1, k5.cellK q1.2.2⟩, ?_⟩
  clear hK K'
  refine wpAnyH_done (by kernel_rfl) ?_ _
  have kD : Below V4.heap.size V4 V4.drew.drew := (Below.refl _ _).drew.drew
  have hLD : V4.drew.drew.heap[L]? = some (.cells (lgC r) 188 (0, 0)) := (kD.block _ (lt_blk HL4.out)).trans HL4.out
  obtain ⟨hp5, b5⟩ := HPD.out.addR hLD HBL.out NL.out H0.out mr5 mt5
  have HP5 := hid hp5
  have BI5 := hid ((BI4.out.add kD HP4.out.bW).trans b5)
  have HX5 := hid (show V5.heap[X5]? = some (.cells #[.pointer (some ⟨L, 0, none⟩)] 175 (0, 0)) from k5.cells _ _ _ _ ((kD.block _ (lt_blk HX4.out)).trans HX4.out) (fun e => e))
  have Hx5 := hid (show V5.heap[x2]? = some (.cells #[.pointer (some ⟨y.P, 0, none⟩)] 77 (0, 0)) from k5.cells _ _ _ _ ((kD.block _ (lt_blk Hx4.out)).trans Hx4.out) (fun e => e))
  have LO := hid HP4.out.lo
  have HL5 := hid (show V5.heap[L]? = some (.cells (lgC r) 188 (0, 0)) from k5.cells _ _ _ _ hLD (fun e => e))
  clear kD hLD hp5 b5 k5 mr5 mt5 hput HPD HL4 HX4 Hx4 HP4 BI4 q1 hS CK CD LC4 LB
  have LCv := hid (show ∀ V : World, V.heap[L]? = some (.cells (lgC r) 188 (0, 0)) → Lc L r V from fun V hV => lc_of hV (by rw [HR.out]; have := RIN.out; simp; omega) (by rw [HR.out]; simp; omega) (by rw [HR.out]; have := RIN.out; simp; omega))
  have LP := hid (fun V (hV : Below V5.heap.size V5 V) => im_lpaging L 0 r V (LCv.out V (by rw [hV.block _ (lt_blk HL5.out)]; exact HL5.out)))
  have hrp : r.pages = pp ∧ r.first + r.guards = s + (1 + dd) := by rw [HR.out]; exact ⟨rfl, rfl⟩
  rw [hrp.1, hrp.2] at LP
  clear hrp
  obtain ⟨d5, hd5⟩ : ∃ d5 : Dy, d5 = { d with lg := upd d.lg r.base (some L) } := ⟨_, rfl⟩
  rw [← hd5] at HP5
  have HD5 := hid hd5
  have G5 := hid (show d5.lg = upd d.lg r.base (some L) ∧ d5.un = .nilFunc ∧ d5.an = an ∧ (∀ c s, c < 12 → s < 6 → d5.on c s = onS h1 c s) by rw [hd5]; exact ⟨rfl, G1.out.un, G1.out.an, G1.out.on⟩)
  clear hd5 HD5
  have CM := hid (fun V (hV : Below V5.heap.size V5 V) => im_commit B y d5 cf { h1 with rg := h1.rg ++ [r] } (s + (1 + dd)) pp (.func 136) #[] #[.pointer (some ⟨x2, 0, none⟩), .pointer (some ⟨X5, 0, none⟩)] V (HP5.out.below hV) I1.out.out PP1.out (by have := RIN.out; omega) FRE.out)
  have CD := hid (show ∀ V, Below V5.heap.size V5 V → V.cell? ⟨X5, 0, none⟩ = some (.pointer (some ⟨L, 0, none⟩)) ∧ V.cell? ⟨x2, 0, none⟩ = some (.pointer (some ⟨y.P, 0, none⟩)) from fun V hV => ⟨one_of ((hV.block _ (lt_blk HX5.out)).trans HX5.out), one_of ((hV.block _ (lt_blk Hx5.out)).trans Hx5.out)⟩)
  have HM2 := hid (show mres = putL cf h1 (1 + dd) pp a (some s) by
    rw [HMM.out, if_neg (by have := RIN.out; omega), HRQ.out])
  have NOW := hid (show ∀ f' U1 U, Below V5.heap.size V5 U1 → Bi B U1 U → (cf.bud : Int) < (cntM h1.m 283 : Int) + pp → Hp B y { d5 with f := f', un := .func (.func 136) #[] #[.pointer (some ⟨x2, 0, none⟩), .pointer (some ⟨X5, 0, none⟩)] } cf { h1 with rg := h1.rg ++ [r] } U → TaW B y cf an d.lg W mres (.panicked (refV 1)) U from fun f' U1 U hU1 hU hb hp => by
    have e1 : mres = (none, h1) := by
      rw [HM2.out]
      show (if cf.bud < cntM h1.m 283 + pp then (none, h1) else _) = _
      rw [if_pos (by omega)]
    rw [e1]
    refine ⟨.no _ _ (fun V hV => ?_), (BI5.out.add hU1 HP5.out.bW).trans hU⟩
    have hpV := hp.below hV
    obtain ⟨g, e3, _, e5⟩ := hpV.lb r (by simp)
    have e4 : d5.lg r.base = some g := e3
    rw [G5.out.1, upd_same] at e4
    cases e4
    have cx : ∀ (g : Nat) (c : Array Value) (t : TypeId), ¬ hI t → V5.heap[g]? = some (.cells c t (0, 0)) → V.heap[g]? = some (.cells c t (0, 0)) := fun g c t ht hg => by
      have h1 := hU.ky.cells _ _ _ _ ((hU1.block _ (lt_blk hg)).trans hg) ht
      exact (hV.block _ (lt_blk h1)).trans h1
    refine (im_takeBackR B y _ cf h1 r L x2 X5 d.lg V hpV G5.out.1 H0.out LO.out (LCv.out V e5) hbl (one_of (cx _ _ _ (by unfold hI; decide) Hx5.out)) (one_of (cx _ _ _ (by unfold hI; decide) HX5.out)) rfl).mono ?_
    rintro e V' ⟨rfl, hp', bi'⟩
    exact ⟨rfl, ⟨_, hp', ⟨fun c s hc hs => G5.out.2.2.2 c s hc hs, rfl, G5.out.2.2.1⟩⟩, bi'⟩)
  clear HMM
  go_upto_region 5 with fail
  refine wp_region_held (S := fun W9 => W9.cell? ⟨X5, 0, none⟩ = some (.pointer (some ⟨L, 0, none⟩)) ∧ W9.cell? ⟨x2, 0, none⟩ = some (.pointer (some ⟨y.P, 0, none⟩))) (by kernel_rfl) ?_
  simp only [List.size_toArray, List.length_cons, List.length_nil, Nat.reduceAdd, Array.replicate_succ, Array.replicate_zero, List.push_toArray, List.nil_append, List.cons_append]
  have hS := CD.out _ (Below.refl _ _).drew
  refine wpAnyH_put (i := 0) (d := 33) (v := .pointer (some ⟨y.P, 0, none⟩)) rfl (by kernel_rfl) (by kernel_rfl) (by kernel_rfl) (by kernel_rfl) (fun _ _ _ h => h) (Or.inl ⟨by kernel_rfl, fun W hS => by obtain ⟨y0, y1⟩ := hS; first | (go_simp; done) | (go_simp; omega)⟩) hS ?_
  simp only [List.setIfInBounds_toArray, List.set_cons_zero, List.set_cons_succ]
  refine wpAnyH_put (i := 1) (d := 34) (v := .pointer (some ⟨L, 0, none⟩)) rfl (by kernel_rfl) (by kernel_rfl) (by kernel_rfl) (by kernel_rfl) (fun _ _ _ h => h) (Or.inl ⟨by kernel_rfl, fun W hS => by obtain ⟨y0, y1⟩ := hS; first | (go_simp; done) | (go_simp; omega)⟩) hS ?_
  simp only [List.setIfInBounds_toArray, List.set_cons_zero, List.set_cons_succ]
  refine wpAnyH_put (i := 3) (d := 36) (v := .func (.func 136) #[] #[.pointer (some ⟨x2, 0, none⟩), .pointer (some ⟨X5, 0, none⟩)]) rfl (by kernel_rfl) (by kernel_rfl) (by kernel_rfl) (by kernel_rfl) (fun _ _ _ h => h) (Or.inl ⟨by kernel_rfl, fun W hS => by obtain ⟨y0, y1⟩ := hS; first | (go_simp; done) | (go_simp; omega)⟩) hS ?_
  simp only [List.setIfInBounds_toArray, List.set_cons_zero, List.set_cons_succ]
  refine wpAnyH_one (r := 2) (by kernel_rfl) ?_
  refine wpOp_do rfl (by kernel_rfl) (fun K' hK => ?_)
  go_simp
  refine (LP.out _ (Below.refl _ _).drew).mono ?_
  rintro e U1 ⟨rfl, b1⟩
  have k1 : Below V5.heap.size V5 U1 := ⟨b1.os, b1.tape, b1.output, b1.size, b1.block⟩
  have q1 := CD.out _ k1
  refine hK.out _ _ ⟨q1, ?_⟩
  clear hS
  have hS := q1
  clear hK K'
  refine wpAnyH_one (r := 4) (by kernel_rfl) ?_
  refine wpOp_do rfl (by kernel_rfl) (fun K' hK => ?_)
  go_simp
  refine (CM.out _ k1).mono ?_
  rintro e V6 ⟨f', bi6, ⟨hbud, rfl, hp6⟩ | ⟨hbud, rfl, hp6⟩⟩
  rotate_left
  · exact ⟨rfl, NOW.out f' U1 V6 k1 bi6 hbud hp6⟩
  have q2 : _ ∧ _ := ⟨one_of (bi6.ky.cells _ _ _ _ ((k1.block _ (lt_blk HX5.out)).trans HX5.out) (by unfold hI; decide)), one_of (bi6.ky.cells _ _ _ _ ((k1.block _ (lt_blk Hx5.out)).trans Hx5.out) (by unfold hI; decide))⟩
  refine hK.out _ _ ⟨q2, ?_⟩
  clear hS
  have hS := q2
  clear hK K'
  refine wpAnyH_done (by kernel_rfl) ?_ _
  obtain ⟨d6, hd6⟩ : ∃ d6 : Dy, d6 = { d5 with f := f', un := .nilFunc } := ⟨_, rfl⟩
  obtain ⟨h6, hh6⟩ : ∃ h6 : Hs, h6 = { h1 with rg := h1.rg ++ [r], m := freshM h1.m (s + (1 + dd)) pp } := ⟨_, rfl⟩
  have HP6 := hid (show Hp B y d6 cf h6 V6 by rw [hd6, hh6]; exact hp6)
  have BI6 := hid ((BI5.out.add k1 HP5.out.bW).trans bi6)
  have G6 := hid (show d6.lg = upd d.lg r.base (some L) ∧ d6.un = .nilFunc ∧ d6.an = an ∧ (∀ c s, c < 12 → s < 6 → d6.on c s = onS h1 c s) by rw [hd6]; exact ⟨G5.out.1, rfl, G5.out.2.2.1, G5.out.2.2.2⟩)
  have HH6 := hid hh6
  have HX6 := hid (show V6.heap[X5]? = some (.cells #[.pointer (some ⟨L, 0, none⟩)] 175 (0, 0)) from bi6.ky.cells _ _ _ _ ((k1.block _ (lt_blk HX5.out)).trans HX5.out) (by unfold hI; decide))
  have Hx6 := hid (show V6.heap[x2]? = some (.cells #[.pointer (some ⟨y.P, 0, none⟩)] 77 (0, 0)) from bi6.ky.cells _ _ _ _ ((k1.block _ (lt_blk Hx5.out)).trans Hx5.out) (by unfold hI; decide))
  have HBU := hid (show ¬ cf.bud < cntM h1.m 283 + pp from fun e => hbud (by show (cf.bud : Int) < _; have : (cf.bud : Int) < ((cntM h1.m 283 + pp : Nat) : Int) := by omega
                                                                             simpa using this))
  have HL6 := hid (show V6.heap[L]? = some (.cells (lgC r) 188 (0, 0)) by
    obtain ⟨g, e3, _, e5⟩ := HP6.out.lb r (by rw [hh6]; simp)
    rw [G6.out.1, upd_same] at e3
    cases e3
    exact e5)
  have hrl6 : h6.rel = h1.rel := by rw [hh6]
  have HRX := hid (show ∀ x ∈ h6.rel, x < 18446744073709551616 from fun x hx => by
    rw [hrl6] at hx
    have := I1.out.rel x hx
    omega)
  have HRL := hid (show h6.rel.length ≤ 100000 by rw [hrl6]; exact hrl1)
  have H09 := H0
  clear hp6 bi6 hd6 hh6 k1 b1 q1 q2 hS hbud NOW CM LP CD HP5 BI5 HX5 Hx5 HL5 G5 LO NL H0 FRE hrl6
  obtain ⟨va, vn, vc, hrle⟩ := own_sl4 HP6.out.rl
  have HRE := hid hrle
  have HPD := hid (HP6.out.below (Below.refl _ V6).drew)
  have DF := hid (im_deleteFunc B L r va vn vc h6.rel V6.drew (by have := HPD.out.rl; rw [hrle] at this; exact this) HRL.out HRX.out (LCv.out _ ((Below.refl V6.heap.size V6).drew.block _ (lt_blk HL6.out) |>.trans HL6.out)) ⟨_, (Below.refl V6.heap.size V6).drew.block _ (lt_blk HL6.out) |>.trans HL6.out⟩)
  have hcf : (h6.rel.filter fun x => !cov r x) = h6.rel.filter fun b => b / 1024 < s || s + (1 + dd + pp + 1) ≤ b / 1024 := by rw [HR.out]; exact cov_filter s (1 + dd) pp 1 _ _
  rw [hcf] at DF
  clear hcf
  generalize hfl : (h6.rel.filter fun b => b / 1024 < s || s + (1 + dd + pp + 1) ≤ b / 1024) = fl at *
  have HFL := hid hfl
  have c117 : V6.drew.cell? ⟨y.P, 117, none⟩ = some (.slice va vn vc) := HPD.out.cell 117 (by omega) _ hrle
  have CD := hid (show ∀ V : World, Ky (· = 23) V6.drew V → V.cell? ⟨X5, 0, none⟩ = some (.pointer (some ⟨L, 0, none⟩)) ∧ V.cell? ⟨x2, 0, none⟩ = some (.pointer (some ⟨y.P, 0, none⟩)) from fun V hV => ⟨one_of (hV.cells _ _ _ _ (show V6.drew.heap[X5]? = _ from HX6.out) (by decide)), one_of (hV.cells _ _ _ _ (show V6.drew.heap[x2]? = _ from Hx6.out) (by decide))⟩)
  have SRL := hid (show ∀ (U : World) (wa : Option Addr) (wn wc : Nat), U.ownsRow B 23 1 (.slice wa wn wc) fl.length (Us fl) → V6.drew.grownBy U (Value.slice va vn vc).ownBlock → (Value.slice wa wn wc).ownBlock = (Value.slice va vn vc).ownBlock → _ from fun U wa wn wc own gr ob => HPD.out.setRl (v' := .slice wa wn wc) own (by rw [HRE.out]; exact gr) (fun g hg => by rw [ob, ← HRE.out]; exact HPD.out.rr g hg))
  have GWK := hid (show ∀ U : World, V6.drew.grownBy U (Value.slice va vn vc).ownBlock → Ky (· = 23) V6.drew U from fun U gr => (HPD.out.gw (fun g hg => own_lt HPD.out.rl hg) (by rw [HRE.out]; exact gr)).k)
  have KLG := hid (show ∀ b g, d.lg b = some g → d6.lg b = some g from fun b g hb => by
    rw [G6.out.1]
    by_cases e : b = r.base
    · subst e; rw [H09.out] at hb; cases hb
    · rw [upd_other _ _ _ _ e]; exact hb)
  have FIN := hid (show ∀ v' U, Hp B y { d6 with rl := v' } cf { h6 with rel := fl } U → Bi B V6.drew U → TaW B y cf an d.lg W mres (.returned (.iface 175 (.pointer (some ⟨L, 0, none⟩)))) U from fun v' U hU hbi => by
    have e1 : mres = (some r.base, { h6 with rel := fl }) := by
      rw [HM2.out]
      show (if cf.bud < cntM h1.m 283 + pp then (none, h1) else _) = _
      rw [if_neg HBU.out, ← HFL.out, HH6.out, HB9.out, HR.out]
    rw [e1]
    refine ⟨.range r L { d6 with rl := v' } _ U (by rw [HH6.out]; simp) (by rw [HR.out]) (by show d6.lg r.base = _; rw [G6.out.1, upd_same]) hU ⟨fun c s' hc hs => ?_, G6.out.2.1, G6.out.2.2.1⟩ (fun b g hb => KLG.out b g hb), (BI6.out.add (Below.refl _ _).drew HP6.out.bW).trans hbi⟩
    show d6.on c s' = (h6.m (slabP c s')).isSome
    rw [G6.out.2.2.2 c s' hc hs, HH6.out]
    show (h1.m (slabP c s')).isSome = (freshM h1.m (s + (1 + dd)) pp (slabP c s')).isSome
    have := slabP_in hc hs
    rw [freshM_lo _ _ _ _ (by have := RIN.out; omega)])
  have NP := hid (show X5 ≠ y.P ∧ x2 ≠ y.P from by
    obtain ⟨c, hb, _⟩ := HP6.out.box
    constructor
    · intro e; have := HX6.out; rw [e, hb] at this; simp at this
    · intro e; have := Hx6.out; rw [e, hb] at this; simp at this)
  clear hfl hrle HM2 HBU G6 HH6 HX6 Hx6 HL6 HRX HRL I1 G1 HR LCv HB9 HRS HRQ HP6 HPD
  have SX := hid (show ∀ (V : World) (v : Value), V.cell? ⟨X5, 0, none⟩ = some (.pointer (some ⟨L, 0, none⟩)) ∧ V.cell? ⟨x2, 0, none⟩ = some (.pointer (some ⟨y.P, 0, none⟩)) → (V.setCell ⟨y.P, 117, none⟩ v).cell? ⟨X5, 0, none⟩ = some (.pointer (some ⟨L, 0, none⟩)) ∧ (V.setCell ⟨y.P, 117, none⟩ v).cell? ⟨x2, 0, none⟩ = some (.pointer (some ⟨y.P, 0, none⟩)) from fun V v hV => by
    have n5 : X5 ≠ y.P := NP.out.1
    have n2 : x2 ≠ y.P := NP.out.2
    unfold World.cell? at hV ⊢
    rw [Below.heap_setCell _ _ _ _ n5, Below.heap_setCell _ _ _ _ n2]
    exact hV)
  go_upto_region 6 with fail
  refine wp_region_held (S := fun W9 => W9.cell? ⟨X5, 0, none⟩ = some (.pointer (some ⟨L, 0, none⟩)) ∧ W9.cell? ⟨x2, 0, none⟩ = some (.pointer (some ⟨y.P, 0, none⟩))) (by kernel_rfl) ?_
  simp only [List.size_toArray, List.length_cons, List.length_nil, Nat.reduceAdd, Array.replicate_succ, Array.replicate_zero, List.push_toArray, List.nil_append, List.cons_append]
  have hS := CD.out _ (Ky.refl _ _)
  refine wpAnyH_put (i := 0) (d := 38) (v := .pointer (some ⟨y.P, 0, none⟩)) rfl (by kernel_rfl) (by kernel_rfl) (by kernel_rfl) (by kernel_rfl) (fun _ _ _ h => h) (Or.inl ⟨by kernel_rfl, fun W hS => by obtain ⟨y0, y1⟩ := hS; first | (go_simp; done) | (go_simp; omega)⟩) hS ?_
  simp only [List.setIfInBounds_toArray, List.set_cons_zero, List.set_cons_succ]
  refine wpAnyH_put (i := 1) (d := 39) (v := .pointer (some ⟨y.P, 0, none⟩)) rfl (by kernel_rfl) (by kernel_rfl) (by kernel_rfl) (by kernel_rfl) (fun _ _ _ h => h) (Or.inl ⟨by kernel_rfl, fun W hS => by obtain ⟨y0, y1⟩ := hS; first | (go_simp; done) | (go_simp; omega)⟩) hS ?_
  simp only [List.setIfInBounds_toArray, List.set_cons_zero, List.set_cons_succ]
  refine wpAnyH_put (i := 2) (d := 40) (v := .pointer (some ⟨y.P, 0, none⟩)) rfl (by kernel_rfl) (by kernel_rfl) (by kernel_rfl) (by kernel_rfl) (fun _ _ _ h => h) (Or.inl ⟨by kernel_rfl, fun _ _ => by kernel_rfl⟩) hS ?_
  simp only [List.setIfInBounds_toArray, List.set_cons_zero, List.set_cons_succ]
  refine wpAnyH_put (i := 3) (d := 41) (v := .pointer (some ⟨y.P, 117, none⟩)) rfl (by kernel_rfl) (by kernel_rfl) (by kernel_rfl) (by kernel_rfl) (fun _ _ _ h => h) (Or.inl ⟨by kernel_rfl, fun _ _ => by kernel_rfl⟩) hS ?_
  simp only [List.setIfInBounds_toArray, List.set_cons_zero, List.set_cons_succ]
  refine wpAnyH_put (i := 5) (d := 43) (v := .pointer (some ⟨L, 0, none⟩)) rfl (by kernel_rfl) (by kernel_rfl) (by kernel_rfl) (by kernel_rfl) (fun _ _ _ h => h) (Or.inl ⟨by kernel_rfl, fun W hS => by obtain ⟨y0, y1⟩ := hS; first | (go_simp; done) | (go_simp; omega)⟩) hS ?_
  simp only [List.setIfInBounds_toArray, List.set_cons_zero, List.set_cons_succ]
  refine wpAnyH_put (i := 6) (d := 44) (v := .func (.func 138) #[.pointer (some ⟨L, 0, none⟩)] #[]) rfl (by kernel_rfl) (by kernel_rfl) (by kernel_rfl) (by kernel_rfl) (fun _ _ _ h => h) (Or.inl ⟨by kernel_rfl, fun W hS => by obtain ⟨y0, y1⟩ := hS; first | (go_simp; done) | (go_simp; omega)⟩) hS ?_
  simp only [List.setIfInBounds_toArray, List.set_cons_zero, List.set_cons_succ]
  refine wpAnyH_one (r := 4) (by kernel_rfl) ?_
  refine wpOp_do rfl (by kernel_rfl) (fun K' hK => ?_)
  go_simp
  refine hK.out _ _ ⟨hS, ?_⟩
  clear hK K'
  refine wpAnyH_one (r := 7) (by kernel_rfl) ?_
  refine wpOp_do rfl (by kernel_rfl) (fun K' hK => ?_)
  go_simp
  refine (DF.out).mono ?_
  rintro e U1 ⟨v', rfl, own1, gr1, ob1⟩
  obtain ⟨wa, wc, rfl⟩ := own_sl2 own1
  obtain ⟨hp7, bi7, c7, f7⟩ := SRL.out U1 wa _ wc own1 gr1 ob1
  rw [HRE.out] at c7
  have q1 := CD.out U1 (GWK.out U1 gr1)
  refine hK.out _ _ ⟨q1, ?_⟩
  clear hS
  have hS := q1
  clear hK K'
  refine wpAnyH_put (i := 8) (d := 46) (v := .pointer (some ⟨y.P, 0, none⟩)) rfl (by kernel_rfl) (by kernel_rfl) (by kernel_rfl) (by kernel_rfl) (fun _ _ _ h => h) (Or.inl ⟨by kernel_rfl, fun _ _ => by kernel_rfl⟩) hS ?_
  simp only [List.setIfInBounds_toArray, List.set_cons_zero, List.set_cons_succ]
  refine wpAnyH_put (i := 9) (d := 47) (v := .pointer (some ⟨y.P, 117, none⟩)) rfl (by kernel_rfl) (by kernel_rfl) (by kernel_rfl) (by kernel_rfl) (fun _ _ _ h => h) (Or.inl ⟨by kernel_rfl, fun _ _ => by kernel_rfl⟩) hS ?_
  simp only [List.setIfInBounds_toArray, List.set_cons_zero, List.set_cons_succ]
  refine wpAnyH_one (r := 10) (by kernel_rfl) ?_
  refine wpOp_do rfl (by kernel_rfl) (fun K' hK => ?_)
  go_simp
  have q2 := SX.out U1 (.slice wa fl.length wc) q1
  refine hK.out _ _ ⟨q2, ?_⟩
  clear hK K'
  refine wpAnyH_done (by kernel_rfl) ?_ _
  have FF := hid (FIN.out _ _ hp7 bi7)
  have qx := q2.1
  clear hp7 bi7 own1 gr1 ob1 c7 f7 q1 q2 hS CD SRL GWK FIN DF SX c117
  go_wp2
  go_ret
  exact FF.out
end Go.Proofs.YtacccpkmgkojiaaGreatDoorRR
namespace Go.Proofs.YtacccpkmgkojiaaGreatDoorRR
set_option linter.unusedVariables false
set_option linter.unusedSimpArgs false
set_option maxRecDepth 20000
set_option maxHeartbeats 8000000
open Go.RowKit Go.Maps
structure Okh (cf:Cf) (h:Hs) (k:Nat):Prop where
 inv:Inv cf h
 byt:Byt h.m
 few:Few k h
 kk:k≤302
 dok:Dok cf
 l1:1≤cf.large
theorem im_take (B:Nat) (y:Ly) (d:Dy) (cf:Cf) (h:Hs) (k:Nat) (an:Value) (a:Nat) (W:World) (hp:Hp B y d cf h W) (gd:Gd d h an) (o:Okh cf h k) (ha:a < 18446744073709551616) :
  Calls Tryz.prog 64 #[Vp y.P 0,Vu (a:Nat)] W (TaW B y cf an d.lg W (mallocM cf h a)):=by
 have hu:h.used+2000≤1000000:=by
  have h1:=o.few.used;have h2:=o.kk;have:2100*k≤2100*302:=Nat.mul_le_mul_left _ h2;omega
 by_cases hs:a≤1016
 ·have TS:=hid (im_takeSlot B y d cf h an a W hp gd o.inv o.byt hs hu o.dok);generalize mallocM cf h a=mres at *;clear hp gd o hu;go_enter Tryz.func64,Tryz.ntmps64;go_wp2_with fail;refine (TS.out).mono ?_;rintro e V ⟨tr,bi⟩;have BI:=hid bi;clear TS bi
  cases tr with
  | no h1 _ tk=>exact ⟨rfl,.no h1 V tk,BI.out⟩
  | slot c s j h1 _ hc hs6 hj hl hg =>
   have HT:=hid (TaR.slot (B:=B) (y:=y) (cf:=cf) (an:=an) (lg:=d.lg) c s j h1 V hc hs6 hj hl hg);clear hg hl hj;go_wp2;go_ret;exact⟨HT.out,BI.out⟩
  | range r g d1 h1 _ hr hl hd hp1 gd1 kl1 =>
   have HT:=hid (TaR.range (B:=B) (y:=y) (cf:=cf) (an:=an) (lg:=d.lg) r g d1 h1 V hr hl hd hp1 gd1 kl1);clear hp1 gd1 hr hl hd kl1;go_wp2;go_ret;exact⟨HT.out,BI.out⟩
 have hs':1016 < a:=by omega
 have TS:=hid (im_takeRange B y d cf h an a W hp gd o.inv hs' ha hu o.dok (by have:=o.few.rg;have:=o.kk;omega) (by have:=o.few.rel;have:=o.kk;omega));generalize mallocM cf h a=mres at *;clear hp gd o hu hs;go_enter Tryz.func64,Tryz.ntmps64;go_wp2_with fail;refine (TS.out).mono ?_;rintro e V ⟨tr,bi⟩;have BI:=hid bi;clear TS bi
 cases tr with
 | no h1 _ tk=>exact ⟨rfl,.no h1 V tk,BI.out⟩
 | slot c s j h1 _ hc hs6 hj hl hg =>
  have HT:=hid (TaR.slot (B:=B) (y:=y) (cf:=cf) (an:=an) (lg:=d.lg) c s j h1 V hc hs6 hj hl hg);clear hg hl hj;go_wp2;go_ret;exact⟨HT.out,BI.out⟩
 | range r g d1 h1 _ hr hl hd hp1 gd1 kl1 =>
  have HT:=hid (TaR.range (B:=B) (y:=y) (cf:=cf) (an:=an) (lg:=d.lg) r g d1 h1 V hr hl hd hp1 gd1 kl1);clear hp1 gd1 hr hl hd kl1;go_wp2;go_ret;exact⟨HT.out,BI.out⟩
def prodM (cf:Cf) (h:Hs) (a b:Nat):Option Nat×Hs:=if 18446744073709551616≤a*b then (none,h) else mallocM cf h (a*b)
theorem im_takeProduct (B:Nat) (y:Ly) (d:Dy) (cf:Cf) (h:Hs) (k:Nat) (an:Value) (a b:Nat) (W:World) (hp:Hp B y d cf h W) (gd:Gd d h an) (o:Okh cf h k) (ha:a < 18446744073709551616) (hb:b < 18446744073709551616) :
  Calls Tryz.prog 65 #[Vp y.P 0,Vu (a:Nat),Vu (b:Nat)] W (TaW B y cf an d.lg W (prodM cf h a b)):=by
 unfold prodM
 by_cases hs:18446744073709551616≤a*b
 ·rw [if_pos hs];have PR:=hid (product.im_Product_no a b ha hb hs W);have HT:=hid (show TaW B y cf an d.lg W (none,h) (.panicked (refV 1)) W from ⟨.no h W (Hg.tk ⟨d,hp,gd⟩),Bi.refl _ _⟩);clear hp gd o hs;go_enter Tryz.func65,Tryz.ntmps65;go_wp2_with fail;refine (PR.out).mono ?_;rintro e V ⟨rfl,rfl⟩;clear PR;go_wp2
  first|exact⟨rfl,HT.out⟩|exact HT.out
 rw [if_neg hs];have PR:=hid (product.im_Product_yes a b ha hb (by omega) W);have TS:=hid (im_take B y d cf h k an (a*b) W hp gd o (by omega));generalize mallocM cf h (a*b)=mres at *;generalize a*b=ab at *;clear hp gd o hs;go_enter Tryz.func65,Tryz.ntmps65;go_wp2_with fail;refine (PR.out).mono ?_;rintro e V ⟨rfl,rfl⟩;clear PR;go_wp2_with fail;refine (TS.out).mono ?_;rintro e V2 ⟨tr,bi⟩;have BI:=hid bi;clear TS bi
 cases tr with
 | no h1 _ tk=>exact ⟨rfl,.no h1 V2 tk,BI.out⟩
 | slot c s j h1 _ hc hs6 hj hl hg =>
  have HT:=hid (TaR.slot (B:=B) (y:=y) (cf:=cf) (an:=an) (lg:=d.lg) c s j h1 V2 hc hs6 hj hl hg);clear hg hl hj;go_wp2;go_ret;exact⟨HT.out,BI.out⟩
 | range r g d1 h1 _ hr hl hd hp1 gd1 kl1 =>
  have HT:=hid (TaR.range (B:=B) (y:=y) (cf:=cf) (an:=an) (lg:=d.lg) r g d1 h1 V2 hr hl hd hp1 gd1 kl1);clear hp1 gd1 hr hl hd kl1;go_wp2;go_ret;exact⟨HT.out,BI.out⟩
/-! a store in pieces -/
theorem storeM_congr (m:Nat→Option (Bool×List Int)) (a:Nat) (ys zs:List Int):∀ n,(∀ i,i < n→ys[i]?.getD 0=zs[i]?.getD 0)→storeM m a ys n=storeM m a zs n
 | 0,_=>rfl
 | n+1,h=>by
  show putM (storeM m a ys n) (a+n) _=putM (storeM m a zs n) (a+n) _
  rw [storeM_congr m a ys zs n (fun i hi=>h i (by omega)),h n (by omega)]
theorem loadB_get (m:Nat→Option (Bool×List Int)) (a n i:Nat) (hi:i < n):(loadB m a n)[i]?.getD 0=byteAt m (a+i):=by
 unfold loadB;simp [List.getElem?_map,List.getElem?_range hi]
theorem storeM_split (m:Nat→Option (Bool×List Int)) (p q k:Nat):∀ l,storeM (storeM m q (loadB m p k) k) (q+k) (loadB m (p+k) l) l=storeM m q (loadB m p (k+l)) (k+l)
 | 0=>rfl
 | l+1=>by
  have e1:storeM (storeM m q (loadB m p k) k) (q+k) (loadB m (p+k) (l+1)) l=storeM m q (loadB m p (k+(l+1))) (k+l):=by
   rw [storeM_congr _ _ _ (loadB m (p+k) l) l (fun i hi=>by rw [loadB_get _ _ _ _ (by omega),loadB_get _ _ _ _ hi]),storeM_split m p q k l];exact storeM_congr _ _ _ _ _ (fun i hi=>by rw [loadB_get _ _ _ _ hi,loadB_get _ _ _ _ (by omega)])
  show putM (storeM (storeM m q (loadB m p k) k) (q+k) (loadB m (p+k) (l+1)) l) (q+k+l) ((loadB m (p+k) (l+1))[l]?.getD 0)=putM (storeM m q (loadB m p (k+(l+1))) (k+l)) (q+(k+l)) ((loadB m p (k+(l+1)))[k+l]?.getD 0);rw [e1,loadB_get _ _ _ _ (by omega),loadB_get _ _ _ _ (by omega),Nat.add_assoc q k l,Nat.add_assoc p k l]
theorem loadB_store (m:Nat→Option (Bool×List Int)) (p q:Nat) (ys:List Int) (k a l:Nat) (h:a+l≤q∨q+k≤a):loadB (storeM m q ys k) a l=loadB m a l:=by
 unfold loadB;apply List.map_congr_left;intro i hi;have hi':i < l:=by simpa using hi
 exact storeM_byte m q ys (a+i) k (by omega)
theorem copy_step (m:Nat→Option (Bool×List Int)) (p q k l:Nat) (h:p+(k+l)≤q∨q+(k+l)≤p):storeM (copyM m p q k) (q+k) (loadB (copyM m p q k) (p+k) l) l=copyM m p q (k+l):=by
 unfold copyM;rw [loadB_store m p q _ k (p+k) l (by omega)];exact storeM_split m p q k l
theorem Hp.daOwn {B C:Nat} {y:Ly} {d:Dy} {cf:Cf} {h:Hs} {U:World} (hp:Hp B y d cf h U) {v:Value} {ys:List Int} (hr:U.ownsRow C 5 1 v ys.length (Ns .u8 ys)):∃ a c,v=.slice a ys.length c∧ys.length≤c∧Da y.S y.M d.f U a ys.length ys:=by
 obtain⟨a,c,e⟩:=own_sl2 hr;subst e;refine⟨a,c,rfl,?_,rfl,fun i hi=>?_⟩
 ·rcases hr.2 with ⟨e,e2⟩|⟨g,cap',cur,e,h1,h2,h3,_⟩
  ·omega
  simp at e;omega
 obtain⟨g,hg⟩:=own_at hr (by omega);subst hg;obtain⟨cc,h1⟩:=own_blk hr;refine⟨⟨g,0,none⟩,rfl,?_,?_,?_,?_,?_⟩
 ·rw [Addr.add_mid,Nat.zero_add];obtain⟨a,c,e,hc⟩:=bs_own hr;obtain⟨g',e1,e2⟩:=hc i hi;simp at e;rw [←e.1] at e1
  cases e1
  exact e2
 ·rw [Addr.add_mid];exact lt_blk h1
 ·rw [Addr.add_mid];intro e;have e':g=y.S:=e;rw [e',hp.sp.box] at h1;simp at h1
 ·rw [Addr.add_mid];intro e;have e':g=y.M:=e;obtain⟨D,⟨es,c2,h2,_⟩,_⟩:=hp.sp.map;rw [e',h2] at h1
  cases h1
 rw [Addr.add_mid];intro k hk
 rcases hp.pg.at' k with ⟨e1,_⟩|⟨b',l,xs,e1,_,_,e4⟩
 ·rw [hk] at e1;cases e1
 rw [hk] at e1
 cases e1
 rw [e4] at h1;simp at h1
theorem Inv.openN9 {cf:Cf} {h:Hs} (i:Inv cf h) {p n:Nat} (A:Area h p n) {k l:Nat} (hk:k+l≤n) (h1:1≤l) (h2:l≤4096):accC h.m (p+k) (l:Int)=0:=by
 have:=i.ltA A;exact accC_open h1 h2 (by omega) (fun q hq=>by rw [Nat.add_assoc];exact i.openA A (by omega))
def CpR (B:Nat) (y:Ly) (d:Dy) (cf:Cf) (h:Hs) (W:World) (e:Ending) (W':World):Prop:=e=.returned (.tuple #[])∧(∃ f',Hp B y { d with f:=f' } cf h W')∧Bi B W W'
theorem Area.bytes {h:Hs} {p n:Nat} (A:Area h p n) (m:Nat→Option (Bool×List Int)):Area { h with m:=m } p n:=by
 cases A with
 | slot c s j hc hs hj hp hl hn=>exact .slot c s j hc hs hj hp hl hn
 | range r hr hb hs hn=>exact .range r hr hb hs hn
theorem im_copy (B:Nat) (y:Ly) (d:Dy) (cf:Cf) (h:Hs) (p q n:Nat) (W:World) (hp:Hp B y d cf h W) (i:Inv cf h) (ap:Area h p n) (aq:Area h q n) (hne:p≠q) :
  Calls Tryz.prog 94 #[Vp y.P 0,Vu (p:Nat),Vu (q:Nat),Vu (n:Nat)] W (CpR B y d cf { h with m:=copyM h.m p q n } W):=by
 have hap:=i.apartA ap aq hne;have lp:=i.ltA ap;have lq:=i.ltA aq;have BW:=hid hp.bW;have STEP:=hid (show ∀ (k l:Nat) (f:Nat→Option Nat) (U:World),k+l≤n→1≤l→l≤4096→Hp B y { d with f:=f } cf { h with m:=copyM h.m p q k } U →
   Calls Tryz.prog 70 #[Vp y.P 0,Vu (p+k:Nat),Vu (l:Nat)] U fun e U'=>∃ f' a c,e=.returned (.slice a l c)∧Hp B y { d with f:=f' } cf { h with m:=copyM h.m p q k } U'∧Bi B U U'∧l≤c∧Calls Tryz.prog 71 #[Vp y.P 0,Vu (q+k:Nat),.slice a l c] U' (CpR B y d cf { h with m:=copyM h.m p q (k+l) } U') from fun k l f U hk h1 h2 hU=>by
  have ik:Inv cf { h with m:=copyM h.m p q k }:=i.bytes _ _ _
  have acl:=ik.openN9 (ap.bytes (copyM h.m p q k)) hk h1 h2
  have acs:=ik.openN9 (aq.bytes (copyM h.m p q k)) hk h1 h2
  have LD:=im_hload B y _ cf _ (p+k) l U hU ik.out (by omega) (by omega)
  rw [Nat.min_eq_left (by omega)] at LD
  dsimp only at LD acl acs
  rw [acl,if_pos rfl] at LD
  refine LD.mono ?_
  rintro e U' ⟨f',hp1,bi,⟨_,v,rfl,own⟩|⟨hn,_⟩⟩
  rotate_left
  ·exact absurd rfl hn
  have hlen:(loadB (copyM h.m p q k) (p+k) l).length=l:=by simp [loadB]
  obtain⟨a,c,rfl,hc,hda⟩:=hp1.daOwn own
  rw [hlen] at hc hda ⊢
  refine⟨f',a,c,rfl,hp1,bi,hc,?_⟩
  have ST:=im_hstore B y _ cf _ (q+k) a l c _ U' hp1 ik.out (by omega) hda hc
  rw [hlen] at ST
  dsimp only at ST
  rw [acs,if_pos rfl,copy_step h.m p q k l (by omega)] at ST
  refine ST.mono ?_
  rintro e U2 ⟨f2,hp2,bi2,⟨_,rfl⟩|⟨hn,_⟩⟩
  ·exact⟨rfl,⟨f2,hp2⟩,bi2⟩
  exact absurd rfl hn)
 have HP0:=hid (show Hp B y { d with f:=d.f } cf { h with m:=copyM h.m p q 0 } W from hp);clear hp i ap aq hne hap;go_enter Tryz.func94,Tryz.ntmps94;go_wp2;go_loopg [8] n (fun gk s8 wr=>∃ (k:Nat) (f:Nat→Option Nat),s8=Vu (k:Nat)∧gk=n - k∧k≤n+4096∧Hid (Hp B y { d with f:=f } cf { h with m:=copyM h.m p q (min k n) } wr)∧Hid (Bi B W wr))
 case atStart=>exact ⟨0,d.f,rfl,by omega,by omega,hid (by rw [Nat.min_eq_left (Nat.zero_le _)];exact HP0.out),hid (Bi.refl _ _)⟩
 case round =>
  obtain⟨k,f,rfl,hg,hk2,KP,KB⟩:=hrel;clear HP0
  by_cases hkn:k < n
  ·rw [Nat.min_eq_left (by omega)] at KP;have hki:(k:Int) < (n:Int):=by omega
   have hpk:((p+k:Nat):Int)=(p:Int)+(k:Int):=by omega
   have hqk:((q+k:Nat):Int)=(q:Int)+(k:Int):=by omega
   by_cases hc:n - k≤4096
   ·have hci:(n:Int) - (k:Int)≤4096:=by omega
    have LD:=hid (STEP.out k (n - k) f wr (by omega) (by omega) hc KP.out);have e1:(((n - k:Nat):Nat):Int)=(n:Int) - (k:Int):=by omega
    have e2:k+(n - k)=n:=by omega
    rw [e1,e2,hpk,hqk] at LD;clear STEP KP hc e1 e2 hpk hqk;go_wp2_with fail;refine (LD.out).mono ?_;rintro e U ⟨f',a,c,rfl,hp1,bi1,hc1,ST⟩;have SS:=hid ST;have B1:=hid (KB.out.trans bi1);clear ST LD bi1 hp1;go_wp2_with fail;refine (SS.out).mono ?_;rintro e U2 ⟨rfl,⟨f2,hp2⟩,bi2⟩;have H2:=hid hp2;have B2:=hid (B1.out.trans bi2);clear SS hp2 bi2 B1;go_wp2
    go_roundg (n - (k+4096))
    case rel=>exact ⟨k+4096,f2,by rw [Int.natCast_add];rfl,rfl,by omega,hid (by rw [Nat.min_eq_right (by omega)];exact H2.out),B2⟩
    case measure=>omega
   have hci:¬((n:Int) - (k:Int)≤4096):=by omega
   have LD:=hid (STEP.out k 4096 f wr (by omega) (by omega) (by omega) KP.out);rw [hpk,hqk] at LD;clear STEP KP hc hpk hqk;go_wp2_with fail;refine (LD.out).mono ?_;rintro e U ⟨f',a,c,rfl,hp1,bi1,hc1,ST⟩;have SS:=hid ST;have B1:=hid (KB.out.trans bi1);clear ST LD bi1 hp1;go_wp2_with fail;refine (SS.out).mono ?_;rintro e U2 ⟨rfl,⟨f2,hp2⟩,bi2⟩;have H2:=hid hp2;have B2:=hid (B1.out.trans bi2);clear SS hp2 bi2 B1;go_wp2
   go_roundg (n - (k+4096))
   case rel=>exact ⟨k+4096,f2,by rw [Int.natCast_add];rfl,rfl,by omega,hid (by rw [Nat.min_eq_left (by omega)];exact H2.out),B2⟩
   case measure=>omega
  have hki:(n:Int)≤(k:Int):=by omega
  have KE:=hid (show CpR B y d cf { h with m:=copyM h.m p q n } W (.returned (.tuple #[])) wr from ⟨rfl,⟨f,by have:=KP.out;rw [Nat.min_eq_right (by omega)] at this;exact this⟩,KB.out⟩);clear KP STEP hkn;go_wp2
  go_end0
  exact KE.out
end Go.Proofs.YtacccpkmgkojiaaGreatDoorRR
