import Derived.Test.YtgandbaejlfppaaGreatDoorN31
namespace Go.Proofs.YtgandbaejlfppaaGreatDoor
set_option linter.unusedVariables false
set_option linter.unusedSimpArgs false
set_option maxRecDepth 20000
set_option maxHeartbeats 8000000
open Go.RowKit Go.Maps
theorem ta_l2 (g:Nat) (w:World):(Instr.typeAssert (.iface 145 (Vp g 0)) 95 145 true).run Tryz.prog w=.ok (.tuple #[Vp g 0,.bool true]) w:=by kernel_rfl
theorem co_fit {a c:Nat} (hc:c < 12):(co (a:Int)==(c:Int))=decide (a≤1016∧coN a=c):=by
 by_cases h:a≤1016
 ·obtain⟨h1,_⟩:=co_c h;rw [h1]
  by_cases h2:coN a=c
  ·simp [h,h2]
  have:((coN a:Int)==(c:Int))=false:=by simp;omega
  rw [this];simp [h2]
 rw [show co (a:Int) = -1 from coFrom_big _ (by omega) 12 0];have:((-1:Int)==(c:Int))=false:=by simp
 rw [this];simp [h]
theorem im_fits_s (g b c s j a:Nat) (W:World) (h:Sc g b c s j W) :
  Calls Tryz.prog 65 #[.iface 133 (Vp g 0),Vu (a:Nat)] W fun e W'=>e=.returned (.bool (decide (a≤1016∧coN a=c)))∧Below W.heap.size W W':=by
 have CO:=hid (fun V (hV:Below W.heap.size W V)=>im_ClassOf (a:Nat) (by omega) V (h.below hV).tb);have CF:=hid (co_fit (a:=a) h.hc);have ta:=fun w=>ta_s g w
 obtain⟨c2,_,d0,_,_,_,_,_⟩:=h;generalize hb9:decide (a≤1016∧coN a=c)=bb at *;clear hb9;generalize co (a:Int)=x at *;go_enter Tryz.func65,Tryz.ntmps65;go_upto_region 4 with fail
 refine wp_region_held (S:=fun W9=>W9.cell? ⟨g,2,none⟩=some (Vp b 0)∧W9.cell? ⟨b,0,none⟩=some (Vi (c:Nat))) (by kernel_rfl) ?_;simp only [List.size_toArray,List.length_cons,List.length_nil,Nat.reduceAdd,Array.replicate_succ,Array.replicate_zero,List.push_toArray,List.nil_append,List.cons_append];have hS:=(⟨c2,d0⟩:W.drew.cell? ⟨g,2,none⟩=some (Vp b 0)∧W.drew.cell? ⟨b,0,none⟩=some (Vi (c:Nat)));refine py hS ?_;simp only [f0,f1,Nat.reduceAdd,lz,l0,ls];refine pk 2 13 (Vp g 0) hS ?_;simp only [lz,l0,ls];refine pk 3 14 (Vp g 0) hS ?_;simp only [lz,l0,ls];refine pk 4 15 (Vp g 2) hS ?_;simp only [lz,l0,ls];refine pz 5 16 (Vp b 0) hS ?_;simp only [lz,l0,ls];refine pk 6 17 (Vp b 0) hS ?_;simp only [lz,l0,ls];refine pk 7 18 (Vp b 0) hS ?_;simp only [lz,l0,ls];refine pz 8 19 (Vi (c:Nat)) hS ?_;simp only [lz,l0,ls];refine po 1 fun K' hK=>?_
 go_simp;refine (CO.out _ (Below.refl _ _).drew).mono ?_;rintro e U1 ⟨rfl,rfl⟩;refine hK.out _ _ ⟨hS,?_⟩;clear hK K'
 iterate 2 (refine py hS ?_;simp only [f0,f1,Nat.reduceAdd,lz,l0,ls])
 refine wpAnyH_done (by kernel_rfl) ?_ _;rw [CF.out];clear hS c2 d0 CO CF;go_wp2;go_ret;exact⟨rfl,(Below.refl _ _).drew⟩
theorem im_fits_l (g a:Nat) (r:Rg9) (W:World) (h:Lc g r W) (ha:a < 18446744073709551616) :
  Calls Tryz.prog 65 #[.iface 145 (Vp g 0),Vu (a:Nat)] W fun e W'=>e=.returned (.bool (decide (1016 < a∧pagesN a=r.pages)))∧Below W.heap.size W W':=by
 have PF:=hid (fun V=>im_pagesFor a V ha);have ta:=fun w=>ta_l g w
 have ta2:=fun w=>ta_l2 g w
 have c4:=h.c4;clear h
 by_cases hs:1016 < a
 ·have HB:=hid (show decide (1016 < a∧pagesN a=r.pages)=(((pagesN a:Nat):Int)==((r.pages:Nat):Int)) by
   by_cases e:pagesN a=r.pages
   ·simp [hs,e]
   have:(((pagesN a:Nat):Int)==((r.pages:Nat):Int))=false:=by simp;omega
   rw [this];simp [e])
  have hsi:decide ((1016:Int) < (a:Int))=true:=by simp;omega
  generalize decide (1016 < a∧pagesN a=r.pages)=bb at *;generalize pagesN a=pp at *;generalize r.pages=rp at *;go_enter Tryz.func65,Tryz.ntmps65;go_upto_region 7 with fail
  refine wp_region_held (S:=fun W9=>W9.cell? ⟨g,4,none⟩=some (Vi (rp:Nat))) (by kernel_rfl) ?_;simp only [List.size_toArray,List.length_cons,List.length_nil,Nat.reduceAdd,Array.replicate_succ,Array.replicate_zero,List.push_toArray,List.nil_append,List.cons_append];have hS:=(c4:W.drew.cell? ⟨g,4,none⟩=some (Vi (rp:Nat)));refine pk 0 24 (Vu (a:Nat)) hS ?_;simp only [lz,l0,ls];refine pz 1 25 (.bool true) hS ?_;simp only [lz,l0,ls];refine pk 2 26 (.bool true) hS ?_;simp only [lz,l0,ls];refine pk 3 27 (Vu (a:Nat)) hS ?_;simp only [lz,l0,ls];refine pk 5 29 (Vp g 0) hS ?_;simp only [lz,l0,ls];refine pk 6 30 (Vp g 0) hS ?_;simp only [lz,l0,ls];refine pk 7 31 (Vp g 4) hS ?_;simp only [lz,l0,ls];refine pz 8 32 (Vi (rp:Nat)) hS ?_;simp only [lz,l0,ls];refine po 4 fun K' hK=>?_
  go_simp;refine (PF.out _).mono ?_;rintro e U1 ⟨rfl,rfl⟩;refine hK.out _ _ ⟨hS,?_⟩;clear hK K';refine pk 9 33 (.bool ((pp:Int)==(rp:Int))) hS ?_;simp only [lz,l0,ls];refine pk 10 34 (.bool ((pp:Int)==(rp:Int))) hS ?_;simp only [lz,l0,ls];refine pk 11 4 (.bool ((pp:Int)==(rp:Int))) hS ?_;simp only [lz,l0,ls];refine wpAnyH_done (by kernel_rfl) ?_ _;rw [←HB.out];clear hS c4 PF HB;go_wp2;go_ret;exact⟨rfl,(Below.refl _ _).drew⟩
 have HB:=hid (show decide (1016 < a∧pagesN a=r.pages)=false by simp [hs]);rw [HB.out];have hsi:decide ((1016:Int) < (a:Int))=false:=by simp;omega
 clear HB;generalize r.pages=rp at *;go_enter Tryz.func65,Tryz.ntmps65;go_upto_region 7 with fail
 refine wp_region_held (S:=fun W9=>W9.cell? ⟨g,4,none⟩=some (Vi (rp:Nat))) (by kernel_rfl) ?_;simp only [List.size_toArray,List.length_cons,List.length_nil,Nat.reduceAdd,Array.replicate_succ,Array.replicate_zero,List.push_toArray,List.nil_append,List.cons_append];have hS:=(c4:W.drew.cell? ⟨g,4,none⟩=some (Vi (rp:Nat)));refine pk 0 24 (Vu (a:Nat)) hS ?_;simp only [lz,l0,ls];refine pz 1 25 (.bool false) hS ?_;simp only [lz,l0,ls];refine pk 2 26 (.bool false) hS ?_;simp only [lz,l0,ls];refine ps 3 27 hS ?_;simp only [lz,l0,ls];refine ps 4 28 hS ?_;simp only [lz,l0,ls];refine ps 5 29 hS ?_;simp only [lz,l0,ls];refine ps 6 30 hS ?_;simp only [lz,l0,ls];refine ps 7 31 hS ?_;simp only [lz,l0,ls];refine ps 8 32 hS ?_;simp only [lz,l0,ls];refine ps 9 33 hS ?_;simp only [lz,l0,ls];refine pk 10 34 (.bool false) hS ?_;simp only [lz,l0,ls];refine pk 11 4 (.bool false) hS ?_;simp only [lz,l0,ls];refine wpAnyH_done (by kernel_rfl) ?_ _;clear hS c4 PF;go_wp2;go_ret;exact⟨rfl,(Below.refl _ _).drew⟩
end Go.Proofs.YtgandbaejlfppaaGreatDoor
namespace Go.Proofs.YtgandbaejlfppaaGreatDoor
set_option linter.unusedVariables false
set_option linter.unusedSimpArgs false
set_option maxRecDepth 20000
set_option maxHeartbeats 8000000
open Go.RowKit Go.Maps
theorem eql_nil (w:World):(binOp .eql 20 .nilIface .nilIface).run Tryz.prog w=.ok (.bool true) w:=by kernel_rfl
theorem eql_ref (c:Int) (w:World):(binOp .eql 20 (.iface 92 (.agg #[Vi c])) .nilIface).run Tryz.prog w=.ok (.bool false) w:=by kernel_rfl
theorem ta_ref (c:Int) (w:World):(Instr.typeAssert (.iface 92 (.agg #[Vi c])) 20 92 true).run Tryz.prog w=.ok (.tuple #[.agg #[Vi c],.bool true]) w:=by kernel_rfl
theorem im_idle (X2 X4:Nat) (W:World) :
  CallsD Tryz.prog 30 #[Vp X2 0,Vp X4 0] .returning W fun e u' W'=>e=.returned (.tuple #[])∧u'=.returning∧W'=W:=by
 have e1:=eql_nil;refine callsD_of_wpS Tryz.func30 rfl fun c₀ cs hu=>?_
 apply wpS_seq;apply wpS_region;simp [wpOpsS,go_sem,recoverD,hu,Tryz.ntmps30,Exit.thenS];refine wpS_of_wp ?_;go_wp2
 cases c₀
 simp_all [bodyPostS,results,Tryz.results30]
def CaR (B:Nat) (y:Ly) (cf:Cf) (h:Hs) (an:Value) (X4:Nat) (code:Int) (W:World) (e:Ending) (u':FrameMode) (W':World):Prop:=e=.returned (.tuple #[])∧u'=.panicking [{ v:=.iface 92 (.agg #[Vi code]),recovered:=true }]∧∃ V V',Below W.heap.size W V∧Hg B y cf h an V'∧Bi B V V'∧W'=V'.setRow X4 #[Vi code,Vu 0,Vi 0,Vn]
theorem im_catch (B:Nat) (y:Ly) (cf:Cf) (h:Hs) (an:Value) (X2 X4:Nat) (code:Int) (W:World) (x2:W.cell? ⟨X2,0,none⟩=some (Vp y.P 0)) (x4:W.heap[X4]?=some (.cells #[Vi 0,Vu 0,Vi 0,Vn] 45 (0,0))) (tk:Tk B y cf h an W) :
  CallsD Tryz.prog 30 #[Vp X2 0,Vp X4 0] (.panicking (refV code)) W (CaR B y cf h an X4 code W):=by
 have e1:=eql_ref code;have e2:=ta_ref code;have b0:Below W.heap.size W (W.alloc (.cells #[Vi code] 92)):=(Below.refl _ _).alloc (Nat.le_refl _) _;have x2':=below_cell b0 x2;have TK:=hid (tk _ b0);have X4':=hid (below_at x4 b0);have B0:=hid b0;have cD:=al_last W (.cells #[Vi code] 92);clear tk x2 x4 b0;refine callsD_of_wpS Tryz.func30 rfl fun c₀ cs hu=>?_
 unfold refV at hu;apply wpS_seq;apply wpS_region;simp [wpOpsS,go_sem,recoverD,hu,Tryz.ntmps30,Exit.thenS];simp only [Array.replicate_succ,Array.replicate_zero,List.push_toArray,List.nil_append,List.cons_append,List.append_toArray,List.setIfInBounds_toArray,List.set_cons_zero,List.set_cons_succ];refine wpS_of_wp ?_;go_wp2_with fail;refine (TK.out).mono ?_;rintro e V ⟨rfl,hg,bi⟩;have X5:=hid (bi.ky.cells _ _ _ _ X4'.out (by unfold hI;decide));have c5:=one_of (bi.ky.cells _ _ _ _ cD (by unfold hI;decide));have HF:=hid (And.intro hg bi);clear hg bi TK x2' cD;go_wp2_with (refine wpList_store_row rfl 45 _ _ rfl _ _ rfl rfl 45 _ X5.out (by kernel_rfl) rfl (by simp [Value.oneCell']) ?_);refine⟨rfl,_,rfl,.tuple #[],by simp [results,Tryz.results30],rfl,rfl,_,V,B0.out,HF.out.1,HF.out.2,rfl⟩
end Go.Proofs.YtgandbaejlfppaaGreatDoor
namespace Go.Proofs.YtgandbaejlfppaaGreatDoor
set_option linter.unusedVariables false
set_option linter.unusedSimpArgs false
set_option maxRecDepth 20000
set_option maxHeartbeats 8000000
open Go.RowKit Go.Maps
theorem putM_at {m : Nat → Option (Bool × List Int)} {p : Nat} (x : Int) {q : Bool × List Int} (h : m (p / 1024) = some q) (hl : q.2.length = 1024) : byteAt (putM m p x) p = x := by
  unfold byteAt putM
  rw [updM_same, h]
  simp only [Option.map_some, Option.getD_some]
  rw [List.getElem?_set_self (by omega)]
  rfl
theorem storeM_fine {m : Nat → Option (Bool × List Int)} (h : Fine m) (a : Nat) (ys : List Int) : ∀ k, Fine (storeM m a ys k)
  | 0 => h
  | k + 1 => (storeM_fine h a ys k).put _ _
theorem opn_some {o : Option (Bool × List Int)} (h : isOpen o = true) : ∃ q, o = some q := by
  cases o with
  | none => simp [isOpen] at h
  | some q => exact ⟨q, rfl⟩
theorem storeM_at {m : Nat → Option (Bool × List Int)} (h : Fine m) (a : Nat) (ys : List Int) : ∀ k i, i < k → isOpen (m ((a + i) / 1024)) = true → byteAt (storeM m a ys k) (a + i) = ys[i]?.getD 0
  | 0, i, hi, _ => by omega
  | k + 1, i, hi, ho => by
    simp only [storeM]
    by_cases e : i = k
    · subst e
      have h1 := storeM_open m a ys i ((a + i) / 1024)
      rw [ho] at h1
      obtain ⟨q, hq⟩ := opn_some h1
      exact putM_at _ hq ((storeM_fine h a ys i) _ _ hq).2
    · rw [putM_byte _ _ _ _ (by omega)]
      exact storeM_at h a ys k i (by omega) ho
theorem coN_in {a : Nat} (h : a ≤ 1016) : coN a < 12 ∧ a + 8 ≤ szN (coN a) := by
  unfold coN
  cases e : (List.range 12).find? fun c => decide (a + 8 ≤ szN c) with
  | none =>
    rw [List.find?_eq_none] at e
    have := e 11 (by simp)
    simp [szN] at this
    omega
  | some c =>
    have h1 := List.find?_some e
    have h2 := List.mem_of_find?_eq_some e
    simp at h1 h2
    exact ⟨h2, h1⟩
theorem cnt_none : ∀ k, cntM (fun _ => none) k = 0
  | 0 => rfl
  | k + 1 => by simp [cntM, cnt_none k]
def m0 (c : Nat) : Nat → Option (Bool × List Int) := freshM (fun _ => none) (slabP c 0) (pgN c)
theorem m0_fine (c : Nat) : Fine (m0 c) := by
  intro k q hq
  unfold m0 at hq
  rw [freshM_eq] at hq
  split at hq
  · cases hq; exact ⟨rfl, by simp⟩
  · cases hq
theorem m0_open {c j i : Nat} (hc : c < 12) (hj : j < slN c) (hi : i < szN c) : m0 c ((adr c 0 j + i) / 1024) = some (false, List.replicate 1024 0) := by
  have h1 := adr_in hc (show 0 < 6 by omega) hj
  unfold m0
  rw [freshM_eq, if_pos]
  have h2 : slabP c 0 * 1024 ≤ adr c 0 j := by unfold adr; omega
  omega
theorem m0_zero {c j i : Nat} (hc : c < 12) (hj : j < slN c) (hi : i < szN c) : byteAt (m0 c) (adr c 0 j + i) = 0 := by
  unfold byteAt
  rw [m0_open hc hj hi]
  simp only [Option.map_some, Option.getD_some]
  rw [List.getElem?_replicate, if_pos (Nat.mod_lt _ (by omega))]
  rfl
theorem m0_clean {c j : Nat} (hc : c < 12) (hj : j < slN c) : clean (m0 c) (adr c 0 j) (szN c) = true := by
  unfold clean
  rw [List.all_eq_true]
  intro x hx
  unfold loadB at hx
  obtain ⟨i, hi, rfl⟩ := List.mem_map.1 hx
  simp at hi
  rw [m0_zero hc hj hi]
  rfl
theorem free_new {cf : Cf} {c : Nat} {m : Nat → Option (Bool × List Int)} : freeS { newH cf with m := m } c 0 = List.range (slN c) := by
  unfold freeS
  rw [List.filter_eq_self]
  intro j _
  rfl
theorem room_new {cf : Cf} (hb : cf.bud = 283) {c : Nat} (hc : c < 12) : roomS cf (newH cf) c = some (0, { newH cf with m := m0 c }) := by
  have h1 : pickS (newH cf) c = none := by
    unfold pickS
    rw [List.find?_eq_none]
    intro s _
    simp [onS, newH]
  have h2 : offS (newH cf) c = some 0 := by rfl
  have hz := szN_in hc
  unfold roomS
  rw [h1, h2]
  simp only
  rw [if_neg]
  · rfl
  · have : cntM (newH cf).m 283 = 0 := cnt_none 283
    omega
theorem new_give (cf : Cf) (hb : cf.bud = 283) {a : Nat} (ha : a ≤ 1016) : ∃ j h1, j < slN (coN a) ∧ mallocM cf (newH cf) a = (some (adr (coN a) 0 j), h1) ∧ h1.st (coN a) 0 j = 1 ∧ h1.m = storeM (m0 (coN a)) (adr (coN a) 0 j + usN (coN a)) (can cf (adr (coN a) 0 j)) 8 ∧ h1.mx = (newH cf).mx ∧ h1.ff = (newH cf).ff := by
  obtain ⟨hc, hs⟩ := coN_in ha
  have hz := szN_in hc
  obtain ⟨hh, hhh⟩ : ∃ hh : Hs, hh = { newH cf with m := m0 (coN a) } := ⟨_, rfl⟩
  obtain ⟨j, hj⟩ : ∃ j, (freeS hh (coN a) 0)[dr cf hh (freeS hh (coN a) 0).length]?.getD 0 = j := ⟨_, rfl⟩
  have hf : freeS hh (coN a) 0 = List.range (slN (coN a)) := by rw [hhh]; exact free_new
  have hj1 : j < slN (coN a) := by
    rw [hf, List.length_range] at hj
    have hd : dr cf hh (slN (coN a)) < slN (coN a) := by
      unfold dr
      have h1 := Int.emod_lt_of_pos (cf.ds[hh.used]?.getD 0) (show (0 : Int) < (slN (coN a) : Int) by omega)
      have h2 := Int.emod_nonneg (cf.ds[hh.used]?.getD 0) (show (slN (coN a) : Int) ≠ 0 by omega)
      omega
    rw [List.getElem?_range hd] at hj
    simp at hj
    omega
  have hsm : smallM cf (coN a) 2000 (newH cf) = (some (0, j), { hh with used := hh.used + 1 }) := by
    rw [smallM_succ cf (coN a) 1999, room_new hb hc]
    simp only
    rw [← hhh, show pickJ cf hh (coN a) 0 = j from hj, if_pos (m0_clean hc hj1)]
    subst hhh
    rfl
  refine ⟨j, { hh with used := hh.used + 1, st := upd3 hh.st (coN a) 0 j 1, rq := upd3 hh.rq (coN a) 0 j a, m := storeM hh.m (adr (coN a) 0 j + usN (coN a)) (can cf (adr (coN a) 0 j)) 8 }, hj1, ?_, ?_, ?_, ?_, ?_⟩
  · unfold mallocM
    rw [if_pos ha, hsm]
  · simp [upd3]
  · rw [hhh]
  · rw [hhh]
  · rw [hhh]
theorem slot_open {cf : Cf} {m : Nat → Option (Bool × List Int)} {c j : Nat} (hc : c < 12) (hj : j < slN c) (ho : ∀ k, isOpen (m k) = isOpen (m0 c k)) {i n : Nat} (hn : i + n ≤ szN c) : ∀ k, k < n → isOpen (m ((adr c 0 j + i + k) / 1024)) = true := fun k hk => by
  rw [ho, Nat.add_assoc, m0_open hc hj (by omega)]
  rfl
theorem load8_ne {m : Nat → Option (Bool × List Int)} {a i : Nat} {l : List Int} (hi : i < 8) (h : byteAt m (a + i) ≠ l[i]?.getD 0) : (loadB m a 8 == l) = false := by
  rw [beq_eq_false_iff_ne]
  intro e
  have := loadB_get m a 8 i hi
  rw [e] at this
  exact h this.symm
theorem load8_eq {m : Nat → Option (Bool × List Int)} {a : Nat} {l : List Int} (hl : l.length = 8) (h : ∀ i, i < 8 → byteAt m (a + i) = l[i]?.getD 0) : (loadB m a 8 == l) = true := by
  rw [beq_iff_eq]
  apply List.ext_getElem?
  intro i
  by_cases hi : i < 8
  · unfold loadB
    rw [List.getElem?_map, List.getElem?_range hi]
    have := h i hi
    rw [List.getElem?_eq_getElem (by omega)] at this ⊢
    simp at this ⊢
    exact this
  · rw [List.getElem?_eq_none (by simp [loadB]; omega), List.getElem?_eq_none (by omega)]
end Go.Proofs.YtgandbaejlfppaaGreatDoor
namespace Go.Proofs.YtgandbaejlfppaaGreatDoor
set_option linter.unusedVariables false
set_option linter.unusedSimpArgs false
set_option maxRecDepth 20000
set_option maxHeartbeats 8000000
open Go.RowKit Go.Maps
theorem runH_cons (cf : Cf) (o : Op6) (r : List Op6) (h : Hs) (an : List An4) : runH cf (o :: r) h an = runH cf r (stepH cf h an o).2 (an ++ [(stepH cf h an o).1]) := rfl
theorem acc1 {m : Nat → Option (Bool × List Int)} {c j i : Nat} (hc : c < 12) (hj : j < slN c) (ho : ∀ k, isOpen (m k) = isOpen (m0 c k)) (hi : i < szN c) : accC m (adr c 0 j + i) ((1 : Nat) : Int) = 0 := by
  have h1 := adr_in hc (show 0 < 6 by omega) hj
  exact accC_open (by omega) (by omega) (by omega) (slot_open (cf := ⟨0, 0, 0, 0, 0, []⟩) hc hj ho (by omega))
theorem step_ref (cf : Cf) (h : Hs) (q : Nat) (an : List An4) (o : Op6) (ho : o.ref = 1) (hq : o.p + q < 18446744073709551616) : stepH cf h (⟨0, q, 0, []⟩ :: an) o = doM cf h o (q + o.p) := by
  unfold stepH
  rw [if_neg (by omega), if_neg (by rw [ho]; simp; omega), ho]
  simp
  rw [Nat.mod_eq_of_lt hq, Nat.add_comm]
theorem find_live {h : Hs} {c j : Nat} (hc : c < 12) (hj : j < slN c) (hs : h.st c 0 j = 1) : findM h (adr c 0 j) = .slot c 0 j := by
  unfold findM
  rw [slotAt_adr hc (by omega) hj]
  simp only
  rw [if_pos hs]
theorem find_gone {h : Hs} {c j : Nat} (hc : c < 12) (hj : j < slN c) (hs : h.st c 0 j = 2) : findM h (adr c 0 j) = .no 4 := by
  unfold findM
  rw [slotAt_adr hc (by omega) hj]
  simp only
  rw [if_neg (by omega), if_neg (by omega)]
theorem do_store (cf : Cf) (h : Hs) (p r n b : Nat) (rf : Int) (x : Int) (ha : accC h.m p ((1 : Nat) : Int) = 0) : doM cf h ⟨6, rf, r, n, b, [x]⟩ p = (.no 0, { h with m := storeM h.m p [x] 1 }) := by
  unfold doM
  simp only [List.length_cons, List.length_nil, Nat.zero_add]
  rw [ha]
  rfl
theorem do_load (cf : Cf) (h : Hs) (p r b : Nat) (rf : Int) (ha : accC h.m p ((1 : Nat) : Int) = 0) : doM cf h ⟨5, rf, r, 1, b, []⟩ p = (⟨0, 0, 0, [byteAt h.m p]⟩, h) := by
  unfold doM
  simp only
  rw [ha]
  rfl
theorem do_free (cf : Cf) (h : Hs) (c j r n b : Nat) (rf : Int) (hc : c < 12) (hj : j < slN c) (hs : h.st c 0 j = 1) : doM cf h ⟨3, rf, r, n, b, []⟩ (adr c 0 j) = if sound cf h c 0 j = false then (.no 5, h) else (.no 0, freeSlot cf h c 0 j) := by
  unfold doM
  simp only [find_live hc hj hs]
  rfl
theorem free_st {cf : Cf} {h : Hs} {c j : Nat} (hf : 1 ≤ cf.fifo) (hmx : h.mx c = List.replicate cf.mix (-1)) (hff : h.ff c = []) : (freeSlot cf h c 0 j).st c 0 j = 2 := by
  have key : ∀ d : Int, (wpM cf.fifo (h.mx c) (h.ff c) ((0 * slN c + j : Nat) : Int) d).2.2 = -1 := fun d => by
    unfold wpM
    rw [hmx, hff]
    by_cases e : cf.mix = 0
    · rw [e]
      simp [pushF, show (0 : Nat) < cf.fifo by omega]
      try omega
    · rw [if_neg (by simp; exact e), if_pos]
      rw [List.length_replicate]
      have hl : md d cf.mix < cf.mix := by
        unfold md
        have h1 := Int.emod_lt_of_pos d (show (0 : Int) < (cf.mix : Int) by omega)
        have h2 := Int.emod_nonneg d (show (cf.mix : Int) ≠ 0 by omega)
        omega
      rw [List.getElem?_replicate, if_pos hl]
      rfl
  unfold freeSlot
  by_cases e : cf.mix = 0
  · simp only [e, if_true]
    rw [if_pos (key _)]
    simp [upd3]
  · simp only [e, if_false]
    rw [if_pos (key _)]
    simp [upd3]
end Go.Proofs.YtgandbaejlfppaaGreatDoor
