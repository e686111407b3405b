import Derived.Test.YtibblbenmpcplaaGreatDoorZ02
import Derived.Test.YtibblbenmpcplaaGreatDoorN49
import Derived.Test.YtibblbenmpcplaaGreatDoorCards
import Derived.Test.YtibblbenmpcplaaGreatDoorTie
import Derived.Test.YtibblbenmpcplaaGreatDoorN00
import Derived.WalkKit
import Derived.ProofKit
import Derived.OpenShut
import Derived.ShutString
import Derived.ChangeOld
import Derived.ChangeVars
import Derived.Deep.DeepHandedRow
import Derived.Lib.LaidTab
namespace Go.Proofs.YtibblbenmpcplaaGreatDoor
open Go.RowKit Go.Shelf Go.Maps
set_option linter.unusedVariables false
set_option maxRecDepth 20000
theorem wG {W W' : World} {B : Nat} {l : List Aw} {an : List An4} {va m0 m1 m2 m3 m4 m5 m6 m7 : Value} (one : ∀ v ∈ [va, m0, m1, m2, m3, m4, m5, m6, m7], v.oneCell' = true) (hla : l.map (·.1) = an) (row : W'.ownsRow B 44 4 va l.length (fZ l)) (dat : ∀ z ∈ l, W'.ownsRow B 5 1 z.2 z.1.data.length (Ns .u8 z.1.data)) (b : Below W.heap.size W W') : F9 true an W (.returned (.agg #[.bool true, va, m0, m1, m2, m3, m4, m5, m6, m7])) W' := by
  obtain ⟨A', c', rfl, awq9⟩ := DJ row hla dat
  exact ⟨A', c', m0, m1, m2, m3, m4, m5, m6, m7, rfl, uw one, b, awq9, (yq row).1⟩
theorem wl {c : Cd} {da : Option Addr} {dc : Nat} {v : Value} (h : Value.agg (pQ { c with da := da, dc := dc }).toArray = v) : Value.agg #[.int .i64 c.mi, .int .i64 c.fi, .int .i64 c.la, .int .i64 c.bu, .int .u64 c.ky, .slice da c.ds.length dc] = v := h
theorem CJ : xA 5 := by
  intro c ops bb cf h an rn da A W d dc cap tb hw
  rcases rn with ⟨rfl, hl, hc, dk, l1, hd, hr⟩ | ⟨rfl, hno, rfl⟩
  · rw [wl (hc da dc)]
    rw [Gz] at hl
    refine (Ef cf da dc A cap ops W dk l1 tb (by rw [hd]; exact d.sl) d.dbq9 hw d.oi d.ob hl).mono ?_
    rintro e W' ⟨l, va, m0, m1, m2, m3, m4, m5, m6, m7, rfl, one, hla, row, dat, b⟩
    rw [hr] at hla
    exact wG one hla row dat b
  · rw [Gz] at hno
    refine (nt _ _ _ _ _ _ _ _ _ _ _ _ tb hno).mono ?_
    rintro e W' ⟨rfl, b⟩
    exact ⟨none, 0, _, _, _, _, _, _, _, _, rfl, by kernel_rfl, b, vv W', Fv _⟩
theorem CH : xA 6 := by
  intro c ops bb cf h an rn da A W d dc cap tb hw
  rcases rn with ⟨rfl, hl, hc, dk, l1, hd, hr⟩ | ⟨rfl, hno, rfl⟩
  · rw [wl (hc da dc)]
    rw [Gz] at hl
    refine (E8 cf da dc A cap ops W dk l1 (by rw [hd]; exact d.sl) d.oi hl).mono ?_
    rintro e W' ⟨l, va, m0, m1, m2, m3, m4, m5, m6, m7, rfl, one, hla, row, dat, b⟩
    rw [hr] at hla
    exact wG one hla row dat b
  · rw [Gz] at hno
    refine (ng _ _ _ _ _ _ _ _ _ _ _ _ hno).mono ?_
    rintro e W' ⟨rfl, b⟩
    exact ⟨none, 0, _, _, _, _, _, _, _, _, rfl, by kernel_rfl, b, vv W', Fv _⟩
theorem sL (a : Option Addr) (len cap : Nat) (zs : List Int) (w : World) (h0 : IsRow .u8 w a len cap zs) (tb : Tb w) :
    Calls Tryz.prog 3 #[.slice a len cap] w fun e w' => e = .returned (.bool true) ∧ Below w.heap.size w w' :=
  DU CJ CH a len cap zs w h0 tb (by obtain ⟨t, fr, h⟩ := tb.row; exact ag h)
end Go.Proofs.YtibblbenmpcplaaGreatDoor
namespace Go.Proofs.YtibblbenmpcplaaGreatDoor
open Go.ChangeShapes Go.WideShapes Go.ChangeAt Go.RowKit
set_option linter.unusedVariables false
theorem own : ownKnob Tryz.prog.godebug = none := by kernel_rfl
theorem laidOut : laidOutB Tryz.prog = true := by kernel_rfl
theorem xF : Tryz.prog.globalNamed "loop.example/s01868/impl.slotSizes" = some 0 := by kernel_rfl
theorem mN : (Tryz.prog.globals[0]?).map (·.type) = some 240 := by kernel_rfl
theorem xC : Tryz.prog.cellsOf 240 = 12 := by kernel_rfl
theorem wg : Tryz.prog.cellsOf 3 = 1 := by kernel_rfl
def AQ : Array Value := (vN.map fun z => Value.int .i64 z).toArray
abbrev EE {H : Type} : DataW H := Rows.laid_loop_example_s01868_impl_slotSizes
theorem table {W : World} (h : laidMetH Tryz.prog [("loop.example/s01868/impl.slotSizes", Rows.laid_loop_example_s01868_impl_slotSizes)] W) : Lib.TabIs Tryz.prog W "loop.example/s01868/impl.slotSizes" .i64 vN :=
  Lib.tabIs_of_head (rest := []) xF mN Tryz.underlying240 Tryz.underlying3 wg xC h
theorem AN {W : World} (h : W.var? Tryz.prog "loop.example/s01868/impl.slotSizes" = some AQ) : Tb W := by
  simp only [World.var?, xF, Option.bind_some] at h
  split at h
  · rename_i c t fr hb
    simp only [Hk] at h
    subst h
    exact ⟨t, fr, hb⟩
  · cases h
theorem kA {H : Type} (enc : TypeId × Value → H) (W : World) (sp : Nat → Bool) : DataW.trod enc Tryz.prog W 0 sp true 3 240 AQ.toList = some (EE, []) := by kernel_rfl
theorem ze {W : World} (h : Tb W) : 0 < W.heap.size := by
  obtain ⟨t, fr, h⟩ := h.row
  by_cases hl : 0 < W.heap.size
  · exact hl
  · have : W.heap[0]? = none := Hd (by omega)
    rw [this] at h; cases h
theorem rZ {H : Type} (enc : TypeId × Value → H) {W W' : World} (hv : W.var? Tryz.prog "loop.example/s01868/impl.slotSizes" = some AQ) (bel : Below W.heap.size W W') (sp : Nat → Bool) :
    DataW.TrodVars enc Tryz.prog W' sp ["loop.example/s01868/impl.slotSizes"] [EE] (MemPlace.row ⟨0, 0, none⟩ AQ.size ++ [] ++ []) :=
  ⟨0, 240, AQ, 3, [], [], xF, mN, var?_below bel xF (ze (AN hv)) hv, kA enc W' sp, rfl, rfl⟩
noncomputable def laidWorld (os : _root_.Go.Os) : World :=
  { World.holding Tryz.prog os ⟨#[], #[], []⟩ with heap := (World.holding Tryz.prog os ⟨#[], #[], []⟩).heap.modify 0 fun
      | .cells _ t frozen => .cells #[.int .i64 16, .int .i64 32, .int .i64 48, .int .i64 64, .int .i64 96, .int .i64 128, .int .i64 192, .int .i64 256, .int .i64 384, .int .i64 512, .int .i64 768, .int .i64 1024] t frozen
      | o => o }
end Go.Proofs.YtibblbenmpcplaaGreatDoor
namespace Go.Proofs.YtibblbenmpcplaaGreatDoor.fnTop
open Go.ChangeShapes Go.WideShapes Go.ChangeAt Go.RowKit
set_option linter.unusedVariables false
set_option maxRecDepth 100000
theorem xJ (H : Type) (enc : TypeId × Value → H) (W : World) (base : Nat) (args : Array Value) (ds gs : List (DataW H)) (before : List MemPlace)
    (hval0 : ∀ (j : Nat) t v, Tryz.f3.params[j]? = some t → args[j]? = some v → Value.okWide Tryz.prog W .any base t v)
    (hW : DataW.Whole enc Tryz.prog Tryz.f3.params.toList Rows.fnTopSpec.vars false W args.toList ds gs before) (hL : laidMetH Tryz.prog Rows.fnTopRow.laid W) :
    Calls Tryz.prog 3 args W fun e W' => ∃ v, e = .returned v ∧ Rows.fnTopSpec.post enc Tryz.prog Tryz.f3 false true false false W args v W' := by
  have hval : ∀ (j : Nat) t v, Tryz.f3.params[j]? = some t → args[j]? = some v → Value.okWide Tryz.prog W .any base t v := hval0
  have hW' := hW
  obtain ⟨p, q, hA0, hV0, rfl, hfz, hnd⟩ := hW
  have hA : DataW.TrodAll enc Tryz.prog W 0 (fun _ => true) true Tryz.f3.params.toList args.toList ds p := hA0
  have hV : DataW.TrodVars enc Tryz.prog W (fun _ => true) ["loop.example/s01868/impl.slotSizes"] gs q := hV0
  rw [Tryz.params3] at hA hval
  obtain ⟨v0, vs0, d0, ds0, p0, q0, hargs, rfl, rfl, h0, r0⟩ := trodAll_cons hA
  obtain ⟨rfl, rfl, rfl⟩ := trodAll_nil r0
  obtain rfl : args = #[v0] := by cases args; simp_all
  obtain ⟨g, t, cs, fuel, d, p', rfl, hg, ht, hvar, hd, rfl⟩ := trodVars_one hV
  obtain rfl := GB (xF.symm.trans hg)
  obtain rfl := GB (mN.symm.trans ht)
  have hvar' : W.var? Tryz.prog "loop.example/s01868/impl.slotSizes" = some AQ := table hL
  obtain rfl : cs = AQ := GB (hvar.symm.trans hvar')
  obtain ⟨rfl, rfl⟩ := DataW.Trod.unique (v := .agg AQ) ⟨fuel, hd⟩ ⟨3, kA enc W _⟩
  obtain ⟨a0, len0, cap0, rfl⟩ := okWide_slice Tryz.underlying22 (hval 0 22 v0 rfl rfl)
  have k0 := h0
  have lt0 : ∀ x ∈ p0, x.block < W.heap.size := by obtain ⟨m, hm⟩ := k0; exact DataW.trod_lt m _ _ _ hm
  obtain ⟨z0, w0⟩ : ∃ zs, IsRow .u8 W a0 len0 cap0 zs := by
    obtain ⟨fuel, hf⟩ := h0
    rcases open_ints Tryz.underlying22 Tryz.underlying5 (by kernel_rfl) hf with ⟨hcs, _⟩ | ⟨x, l, c, zs, hcs, _, hl, hm, hz, _, hcell, hwz⟩
    · simp [Value.cells] at hcs
      obtain ⟨rfl, rfl, rfl⟩ := hcs
      exact ⟨[], .inl ⟨rfl, rfl, rfl, rfl⟩⟩
    · simp [Value.cells] at hcs
      obtain ⟨rfl, rfl, rfl⟩ := hcs
      exact ⟨zs, .inr ⟨_, rfl, hl, hm, by simpa using hz, hcell, hwz⟩⟩
  clear hA0 hval0
  refine (sL a0 len0 cap0 z0 W w0 (AN hvar')).mono fun e W' ⟨he, bel⟩ => ?_
  subst he
  exact ⟨_, rfl, _, _, _, [], _, _, hW', trodAll_mk1 (shut_bool Tryz.underlying4 _), (trodAll_cons_mk (Below.trod laidOut (by kernel_rfl) (of_decide_eq_true (by kernel_rfl)) k0 bel lt0) trodAll_mk0), rZ enc hvar' bel _, bel.frame _, fun h => by cases h⟩
theorem xV (os : _root_.Go.Os) : laidMet Tryz.prog Rows.fnTopRow.laid ((laidWorld os).forCall (fun _ _ => 0) ⟨#[], #[.slice none 0 0], []⟩).memory :=
  laidMet_of_run' 8 (by kernel_rfl) (by kernel_rfl)
theorem reads (os : _root_.Go.Os) {H : Type} (enc : TypeId × Value → H) : ∃ ds places, DataW.whole enc Tryz.prog ((laidWorld os).forCall (fun _ _ => 0) ⟨#[], #[.slice none 0 0], []⟩).memory Tryz.f3.params.toList Rows.fnTopSpec.vars false (#[.slice none 0 0] : Array Value).toList 8 = some (ds, [EE], places) :=
  ⟨[.nil], MemPlace.row ⟨0, 0, none⟩ 12, by kernel_rfl⟩
set_option maxRecDepth 100000 in
theorem lifted (os : _root_.Go.Os) (started : os.Started) (H : Type) (enc : TypeId × Value → H) (F : Stop.Interp) :
    ReturnsInHanded {} Tryz.checked os 3 .any ((OpenSpec.ofChange Rows.fnTopSpec).preRow enc Tryz.prog Tryz.f3 Rows.fnTopRow.domain false Rows.fnTopRow.laid) (((OpenSpec.ofChange Rows.fnTopSpec).at F).post enc Tryz.prog Tryz.f3 false true false false) := by
  obtain ⟨ds, places, hx⟩ := reads os enc
  refine returnsInHanded_of_row (C := Tryz.checked) (s := OpenSpec.ofChange Rows.fnTopSpec) own started (by kernel_rfl) Tryz.func3
    (witness_row_at (enc := enc) (C := Tryz.checked) false (laidWorld os) #[.slice none 0 0] rfl (by kernel_rfl) (by kernel_rfl) (by kernel_rfl)
      (OpenSpec.preRow_of_cond 8 hx (by kernel_rfl) (fun k hk => by cases hk) (by kernel_rfl) (xV os))) ?_
  intro W base args ds gs before hval hW _ _ _ hL _ _
  exact xJ H enc W base args ds gs before hval hW hL
theorem said : Rows.FnTopSaid :=
  OpenClaim.holds_of_cond 3 Tryz.f3 rfl rfl rfl rfl rfl rfl rfl ⟨rfl, rfl, rfl, rfl, rfl⟩ rfl rfl rfl rfl rfl (by kernel_rfl) Tryz.func3 (by kernel_rfl)
    (of_decide_eq_true (by kernel_rfl)) (by unfold Func.isWrapper; first | (rw [GP (by decide +kernel)]; kernel_rfl) | (rw [GO (by decide +kernel)]; exact ⟨rfl, rfl⟩))
    (fun os started H enc _ F => by rw [OpenClaim.pre_eq_preRow]; exact lifted os started H enc F)
theorem plain (f : FuncId) (fn : Func) (hf : Tryz.pinned.checked.prog.funcNamed "loop.example/s01868/laws.FnTop" = some f) (hfn : Tryz.pinned.checked.prog.funcs[f]? = some fn) :
    true = Tryz.pinned.checked.prog.looks [] ∧ ∀ (j : Nat) t, fn.params[j]? = some t → Tryz.pinned.checked.prog.wantsStandIn t = false := by
  obtain rfl : f = 3 := GB ((show Tryz.prog.funcNamed "loop.example/s01868/laws.FnTop" = some 3 by kernel_rfl).symm.trans hf) |>.symm
  obtain rfl : fn = Tryz.f3 := (GB (Tryz.func3.symm.trans hfn)).symm
  refine ⟨by kernel_rfl, fun j t ht => ?_⟩
  rw [Tryz.params3] at ht
  have hm : t ∈ ([22] : List TypeId) := by simpa using Array.mem_of_getElem? ht
  have hall : (([22] : List TypeId).all fun u => !Tryz.prog.wantsStandIn u) = true := by kernel_rfl
  exact (show Tryz.prog.wantsStandIn t = false by simpa using List.all_eq_true.1 hall t hm)
theorem card : Rows.FnTopCardSaid :=
  Claim7.holds_tied_plain_at .later [] _ _ _ _ said (fun _ h => by cases h) (by kernel_rfl) (fun _ h => by cases h) fnTop_row_tie rfl ⟨rfl, rfl⟩ (by kernel_rfl) rfl plain (by kernel_rfl)
end Go.Proofs.YtibblbenmpcplaaGreatDoor.fnTop
namespace Go.Proofs.YtibblbenmpcplaaGreatDoor
theorem fnTop_holds : Rows.FnTopCardSaid := fnTop.card
#print axioms fnTop_holds
end Go.Proofs.YtibblbenmpcplaaGreatDoor
