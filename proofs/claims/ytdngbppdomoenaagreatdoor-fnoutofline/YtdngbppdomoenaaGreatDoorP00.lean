import Derived.Test.YtdngbppdomoenaaGreatDoorZ02
import Derived.Test.YtdngbppdomoenaaGreatDoorN49
import Derived.Test.YtdngbppdomoenaaGreatDoorCards
import Derived.Test.YtdngbppdomoenaaGreatDoorTie
import Derived.Test.YtdngbppdomoenaaGreatDoorN00
import Derived.WalkKit
import Derived.ProofKit
import Derived.OpenShut
import Derived.ShutString
import Derived.ChangeOld
import Derived.ChangeVars
import Derived.Deep.DeepHandedRow
import Derived.Lib.LaidTab
namespace Go.Proofs.YtdngbppdomoenaaGreatDoor
open Go.RowKit Go.Shelf Go.Maps
set_option linter.unusedVariables false
set_option maxRecDepth 20000
theorem DL : AJ := fun mi fi la bu ky da dn dc A n cap w h => ng mi fi la bu ky da dn dc A n cap w h
theorem gJ (a : Option Addr) (len cap : Nat) (zs : List Int) (a' : Option Addr) (len' cap' : Nat) (zs' : List Int) (w : World) (h0 : IsRow .u8 w a len cap zs) (h1 : IsRow .u8 w a' len' cap' zs') (tb : Tb w) :
    Calls Tryz.prog 4 #[.slice a len cap, .slice a' len' cap'] w fun e w' => e = .returned (.bool true) ∧ Below w.heap.size w w' :=
  DJ Cp E8 DL a len cap zs a' len' cap' zs' w h0 h1 tb (by obtain ⟨t, fr, h⟩ := tb.row; exact ag h)
end Go.Proofs.YtdngbppdomoenaaGreatDoor
namespace Go.Proofs.YtdngbppdomoenaaGreatDoor
open Go.ChangeShapes Go.WideShapes Go.ChangeAt Go.RowKit
set_option linter.unusedVariables false
theorem own : ownKnob Tryz.prog.godebug = none := by kernel_rfl
theorem laidOut : laidOutB Tryz.prog = true := by kernel_rfl
theorem xF : Tryz.prog.globalNamed "loop.example/s01868/impl.slotSizes" = some 0 := by kernel_rfl
theorem mN : (Tryz.prog.globals[0]?).map (·.type) = some 152 := by kernel_rfl
theorem xC : Tryz.prog.cellsOf 152 = 12 := by kernel_rfl
theorem wg : Tryz.prog.cellsOf 3 = 1 := by kernel_rfl
def AQ : Array Value := (vN.map fun z => Value.int .i64 z).toArray
abbrev EE {H : Type} : DataW H := Rows.laid_loop_example_s01868_impl_slotSizes
theorem table {W : World} (h : laidMetH Tryz.prog [("loop.example/s01868/impl.slotSizes", Rows.laid_loop_example_s01868_impl_slotSizes)] W) : Lib.TabIs Tryz.prog W "loop.example/s01868/impl.slotSizes" .i64 vN :=
  Lib.tabIs_of_head (rest := []) xF mN Tryz.underlying152 Tryz.underlying3 wg xC h
theorem AN {W : World} (h : W.var? Tryz.prog "loop.example/s01868/impl.slotSizes" = some AQ) : Tb W := by
  simp only [World.var?, xF, Option.bind_some] at h
  split at h
  · rename_i c t fr hb
    simp only [Hk] at h
    subst h
    exact ⟨t, fr, hb⟩
  · cases h
theorem kA {H : Type} (enc : TypeId × Value → H) (W : World) (sp : Nat → Bool) : DataW.trod enc Tryz.prog W 0 sp true 3 152 AQ.toList = some (EE, []) := by kernel_rfl
theorem ze {W : World} (h : Tb W) : 0 < W.heap.size := by
  obtain ⟨t, fr, h⟩ := h.row
  by_cases hl : 0 < W.heap.size
  · exact hl
  · have : W.heap[0]? = none := Hd (by omega)
    rw [this] at h; cases h
theorem rZ {H : Type} (enc : TypeId × Value → H) {W W' : World} (hv : W.var? Tryz.prog "loop.example/s01868/impl.slotSizes" = some AQ) (bel : Below W.heap.size W W') (sp : Nat → Bool) :
    DataW.TrodVars enc Tryz.prog W' sp ["loop.example/s01868/impl.slotSizes"] [EE] (MemPlace.row ⟨0, 0, none⟩ AQ.size ++ [] ++ []) :=
  ⟨0, 152, AQ, 3, [], [], xF, mN, var?_below bel xF (ze (AN hv)) hv, kA enc W' sp, rfl, rfl⟩
noncomputable def laidWorld (os : _root_.Go.Os) : World :=
  { World.holding Tryz.prog os ⟨#[], #[], []⟩ with heap := (World.holding Tryz.prog os ⟨#[], #[], []⟩).heap.modify 0 fun
      | .cells _ t frozen => .cells #[.int .i64 16, .int .i64 32, .int .i64 48, .int .i64 64, .int .i64 96, .int .i64 128, .int .i64 192, .int .i64 256, .int .i64 384, .int .i64 512, .int .i64 768, .int .i64 1024] t frozen
      | o => o }
end Go.Proofs.YtdngbppdomoenaaGreatDoor
namespace Go.Proofs.YtdngbppdomoenaaGreatDoor.fnOutOfLine
open Go.ChangeShapes Go.WideShapes Go.ChangeAt Go.RowKit
set_option linter.unusedVariables false
set_option maxRecDepth 100000
theorem xJ (H : Type) (enc : TypeId × Value → H) (W : World) (base : Nat) (args : Array Value) (ds gs : List (DataW H)) (before : List MemPlace)
    (hval0 : ∀ (j : Nat) t v, Tryz.f4.params[j]? = some t → args[j]? = some v → Value.okWide Tryz.prog W .any base t v)
    (hW : DataW.Whole enc Tryz.prog Tryz.f4.params.toList Rows.fnOutOfLineSpec.vars false W args.toList ds gs before) (hL : laidMetH Tryz.prog Rows.fnOutOfLineRow.laid W) :
    Calls Tryz.prog 4 args W fun e W' => ∃ v, e = .returned v ∧ Rows.fnOutOfLineSpec.post enc Tryz.prog Tryz.f4 false true false false W args v W' := by
  have hval : ∀ (j : Nat) t v, Tryz.f4.params[j]? = some t → args[j]? = some v → Value.okWide Tryz.prog W .any base t v := hval0
  have hW' := hW
  obtain ⟨p, q, hA0, hV0, rfl, hfz, hnd⟩ := hW
  have hA : DataW.TrodAll enc Tryz.prog W 0 (fun _ => true) true Tryz.f4.params.toList args.toList ds p := hA0
  have hV : DataW.TrodVars enc Tryz.prog W (fun _ => true) ["loop.example/s01868/impl.slotSizes"] gs q := hV0
  rw [Tryz.params4] at hA hval
  obtain ⟨v0, vs0, d0, ds0, p0, q0, hargs, rfl, rfl, h0, r0⟩ := trodAll_cons hA
  obtain ⟨v1, vs1, d1, ds1, p1, q1, rfl, rfl, rfl, h1, r1⟩ := trodAll_cons r0
  obtain ⟨rfl, rfl, rfl⟩ := trodAll_nil r1
  obtain rfl : args = #[v0, v1] := by cases args; simp_all
  obtain ⟨g, t, cs, fuel, d, p', rfl, hg, ht, hvar, hd, rfl⟩ := trodVars_one hV
  obtain rfl := GB (xF.symm.trans hg)
  obtain rfl := GB (mN.symm.trans ht)
  have hvar' : W.var? Tryz.prog "loop.example/s01868/impl.slotSizes" = some AQ := table hL
  obtain rfl : cs = AQ := GB (hvar.symm.trans hvar')
  obtain ⟨rfl, rfl⟩ := DataW.Trod.unique (v := .agg AQ) ⟨fuel, hd⟩ ⟨3, kA enc W _⟩
  obtain ⟨a0, len0, cap0, rfl⟩ := okWide_slice Tryz.underlying22 (hval 0 22 v0 rfl rfl)
  have k0 := h0
  have lt0 : ∀ x ∈ p0, x.block < W.heap.size := by obtain ⟨m, hm⟩ := k0; exact DataW.trod_lt m _ _ _ hm
  obtain ⟨z0, w0⟩ : ∃ zs, IsRow .u8 W a0 len0 cap0 zs := by
    obtain ⟨fuel, hf⟩ := h0
    rcases open_ints Tryz.underlying22 Tryz.underlying5 (by kernel_rfl) hf with ⟨hcs, _⟩ | ⟨x, l, c, zs, hcs, _, hl, hm, hz, _, hcell, hwz⟩
    · simp [Value.cells] at hcs
      obtain ⟨rfl, rfl, rfl⟩ := hcs
      exact ⟨[], .inl ⟨rfl, rfl, rfl, rfl⟩⟩
    · simp [Value.cells] at hcs
      obtain ⟨rfl, rfl, rfl⟩ := hcs
      exact ⟨zs, .inr ⟨_, rfl, hl, hm, by simpa using hz, hcell, hwz⟩⟩
  obtain ⟨a1, len1, cap1, rfl⟩ := okWide_slice Tryz.underlying22 (hval 1 22 v1 rfl rfl)
  have k1 := h1
  have lt1 : ∀ x ∈ p1, x.block < W.heap.size := by obtain ⟨m, hm⟩ := k1; exact DataW.trod_lt m _ _ _ hm
  obtain ⟨z1, w1⟩ : ∃ zs, IsRow .u8 W a1 len1 cap1 zs := by
    obtain ⟨fuel, hf⟩ := h1
    rcases open_ints Tryz.underlying22 Tryz.underlying5 (by kernel_rfl) hf with ⟨hcs, _⟩ | ⟨x, l, c, zs, hcs, _, hl, hm, hz, _, hcell, hwz⟩
    · simp [Value.cells] at hcs
      obtain ⟨rfl, rfl, rfl⟩ := hcs
      exact ⟨[], .inl ⟨rfl, rfl, rfl, rfl⟩⟩
    · simp [Value.cells] at hcs
      obtain ⟨rfl, rfl, rfl⟩ := hcs
      exact ⟨zs, .inr ⟨_, rfl, hl, hm, by simpa using hz, hcell, hwz⟩⟩
  clear hA0 hval0
  refine (gJ a0 len0 cap0 z0 a1 len1 cap1 z1 W w0 w1 (AN hvar')).mono fun e W' ⟨he, bel⟩ => ?_
  subst he
  exact ⟨_, rfl, _, _, _, [], _, _, hW', trodAll_mk1 (shut_bool Tryz.underlying4 _), (trodAll_cons_mk (Below.trod laidOut (by kernel_rfl) (of_decide_eq_true (by kernel_rfl)) k0 bel lt0) (trodAll_cons_mk (Below.trod laidOut (by kernel_rfl) (of_decide_eq_true (by kernel_rfl)) k1 bel lt1) trodAll_mk0)), rZ enc hvar' bel _, bel.frame _, fun h => by cases h⟩
theorem xV (os : _root_.Go.Os) : laidMet Tryz.prog Rows.fnOutOfLineRow.laid ((laidWorld os).forCall (fun _ _ => 0) ⟨#[], #[.slice none 0 0, .slice none 0 0], []⟩).memory :=
  laidMet_of_run' 8 (by kernel_rfl) (by kernel_rfl)
theorem reads (os : _root_.Go.Os) {H : Type} (enc : TypeId × Value → H) : ∃ ds places, DataW.whole enc Tryz.prog ((laidWorld os).forCall (fun _ _ => 0) ⟨#[], #[.slice none 0 0, .slice none 0 0], []⟩).memory Tryz.f4.params.toList Rows.fnOutOfLineSpec.vars false (#[.slice none 0 0, .slice none 0 0] : Array Value).toList 8 = some (ds, [EE], places) :=
  ⟨[.nil, .nil], MemPlace.row ⟨0, 0, none⟩ 12, by kernel_rfl⟩
set_option maxRecDepth 100000 in
theorem lifted (os : _root_.Go.Os) (started : os.Started) (H : Type) (enc : TypeId × Value → H) (F : Stop.Interp) :
    ReturnsInHanded {} Tryz.checked os 4 .any ((OpenSpec.ofChange Rows.fnOutOfLineSpec).preRow enc Tryz.prog Tryz.f4 Rows.fnOutOfLineRow.domain false Rows.fnOutOfLineRow.laid) (((OpenSpec.ofChange Rows.fnOutOfLineSpec).at F).post enc Tryz.prog Tryz.f4 false true false false) := by
  obtain ⟨ds, places, hx⟩ := reads os enc
  refine returnsInHanded_of_row (C := Tryz.checked) (s := OpenSpec.ofChange Rows.fnOutOfLineSpec) own started (by kernel_rfl) Tryz.func4
    (witness_row_at (enc := enc) (C := Tryz.checked) false (laidWorld os) #[.slice none 0 0, .slice none 0 0] rfl (by kernel_rfl) (by kernel_rfl) (by kernel_rfl)
      (OpenSpec.preRow_of_cond 8 hx (by kernel_rfl) (fun k hk => by cases hk) (by kernel_rfl) (xV os))) ?_
  intro W base args ds gs before hval hW _ _ _ hL _ _
  exact xJ H enc W base args ds gs before hval hW hL
theorem said : Rows.FnOutOfLineSaid :=
  OpenClaim.holds_of_cond 4 Tryz.f4 rfl rfl rfl rfl rfl rfl rfl ⟨rfl, rfl, rfl, rfl, rfl⟩ rfl rfl rfl rfl rfl (by kernel_rfl) Tryz.func4 (by kernel_rfl)
    (of_decide_eq_true (by kernel_rfl)) (by unfold Func.isWrapper; first | (rw [GP (by decide +kernel)]; kernel_rfl) | (rw [GO (by decide +kernel)]; exact ⟨rfl, rfl⟩))
    (fun os started H enc _ F => by rw [OpenClaim.pre_eq_preRow]; exact lifted os started H enc F)
theorem plain (f : FuncId) (fn : Func) (hf : Tryz.pinned.checked.prog.funcNamed "loop.example/s01868/laws.FnOutOfLine" = some f) (hfn : Tryz.pinned.checked.prog.funcs[f]? = some fn) :
    true = Tryz.pinned.checked.prog.looks [] ∧ ∀ (j : Nat) t, fn.params[j]? = some t → Tryz.pinned.checked.prog.wantsStandIn t = false := by
  obtain rfl : f = 4 := GB ((show Tryz.prog.funcNamed "loop.example/s01868/laws.FnOutOfLine" = some 4 by kernel_rfl).symm.trans hf) |>.symm
  obtain rfl : fn = Tryz.f4 := (GB (Tryz.func4.symm.trans hfn)).symm
  refine ⟨by kernel_rfl, fun j t ht => ?_⟩
  rw [Tryz.params4] at ht
  have hm : t ∈ ([22, 22] : List TypeId) := by simpa using Array.mem_of_getElem? ht
  have hall : (([22, 22] : List TypeId).all fun u => !Tryz.prog.wantsStandIn u) = true := by kernel_rfl
  exact (show Tryz.prog.wantsStandIn t = false by simpa using List.all_eq_true.1 hall t hm)
theorem card : Rows.FnOutOfLineCardSaid :=
  Claim7.holds_tied_plain_at .later [] _ _ _ _ said (fun _ h => by cases h) (by kernel_rfl) (fun _ h => by cases h) fnOutOfLine_row_tie rfl ⟨rfl, rfl⟩ (by kernel_rfl) rfl plain (by kernel_rfl)
end Go.Proofs.YtdngbppdomoenaaGreatDoor.fnOutOfLine
namespace Go.Proofs.YtdngbppdomoenaaGreatDoor
theorem fnOutOfLine_holds : Rows.FnOutOfLineCardSaid := fnOutOfLine.card
#print axioms fnOutOfLine_holds
end Go.Proofs.YtdngbppdomoenaaGreatDoor
