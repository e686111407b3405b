import Derived.Test.YtcefihmnnndleaaDoorHrF
import Derived.Test.YtcefihmnnndleaaDoorCards
import Derived.Test.YtcefihmnnndleaaDoorTie
import Derived.WalkKit
import Derived.ProofKit
import Derived.OpenShut
import Derived.ShutString
import Derived.ChangeOld
import Derived.ChangeVars
import Derived.Deep.DeepHandedRow
import Derived.Lib.LaidTab
import Derived.Stop.LaidErr
import Derived.Shelf.Vars
namespace Go.Proofs.YtcefihmnnndleaaDoor.fnExactReadScript
open Go.ChangeShapes Go.WideShapes Go.ChangeAt Go.RowKit
set_option linter.unusedVariables false

theorem own : ownKnob Tryd.prog.godebug = none := by kernel_rfl
theorem laidOut : laidOutB Tryd.prog = true := by kernel_rfl
theorem gn0 : Tryd.prog.globalNamed "loop.example/s01868/impl.errTooLong" = some 0 := by kernel_rfl
theorem gt0 : (Tryd.prog.globals[0]?).map (·.type) = some 52 := by kernel_rfl
theorem gn1 : Tryd.prog.globalNamed "loop.example/s01868/impl.errUnclear" = some 1 := by kernel_rfl
theorem gt1 : (Tryd.prog.globals[1]?).map (·.type) = some 52 := by kernel_rfl
theorem cells167 : Tryd.prog.cellsOf 167 = 1 := by kernel_rfl
theorem cells9 : Tryd.prog.cellsOf 9 = 1 := by kernel_rfl
theorem star : "*" ++ "errors.errorString" = "*errors.errorString" := by decide
theorem row141 (u : TypeId) (h : Tryd.prog.typeName? 3 u = some "*errors.errorString") : u = 141 :=
  typeName_ptr_named (nm := "errors.errorString") (by rw [star]; kernel_rfl) (by kernel_rfl) (by decide) u (by rw [star]; exact h)

set_option maxRecDepth 100000 in
theorem contract (H : Type) (enc : TypeId × Value → H) (W : World) (base : Nat) (args : Array Value) (ds gs : List (DataW H)) (before : List MemPlace)
    (hval0 : ∀ (j : Nat) t v, Tryd.f3.params[j]? = some t → args[j]? = some v → Value.okWide Tryd.prog W .any base t v)
    (hW : DataW.Whole enc Tryd.prog Tryd.f3.params.toList Rows.fnExactReadScriptSpec.vars false W args.toList ds gs before) (hL : laidMetH Tryd.prog Rows.fnExactReadScriptRow.laid W) (hsh : W.ShapedOpen Tryd.prog) :
    Calls Tryd.prog 3 args W fun e W' => ∃ v, e = .returned v ∧ Rows.fnExactReadScriptSpec.post enc Tryd.prog Tryd.f3 false true false false W args v W' := by
  have hval : ∀ (j : Nat) t v, Tryd.f3.params[j]? = some t → args[j]? = some v → Value.okWide Tryd.prog W .any base t v := hval0
  have hW' := hW
  obtain ⟨p, q, hA0, hV0, rfl, hfz, hnd⟩ := hW
  have hA : DataW.TrodAll enc Tryd.prog W 0 (fun _ => true) true Tryd.f3.params.toList args.toList ds p := hA0
  have hV : DataW.TrodVars enc Tryd.prog W (fun _ => true) ["loop.example/s01868/impl.errTooLong", "loop.example/s01868/impl.errUnclear"] gs q := hV0
  rw [Tryd.params3] at hA hval
  obtain ⟨v0, vs0, d0, ds0, p0, q0, hargs, rfl, rfl, h0, r0⟩ := trodAll_cons hA
  obtain ⟨rfl, rfl, rfl⟩ := trodAll_nil r0
  obtain rfl : args = #[v0] := by cases args; simp_all
  have hL2 : laidMet Tryd.prog Rows.fnExactReadScriptRow.laid W := hL
  have hL3 := laidMet.tail (x := ("unicode/utf8.acceptRanges", Rows.laid_unicode_utf8_acceptRanges)) (r := [("loop.example/s01868/impl.errTooLong", Rows.laid_loop_example_s01868_impl_errTooLong), ("loop.example/s01868/impl.errUnclear", Rows.laid_loop_example_s01868_impl_errUnclear), ("unicode/utf8.first", Rows.laid_unicode_utf8_first)]) hL2
  obtain ⟨b0, s0, hv0, hc0, hs0, hz0⟩ := laid_sentinel hL3 gn0 gt0 Tryd.underlying52 row141 Tryd.underlying141 Tryd.underlying167 rfl rfl Tryd.underlying9 cells167 cells9
  obtain ⟨b1, s1, hv1, hc1, hs1, hz1⟩ := laid_sentinel hL3.tail gn1 gt1 Tryd.underlying52 row141 Tryd.underlying141 Tryd.underlying167 rfl rfl Tryd.underlying9 cells167 cells9
  have vr : ∀ {X : World}, X.var? Tryd.prog "loop.example/s01868/impl.errTooLong" = some #[.iface 141 (.pointer (some b0))] → X.var? Tryd.prog "loop.example/s01868/impl.errUnclear" = some #[.iface 141 (.pointer (some b1))] → ∀ sp : Nat → Bool,
      DataW.TrodVars enc Tryd.prog X sp ["loop.example/s01868/impl.errTooLong", "loop.example/s01868/impl.errUnclear"] [tok enc (.iface 141 (.pointer (some b0))), tok enc (.iface 141 (.pointer (some b1)))] [.cell 0 0, .cell 1 0] :=
    fun x0 x1 sp => vars_read2 enc gn0 gt0 Tryd.underlying52 x0 trivial gn1 gt1 Tryd.underlying52 x1 trivial sp
  obtain ⟨rfl, rfl⟩ := hV.unique (vr hv0 hv1 _)
  have hg0 : W.cell? ⟨0, 0, none⟩ = some (.iface 141 (.pointer (some b0))) := by simpa using World.var?_cell gn0 hv0 0
  have hg1 : W.cell? ⟨1, 0, none⟩ = some (.iface 141 (.pointer (some b1))) := by simpa using World.var?_cell gn1 hv1 0
  obtain ⟨mx, hmx⟩ := cell_of_shapedOpen_int (P := Tryd.prog) (g := 2) (t := 3) (zero := #[.int .i64 0]) hsh (of_decide_eq_true (by kernel_rfl)) (by kernel_rfl) rfl (by kernel_rfl) (by kernel_rfl) Tryd.underlying3
  obtain ⟨a0, len0, cap0, rfl⟩ := okWide_slice Tryd.underlying22 (hval 0 22 v0 rfl rfl)
  have k0 := h0
  have lt0 : ∀ x ∈ p0, x.block < W.heap.size := by obtain ⟨m, hm⟩ := k0; exact DataW.trod_lt m _ _ _ hm
  obtain ⟨z0, w0⟩ : ∃ zs, IsRow .u8 W a0 len0 cap0 zs := by
    obtain ⟨fuel, hf⟩ := h0
    rcases open_ints Tryd.underlying22 Tryd.underlying5 (by kernel_rfl) hf with ⟨hcs, _⟩ | ⟨x, l, c, zs, hcs, _, hl, hm, hz, _, hcell, hwz⟩
    · simp [Value.cells] at hcs
      obtain ⟨rfl, rfl, rfl⟩ := hcs
      exact ⟨[], .inl ⟨rfl, rfl, rfl, rfl⟩⟩
    · simp [Value.cells] at hcs
      obtain ⟨rfl, rfl, rfl⟩ := hcs
      exact ⟨zs, .inr ⟨_, rfl, hl, hm, by simpa using hz, hcell, hwz⟩⟩
  clear hA0 hval0
  have lt_g : ∀ {x : Addr} {v : Value}, W.cell? x = some v → x.block < W.heap.size := fun {x v} h => by
    unfold World.cell? at h
    split at h
    · rename_i h1; exact lt_of_block h1
    · cases h
  refine (walk a0 len0 cap0 z0 b0 b1 mx W w0 ⟨hg0, hg1, hmx⟩).mono fun e W' ⟨he, bel⟩ => ?_
  subst he
  exact ⟨_, rfl, _, _, _, [], _, _, hW', trodAll_mk1 (shut_bool Tryd.underlying4 _), (trodAll_cons_mk (Below.trod laidOut (by kernel_rfl) (of_decide_eq_true (by kernel_rfl)) k0 bel lt0) trodAll_mk0), vr (var?_below bel gn0 (lt_g hg0) hv0) (var?_below bel gn1 (lt_g hg1) hv1) _, bel.frame _, fun h => by cases h⟩

/-- a world for the witness -/
abbrev longS : ByteArray := { data := #[116, 104, 101, 32, 115, 99, 114, 105, 112, 116, 32, 105, 115, 32, 116, 111, 111, 32, 108, 111, 110, 103] }
abbrev uncS : ByteArray := { data := #[117, 110, 99, 108, 101, 97, 114] }
noncomputable def laidWorld (os : _root_.Go.Os) : World :=
  let N := (World.settled Tryd.prog os).heap.size
  let w0 := World.holding Tryd.prog os ⟨#[.cells #[.string longS] 167, .cells #[.string uncS] 167], #[], []⟩
  let put (h : Array Obj) (g : Nat) (cs : Array Value) : Array Obj := h.modify g fun
    | .cells _ t frozen => .cells cs t frozen
    | o => o
  let h1 := put w0.heap 0 #[.iface 141 (.pointer (some ⟨N, 0, none⟩))]
  let h2 := put h1 1 #[.iface 141 (.pointer (some ⟨N + 1, 0, none⟩))]
  let h3 := put h2 3 (Go.Pinned.utf8FirstZ.map fun (z : Nat) => Value.int .u8 (z : Int)).toArray
  let h4 := put h3 4 #[.int .u8 128, .int .u8 191, .int .u8 160, .int .u8 191, .int .u8 128, .int .u8 159, .int .u8 144, .int .u8 191, .int .u8 128, .int .u8 143, .int .u8 0, .int .u8 0, .int .u8 0, .int .u8 0, .int .u8 0, .int .u8 0, .int .u8 0, .int .u8 0, .int .u8 0, .int .u8 0, .int .u8 0, .int .u8 0, .int .u8 0, .int .u8 0, .int .u8 0, .int .u8 0, .int .u8 0, .int .u8 0, .int .u8 0, .int .u8 0, .int .u8 0, .int .u8 0]
  { w0 with heap := h4 }
theorem laid_met (os : _root_.Go.Os) : laidMet Tryd.prog Rows.fnExactReadScriptRow.laid ((laidWorld os).forCall (fun _ _ => 0) ⟨#[], #[.slice none 0 0], []⟩).memory :=
  laidMet_of_run' 8 (by kernel_rfl) (by kernel_rfl)
theorem reads (os : _root_.Go.Os) {H : Type} (enc : TypeId × Value → H) : ∃ gs places, DataW.whole enc Tryd.prog ((laidWorld os).forCall (fun _ _ => 0) ⟨#[], #[.slice none 0 0], []⟩).memory Tryd.f3.params.toList Rows.fnExactReadScriptSpec.vars false (#[.slice none 0 0] : Array Value).toList 8 = some ([.nil], gs, places) :=
  ⟨[tok enc (.iface 141 (.pointer (some ⟨(World.settled Tryd.prog os).heap.size, 0, none⟩))), tok enc (.iface 141 (.pointer (some ⟨(World.settled Tryd.prog os).heap.size + 1, 0, none⟩)))], [.cell 0 0, .cell 1 0], by kernel_rfl⟩

set_option maxRecDepth 100000 in
theorem lifted (os : _root_.Go.Os) (started : os.Started) (H : Type) (enc : TypeId × Value → H) (F : Stop.Interp) :
    ReturnsInHanded {} Tryd.checked os 3 .any ((OpenSpec.ofChange Rows.fnExactReadScriptSpec).preRow enc Tryd.prog Tryd.f3 Rows.fnExactReadScriptRow.domain false Rows.fnExactReadScriptRow.laid) (((OpenSpec.ofChange Rows.fnExactReadScriptSpec).at F).post enc Tryd.prog Tryd.f3 false true false false) := by
  obtain ⟨gs, places, hx⟩ := reads os enc
  refine returnsInHanded_of_row (C := Tryd.checked) (s := OpenSpec.ofChange Rows.fnExactReadScriptSpec) own started (by kernel_rfl) Tryd.func3
    (witness_row_at (enc := enc) (C := Tryd.checked) false (laidWorld os) #[.slice none 0 0] rfl (by kernel_rfl) (by kernel_rfl) (by kernel_rfl)
      (OpenSpec.preRow_of_cond 8 hx (by kernel_rfl) (fun k hk => by cases hk) (by kernel_rfl) (laid_met os))) ?_
  intro W base args ds gs before hval hW _ _ _ hL hsh _
  exact contract H enc W base args ds gs before hval hW hL hsh

theorem said : Rows.FnExactReadScriptSaid :=
  OpenClaim.holds_of_cond 3 Tryd.f3 rfl rfl rfl rfl rfl rfl rfl ⟨rfl, rfl, rfl, rfl, rfl⟩ rfl rfl rfl rfl rfl (by kernel_rfl) Tryd.func3 (by kernel_rfl)
    (of_decide_eq_true (by kernel_rfl)) (by unfold Func.isWrapper; first | (rw [if_pos (by decide +kernel)]; kernel_rfl) | (rw [if_neg (by decide +kernel)]; exact ⟨rfl, rfl⟩))
    (fun os started H enc _ F => by rw [OpenClaim.pre_eq_preRow]; exact lifted os started H enc F)

theorem plain (f : FuncId) (fn : Func) (hf : Tryd.pinned.checked.prog.funcNamed "loop.example/s01868/laws.FnExactReadScript" = some f) (hfn : Tryd.pinned.checked.prog.funcs[f]? = some fn) :
    true = Tryd.pinned.checked.prog.looks [] ∧ ∀ (j : Nat) t, fn.params[j]? = some t → Tryd.pinned.checked.prog.wantsStandIn t = false := by
  obtain rfl : f = 3 := Option.some.inj ((show Tryd.prog.funcNamed "loop.example/s01868/laws.FnExactReadScript" = some 3 by kernel_rfl).symm.trans hf) |>.symm
  obtain rfl : fn = Tryd.f3 := (Option.some.inj (Tryd.func3.symm.trans hfn)).symm
  refine ⟨by kernel_rfl, fun j t ht => ?_⟩
  rw [Tryd.params3] at ht
  have hm : t ∈ ([22] : List TypeId) := by simpa using Array.mem_of_getElem? ht
  have hall : (([22] : List TypeId).all fun u => !Tryd.prog.wantsStandIn u) = true := by kernel_rfl
  exact (show Tryd.prog.wantsStandIn t = false by simpa using List.all_eq_true.1 hall t hm)

theorem card : Rows.FnExactReadScriptCardSaid :=
  Claim7.holds_tied_plain_at .later [] _ _ _ _ said (fun _ h => by cases h) (by kernel_rfl) (fun _ h => by cases h) fnExactReadScript_row_tie rfl ⟨rfl, rfl⟩ (by kernel_rfl) rfl plain (by kernel_rfl)
end Go.Proofs.YtcefihmnnndleaaDoor.fnExactReadScript

namespace Go.Proofs.YtcefihmnnndleaaDoor
theorem fnExactReadScript_holds : Rows.FnExactReadScriptCardSaid := fnExactReadScript.card
#print axioms fnExactReadScript_holds
end Go.Proofs.YtcefihmnnndleaaDoor
