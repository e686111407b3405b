import Derived.JoinedCond
import Derived.Test.YtdhegekcmmlohaaGreatDoorCards
import Derived.Test.YtdhegekcmmlohaaGreatDoorTie
import Derived.WalkKit
import Derived.ProofKit
import Derived.OpenShut
import Derived.ShutString
import Derived.ChangeOld
import Derived.ChangeVars
import Derived.Deep.DeepHandedRow
import Derived.Lib.LaidTab
import Derived.Stop.LaidErr
import Derived.Shelf.Vars
import Derived.Test.YtdhegekcmmlohaaGreatDoorM23
namespace Go.Proofs.YtdhegekcmmlohaaGreatDoor.fnExactRunScript
open Go.ChangeShapes Go.WideShapes Go.ChangeAt Go.RowKit Go.Proofs.Tryz
set_option linter.unusedVariables false
abbrev e0 := "loop.example/s01868/impl.errTooLong"
abbrev e1 := "loop.example/s01868/impl.errUnclear"
abbrev e6 := "loop.example/s01868/impl.slotSizes"
abbrev T9 (b : Addr) : Value := .iface 392 (.pointer (some b))
theorem own : ownKnob prog.godebug = none := by kernel_rfl
theorem laidOut : laidOutB prog = true := by kernel_rfl
theorem Oj : prog.globalNamed e0 = some 0 := by kernel_rfl
theorem Oo : (prog.globals[0]?).map (·.type) = some 51 := by kernel_rfl
theorem NH : prog.globalNamed e1 = some 1 := by kernel_rfl
theorem Ot : (prog.globals[1]?).map (·.type) = some 51 := by kernel_rfl
theorem Ox : prog.globalNamed "internal/strconv.uint64pow10" = some 3 := by kernel_rfl
theorem Ov : (prog.globals[3]?).map (·.type) = some 307 := by kernel_rfl
theorem Om : prog.globalNamed e6 = some 6 := by kernel_rfl
theorem Ou : (prog.globals[6]?).map (·.type) = some 339 := by kernel_rfl
def Em : Array Value := (vN.map fun z => Value.int .i64 z).toArray
theorem Ec {W : QM} (h : W.var? prog e6 = some Em) : Tb W := by
  simp only[World.var?, Om, Option.bind_some]at h
  split at h
  · rename_i c t fr hb
    simp only[Hk]at h
    subst h
    exact ⟨t, fr, hb⟩
  · cases h
theorem star : "*" ++ "errors.errorString" = "*errors.errorString" := by decide
theorem DX (u : QO) (h : prog.typeName? 3 u = some "*errors.errorString") : u = 392 :=
  typeName_ptr_named (nm := "errors.errorString") (by rw[star]; kernel_rfl) (by kernel_rfl) (by decide) u (by rw[star]; exact h)
set_option maxRecDepth 100000 in
theorem Dm (H : Type) (enc : QO × QN → H) (W : QM) (base : Nat) (args : Array QN) (ds gs : List (DataW H)) (before : List MemPlace)
    (hval0 : ∀ (j : Nat) t v, f3.params[j]? = some t → args[j]? = some v → Value.okWide prog W .any base t v)
    (hW : DataW.Whole enc prog f3.params.toList Rows.fnExactRunScriptSpec.vars false W args.toList ds gs before) (hL : laidMetH prog Rows.fnExactRunScriptRow.laid W) (hsh : W.ShapedOpen prog) :
    QA 3 args W fun e W' => ∃ v, e = QJ v ∧ Rows.fnExactRunScriptSpec.post enc prog f3 false true false false W args v W' := by
  have hval : ∀ (j : Nat) t v, f3.params[j]? = some t → args[j]? = some v → Value.okWide prog W .any base t v := hval0
  have hW' := hW
  obtain ⟨p, q, hA0, hV0, rfl, hfz, hnd⟩ := hW
  have hA : DataW.TrodAll enc prog W 0 (fun _ => true) true f3.params.toList args.toList ds p := hA0
  have hV : DataW.TrodVars enc prog W (fun _ => true) [e0, e1, e6] gs q := hV0
  rw[params3]at hA hval
  obtain ⟨v0, vs0, d0, ds0, p0, q0, hargs, rfl, rfl, h0, r0⟩ := trodAll_cons hA
  obtain ⟨rfl, rfl, rfl⟩ := trodAll_nil r0
  obtain rfl : args = #[v0] := by cases args; simp_all
  have hL2 : laidMet prog [("math/bits.deBruijn32tab", Rows.laid_math_bits_deBruijn32tab), ("math/bits.deBruijn64tab", Rows.laid_math_bits_deBruijn64tab), ("internal/strconv.uint64pow10", Rows.laid_internal_strconv_uint64pow10), ("unicode/utf8.acceptRanges", Rows.laid_unicode_utf8_acceptRanges), (e6, Rows.laid_loop_example_s01868_impl_slotSizes), (e0, Rows.laid_loop_example_s01868_impl_errTooLong), (e1, Rows.laid_loop_example_s01868_impl_errUnclear), ("unicode/utf8.first", Rows.laid_unicode_utf8_first)] W := hL
  have hP : PtW W := Lib.tabIs_of_head Ox Ov underlying307 underlying27 (by kernel_rfl) (by kernel_rfl) hL2.tail.tail
  have hv6 : W.var? prog e6 = some Em := Lib.tabIs_of_head Om Ou underlying339 underlying3 (by kernel_rfl) (by kernel_rfl) hL2.tail.tail.tail.tail
  have hL3 := hL2.tail.tail.tail.tail.tail
  obtain ⟨b0, s0, hv0, hc0, hs0, hz0⟩ := laid_sentinel hL3 Oj Oo underlying51 DX underlying392 underlying414 rfl rfl underlying9 (by kernel_rfl) (by kernel_rfl)
  obtain ⟨b1, s1, hv1, hc1, hs1, hz1⟩ := laid_sentinel hL3.tail NH Ot underlying51 DX underlying392 underlying414 rfl rfl underlying9 (by kernel_rfl) (by kernel_rfl)
  have vr : ∀ {X : QM}, X.var? prog e0 = some #[T9 b0] → X.var? prog e1 = some #[T9 b1] → X.var? prog e6 = some Em → ∀ sp : Nat → Bool,
      DataW.TrodVars enc prog X sp [e0, e1, e6] [tok enc (T9 b0), tok enc (T9 b1), Rows.laid_loop_example_s01868_impl_slotSizes] (MemPlace.row ⟨0, 0, none⟩ 1 ++ [] ++ (MemPlace.row ⟨1, 0, none⟩ 1 ++ [] ++ (MemPlace.row ⟨6, 0, none⟩ Em.size ++ [] ++ []))) :=
    fun x0 x1 x6 sp => ⟨0, _, _, 1, [], _, Oj, Oo, x0, trod_held underlying51 (show IsIface (T9 b0) from trivial) 0, ⟨1, _, _, 1, [], _, NH, Ot, x1, trod_held underlying51 (show IsIface (T9 b1) from trivial) 0, ⟨6, _, Em, 3, [], [], Om, Ou, x6, by kernel_rfl, rfl, rfl⟩, rfl⟩, rfl⟩
  obtain ⟨rfl, rfl⟩ := hV.unique (vr hv0 hv1 hv6 _)
  have hg0 : W.cell? ⟨0, 0, none⟩ = some (T9 b0) := by simpa using World.var?_cell Oj hv0 0
  have hg1 : W.cell? ⟨1, 0, none⟩ = some (T9 b1) := by simpa using World.var?_cell NH hv1 0
  obtain ⟨mx, hmx⟩ := cell_of_shapedOpen_int (P := prog) (g := 2) (t := 3) (zero := #[.int .i64 0]) hsh (of_decide_eq_true (by kernel_rfl)) (by kernel_rfl) rfl (by kernel_rfl) (by kernel_rfl) underlying3
  obtain ⟨a0, len0, cap0, rfl⟩ := okWide_slice underlying22 (hval 0 22 v0 rfl rfl)
  have k0 := h0
  have lt0 : ∀ x ∈ p0, x.block < W.heap.size := by obtain ⟨m, hm⟩ := k0; exact DataW.trod_lt m _ _ _ hm
  obtain ⟨z0, w0⟩ : ∃ zs, IsRow .u8 W a0 len0 cap0 zs := by
    obtain ⟨fuel, hf⟩ := h0
    rcases open_ints underlying22 underlying5 (by kernel_rfl) hf with ⟨hcs, _⟩ | ⟨x, l, c, zs, hcs, _, hl, hm, hz, _, hcell, hwz⟩
    · simp[Value.cells]at hcs
      obtain ⟨rfl, rfl, rfl⟩ := hcs
      exact ⟨[], .inl ⟨rfl, rfl, rfl, rfl⟩⟩
    · simp[Value.cells]at hcs
      obtain ⟨rfl, rfl, rfl⟩ := hcs
      exact ⟨zs, .inr ⟨_, rfl, hl, hm, by simpa using hz, hcell, hwz⟩⟩
  clear hA0 hval0
  have lt_g : ∀ {x : Addr} {v : QN}, W.cell? x = some v → x.block < W.heap.size := fun {x v} h => by
    unfold World.cell? at h
    split at h
    · rename_i h1; exact G_ h1
    · cases h
  have tb := Ec hv6
  have h6 : 6 < W.heap.size := by obtain ⟨t, fr, h⟩ := tb.row; exact G_ h
  refine (Ei a0 len0 cap0 z0 b0 b1 mx W w0 hg0 hg1 hmx hP tb h6).mono fun e W' ⟨he, bel⟩ => ?_
  subst he
  exact ⟨_, rfl, _, _, _, [], _, _, hW', trodAll_mk1 (shut_bool underlying4 _), (trodAll_cons_mk (Below.trod laidOut (by kernel_rfl) (of_decide_eq_true (by kernel_rfl)) k0 bel lt0) trodAll_mk0), vr (var?_below bel Oj (lt_g hg0) hv0) (var?_below bel NH (lt_g hg1) hv1) (var?_below bel Om h6 hv6) _, bel.frame _, fun h => by cases h⟩
def l1 : DataW Unit → List Value
  | .lit (.int k n) => [.int k n]
  | _ => []
def l2 : DataW Unit → List Value
  | .agg ps => ps.flatMap l1
  | d => l1 d
def l3 : DataW Unit → Array Value
  | .agg ps => (ps.flatMap l2).toArray
  | _ => #[]
noncomputable def laidWorld (os : _root_.Go.Os) : World :=
  let N := (World.settled prog os).heap.size
  let w0 := World.holding prog os ⟨#[.cells #[.string { data := #[116, 104, 101, 32, 115, 99, 114, 105, 112, 116, 32, 105, 115, 32, 116, 111, 111, 32, 108, 111, 110, 103] }] 414, .cells #[.string { data := #[117, 110, 99, 108, 101, 97, 114] }] 414], #[], []⟩
  let put (h : Array Obj) (x : Nat × Array Value) : Array Obj := h.modify x.1 fun
    | .cells _ t frozen => .cells x.2 t frozen
    | o => o
  { w0 with heap := [(0, #[T9 ⟨N, 0, none⟩]), (1, #[T9 ⟨N + 1, 0, none⟩]), (3, l3 Rows.laid_internal_strconv_uint64pow10), (4, (Go.Pinned.utf8FirstZ.map fun (z : Nat) => Value.int .u8 (z : Int)).toArray), (5, l3 Rows.laid_unicode_utf8_acceptRanges), (6, l3 Rows.laid_loop_example_s01868_impl_slotSizes), (7, l3 Rows.laid_math_bits_deBruijn32tab), (8, l3 Rows.laid_math_bits_deBruijn64tab)].foldl put w0.heap }
theorem Ds (os : _root_.Go.Os) : laidMet prog Rows.fnExactRunScriptRow.laid ((laidWorld os).forCall (fun _ _ => 0) ⟨#[], #[.slice none 0 0], []⟩).memory :=
  laidMet_of_run' 8 (by kernel_rfl) (by kernel_rfl)
theorem reads (os : _root_.Go.Os) {H : Type} (enc : QO × QN → H) : ∃ gs places, DataW.whole enc prog ((laidWorld os).forCall (fun _ _ => 0) ⟨#[], #[.slice none 0 0], []⟩).memory f3.params.toList Rows.fnExactRunScriptSpec.vars false (#[.slice none 0 0] : Array QN).toList 8 = some ([.nil], gs, places) :=
  ⟨[tok enc (T9 ⟨(World.settled prog os).heap.size, 0, none⟩), tok enc (T9 ⟨(World.settled prog os).heap.size + 1, 0, none⟩), Rows.laid_loop_example_s01868_impl_slotSizes], MemPlace.row ⟨0, 0, none⟩ 1 ++ [] ++ (MemPlace.row ⟨1, 0, none⟩ 1 ++ [] ++ (MemPlace.row ⟨6, 0, none⟩ 12 ++ [] ++ [])), by kernel_rfl⟩
set_option maxRecDepth 100000 in
theorem lifted (os : _root_.Go.Os) (started : os.Started) (H : Type) (enc : QO × QN → H) (F : Stop.Interp) :
    ReturnsInHanded {} checked os 3 .any ((OpenSpec.ofChange Rows.fnExactRunScriptSpec).preRow enc prog f3 Rows.fnExactRunScriptRow.domain false Rows.fnExactRunScriptRow.laid) (((OpenSpec.ofChange Rows.fnExactRunScriptSpec).at F).post enc prog f3 false true false false) := by
  obtain ⟨gs, places, hx⟩ := reads os enc
  refine returnsInHanded_of_row (C := checked) (s := OpenSpec.ofChange Rows.fnExactRunScriptSpec) own started (by kernel_rfl) func3
    (witness_row_at (enc := enc) (C := checked) false (laidWorld os) #[.slice none 0 0] rfl (by kernel_rfl) (by kernel_rfl) (by kernel_rfl)
      (OpenSpec.preRow_of_cond 8 hx (by kernel_rfl) (fun k hk => by cases hk) (by kernel_rfl) (Ds os))) ?_
  intro W base args ds gs before hval hW _ _ _ hL hsh _
  exact Dm H enc W base args ds gs before hval hW hL hsh
theorem j1 : (Rows.fnExactRunScriptRow.inPlace == prog.inPlace 3) = true := by kernel_rfl
theorem j2 : (Rows.fnExactRunScriptRow.unfollowed == prog.unfollowed 3) = true := by kernel_rfl
theorem j3 : (Rows.fnExactRunScriptRow.recurses == prog.recurses 3) = true := by kernel_rfl
theorem j4 : (Rows.fnExactRunScriptRow.named == prog.varsNamed 3) = true := by kernel_rfl
theorem closed : joinedFacts prog 3 f3 (OpenSpec.ofChange Rows.fnExactRunScriptSpec).bare Rows.fnExactRunScriptRow = true := by
  unfold joinedFacts
  rw[j1, j2, j3, j4]
  kernel_rfl
theorem said : Rows.FnExactRunScriptSaid :=
  OpenClaim.holds_of_cond 3 f3 rfl rfl rfl rfl rfl rfl rfl ⟨rfl, rfl, rfl, rfl, rfl⟩ rfl rfl rfl rfl rfl (by kernel_rfl) func3 closed
    (of_decide_eq_true (by kernel_rfl)) (by unfold Func.isWrapper; first | (rw[GP (by decide +kernel)]; kernel_rfl) | (rw[GO (by decide +kernel)]; exact ⟨rfl, rfl⟩))
    (fun os started H enc _ F => by rw[OpenClaim.pre_eq_preRow]; exact lifted os started H enc F)
theorem plain (f : FuncId) (fn : Func) (hf : Tryz.pinned.checked.prog.funcNamed "loop.example/s01868/laws.FnExactRunScript" = some f) (hfn : Tryz.pinned.checked.prog.funcs[f]? = some fn) :
    true = Tryz.pinned.checked.prog.looks [] ∧ ∀ (j : Nat) t, fn.params[j]? = some t → Tryz.pinned.checked.prog.wantsStandIn t = false := by
  obtain rfl : f = 3 := GB ((show prog.funcNamed "loop.example/s01868/laws.FnExactRunScript" = some 3 by kernel_rfl).symm.trans hf) |>.symm
  obtain rfl : fn = f3 := (GB (func3.symm.trans hfn)).symm
  refine ⟨by kernel_rfl, fun j t ht => ?_⟩
  rw[params3]at ht
  have hm : t ∈ ([22] : List QO) := by simpa using Array.mem_of_getElem? ht
  have hall : (([22] : List QO).all fun u => !prog.wantsStandIn u) = true := by kernel_rfl
  exact (show prog.wantsStandIn t = false by simpa using List.all_eq_true.1 hall t hm)
theorem card : Rows.FnExactRunScriptCardSaid :=
  Claim7.holds_tied_plain_at .later [] _ _ _ _ said (fun _ h => by cases h) (by kernel_rfl) (fun _ h => by cases h) fnExactRunScript_row_tie rfl ⟨rfl, rfl⟩ (by kernel_rfl) rfl plain (by kernel_rfl)
end Go.Proofs.YtdhegekcmmlohaaGreatDoor.fnExactRunScript
namespace Go.Proofs.YtdhegekcmmlohaaGreatDoor
theorem fnExactRunScript_holds : Rows.FnExactRunScriptCardSaid := fnExactRunScript.card
#print axioms fnExactRunScript_holds
end Go.Proofs.YtdhegekcmmlohaaGreatDoor
