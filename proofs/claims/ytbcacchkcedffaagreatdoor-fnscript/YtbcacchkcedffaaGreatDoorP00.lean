import Derived.JoinedCond
import Derived.Test.YtbcacchkcedffaaGreatDoorCards
import Derived.Test.YtbcacchkcedffaaGreatDoorTie
import Derived.WalkKit
import Derived.ProofKit
import Derived.OpenShut
import Derived.ShutString
import Derived.ChangeOld
import Derived.ChangeVars
import Derived.Deep.DeepHandedRow
import Derived.Lib.LaidTab
import Derived.Stop.LaidErr
import Derived.Shelf.Vars
import Derived.Test.YtbcacchkcedffaaGreatDoorM13
namespace Go.Proofs.YtbcacchkcedffaaGreatDoor.fnScript
open Go.ChangeShapes Go.WideShapes Go.ChangeAt Go.RowKit Go.Proofs.Tryz
set_option linter.unusedVariables false
abbrev Rr := "loop.example/s01868/impl.errTooLong"
abbrev Rm := "loop.example/s01868/impl.errUnclear"
abbrev NC := "loop.example/s01868/impl.slotSizes"
abbrev Er (b : Addr) : Value := .iface 399 (.pointer (some b))
theorem RU : ownKnob prog.godebug = none := by kernel_rfl
theorem RY : laidOutB prog = true := by kernel_rfl
theorem Ru : prog.globalNamed Rr = some 0 := by kernel_rfl
theorem RH : (prog.globals[0]?).map (·.type) = some 52 := by kernel_rfl
theorem Rv : prog.globalNamed Rm = some 1 := by kernel_rfl
theorem RA : (prog.globals[1]?).map (·.type) = some 52 := by kernel_rfl
theorem R_ : prog.globalNamed "internal/strconv.uint64pow10" = some 4 := by kernel_rfl
theorem RX : (prog.globals[4]?).map (·.type) = some 365 := by kernel_rfl
theorem Rw : prog.globalNamed NC = some 2 := by kernel_rfl
theorem Rz : (prog.globals[2]?).map (·.type) = some 323 := by kernel_rfl
def Q4 : Array Value := (vN.map fun z => Value.int .i64 z).toArray
theorem Sj {W : QM} (h : W.var? prog NC = some Q4) : Tb W := by
  simp only[World.var?, Rw, Option.bind_some]at h
  split at h
  · rename_i c t fr hb
    simp only[Hk]at h
    subst h
    exact ⟨t, fr, hb⟩
  · cases h
theorem Ry : "*" ++ "errors.errorString" = "*errors.errorString" := by decide
theorem RI (u : QO) (h : prog.typeName? 3 u = some "*errors.errorString") : u = 399 :=
  typeName_ptr_named (nm := "errors.errorString") (by rw[Ry]; kernel_rfl) (by kernel_rfl) (by decide) u (by rw[Ry]; exact h)
set_option maxRecDepth 100000 in
theorem Si (H : Type) (enc : QO × QN → H) (W : QM) (base : Nat) (args : Array QN) (ds gs : List (DataW H)) (before : List MemPlace)
    (hval0 : ∀ (j : Nat) t v, f3.params[j]? = some t → args[j]? = some v → Value.okWide prog W .any base t v)
    (hW : DataW.Whole enc prog f3.params.toList Rows.fnScriptSpec.vars false W args.toList ds gs before) (hL : laidMetH prog Rows.fnScriptRow.laid W) (hsh : W.ShapedOpen prog) :
    QA 3 args W fun e W' => ∃ v, e = QJ v ∧ Rows.fnScriptSpec.post enc prog f3 false true false false W args v W' := by
  have hval : ∀ (j : Nat) t v, f3.params[j]? = some t → args[j]? = some v → Value.okWide prog W .any base t v := hval0
  have hW' := hW
  obtain ⟨p, q, hA0, hV0, rfl, hfz, hnd⟩ := hW
  have hA : DataW.TrodAll enc prog W 0 (fun _ => true) true f3.params.toList args.toList ds p := hA0
  have hV : DataW.TrodVars enc prog W (fun _ => true) [Rr, Rm, NC] gs q := hV0
  rw[params3]at hA hval
  obtain ⟨v0, vs0, d0, ds0, p0, q0, hargs, rfl, rfl, h0, r0⟩ := trodAll_cons hA
  obtain ⟨rfl, rfl, rfl⟩ := trodAll_nil r0
  obtain rfl : args = #[v0] := by cases args; simp_all
  have hL2 : laidMet prog [("math/bits.deBruijn32tab", Rows.laid_math_bits_deBruijn32tab), ("math/bits.deBruijn64tab", Rows.laid_math_bits_deBruijn64tab), ("internal/strconv.uint64pow10", Rows.laid_internal_strconv_uint64pow10), ("unicode/utf8.acceptRanges", Rows.laid_unicode_utf8_acceptRanges), (NC, Rows.laid_loop_example_s01868_impl_slotSizes), (Rr, Rows.laid_loop_example_s01868_impl_errTooLong), (Rm, Rows.laid_loop_example_s01868_impl_errUnclear), ("unicode/utf8.first", Rows.laid_unicode_utf8_first)] W := hL
  have hP : PtW W := Lib.tabIs_of_head R_ RX underlying365 underlying24 (by kernel_rfl) (by kernel_rfl) hL2.tail.tail
  have hv6 : W.var? prog NC = some Q4 := Lib.tabIs_of_head Rw Rz underlying323 underlying3 (by kernel_rfl) (by kernel_rfl) hL2.tail.tail.tail.tail
  have hL3 := hL2.tail.tail.tail.tail.tail
  obtain ⟨b0, s0, hv0, hc0, hs0, hz0⟩ := laid_sentinel hL3 Ru RH underlying52 RI underlying399 underlying421 rfl rfl underlying9 (by kernel_rfl) (by kernel_rfl)
  obtain ⟨b1, s1, hv1, hc1, hs1, hz1⟩ := laid_sentinel hL3.tail Rv RA underlying52 RI underlying399 underlying421 rfl rfl underlying9 (by kernel_rfl) (by kernel_rfl)
  have vr : ∀ {X : QM}, X.var? prog Rr = some #[Er b0] → X.var? prog Rm = some #[Er b1] → X.var? prog NC = some Q4 → ∀ sp : Nat → Bool,
      DataW.TrodVars enc prog X sp [Rr, Rm, NC] [tok enc (Er b0), tok enc (Er b1), Rows.laid_loop_example_s01868_impl_slotSizes] (MemPlace.row ⟨0, 0, none⟩ 1 ++ [] ++ (MemPlace.row ⟨1, 0, none⟩ 1 ++ [] ++ (MemPlace.row ⟨2, 0, none⟩ Q4.size ++ [] ++ []))) :=
    fun x0 x1 x6 sp => ⟨0, _, _, 1, [], _, Ru, RH, x0, trod_held underlying52 (show IsIface (Er b0) from trivial) 0, ⟨1, _, _, 1, [], _, Rv, RA, x1, trod_held underlying52 (show IsIface (Er b1) from trivial) 0, ⟨2, _, Q4, 3, [], [], Rw, Rz, x6, by kernel_rfl, rfl, rfl⟩, rfl⟩, rfl⟩
  obtain ⟨rfl, rfl⟩ := hV.unique (vr hv0 hv1 hv6 _)
  have hg0 : W.cell? ⟨0, 0, none⟩ = some (Er b0) := by simpa using World.var?_cell Ru hv0 0
  have hg1 : W.cell? ⟨1, 0, none⟩ = some (Er b1) := by simpa using World.var?_cell Rv hv1 0
  obtain ⟨mx, hmx⟩ := cell_of_shapedOpen_int (P := prog) (g := 3) (t := 3) (zero := #[.int .i64 0]) hsh (of_decide_eq_true (by kernel_rfl)) (by kernel_rfl) rfl (by kernel_rfl) (by kernel_rfl) underlying3
  obtain ⟨a0, len0, cap0, rfl⟩ := okWide_slice underlying22 (hval 0 22 v0 rfl rfl)
  have k0 := h0
  have lt0 : ∀ x ∈ p0, x.block < W.heap.size := by obtain ⟨m, hm⟩ := k0; exact DataW.trod_lt m _ _ _ hm
  obtain ⟨z0, w0⟩ : ∃ zs, IsRow .u8 W a0 len0 cap0 zs := by
    obtain ⟨fuel, hf⟩ := h0
    rcases open_ints underlying22 underlying5 (by kernel_rfl) hf with ⟨hcs, _⟩ | ⟨x, l, c, zs, hcs, _, hl, hm, hz, _, hcell, hwz⟩
    · simp[Value.cells]at hcs
      obtain ⟨rfl, rfl, rfl⟩ := hcs
      exact ⟨[], .inl ⟨rfl, rfl, rfl, rfl⟩⟩
    · simp[Value.cells]at hcs
      obtain ⟨rfl, rfl, rfl⟩ := hcs
      exact ⟨zs, .inr ⟨_, rfl, hl, hm, by simpa using hz, hcell, hwz⟩⟩
  clear hA0 hval0
  have lt_g : ∀ {x : Addr} {v : QN}, W.cell? x = some v → x.block < W.heap.size := fun {x v} h => by
    unfold World.cell? at h
    split at h
    · rename_i h1; exact G_ h1
    · cases h
  have tb := Sj hv6
  have h6 : 2 < W.heap.size := by obtain ⟨t, fr, h⟩ := tb.row; exact G_ h
  refine (Rn a0 len0 cap0 z0 b0 b1 mx W w0 hg0 hg1 hmx hP tb h6).mono fun e W' ⟨he, bel⟩ => ?_
  subst he
  exact ⟨_, rfl, _, _, _, [], _, _, hW', trodAll_mk1 (shut_bool underlying4 _), (trodAll_cons_mk (Below.trod RY (by kernel_rfl) (of_decide_eq_true (by kernel_rfl)) k0 bel lt0) trodAll_mk0), vr (var?_below bel Ru (lt_g hg0) hv0) (var?_below bel Rv (lt_g hg1) hv1) (var?_below bel Rw h6 hv6) _, bel.frame _, fun h => by cases h⟩
def RJ : DataW Unit → List Value
  | .lit (.int k n) => [.int k n]
  | _ => []
def Se : DataW Unit → List Value
  | .agg ps => ps.flatMap RJ
  | d => RJ d
def PS : DataW Unit → Array Value
  | .agg ps => (ps.flatMap Se).toArray
  | _ => #[]
noncomputable def Xaw (os : _root_.Go.Os) : World :=
  let N := (World.settled prog os).heap.size
  let w0 := World.holding prog os ⟨#[.cells #[.string { data := #[116, 104, 101, 32, 115, 99, 114, 105, 112, 116, 32, 105, 115, 32, 116, 111, 111, 32, 108, 111, 110, 103] }] 421, .cells #[.string { data := #[117, 110, 99, 108, 101, 97, 114] }] 421], #[], []⟩
  let put (h : Array Obj) (x : Nat × Array Value) : Array Obj := h.modify x.1 fun
    | .cells _ t frozen => .cells x.2 t frozen
    | o => o
  { w0 with heap := [(0, #[Er ⟨N, 0, none⟩]), (1, #[Er ⟨N + 1, 0, none⟩]), (4, PS Rows.laid_internal_strconv_uint64pow10), (5, (Go.Pinned.utf8FirstZ.map fun (z : Nat) => Value.int .u8 (z : Int)).toArray), (6, PS Rows.laid_unicode_utf8_acceptRanges), (2, PS Rows.laid_loop_example_s01868_impl_slotSizes), (7, PS Rows.laid_math_bits_deBruijn32tab), (8, PS Rows.laid_math_bits_deBruijn64tab)].foldl put w0.heap }
theorem RS (os : _root_.Go.Os) : laidMet prog Rows.fnScriptRow.laid ((Xaw os).forCall (fun _ _ => 0) ⟨#[], #[.slice none 0 0], []⟩).memory :=
  laidMet_of_run' 8 (by kernel_rfl) (by kernel_rfl)
theorem RV (os : _root_.Go.Os) {H : Type} (enc : QO × QN → H) : ∃ gs places, DataW.whole enc prog ((Xaw os).forCall (fun _ _ => 0) ⟨#[], #[.slice none 0 0], []⟩).memory f3.params.toList Rows.fnScriptSpec.vars false (#[.slice none 0 0] : Array QN).toList 8 = some ([.nil], gs, places) :=
  ⟨[tok enc (Er ⟨(World.settled prog os).heap.size, 0, none⟩), tok enc (Er ⟨(World.settled prog os).heap.size + 1, 0, none⟩), Rows.laid_loop_example_s01868_impl_slotSizes], MemPlace.row ⟨0, 0, none⟩ 1 ++ [] ++ (MemPlace.row ⟨1, 0, none⟩ 1 ++ [] ++ (MemPlace.row ⟨2, 0, none⟩ 12 ++ [] ++ [])), by kernel_rfl⟩
set_option maxRecDepth 100000 in
theorem Sk (os : _root_.Go.Os) (started : os.Started) (H : Type) (enc : QO × QN → H) (F : Stop.Interp) :
    ReturnsInHanded {} checked os 3 .any ((OpenSpec.ofChange Rows.fnScriptSpec).preRow enc prog f3 Rows.fnScriptRow.domain false Rows.fnScriptRow.laid) (((OpenSpec.ofChange Rows.fnScriptSpec).at F).post enc prog f3 false true false false) := by
  obtain ⟨gs, places, hx⟩ := RV os enc
  refine returnsInHanded_of_row (C := checked) (s := OpenSpec.ofChange Rows.fnScriptSpec) RU started (by kernel_rfl) func3
    (witness_row_at (enc := enc) (C := checked) false (Xaw os) #[.slice none 0 0] rfl (by kernel_rfl) (by kernel_rfl) (by kernel_rfl)
      (OpenSpec.preRow_of_cond 8 hx (by kernel_rfl) (fun k hk => by cases hk) (by kernel_rfl) (RS os))) ?_
  intro W base args ds gs before hval hW _ _ _ hL hsh _
  exact Si H enc W base args ds gs before hval hW hL hsh
theorem R5 : (Rows.fnScriptRow.inPlace == prog.inPlace 3) = true := by kernel_rfl
theorem R6 : (Rows.fnScriptRow.unfollowed == prog.unfollowed 3) = true := by kernel_rfl
theorem RQ : (Rows.fnScriptRow.recurses == prog.recurses 3) = true := by kernel_rfl
theorem R9 : (Rows.fnScriptRow.named == prog.varsNamed 3) = true := by kernel_rfl
theorem Sg : joinedFacts prog 3 f3 (OpenSpec.ofChange Rows.fnScriptSpec).bare Rows.fnScriptRow = true := by
  unfold joinedFacts
  rw[R5, R6, RQ, R9]
  kernel_rfl
theorem RR : Rows.FnScriptSaid :=
  OpenClaim.holds_of_cond 3 f3 rfl rfl rfl rfl rfl rfl rfl ⟨rfl, rfl, rfl, rfl, rfl⟩ rfl rfl rfl rfl rfl (by kernel_rfl) func3 Sg
    (of_decide_eq_true (by kernel_rfl)) (by unfold Func.isWrapper; first | (rw[GP (by decide +kernel)]; kernel_rfl) | (rw[GO (by decide +kernel)]; exact ⟨rfl, rfl⟩))
    (fun os started H enc _ F => by rw[OpenClaim.pre_eq_preRow]; exact Sk os started H enc F)
theorem R7 (f : FuncId) (fn : Func) (hf : Tryz.pinned.checked.prog.funcNamed "loop.example/s01868/laws.FnScript" = some f) (hfn : Tryz.pinned.checked.prog.funcs[f]? = some fn) :
    true = Tryz.pinned.checked.prog.looks [] ∧ ∀ (j : Nat) t, fn.params[j]? = some t → Tryz.pinned.checked.prog.wantsStandIn t = false := by
  obtain rfl : f = 3 := GB ((show prog.funcNamed "loop.example/s01868/laws.FnScript" = some 3 by kernel_rfl).symm.trans hf) |>.symm
  obtain rfl : fn = f3 := (GB (func3.symm.trans hfn)).symm
  refine ⟨by kernel_rfl, fun j t ht => ?_⟩
  rw[params3]at ht
  have hm : t ∈ ([22] : List QO) := by simpa using Array.mem_of_getElem? ht
  have hall : (([22] : List QO).all fun u => !prog.wantsStandIn u) = true := by kernel_rfl
  exact (show prog.wantsStandIn t = false by simpa using List.all_eq_true.1 hall t hm)
theorem XaH : Rows.FnScriptCardSaid :=
  Claim7.holds_tied_plain_at .later [] _ _ _ _ RR (fun _ h => by cases h) (by kernel_rfl) (fun _ h => by cases h) fnScript_row_tie rfl ⟨rfl, rfl⟩ (by kernel_rfl) rfl R7 (by kernel_rfl)
end Go.Proofs.YtbcacchkcedffaaGreatDoor.fnScript
namespace Go.Proofs.YtbcacchkcedffaaGreatDoor
theorem tK : Rows.FnScriptCardSaid := fnScript.XaH
#print axioms tK
end Go.Proofs.YtbcacchkcedffaaGreatDoor
