import Derived.Test.YtdfodlhkdmkfdaaGreatDoorN51
import Derived.Test.YtdfodlhkdmkfdaaGreatDoorN52
import Derived.WalkKit
import Derived.ProofKit
import Derived.OpenShut
import Derived.ShutString
import Derived.ChangeOld
import Derived.ChangeVars
import Derived.Below
import Derived.Deep.Slices
import Derived.Lib.SmallJoins
namespace Go.Proofs.YtdfodlhkdmkfdaaGreatDoor.fnExactRunHeap
open Go.ChangeShapes Go.WideShapes Go.ChangeAt Go.RowKit Go.Joins
set_option linter.unusedVariables false
set_option maxRecDepth 100000
theorem iv : Tryz.prog.cellsOf 54 = 6 := by kernel_rfl
theorem kb : Tryz.prog.cellsOf 25 = 6 := by kernel_rfl
theorem cells3 : Tryz.prog.cellsOf 3 = 1 := by kernel_rfl
theorem eF : Tryz.prog.cellsOf 22 = 1 := by kernel_rfl
theorem p9 : Tryz.prog.cellsOf 23 = 1 := by kernel_rfl
theorem ik : Tryz.prog.cellsOf 52 = 1 := by kernel_rfl
instance : Inhabited cH := ⟨⟨⟨0, 0, 0, 0, 0, []⟩, none, 0⟩⟩
theorem gl {α : Type} {l : List α} (h : l.length = 6) : ∃ c0 c1 c2 c3 c4 c5, l = [c0, c1, c2, c3, c4, c5] := by
  match l, h with
  | [c0, c1, c2, c3, c4, c5], _ => exact ⟨c0, c1, c2, c3, c4, c5, rfl⟩
theorem p8 {H : Type} {enc : TypeId × Value → H} {P : Program} {w : World} {base : Nat} {spare : Nat → Bool} {held : Bool} {t : TypeId} {f0 f1 f2 f3 f4 f5 : Field} {fuel : Nat} {cs : List Value} {x : DataW H × List MemPlace} (ht : P.underlying t = some (.struct #[f0, f1, f2, f3, f4, f5])) (h : DataW.trod enc P w base spare held fuel t cs = some x) :
    ∃ y0 y1 y2 y3 y4 y5 n, DataW.trod enc P w base spare held n f0.type ((cs.drop f0.offset).take (P.cellsOf f0.type)) = some y0 ∧ DataW.trod enc P w base spare held n f1.type ((cs.drop f1.offset).take (P.cellsOf f1.type)) = some y1 ∧ DataW.trod enc P w base spare held n f2.type ((cs.drop f2.offset).take (P.cellsOf f2.type)) = some y2 ∧
      DataW.trod enc P w base spare held n f3.type ((cs.drop f3.offset).take (P.cellsOf f3.type)) = some y3 ∧ DataW.trod enc P w base spare held n f4.type ((cs.drop f4.offset).take (P.cellsOf f4.type)) = some y4 ∧ DataW.trod enc P w base spare held n f5.type ((cs.drop f5.offset).take (P.cellsOf f5.type)) = some y5 := by
  obtain ⟨xs, n, _, _, _, hlen, hf⟩ := DataW.trod_struct ht h
  obtain ⟨y0, y1, y2, y3, y4, y5, rfl⟩ := gl (l := xs) hlen
  exact ⟨y0, y1, y2, y3, y4, y5, n, hf 0 f0 rfl, hf 1 f1 rfl, hf 2 f2 rfl, hf 3 f3 rfl, hf 4 f4 rfl, hf 5 f5 rfl⟩
theorem row_of {H : Type} {enc : TypeId × Value → H} {W : World} {n : Nat} {cs : List Value} {y : DataW H × List MemPlace} (h : DataW.trod enc Tryz.prog W 0 (fun _ => true) true n 52 cs = some y) : ∃ a len cap zs, cs = [.slice a len cap] ∧ len ≤ maxLen ∧ IsRow .u8 W a len cap zs := by
  rcases open_ints Tryz.underlying52 Tryz.underlying5 (by kernel_rfl) h with ⟨hcs, _⟩ | ⟨x, l, c, zs, hcs, _, hl, hm, hz, _, hcell, hwz⟩
  · exact ⟨none, 0, 0, [], hcs, by unfold maxLen; omega, .inl ⟨rfl, rfl, rfl, rfl⟩⟩
  · exact ⟨some x, l, c, zs, hcs, by omega, .inr ⟨_, rfl, hl, hm, by simpa using hz, hcell, hwz⟩⟩
theorem ib {H : Type} {enc : TypeId × Value → H} {W : World} {n : Nat} {cs : List Value} {y : DataW H × List MemPlace} (h : DataW.trod enc Tryz.prog W 0 (fun _ => true) true n 23 cs = some y) : ∃ a len cap zs, cs = [.slice a len cap] ∧ len ≤ maxLen ∧ IsRow .i64 W a len cap zs := by
  rcases open_ints Tryz.underlying23 Tryz.underlying3 (by kernel_rfl) h with ⟨hcs, _⟩ | ⟨x, l, c, zs, hcs, _, hl, hm, hz, _, hcell, hwz⟩
  · exact ⟨none, 0, 0, [], hcs, by unfold maxLen; omega, .inl ⟨rfl, rfl, rfl, rfl⟩⟩
  · exact ⟨some x, l, c, zs, hcs, by omega, .inr ⟨_, rfl, hl, hm, by simpa using hz, hcell, hwz⟩⟩
theorem nA {H : Type} {enc : TypeId × Value → H} {W : World} {n : Nat} {p : Addr} {cs : List Value} {y : DataW H × List MemPlace} (hc : W.cells? 0 p 6 = some cs) (h : DataW.trod enc Tryz.prog W 0 (fun _ => true) true n 54 cs = some y) : ∃ o : cH, (∀ j v, (gF o)[j]? = some v → W.cell? (p.add j) = some v) ∧ IW W o := by
  obtain ⟨_, hlen, hcell⟩ := World.cells?_some hc
  obtain ⟨c0, c1, c2, c3, c4, c5, rfl⟩ := gl hlen
  obtain ⟨x0, x1, x2, x3, x4, x5, m, f0, f1, f2, f3, f4, f5⟩ := p8 Tryz.underlying54 h
  dsimp only at f0 f1 f2 f3 f4 f5
  rw [cells3] at f0 f1
  rw [eF] at f2 f3 f4
  rw [ik] at f5
  replace f0 : DataW.trod enc Tryz.prog W 0 (fun _ => true) true m 3 [c0] = some x0 := f0
  replace f1 : DataW.trod enc Tryz.prog W 0 (fun _ => true) true m 3 [c1] = some x1 := f1
  replace f2 : DataW.trod enc Tryz.prog W 0 (fun _ => true) true m 22 [c2] = some x2 := f2
  replace f3 : DataW.trod enc Tryz.prog W 0 (fun _ => true) true m 22 [c3] = some x3 := f3
  replace f4 : DataW.trod enc Tryz.prog W 0 (fun _ => true) true m 22 [c4] = some x4 := f4
  replace f5 : DataW.trod enc Tryz.prog W 0 (fun _ => true) true m 52 [c5] = some x5 := f5
  obtain ⟨n0, e0, _, w0⟩ := DataW.trod_int Tryz.underlying3 f0
  obtain ⟨n1, e1, _, w1⟩ := DataW.trod_int Tryz.underlying3 f1
  obtain ⟨n2, e2, _, w2⟩ := DataW.trod_int Tryz.underlying22 f2
  obtain ⟨n3, e3, _, w3⟩ := DataW.trod_int Tryz.underlying22 f3
  obtain ⟨n4, e4, _, w4⟩ := DataW.trod_int Tryz.underlying22 f4
  obtain ⟨a, len, cap, zs, e5, hm, hr⟩ := row_of f5
  cases e0; cases e1; cases e2; cases e3; cases e4; cases e5
  have b2 := bounds_u64 w2
  have b3 := bounds_u64 w3
  have b4 := bounds_u64 w4
  have hl : (zs.take len).length = len := hr.len
  refine ⟨⟨⟨n0, n1, n2.toNat, n3.toNat, n4.toNat, zs.take len⟩, a, cap⟩, fun j v hv => ?_, ⟨by dsimp only; omega, by dsimp only; omega, by dsimp only; omega, (bounds_i64 w1).1⟩, by dsimp only; omega, zs, by dsimp only; rw [hl]; exact hr, by dsimp only; rw [hl]⟩
  have hj := (Jr.1 hv).1
  rw [hcell j (by simpa [gF] using hj), ← hv]
  unfold gF
  dsimp only
  rw [show ((n2.toNat : Nat) : Int) = n2 by omega, show ((n3.toNat : Nat) : Int) = n3 by omega, show ((n4.toNat : Nat) : Int) = n4 by omega, hl]
theorem lB {H : Type} {enc : TypeId × Value → H} {W : World} {n : Nat} {cs : List Value} {y : DataW H × List MemPlace} (h : DataW.trod enc Tryz.prog W 0 (fun _ => true) true n 26 cs = some y) : ∃ A len cap ops, cs = [.slice A len cap] ∧ InO W A len ops := by
  rcases Go.Deep.open_slice Tryz.underlying26 h with ⟨hcs, _⟩ | ⟨a, len, cap, m, n', D, Pl, hcs, _, hl, hm, hmm, _, hx⟩
  · exact ⟨none, 0, 0, [], hcs, ⟨rfl, by unfold maxLen; omega, fun k o ho => by simp at ho⟩⟩
  · have hmc : m = cap := by simpa using hmm
    subst hmc
    obtain ⟨V, hV⟩ := Go.Deep.choose_lt (n := len) (p := fun i o => (∀ j v, (gF o)[j]? = some v → W.cell? ((a.add (i * 6)).add j) = some v) ∧ IW W o) (fun i hi => by
      obtain ⟨cs', h1, h2⟩ := hx i (by omega)
      rw [iv] at h1
      exact nA h1 h2)
    refine ⟨some a, len, m, (List.range len).map V, hcs, ⟨by simp, by omega, fun k o ho => ?_⟩⟩
    have hk := (Jr.1 ho).1
    simp at hk
    simp [hk] at ho
    subst ho
    exact ⟨a, rfl, (hV k hk).1, (hV k hk).2⟩
theorem nM {α : Type} {l : Array α} (h : l.size = 6) : ∃ c0 c1 c2 c3 c4 c5, l = #[c0, c1, c2, c3, c4, c5] := by
  obtain ⟨c0, c1, c2, c3, c4, c5, e⟩ := gl (l := l.toList) (by simpa using h)
  exact ⟨c0, c1, c2, c3, c4, c5, by cases l; simp_all⟩
theorem s4 {H : Type} {enc : TypeId × Value → H} {W : World} {base : Nat} {v : Value} {d : DataW H} {p : List MemPlace} (hv : Value.okWide Tryz.prog W .any base 25 v) (h : DataW.Trod enc Tryz.prog W 0 (fun _ => true) true 25 v d p) :
    ∃ (mi fi la bu ky : Int) (a : Option Addr) (len cap : Nat) (zs : List Int), v = .agg #[.int .i64 mi, .int .i64 fi, .int .i64 la, .int .i64 bu, .int .u64 ky, .slice a len cap] ∧ IsRow .i64 W a len cap zs ∧ len ≤ maxLen ∧ 0 ≤ ky ∧ ky < 18446744073709551616 := by
  obtain ⟨cs, rfl, hsz⟩ := okWide_struct Tryz.underlying25 hv
  rw [kb] at hsz
  obtain ⟨c0, c1, c2, c3, c4, c5, rfl⟩ := nM hsz
  obtain ⟨fuel, hf⟩ := h
  obtain ⟨x0, x1, x2, x3, x4, x5, m, f0, f1, f2, f3, f4, f5⟩ := p8 Tryz.underlying25 hf
  dsimp only at f0 f1 f2 f3 f4 f5
  rw [cells3] at f0 f1 f2 f3
  rw [eF] at f4
  rw [p9] at f5
  replace f0 : DataW.trod enc Tryz.prog W 0 (fun _ => true) true m 3 [c0] = some x0 := f0
  replace f1 : DataW.trod enc Tryz.prog W 0 (fun _ => true) true m 3 [c1] = some x1 := f1
  replace f2 : DataW.trod enc Tryz.prog W 0 (fun _ => true) true m 3 [c2] = some x2 := f2
  replace f3 : DataW.trod enc Tryz.prog W 0 (fun _ => true) true m 3 [c3] = some x3 := f3
  replace f4 : DataW.trod enc Tryz.prog W 0 (fun _ => true) true m 22 [c4] = some x4 := f4
  replace f5 : DataW.trod enc Tryz.prog W 0 (fun _ => true) true m 23 [c5] = some x5 := f5
  obtain ⟨n0, e0, _, w0⟩ := DataW.trod_int Tryz.underlying3 f0
  obtain ⟨n1, e1, _, w1⟩ := DataW.trod_int Tryz.underlying3 f1
  obtain ⟨n2, e2, _, w2⟩ := DataW.trod_int Tryz.underlying3 f2
  obtain ⟨n3, e3, _, w3⟩ := DataW.trod_int Tryz.underlying3 f3
  obtain ⟨n4, e4, _, w4⟩ := DataW.trod_int Tryz.underlying22 f4
  obtain ⟨a, len, cap, zs, e5, hm, hr⟩ := ib f5
  cases e0; cases e1; cases e2; cases e3; cases e4; cases e5
  have b4 := bounds_u64 w4
  exact ⟨_, _, _, _, _, _, _, _, zs, rfl, hr, hm, by omega, by omega⟩
set_option maxRecDepth 100000 in
theorem gR (H : Type) (enc : TypeId × Value → H) (W : World) (base : Nat) (args : Array Value) (ds gs : List (DataW H)) (before : List MemPlace)
    (hval0 : ∀ (j : Nat) t v, Tryz.f3.params[j]? = some t → args[j]? = some v → Value.okWide Tryz.prog W .any base t v)
    (hW : DataW.Whole enc Tryz.prog Tryz.f3.params.toList Rows.fnExactRunHeapSpec.vars false W args.toList ds gs before) (hL : laidMetH Tryz.prog Rows.fnExactRunHeapRow.laid W) :
    Calls Tryz.prog 3 args W fun e W' => ∃ v, e = .returned v ∧ Rows.fnExactRunHeapSpec.post enc Tryz.prog Tryz.f3 false true false false W args v W' := by
  have hval : ∀ (j : Nat) t v, Tryz.f3.params[j]? = some t → args[j]? = some v → Value.okWide Tryz.prog W .any base t v := hval0
  have hW' := hW
  obtain ⟨p, q, hA0, hV0, rfl, hfz, hnd⟩ := hW
  have hA : DataW.TrodAll enc Tryz.prog W 0 (fun _ => true) true Tryz.f3.params.toList args.toList ds p := hA0
  have hV : DataW.TrodVars enc Tryz.prog W (fun _ => true) ["loop.example/s01868/impl.slotSizes"] gs q := hV0
  rw [Tryz.params3] at hA hval
  obtain ⟨v0, vs0, d0, ds0, p0, q0, hargs, rfl, rfl, h0, r0⟩ := trodAll_cons hA
  obtain ⟨v1, vs1, d1, ds1, p1, q1, rfl, rfl, rfl, h1, r1⟩ := trodAll_cons r0
  obtain ⟨rfl, rfl, rfl⟩ := trodAll_nil r1
  obtain rfl : args = #[v0, v1] := by cases args; simp_all
  obtain ⟨g, t, cs, fuel, d, p', rfl, hg, ht, hvar, hd, rfl⟩ := trodVars_one hV
  obtain rfl := Option.some.inj (fu.symm.trans hg)
  obtain rfl := Option.some.inj (ej.symm.trans ht)
  have hvar' : W.var? Tryz.prog "loop.example/s01868/impl.slotSizes" = some sw := table hL
  obtain rfl : cs = sw := Option.some.inj (hvar.symm.trans hvar')
  obtain ⟨rfl, rfl⟩ := DataW.Trod.unique (v := .agg sw) ⟨fuel, hd⟩ ⟨3, eg enc W _⟩
  have k0 := h0
  have lt0 : ∀ x ∈ p0, x.block < W.heap.size := by obtain ⟨m, hm⟩ := k0; exact DataW.trod_lt m _ _ _ hm
  have k1 := h1
  have lt1 : ∀ x ∈ p1, x.block < W.heap.size := by obtain ⟨m, hm⟩ := k1; exact DataW.trod_lt m _ _ _ hm
  obtain ⟨mi, fi, la, bu, ky, a, len, cap, zs, rfl, hr, hm, hk⟩ := s4 (hval 0 25 v0 rfl rfl) h0
  obtain ⟨a1, len1, cap1, rfl⟩ := okWide_slice Tryz.underlying26 (hval 1 26 v1 rfl rfl)
  obtain ⟨ops, hI⟩ : ∃ ops, InO W a1 len1 ops := by
    obtain ⟨fuel, hf⟩ := h1
    obtain ⟨A, len, cap, ops, e, hI⟩ := lB hf
    simp [Value.cells] at e
    obtain ⟨rfl, rfl, rfl⟩ := e
    exact ⟨ops, hI⟩
  clear hA0 hval0
  refine (IY mi fi la bu ky a len cap zs a1 len1 cap1 ops W (ko hvar') hr hm hk hI).mono fun e W' ⟨he, bel⟩ => ?_
  subst he
  exact ⟨_, rfl, _, _, _, [], _, _, hW', trodAll_mk1 (shut_bool Tryz.underlying4 _), (trodAll_cons_mk (Below.trod laidOut (by kernel_rfl) (of_decide_eq_true (by kernel_rfl)) k0 bel lt0) (trodAll_cons_mk (Below.trod laidOut (by kernel_rfl) (of_decide_eq_true (by kernel_rfl)) k1 bel lt1) trodAll_mk0)), em enc hvar' bel _, bel.frame _, fun h => by cases h⟩
theorem hJ (os : _root_.Go.Os) : laidMet Tryz.prog Rows.fnExactRunHeapRow.laid ((laidWorld os).forCall (fun _ _ => 0) ⟨#[], #[.agg #[.int .i64 0, .int .i64 0, .int .i64 0, .int .i64 0, .int .u64 0, .slice none 0 0], .slice none 0 0], []⟩).memory :=
  laidMet_of_run' 8 (by kernel_rfl) (by kernel_rfl)
theorem reads (os : _root_.Go.Os) {H : Type} (enc : TypeId × Value → H) : ∃ ds places, DataW.whole enc Tryz.prog ((laidWorld os).forCall (fun _ _ => 0) ⟨#[], #[.agg #[.int .i64 0, .int .i64 0, .int .i64 0, .int .i64 0, .int .u64 0, .slice none 0 0], .slice none 0 0], []⟩).memory Tryz.f3.params.toList Rows.fnExactRunHeapSpec.vars false (#[.agg #[.int .i64 0, .int .i64 0, .int .i64 0, .int .i64 0, .int .u64 0, .slice none 0 0], .slice none 0 0] : Array Value).toList 8 = some (ds, [nR], places) :=
  ⟨[.agg [.lit (.int .i64 0), .lit (.int .i64 0), .lit (.int .i64 0), .lit (.int .i64 0), .lit (.int .u64 0), .nil], .nil], MemPlace.row ⟨0, 0, none⟩ 12, by kernel_rfl⟩
set_option maxRecDepth 100000 in
theorem lifted (os : _root_.Go.Os) (started : os.Started) (H : Type) (enc : TypeId × Value → H) (F : Stop.Interp) :
    ReturnsInHanded {} Tryz.checked os 3 .any ((OpenSpec.ofChange Rows.fnExactRunHeapSpec).preRow enc Tryz.prog Tryz.f3 Rows.fnExactRunHeapRow.domain false Rows.fnExactRunHeapRow.laid) (((OpenSpec.ofChange Rows.fnExactRunHeapSpec).at F).post enc Tryz.prog Tryz.f3 false true false false) := by
  obtain ⟨ds, places, hx⟩ := reads os enc
  refine returnsInHanded_of_row (C := Tryz.checked) (s := OpenSpec.ofChange Rows.fnExactRunHeapSpec) own started (by kernel_rfl) Tryz.func3
    (witness_row_at (enc := enc) (C := Tryz.checked) false (laidWorld os) #[.agg #[.int .i64 0, .int .i64 0, .int .i64 0, .int .i64 0, .int .u64 0, .slice none 0 0], .slice none 0 0] rfl (by kernel_rfl) (by kernel_rfl) (by kernel_rfl)
      (OpenSpec.preRow_of_cond 8 hx (by kernel_rfl) (fun k hk => by cases hk) (by kernel_rfl) (hJ os))) ?_
  intro W base args ds gs before hval hW _ _ _ hL _ _
  exact gR H enc W base args ds gs before hval hW hL
theorem said : Rows.FnExactRunHeapSaid :=
  OpenClaim.holds_of_cond 3 Tryz.f3 rfl rfl rfl rfl rfl rfl rfl ⟨rfl, rfl, rfl, rfl, rfl⟩ rfl rfl rfl rfl rfl (by kernel_rfl) Tryz.func3 (by kernel_rfl)
    (of_decide_eq_true (by kernel_rfl)) (by unfold Func.isWrapper; first | (rw [tm (by decide +kernel)]; kernel_rfl) | (rw [tg (by decide +kernel)]; exact ⟨rfl, rfl⟩))
    (fun os started H enc _ F => by rw [OpenClaim.pre_eq_preRow]; exact lifted os started H enc F)
theorem plain (f : FuncId) (fn : Func) (hf : Tryz.pinned.checked.prog.funcNamed "loop.example/s01868/laws.FnExactRunHeap" = some f) (hfn : Tryz.pinned.checked.prog.funcs[f]? = some fn) :
    true = Tryz.pinned.checked.prog.looks [] ∧ ∀ (j : Nat) t, fn.params[j]? = some t → Tryz.pinned.checked.prog.wantsStandIn t = false := by
  obtain rfl : f = 3 := Option.some.inj ((show Tryz.prog.funcNamed "loop.example/s01868/laws.FnExactRunHeap" = some 3 by kernel_rfl).symm.trans hf) |>.symm
  obtain rfl : fn = Tryz.f3 := (Option.some.inj (Tryz.func3.symm.trans hfn)).symm
  refine ⟨by kernel_rfl, fun j t ht => ?_⟩
  rw [Tryz.params3] at ht
  have hm : t ∈ ([25, 26] : List TypeId) := by simpa using Array.mem_of_getElem? ht
  have hall : (([25, 26] : List TypeId).all fun u => !Tryz.prog.wantsStandIn u) = true := by kernel_rfl
  exact (show Tryz.prog.wantsStandIn t = false by simpa using List.all_eq_true.1 hall t hm)
theorem card : Rows.FnExactRunHeapCardSaid :=
  Claim7.holds_tied_plain_at .later [] _ _ _ _ said (fun _ h => by cases h) (by kernel_rfl) (fun _ h => by cases h) fnExactRunHeap_row_tie rfl ⟨rfl, rfl⟩ (by kernel_rfl) rfl plain (by kernel_rfl)
end Go.Proofs.YtdfodlhkdmkfdaaGreatDoor.fnExactRunHeap
namespace Go.Proofs.YtdfodlhkdmkfdaaGreatDoor
theorem fnExactRunHeap_holds : Rows.FnExactRunHeapCardSaid := fnExactRunHeap.card
#print axioms fnExactRunHeap_holds
end Go.Proofs.YtdfodlhkdmkfdaaGreatDoor
