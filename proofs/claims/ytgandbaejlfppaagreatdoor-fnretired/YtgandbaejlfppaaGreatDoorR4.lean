import Derived.Test.YtgandbaejlfppaaGreatDoorR2
import Derived.Test.YtgandbaejlfppaaGreatDoorR3
import Derived.Test.YtgandbaejlfppaaGreatDoorN21
import Derived.Test.YtgandbaejlfppaaGreatDoorN45
import Derived.Test.YtgandbaejlfppaaGreatDoorN44
import Derived.Test.YtgandbaejlfppaaGreatDoorN48
import Derived.Test.YtgandbaejlfppaaGreatDoorL1
import Derived.Test.YtgandbaejlfppaaGreatDoorRows
namespace Go.Proofs.YtgandbaejlfppaaGreatDoor
open Go.RowKit Go.Shelf Go.Maps
set_option linter.unusedVariables false
set_option maxRecDepth 20000
theorem runR : RunR := by
  intro cf da dc A cap ops w dk l1 tb ds dab h0 ho hi hN
  refine (im_RunHeap Told9 (im_told sortsR sortedC) cf da dc A cap ops w dk l1 tb ds dab h0 ho ⟨fun q hq => (hi q hq).1, fun q hq => (hi q hq).2.1, fun q hq => (hi q hq).2.2⟩ hN).mono ?_
  rintro e W' ⟨B, y, l, va, m0, m1, m2, m3, m4, m5, m6, m7, V, V', X, rfl, hB, rst, hT, bV, hX, rfl, hX1, hX2⟩
  have g := grown_setRow V' X #[.bool true, va, m0, m1, m2, m3, m4, m5, m6, m7]
  have ra := rst.ra.below bV
  have hls := rst.ls
  rw [List.take_length] at hls
  obtain ⟨vo, vs, vw, vr, vl, ve, ws, rs, es, hm, o, s, ⟨wl, w9⟩, ⟨rp1, rp2, r⟩, l9, ⟨ep1, ep2, e9⟩, ne⟩ := hT
  simp at hm
  obtain ⟨rfl, rfl, rfl, rfl, rfl, rfl, rfl, rfl⟩ := hm
  have K : ∀ {W : World} {b : Nat} {e : TypeId} {sz : Nat} {v : Value} {n : Nat} {xs : List Value}, W.ownsRow b e sz v n xs → v.oneCell' = true := fun h => by
    obtain ⟨a, b, c, rfl⟩ := own_slD h
    rfl
  refine ⟨l, va, _, _, _, _, _, _, _, _, rfl, ?_, hls, own_downD hB (ra.row.kept g (.inr fun e => by have := (ra.row.lt X e).1; omega)), own_downD rst.bel.size (s.kept g (.inr (own_neT s hX (by decide)))), fun z hz => K (ra.dat z hz), (bl_trans rst.bel bV).grown g (bl_trans rst.bel bV).size (fun r e => by cases e; exact hX1)⟩
  intro v hv
  simp only [List.mem_cons, List.not_mem_nil, or_false] at hv
  rcases hv with rfl | rfl | rfl | rfl | rfl | rfl | rfl | rfl | rfl
  · exact K ra.row
  · rfl
  · exact K o
  · exact K s
  · exact K w9.row
  · exact K r
  · exact K l9
  · exact K e9
  · rfl
theorem retR : RetR := fun cf hb hm hf1 hf a ha z hz x hx k => retired_run cf hb hm hf1 hf ha hz hx k
theorem decR : DecR := by
  intro c s j v hc hs hj hd
  rcases dec_at hd with ⟨c', s', j', hc', hs', hj', he, hv⟩ | ⟨hn, _⟩
  · have h1 := slotAt_adr hc hs hj
    rw [he, slotAt_adr hc' hs' hj'] at h1
    injection h1 with h1
    injection h1 with e1 h1
    injection h1 with e2 e3
    rw [hv, e1, e2, e3]
  · rw [slotAt_adr hc hs hj] at hn
    cases hn
theorem walk_FnRetired (a : Option Addr) (len cap : Nat) (zs : List Int) (w : World) (h0 : IsRow .u8 w a len cap zs) (tb : Tb w) :
    Calls Tryz.prog 4 #[.slice a len cap] w fun e w' => e = .returned (.bool true) ∧ Below w.heap.size w w' :=
  walk8 runR retR decR a len cap zs w h0 tb (by obtain ⟨t, fr, h⟩ := tb.row; exact lt_blk h)
end Go.Proofs.YtgandbaejlfppaaGreatDoor
namespace Go.Proofs.YtgandbaejlfppaaGreatDoor.fnRetired
open Go.ChangeShapes Go.WideShapes Go.ChangeAt Go.RowKit
set_option linter.unusedVariables false
set_option maxRecDepth 100000
theorem contract (H : Type) (enc : TypeId × Value → H) (W : World) (base : Nat) (args : Array Value) (ds gs : List (DataW H)) (before : List MemPlace)
    (hval0 : ∀ (j : Nat) t v, Tryz.f4.params[j]? = some t → args[j]? = some v → Value.okWide Tryz.prog W .any base t v)
    (hW : DataW.Whole enc Tryz.prog Tryz.f4.params.toList Rows.fnRetiredSpec.vars false W args.toList ds gs before) (hL : laidMetH Tryz.prog Rows.fnRetiredRow.laid W) :
    Calls Tryz.prog 4 args W fun e W' => ∃ v, e = .returned v ∧ Rows.fnRetiredSpec.post enc Tryz.prog Tryz.f4 false true false false W args v W' := by
  have hval : ∀ (j : Nat) t v, Tryz.f4.params[j]? = some t → args[j]? = some v → Value.okWide Tryz.prog W .any base t v := hval0
  have hW' := hW
  obtain ⟨p, q, hA0, hV0, rfl, hfz, hnd⟩ := hW
  have hA : DataW.TrodAll enc Tryz.prog W 0 (fun _ => true) true Tryz.f4.params.toList args.toList ds p := hA0
  have hV : DataW.TrodVars enc Tryz.prog W (fun _ => true) ["loop.example/s01868/impl.slotSizes"] gs q := hV0
  rw [Tryz.params4] at hA hval
  obtain ⟨v0, vs0, d0, ds0, p0, q0, hargs, rfl, rfl, h0, r0⟩ := trodAll_cons hA
  obtain ⟨rfl, rfl, rfl⟩ := trodAll_nil r0
  obtain rfl : args = #[v0] := by cases args; simp_all
  obtain ⟨g, t, cs, fuel, d, p', rfl, hg, ht, hvar, hd, rfl⟩ := trodVars_one hV
  obtain rfl := Option.some.inj (gTab.symm.trans hg)
  obtain rfl := Option.some.inj (gTabType.symm.trans ht)
  have hvar' : W.var? Tryz.prog "loop.example/s01868/impl.slotSizes" = some szA := table hL
  obtain rfl : cs = szA := Option.some.inj (hvar.symm.trans hvar')
  obtain ⟨rfl, rfl⟩ := DataW.Trod.unique (v := .agg szA) ⟨fuel, hd⟩ ⟨3, reads_table enc W _⟩
  obtain ⟨a0, len0, cap0, rfl⟩ := okWide_slice Tryz.underlying22 (hval 0 22 v0 rfl rfl)
  have k0 := h0
  have lt0 : ∀ x ∈ p0, x.block < W.heap.size := by obtain ⟨m, hm⟩ := k0; exact DataW.trod_lt m _ _ _ hm
  obtain ⟨z0, w0⟩ : ∃ zs, IsRow .u8 W a0 len0 cap0 zs := by
    obtain ⟨fuel, hf⟩ := h0
    rcases open_ints Tryz.underlying22 Tryz.underlying5 (by kernel_rfl) hf with ⟨hcs, _⟩ | ⟨x, l, c, zs, hcs, _, hl, hm, hz, _, hcell, hwz⟩
    · simp [Value.cells] at hcs
      obtain ⟨rfl, rfl, rfl⟩ := hcs
      exact ⟨[], .inl ⟨rfl, rfl, rfl, rfl⟩⟩
    · simp [Value.cells] at hcs
      obtain ⟨rfl, rfl, rfl⟩ := hcs
      exact ⟨zs, .inr ⟨_, rfl, hl, hm, by simpa using hz, hcell, hwz⟩⟩
  clear hA0 hval0
  refine (walk_FnRetired a0 len0 cap0 z0 W w0 (tb_of hvar')).mono fun e W' ⟨he, bel⟩ => ?_
  subst he
  exact ⟨_, rfl, _, _, _, [], _, _, hW', trodAll_mk1 (shut_bool Tryz.underlying4 _), (trodAll_cons_mk (Below.trod laidOut (by kernel_rfl) (of_decide_eq_true (by kernel_rfl)) k0 bel lt0) trodAll_mk0), vars_again enc hvar' bel _, bel.frame _, fun h => by cases h⟩
set_option maxRecDepth 100000 in
theorem lifted (os : Os) (started : os.Started) (H : Type) (enc : TypeId × Value → H) (F : Stop.Interp) :
    ReturnsInHanded {} Tryz.checked os 4 .any ((OpenSpec.ofChange Rows.fnRetiredSpec).preRow enc Tryz.prog Tryz.f4 Rows.fnRetiredRow.domain false Rows.fnRetiredRow.laid) (((OpenSpec.ofChange Rows.fnRetiredSpec).at F).post enc Tryz.prog Tryz.f4 false true false false) := by
  obtain ⟨ds, places, hx⟩ := reads os enc
  refine returnsInHanded_of_row (C := Tryz.checked) (s := OpenSpec.ofChange Rows.fnRetiredSpec) own started (by kernel_rfl) Tryz.func4
    (witness_row_at (enc := enc) (C := Tryz.checked) false (laidWorld os) #[.slice none 0 0] rfl (by kernel_rfl) (by kernel_rfl) (by kernel_rfl)
      (OpenSpec.preRow_of_cond 8 hx (by kernel_rfl) (fun k hk => by cases hk) (by kernel_rfl) (laid_met os))) ?_
  intro W base args ds gs before hval hW _ _ _ hL _ _
  exact contract H enc W base args ds gs before hval hW hL
theorem said : Rows.FnRetiredSaid :=
  OpenClaim.holds_of_cond 4 Tryz.f4 rfl rfl rfl rfl rfl rfl rfl ⟨rfl, rfl, rfl, rfl, rfl⟩ rfl rfl rfl rfl rfl (by kernel_rfl) Tryz.func4 (by kernel_rfl)
    (of_decide_eq_true (by kernel_rfl)) (by unfold Func.isWrapper; first | (rw [if_pos (by decide +kernel)]; kernel_rfl) | (rw [if_neg (by decide +kernel)]; exact ⟨rfl, rfl⟩))
    (fun os started H enc _ F => by rw [OpenClaim.pre_eq_preRow]; exact lifted os started H enc F)
theorem card : Rows.FnRetiredCardSaid :=
  Claim7.holds_tied_plain_at .later [] _ _ _ _ said (fun _ h => by cases h) (by kernel_rfl) (fun _ h => by cases h) fnRetired_row_tie rfl ⟨rfl, rfl⟩ (by kernel_rfl) rfl plain (by kernel_rfl)
end Go.Proofs.YtgandbaejlfppaaGreatDoor.fnRetired
namespace Go.Proofs.YtgandbaejlfppaaGreatDoor
theorem fnRetired_holds : Rows.FnRetiredCardSaid := fnRetired.card
end Go.Proofs.YtgandbaejlfppaaGreatDoor
