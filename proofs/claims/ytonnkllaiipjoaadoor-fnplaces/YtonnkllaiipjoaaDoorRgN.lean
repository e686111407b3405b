import Derived.Test.YtonnkllaiipjoaaDoorRgM
import Derived.Deep.RegionWith
import Derived.OrdersHeld
namespace Go.Proofs.YtonnkllaiipjoaaDoor
open Go.ChangeShapes Go.WideShapes Go.ChangeAt Go.RowKit
set_option linter.unusedVariables false

/-- a place lies in block G; nothing old has turned -/
structure Bx (w : World) (G : Nat) (cs : Array Value) (W : World) : Prop where
  bel : Below w.heap.size w W
  tb : Tb W
  row : W.heap[G]? = some (.cells cs 30 (0, 0))
theorem Bx.first {w v : World} (hb : Below w.heap.size w v) (ht : Tb v) (cs : Array Value) : Bx w v.heap.size cs (v.alloc (.cells cs 30)) :=
  ⟨bl_trans hb ((Below.refl _ _).alloc (Nat.le_refl _) _), ht.below ((Below.refl _ _).alloc (Nat.le_refl _) _), al_last _ _⟩
theorem Bx.below {w v v' : World} {G : Nat} {cs : Array Value} (h : Bx w G cs v) (hb : Below v.heap.size v v') : Bx w G cs v' :=
  ⟨bl_trans h.bel hb, h.tb.below hb, by rw [hb.block G (lt_blk h.row)]; exact h.row⟩
theorem Bx.drew {w v : World} {G : Nat} {cs : Array Value} (h : Bx w G cs v) : Bx w G cs v.drew := h.below (Below.refl _ _).drew
theorem Bx.cell {w v : World} {G : Nat} {cs : Array Value} (h : Bx w G cs v) (i : Nat) : v.cell? ⟨G, i, none⟩ = cs[i]? := by
  simp [World.cell?, h.row]

/-- one operation of a drawn region, carried out -/
theorem wpOp_do {P : Program} {ops : Array Oper} {Q : Exit → Act → World → Prop} {i : Nat} {o : Oper} {K : Act → World → Prop} {a : Act} {w : World} (hi : ops[i]? = some o) (hw : Region.wanted o (yielded ops a.tmps) = true)
    (h : ∀ K' : Act → World → Prop, Hid (∀ a w, K a w → K' a w) → o.wp P a w K' Q) : wpOp P ops Q i K a w := by
  unfold wpOp; simp only [hi, hw, if_true]; exact .inl (h K fun _ _ h => h)
theorem wpAnyH_one {P : Program} {md : Region.Mode} {ops : Array Oper} {Q : Exit → Act → World → Prop} {S : World → Prop} {r fuel : Nat} {listed : Array Bool} {a : Act} {w : World} (hr : Region.ready md ops listed = [r])
    (h : wpOp P ops Q r (fun a' w' => S w' ∧ wpAnyH P md ops Q S fuel (listed.setIfInBounds r true) a' w') a w) : wpAnyH P md ops Q S (fuel + 1) listed a w :=
  wpAnyH_all hr (by simp) (fun i hi => by
    obtain rfl : i = r := by simpa using hi
    exact h)

theorem wpAnyH_put {P : Program} {md : Region.Mode} {ops : Array Oper} {Q : Exit → Act → World → Prop} {S : World → Prop} {i d : Nat} {oi : Oper} {v : Value} {fuel : Nat} {listed : Array Bool} {a : Act} {w : World} (hi : ops[i]? = some oi) (hd : oi.dst = some d)
    (hs : Region.noSelect ops = true) (hf : Region.free md ops listed i = true) (hr : (Region.ready md ops listed).contains i = true)
    (hQ : ∀ c a w, Q (.panic c) (a.put oi.dst v) w → Q (.panic c) a w) (hy : YieldsIf P ops S oi v a) (hS : S w)
    (h : wpAnyH P md ops Q S fuel (listed.setIfInBounds i true) { a with tmps := a.tmps.setIfInBounds d v } w) : wpAnyH P md ops Q S (fuel + 1) listed a w :=
  wpAnyH_take hi hs hf hr hQ hy hS (by
    have e : a.put oi.dst v = { a with tmps := a.tmps.setIfInBounds d v } := by rw [hd]; rfl
    rw [e]; exact h)

set_option maxRecDepth 8000 in
set_option maxHeartbeats 40000000 in
theorem walk_FnPlaces (a0 : Option Addr) (len0 cap0 : Nat) (z0 : List Int) (w : World) (w0 : IsRow .u8 w a0 len0 cap0 z0) (ht : Tb w) :
    Calls Tryd.prog 3 #[.slice a0 len0 cap0] w fun e w' => e = .returned (.bool true) ∧ Below w.heap.size w w' := by
  by_cases hlen : 1048576 < len0
  · clear w0 ht
    go_enter Tryd.func3, Tryd.ntmps3
    go_wp2
    go_ret
    exact ⟨rfl, Below.refl _ _⟩
  · have hlen' : len0 ≤ 1048576 := by omega
    have DS := hid (drawSlotAddr a0 len0 cap0 z0 hlen' w w0)
    have DD := hid (fun w' (hb : Below w.heap.size w w') => drawDecode a0 len0 cap0 z0 hlen' w' (w0.below hb))
    have HT := hid ht
    clear w0 ht
    go_enter Tryd.func3, Tryd.ntmps3
    go_wp2_with fail
    refine (DS.out).mono ?_
    rintro e w1 ⟨⟨c, s, t, rfl⟩, b1⟩
    have T1 := hid (HT.out.below b1)
    have B1 := hid b1
    clear b1 DS
    by_cases hs : Slot c s t
    case' pos =>
      have hc : 0 ≤ c ∧ c < 12 := ⟨hs.c0, hs.c1⟩
      have hz := sz_in hc
      have d0 := hs.dec (o := 0) (by omega) (by omega)
      have d1 := hs.dec (o := sz c - 1) (by omega) (by omega)
      have e1 : (sz c != sz c) = false := by simp
      have SY := hid (sp_SlotAddr_yes c s t hs)
      have IY := hid (im_SlotAddr_yes c s t hs)
      have IZ := hid (im_SlotSize c)
      have SZ := hid (sp_SlotSize c)
      rw [Int.add_zero] at d0
      have hx : 1024 ≤ (rs c + s * (pg c + 1)) * 1024 + t * sz c ∧ (rs c + s * (pg c + 1)) * 1024 + t * sz c + (sz c - 1) < 191488 := ⟨d1.2.1, d1.2.2⟩
      have D0 := hid d0.1
      have D1 := hid d1.1
      clear d0 d1 hs
      generalize (rs c + s * (pg c + 1)) * 1024 + t * sz c = x at *
      generalize sz c = z at *
      go_wp2_with fail
      refine (IY.out _ T1.out).mono ?_
      rintro e w2 ⟨rfl, b2⟩
      have T2 := hid (T1.out.below b2)
      have B2 := hid (bl_trans B1.out b2)
      clear b2 T1 B1
      go_wp2_with fail
      refine (SY.out _).mono ?_
      rintro e w3 ⟨rfl, b3⟩
      have T3 := hid (T2.out.below b3)
      have B3 := hid (bl_trans B2.out b3)
      clear b3 T2 B2
      go_wp2_with fail
      refine (IZ.out _ T3.out).mono ?_
      rintro e w4 ⟨rfl, rfl⟩
      go_wp2_with fail
      refine (SZ.out _).mono ?_
      rintro e w5 ⟨rfl, b5⟩
      have T5 := hid (T3.out.below b5)
      have B5 := hid (bl_trans B3.out b5)
      clear b5 T3 B3
      go_wp2_with fail
      refine (im_Decode x (by omega) (by omega) _ T5.out).mono ?_
      rintro e w6 ⟨⟨v, hv, rfl⟩, b6⟩
      have ev := D0.out.one hv
      subst ev
      have T6 := hid (T5.out.below b6)
      have B6 := hid (bl_trans B5.out b6)
      clear b6 T5 B5 hv D0
      unfold pl
      go_wp2_with fail
      have ex : x + (z - 1) = x + z - 1 := by omega
      rw [ex] at D1
      refine (im_Decode (x + z - 1) (by omega) (by omega) _ T6.out).mono ?_
      rintro e w7 ⟨⟨v, hv, rfl⟩, b7⟩
      have ev := D1.out.one hv
      subst ev
      have T9 := hid (T6.out.below b7)
      have B9 := hid (bl_trans B6.out b7)
      clear b7 T6 B6 hv D1 ex IY SY IZ SZ
      unfold pl
      go_wp2_with fail
    case' neg =>
      have SY := hid (sp_SlotAddr_no c s t hs)
      have IY := hid (im_SlotAddr_no c s t hs)
      go_wp2_with fail
      refine (IY.out _ T1.out).mono ?_
      rintro e w2 ⟨rfl, b2⟩
      have T2 := hid (T1.out.below b2)
      have B2 := hid (bl_trans B1.out b2)
      clear b2 T1 B1
      go_wp2_with fail
      refine (SY.out _).mono ?_
      rintro e w3 ⟨rfl, b3⟩
      have T9 := hid (T2.out.below b3)
      have B9 := hid (bl_trans B2.out b3)
      clear b3 T2 B2 IY SY
      go_wp2_with fail
    all_goals
      refine (DD.out _ B9.out).mono ?_
      rintro e wA ⟨⟨y, hy0, hy1, rfl⟩, bA⟩
      have TA := hid (T9.out.below bA)
      have BA := hid (bl_trans B9.out bA)
      clear bA T9 B9 DD
      go_wp2_with fail
      refine (im_Decode y hy0 hy1 _ TA.out).mono ?_
      rintro e wB ⟨⟨v, hv, rfl⟩, bB⟩
      have TB := hid (TA.out.below bB)
      have BB := hid (bl_trans BA.out bB)
      clear bB TA BA
      have hk := hv.kinds
      clear hv
      have RSx : Hid (∀ (G : Nat) (cs : Array Value) (c : Int) W, Bx w G cs W → Calls Tryd.prog 19 #[.int .i64 c] W fun e w' => e = .returned (.int .i64 (rs c)) ∧ Bx w G cs w') := fun G cs c W h =>
        (im_RegionStart c W h.tb).mono (by rintro e w' ⟨rfl, b⟩; exact ⟨rfl, h.below b⟩)
      have SPx : Hid (∀ (G : Nat) (cs : Array Value) (c : Int) W, Bx w G cs W → Calls Tryd.prog 20 #[.int .i64 c] W fun e w' => e = .returned (.int .i64 (pg c)) ∧ Bx w G cs w') := fun G cs c W h =>
        (im_SlabPages c W h.tb).mono (by rintro e w' ⟨rfl, rfl⟩; exact ⟨rfl, h⟩)
      have SSx : Hid (∀ (G : Nat) (cs : Array Value) (c : Int) W, Bx w G cs W → Calls Tryd.prog 21 #[.int .i64 c] W fun e w' => e = .returned (.int .i64 (sl c)) ∧ Bx w G cs w') := fun G cs c W h =>
        (im_SlabSlots c W h.tb).mono (by rintro e w' ⟨rfl, rfl⟩; exact ⟨rfl, h⟩)
      have SZx : Hid (∀ (G : Nat) (cs : Array Value) (c : Int) W, Bx w G cs W → Calls Tryd.prog 13 #[.int .i64 c] W fun e w' => e = .returned (.int .i64 (sz c)) ∧ Bx w G cs w') := fun G cs c W h =>
        (im_SlotSize c W h.tb).mono (by rintro e w' ⟨rfl, rfl⟩; exact ⟨rfl, h⟩)
      have LSx : Hid (∀ (G : Nat) (cs : Array Value) W, Bx w G cs W → Calls Tryd.prog 18 #[] W fun e w' => e = .returned (.int .i64 187) ∧ Bx w G cs w') := fun G cs W h =>
        (im_LargeStart W h.tb).mono (by rintro e w' ⟨rfl, b⟩; exact ⟨rfl, h.below b⟩)
      clear HT hlen hlen'
      cases hk with
      | out h =>
        have P0 := hid (Bx.first BB.out TB.out #[.int .i64 0, .int .i64 0, .int .i64 0, .int .i64 0, .int .i64 0, .int .i64 0])
        clear TB BB RSx SPx SSx SZx LSx
        unfold pl
        go_wp2_with fail
        refine (sp_ArenaPages _).mono ?_
        rintro e wC ⟨rfl, bC⟩
        have P1 := hid (P0.out.below bC)
        clear bC P0
        go_wp2
        go_ret
        exact ⟨by simp, P1.out.bel⟩
      | large h0 h1 =>
        obtain ⟨k, hk⟩ : ∃ k : Int, k = y / 1024 - 187 := ⟨_, rfl⟩
        obtain ⟨o, hyo⟩ : ∃ o : Int, o = y % 1024 := ⟨_, rfl⟩
        have hyk : y / 1024 = 187 + k := by omega
        have P0 := hid (Bx.first BB.out TB.out #[.int .i64 4, .int .i64 0, .int .i64 0, .int .i64 0, .int .i64 k, .int .i64 o])
        clear TB BB RSx SPx SSx SZx
        rw [← hk, ← hyo]
        have t0 : 0 ≤ k ∧ k < 96 := by omega
        have t1 : 0 ≤ o ∧ o < 1024 := by omega
        have hym : y % 1024 = o := hyo.symm
        have m1 : Int.tmod y 1024 = o := by rw [Int.tmod_eq_emod_of_nonneg (by omega)]; exact hym
        have m2 : IntKind.i64.wrap (187 + k) = 187 + k := by rw [IntKind.wrap_i64]; omega
        have m3 : IntKind.u64.wrap (o) = o := by rw [IntKind.wrap_u64]; omega
        have m4 : IntKind.i64.wrap (o) = o := by rw [IntKind.wrap_i64]; omega
        clear hk hyo
        unfold pl
        go_wp2
        generalize wB.alloc _ = W0 at P0 ⊢
        generalize wB.heap.size = G at P0 ⊢
        have PD := hid P0.out.drew
        have SS : Hid (∀ W', Bx w G #[.int .i64 4, .int .i64 0, .int .i64 0, .int .i64 0, .int .i64 k, .int .i64 o] W' → (W'.cell? ⟨G, 4, none⟩ = some (.int .i64 (k)) ∧ W'.cell? ⟨G, 5, none⟩ = some (.int .i64 (o))) ∧ Hid (Bx w G #[.int .i64 4, .int .i64 0, .int .i64 0, .int .i64 0, .int .i64 k, .int .i64 o] W')) := fun W' h => ⟨⟨h.cell 4, h.cell 5⟩, h⟩
        refine wp_region_held (S := fun W' => (W'.cell? ⟨G, 4, none⟩ = some (.int .i64 (k)) ∧ W'.cell? ⟨G, 5, none⟩ = some (.int .i64 (o))) ∧ Hid (Bx w G #[.int .i64 4, .int .i64 0, .int .i64 0, .int .i64 0, .int .i64 k, .int .i64 o] W')) (by kernel_rfl) ?_
        simp only [List.size_toArray, List.length_cons, List.length_nil, Nat.reduceAdd, Array.replicate_succ, Array.replicate_zero, List.push_toArray, List.nil_append, List.cons_append]
        have hS := SS.out _ PD.out
        refine wpAnyH_put (i := 0) (d := 90) (v := .int .i64 (187 + k)) rfl (by kernel_rfl) (by kernel_rfl) (by kernel_rfl) (by kernel_rfl) (fun _ _ _ h => h) (Or.inl ⟨by kernel_rfl, fun _ _ => by kernel_rfl⟩) hS ?_
        simp only [List.setIfInBounds_toArray, List.set_cons_zero, List.set_cons_succ]
        refine wpAnyH_put (i := 2) (d := 92) (v := .pointer (some ⟨G, 4, none⟩)) rfl (by kernel_rfl) (by kernel_rfl) (by kernel_rfl) (by kernel_rfl) (fun _ _ _ h => h) (Or.inl ⟨by kernel_rfl, fun _ _ => by kernel_rfl⟩) hS ?_
        simp only [List.setIfInBounds_toArray, List.set_cons_zero, List.set_cons_succ]
        refine wpAnyH_put (i := 3) (d := 93) (v := .int .i64 (k)) rfl (by kernel_rfl) (by kernel_rfl) (by kernel_rfl) (by kernel_rfl) (fun _ _ _ h => h) (Or.inl ⟨by kernel_rfl, fun W hS => by obtain ⟨⟨h4, h5⟩, _⟩ := hS; go_simp⟩) hS ?_
        simp only [List.setIfInBounds_toArray, List.set_cons_zero, List.set_cons_succ]
        refine wpAnyH_one (r := 1) (by kernel_rfl) ?_
        refine wpOp_do rfl (by kernel_rfl) (fun K' hK => ?_)
        go_simp
        refine (LSx.out G _ _ hS.2).mono ?_
        rintro e W101 ⟨rfl, hb1⟩
        refine hK.out _ _ ⟨SS.out _ hb1, ?_⟩
        clear hK K' hS
        have hS := SS.out _ hb1
        refine wpAnyH_put (i := 4) (d := 94) (v := .int .i64 (187 + k)) rfl (by kernel_rfl) (by kernel_rfl) (by kernel_rfl) (by kernel_rfl) (fun _ _ _ h => h) (Or.inl ⟨by kernel_rfl, fun W _ => by first | (go_simp; done) | (go_simp; omega)⟩) hS ?_
        simp only [List.setIfInBounds_toArray, List.set_cons_zero, List.set_cons_succ]
        refine wpAnyH_put (i := 5) (d := 95) (v := .bool true) rfl (by kernel_rfl) (by kernel_rfl) (by kernel_rfl) (by kernel_rfl) (fun _ _ _ h => h) (Or.inl ⟨by kernel_rfl, fun W _ => by first | (go_simp; done) | (go_simp; omega)⟩) hS ?_
        simp only [List.setIfInBounds_toArray, List.set_cons_zero, List.set_cons_succ]
        refine wpAnyH_put (i := 6) (d := 96) (v := .bool true) rfl (by kernel_rfl) (by kernel_rfl) (by kernel_rfl) (by kernel_rfl) (fun _ _ _ h => h) (Or.inl ⟨by kernel_rfl, fun _ _ => by kernel_rfl⟩) hS ?_
        simp only [List.setIfInBounds_toArray, List.set_cons_zero, List.set_cons_succ]
        refine wpAnyH_put (i := 7) (d := 97) (v := .pointer (some ⟨G, 4, none⟩)) rfl (by kernel_rfl) (by kernel_rfl) (by kernel_rfl) (by kernel_rfl) (fun _ _ _ h => h) (Or.inl ⟨by kernel_rfl, fun _ _ => by kernel_rfl⟩) hS ?_
        simp only [List.setIfInBounds_toArray, List.set_cons_zero, List.set_cons_succ]
        refine wpAnyH_put (i := 8) (d := 98) (v := .int .i64 (k)) rfl (by kernel_rfl) (by kernel_rfl) (by kernel_rfl) (by kernel_rfl) (fun _ _ _ h => h) (Or.inl ⟨by kernel_rfl, fun W hS => by obtain ⟨⟨h4, h5⟩, _⟩ := hS; go_simp⟩) hS ?_
        simp only [List.setIfInBounds_toArray, List.set_cons_zero, List.set_cons_succ]
        refine wpAnyH_put (i := 9) (d := 99) (v := .bool true) rfl (by kernel_rfl) (by kernel_rfl) (by kernel_rfl) (by kernel_rfl) (fun _ _ _ h => h) (Or.inl ⟨by kernel_rfl, fun W _ => by first | (go_simp; done) | (go_simp; omega)⟩) hS ?_
        simp only [List.setIfInBounds_toArray, List.set_cons_zero, List.set_cons_succ]
        refine wpAnyH_put (i := 10) (d := 100) (v := .bool true) rfl (by kernel_rfl) (by kernel_rfl) (by kernel_rfl) (by kernel_rfl) (fun _ _ _ h => h) (Or.inl ⟨by kernel_rfl, fun _ _ => by kernel_rfl⟩) hS ?_
        simp only [List.setIfInBounds_toArray, List.set_cons_zero, List.set_cons_succ]
        refine wpAnyH_put (i := 11) (d := 101) (v := .bool true) rfl (by kernel_rfl) (by kernel_rfl) (by kernel_rfl) (by kernel_rfl) (fun _ _ _ h => h) (Or.inl ⟨by kernel_rfl, fun _ _ => by kernel_rfl⟩) hS ?_
        simp only [List.setIfInBounds_toArray, List.set_cons_zero, List.set_cons_succ]
        refine wpAnyH_put (i := 12) (d := 102) (v := .int .u64 (y)) rfl (by kernel_rfl) (by kernel_rfl) (by kernel_rfl) (by kernel_rfl) (fun _ _ _ h => h) (Or.inl ⟨by kernel_rfl, fun _ _ => by kernel_rfl⟩) hS ?_
        simp only [List.setIfInBounds_toArray, List.set_cons_zero, List.set_cons_succ]
        refine wpAnyH_put (i := 13) (d := 103) (v := .int .u64 (o)) rfl (by kernel_rfl) (by kernel_rfl) (by kernel_rfl) (by kernel_rfl) (fun _ _ _ h => h) (Or.inl ⟨by kernel_rfl, fun W _ => by first | (go_simp; done) | (go_simp; omega)⟩) hS ?_
        simp only [List.setIfInBounds_toArray, List.set_cons_zero, List.set_cons_succ]
        refine wpAnyH_put (i := 14) (d := 104) (v := .int .i64 (o)) rfl (by kernel_rfl) (by kernel_rfl) (by kernel_rfl) (by kernel_rfl) (fun _ _ _ h => h) (Or.inl ⟨by kernel_rfl, fun W _ => by first | (go_simp; done) | (go_simp; omega)⟩) hS ?_
        simp only [List.setIfInBounds_toArray, List.set_cons_zero, List.set_cons_succ]
        refine wpAnyH_put (i := 15) (d := 105) (v := .pointer (some ⟨G, 5, none⟩)) rfl (by kernel_rfl) (by kernel_rfl) (by kernel_rfl) (by kernel_rfl) (fun _ _ _ h => h) (Or.inl ⟨by kernel_rfl, fun _ _ => by kernel_rfl⟩) hS ?_
        simp only [List.setIfInBounds_toArray, List.set_cons_zero, List.set_cons_succ]
        refine wpAnyH_put (i := 16) (d := 106) (v := .int .i64 (o)) rfl (by kernel_rfl) (by kernel_rfl) (by kernel_rfl) (by kernel_rfl) (fun _ _ _ h => h) (Or.inl ⟨by kernel_rfl, fun W hS => by obtain ⟨⟨h4, h5⟩, _⟩ := hS; go_simp⟩) hS ?_
        simp only [List.setIfInBounds_toArray, List.set_cons_zero, List.set_cons_succ]
        refine wpAnyH_put (i := 17) (d := 107) (v := .bool true) rfl (by kernel_rfl) (by kernel_rfl) (by kernel_rfl) (by kernel_rfl) (fun _ _ _ h => h) (Or.inl ⟨by kernel_rfl, fun W _ => by first | (go_simp; done) | (go_simp; omega)⟩) hS ?_
        simp only [List.setIfInBounds_toArray, List.set_cons_zero, List.set_cons_succ]
        refine wpAnyH_put (i := 18) (d := 108) (v := .bool true) rfl (by kernel_rfl) (by kernel_rfl) (by kernel_rfl) (by kernel_rfl) (fun _ _ _ h => h) (Or.inl ⟨by kernel_rfl, fun _ _ => by kernel_rfl⟩) hS ?_
        simp only [List.setIfInBounds_toArray, List.set_cons_zero, List.set_cons_succ]
        refine wpAnyH_put (i := 19) (d := 2) (v := .bool true) rfl (by kernel_rfl) (by kernel_rfl) (by kernel_rfl) (by kernel_rfl) (fun _ _ _ h => h) (Or.inl ⟨by kernel_rfl, fun _ _ => by kernel_rfl⟩) hS ?_
        simp only [List.setIfInBounds_toArray, List.set_cons_zero, List.set_cons_succ]
        refine wpAnyH_done (by kernel_rfl) ?_ _
        go_wp2
        go_ret
        exact ⟨rfl, hS.2.out.bel⟩
      | zero h0 h1 =>
        obtain ⟨q, hq⟩ : ∃ q : Int, y / 1024 = q := ⟨_, rfl⟩
        have P0 := hid (Bx.first BB.out TB.out #[.int .i64 1, .int .i64 0, .int .i64 0, .int .i64 0, .int .i64 0, .int .i64 0])
        clear TB BB RSx SPx SSx SZx LSx
        have t1 : (q == 0) = true := by simp; omega
        unfold pl
        go_wp2
        generalize wB.alloc _ = W0 at P0 ⊢
        generalize wB.heap.size = G at P0 ⊢
        have PD := hid P0.out.drew
        have SS : Hid (∀ W', Bx w G #[.int .i64 1, .int .i64 0, .int .i64 0, .int .i64 0, .int .i64 0, .int .i64 0] W' → (W'.cell? ⟨G, 1, none⟩ = some (.int .i64 (0)) ∧ W'.cell? ⟨G, 2, none⟩ = some (.int .i64 (0))) ∧ Hid (Bx w G #[.int .i64 1, .int .i64 0, .int .i64 0, .int .i64 0, .int .i64 0, .int .i64 0] W')) := fun W' h => ⟨⟨h.cell 1, h.cell 2⟩, h⟩
        refine wp_region_held (S := fun W' => (W'.cell? ⟨G, 1, none⟩ = some (.int .i64 (0)) ∧ W'.cell? ⟨G, 2, none⟩ = some (.int .i64 (0))) ∧ Hid (Bx w G #[.int .i64 1, .int .i64 0, .int .i64 0, .int .i64 0, .int .i64 0, .int .i64 0] W')) (by kernel_rfl) ?_
        simp only [List.size_toArray, List.length_cons, List.length_nil, Nat.reduceAdd, Array.replicate_succ, Array.replicate_zero, List.push_toArray, List.nil_append, List.cons_append]
        have hS := SS.out _ PD.out
        refine wpAnyH_put (i := 0) (d := 111) (v := .int .i64 (q)) rfl (by kernel_rfl) (by kernel_rfl) (by kernel_rfl) (by kernel_rfl) (fun _ _ _ h => h) (Or.inl ⟨by kernel_rfl, fun _ _ => by kernel_rfl⟩) hS ?_
        simp only [List.setIfInBounds_toArray, List.set_cons_zero, List.set_cons_succ]
        refine wpAnyH_put (i := 1) (d := 112) (v := .bool true) rfl (by kernel_rfl) (by kernel_rfl) (by kernel_rfl) (by kernel_rfl) (fun _ _ _ h => h) (Or.inl ⟨by kernel_rfl, fun W _ => by first | (go_simp; done) | (go_simp; omega)⟩) hS ?_
        simp only [List.setIfInBounds_toArray, List.set_cons_zero, List.set_cons_succ]
        refine wpAnyH_put (i := 2) (d := 113) (v := .bool true) rfl (by kernel_rfl) (by kernel_rfl) (by kernel_rfl) (by kernel_rfl) (fun _ _ _ h => h) (Or.inl ⟨by kernel_rfl, fun _ _ => by kernel_rfl⟩) hS ?_
        simp only [List.setIfInBounds_toArray, List.set_cons_zero, List.set_cons_succ]
        refine wpAnyH_put (i := 3) (d := 114) (v := undef) rfl (by kernel_rfl) (by kernel_rfl) (by kernel_rfl) (by kernel_rfl) (fun _ _ _ h => h) (Or.inr ⟨by kernel_rfl, rfl⟩) hS ?_
        simp only [List.setIfInBounds_toArray, List.set_cons_zero, List.set_cons_succ]
        refine wpAnyH_put (i := 4) (d := 115) (v := undef) rfl (by kernel_rfl) (by kernel_rfl) (by kernel_rfl) (by kernel_rfl) (fun _ _ _ h => h) (Or.inr ⟨by kernel_rfl, rfl⟩) hS ?_
        simp only [List.setIfInBounds_toArray, List.set_cons_zero, List.set_cons_succ]
        refine wpAnyH_put (i := 5) (d := 116) (v := undef) rfl (by kernel_rfl) (by kernel_rfl) (by kernel_rfl) (by kernel_rfl) (fun _ _ _ h => h) (Or.inr ⟨by kernel_rfl, rfl⟩) hS ?_
        simp only [List.setIfInBounds_toArray, List.set_cons_zero, List.set_cons_succ]
        refine wpAnyH_put (i := 6) (d := 117) (v := undef) rfl (by kernel_rfl) (by kernel_rfl) (by kernel_rfl) (by kernel_rfl) (fun _ _ _ h => h) (Or.inr ⟨by kernel_rfl, rfl⟩) hS ?_
        simp only [List.setIfInBounds_toArray, List.set_cons_zero, List.set_cons_succ]
        refine wpAnyH_put (i := 7) (d := 118) (v := undef) rfl (by kernel_rfl) (by kernel_rfl) (by kernel_rfl) (by kernel_rfl) (fun _ _ _ h => h) (Or.inr ⟨by kernel_rfl, rfl⟩) hS ?_
        simp only [List.setIfInBounds_toArray, List.set_cons_zero, List.set_cons_succ]
        refine wpAnyH_put (i := 8) (d := 119) (v := undef) rfl (by kernel_rfl) (by kernel_rfl) (by kernel_rfl) (by kernel_rfl) (fun _ _ _ h => h) (Or.inr ⟨by kernel_rfl, rfl⟩) hS ?_
        simp only [List.setIfInBounds_toArray, List.set_cons_zero, List.set_cons_succ]
        refine wpAnyH_put (i := 9) (d := 120) (v := undef) rfl (by kernel_rfl) (by kernel_rfl) (by kernel_rfl) (by kernel_rfl) (fun _ _ _ h => h) (Or.inr ⟨by kernel_rfl, rfl⟩) hS ?_
        simp only [List.setIfInBounds_toArray, List.set_cons_zero, List.set_cons_succ]
        refine wpAnyH_put (i := 10) (d := 121) (v := undef) rfl (by kernel_rfl) (by kernel_rfl) (by kernel_rfl) (by kernel_rfl) (fun _ _ _ h => h) (Or.inr ⟨by kernel_rfl, rfl⟩) hS ?_
        simp only [List.setIfInBounds_toArray, List.set_cons_zero, List.set_cons_succ]
        refine wpAnyH_put (i := 11) (d := 122) (v := undef) rfl (by kernel_rfl) (by kernel_rfl) (by kernel_rfl) (by kernel_rfl) (fun _ _ _ h => h) (Or.inr ⟨by kernel_rfl, rfl⟩) hS ?_
        simp only [List.setIfInBounds_toArray, List.set_cons_zero, List.set_cons_succ]
        refine wpAnyH_put (i := 12) (d := 123) (v := undef) rfl (by kernel_rfl) (by kernel_rfl) (by kernel_rfl) (by kernel_rfl) (fun _ _ _ h => h) (Or.inr ⟨by kernel_rfl, rfl⟩) hS ?_
        simp only [List.setIfInBounds_toArray, List.set_cons_zero, List.set_cons_succ]
        refine wpAnyH_put (i := 13) (d := 124) (v := undef) rfl (by kernel_rfl) (by kernel_rfl) (by kernel_rfl) (by kernel_rfl) (fun _ _ _ h => h) (Or.inr ⟨by kernel_rfl, rfl⟩) hS ?_
        simp only [List.setIfInBounds_toArray, List.set_cons_zero, List.set_cons_succ]
        refine wpAnyH_put (i := 14) (d := 125) (v := undef) rfl (by kernel_rfl) (by kernel_rfl) (by kernel_rfl) (by kernel_rfl) (fun _ _ _ h => h) (Or.inr ⟨by kernel_rfl, rfl⟩) hS ?_
        simp only [List.setIfInBounds_toArray, List.set_cons_zero, List.set_cons_succ]
        refine wpAnyH_put (i := 15) (d := 126) (v := undef) rfl (by kernel_rfl) (by kernel_rfl) (by kernel_rfl) (by kernel_rfl) (fun _ _ _ h => h) (Or.inr ⟨by kernel_rfl, rfl⟩) hS ?_
        simp only [List.setIfInBounds_toArray, List.set_cons_zero, List.set_cons_succ]
        refine wpAnyH_put (i := 16) (d := 127) (v := undef) rfl (by kernel_rfl) (by kernel_rfl) (by kernel_rfl) (by kernel_rfl) (fun _ _ _ h => h) (Or.inr ⟨by kernel_rfl, rfl⟩) hS ?_
        simp only [List.setIfInBounds_toArray, List.set_cons_zero, List.set_cons_succ]
        refine wpAnyH_put (i := 17) (d := 128) (v := undef) rfl (by kernel_rfl) (by kernel_rfl) (by kernel_rfl) (by kernel_rfl) (fun _ _ _ h => h) (Or.inr ⟨by kernel_rfl, rfl⟩) hS ?_
        simp only [List.setIfInBounds_toArray, List.set_cons_zero, List.set_cons_succ]
        refine wpAnyH_put (i := 18) (d := 129) (v := .bool true) rfl (by kernel_rfl) (by kernel_rfl) (by kernel_rfl) (by kernel_rfl) (fun _ _ _ h => h) (Or.inl ⟨by kernel_rfl, fun _ _ => by kernel_rfl⟩) hS ?_
        simp only [List.setIfInBounds_toArray, List.set_cons_zero, List.set_cons_succ]
        refine wpAnyH_put (i := 19) (d := 2) (v := .bool true) rfl (by kernel_rfl) (by kernel_rfl) (by kernel_rfl) (by kernel_rfl) (fun _ _ _ h => h) (Or.inl ⟨by kernel_rfl, fun _ _ => by kernel_rfl⟩) hS ?_
        simp only [List.setIfInBounds_toArray, List.set_cons_zero, List.set_cons_succ]
        refine wpAnyH_done (by kernel_rfl) ?_ _
        go_wp2
        go_ret
        exact ⟨rfl, hS.2.out.bel⟩
      | guard c' s' hc' hs' h0 h1 h =>
        obtain ⟨q, hq⟩ : ∃ q : Int, y / 1024 = q := ⟨_, rfl⟩
        have hp' := pg_in hc'
        have hr' := rs_le c'
        have t3 : 0 ≤ (s' + 1) * (pg c' + 1) ∧ (s' + 1) * (pg c' + 1) ≤ 30 := by
          have : pg c' = 1 ∨ pg c' = 2 ∨ pg c' = 3 ∨ pg c' = 4 := by omega
          rcases this with e | e | e | e <;> rw [e] <;> omega
        have P0 := hid (Bx.first BB.out TB.out #[.int .i64 1, .int .i64 c', .int .i64 s', .int .i64 0, .int .i64 0, .int .i64 0])
        have RS1 := hid (fun G cs W hW => RSx.out G cs c' W hW)
        have SP1 := hid (fun G cs W hW => SPx.out G cs c' W hW)
        clear TB BB SSx SZx LSx RSx SPx
        have t1 : (q == 0) = false := by simp; omega
        have t2 : (q == rs c' + (s' + 1) * (pg c' + 1) - 1) = true := by simp; omega
        clear h
        generalize hM : (s' + 1) * (pg c' + 1) = M at *
        generalize rs c' = rr at *
        generalize pg c' = pp at *
        have m1 : IntKind.i64.wrap (s' + 1) = s' + 1 := by rw [IntKind.wrap_i64]; omega
        have m2 : IntKind.i64.wrap (pp + 1) = pp + 1 := by rw [IntKind.wrap_i64]; omega
        have m3 : IntKind.i64.wrap (M) = M := by rw [IntKind.wrap_i64]; omega
        have m4 : IntKind.i64.wrap (rr + M) = rr + M := by rw [IntKind.wrap_i64]; omega
        have m5 : IntKind.i64.wrap (rr + M - 1) = rr + M - 1 := by rw [IntKind.wrap_i64]; omega
        unfold pl
        go_wp2
        generalize wB.alloc _ = W0 at P0 ⊢
        generalize wB.heap.size = G at P0 ⊢
        have PD := hid P0.out.drew
        have SS : Hid (∀ W', Bx w G #[.int .i64 1, .int .i64 c', .int .i64 s', .int .i64 0, .int .i64 0, .int .i64 0] W' → (W'.cell? ⟨G, 1, none⟩ = some (.int .i64 (c')) ∧ W'.cell? ⟨G, 2, none⟩ = some (.int .i64 (s'))) ∧ Hid (Bx w G #[.int .i64 1, .int .i64 c', .int .i64 s', .int .i64 0, .int .i64 0, .int .i64 0] W')) := fun W' h => ⟨⟨h.cell 1, h.cell 2⟩, h⟩
        refine wp_region_held (S := fun W' => (W'.cell? ⟨G, 1, none⟩ = some (.int .i64 (c')) ∧ W'.cell? ⟨G, 2, none⟩ = some (.int .i64 (s'))) ∧ Hid (Bx w G #[.int .i64 1, .int .i64 c', .int .i64 s', .int .i64 0, .int .i64 0, .int .i64 0] W')) (by kernel_rfl) ?_
        simp only [List.size_toArray, List.length_cons, List.length_nil, Nat.reduceAdd, Array.replicate_succ, Array.replicate_zero, List.push_toArray, List.nil_append, List.cons_append]
        have hS := SS.out _ PD.out
        refine wpAnyH_put (i := 0) (d := 111) (v := .int .i64 (q)) rfl (by kernel_rfl) (by kernel_rfl) (by kernel_rfl) (by kernel_rfl) (fun _ _ _ h => h) (Or.inl ⟨by kernel_rfl, fun _ _ => by kernel_rfl⟩) hS ?_
        simp only [List.setIfInBounds_toArray, List.set_cons_zero, List.set_cons_succ]
        refine wpAnyH_put (i := 1) (d := 112) (v := .bool false) rfl (by kernel_rfl) (by kernel_rfl) (by kernel_rfl) (by kernel_rfl) (fun _ _ _ h => h) (Or.inl ⟨by kernel_rfl, fun W _ => by first | (go_simp; done) | (go_simp; omega)⟩) hS ?_
        simp only [List.setIfInBounds_toArray, List.set_cons_zero, List.set_cons_succ]
        refine wpAnyH_put (i := 2) (d := 113) (v := .bool false) rfl (by kernel_rfl) (by kernel_rfl) (by kernel_rfl) (by kernel_rfl) (fun _ _ _ h => h) (Or.inl ⟨by kernel_rfl, fun _ _ => by kernel_rfl⟩) hS ?_
        simp only [List.setIfInBounds_toArray, List.set_cons_zero, List.set_cons_succ]
        refine wpAnyH_put (i := 3) (d := 114) (v := .int .i64 (q)) rfl (by kernel_rfl) (by kernel_rfl) (by kernel_rfl) (by kernel_rfl) (fun _ _ _ h => h) (Or.inl ⟨by kernel_rfl, fun _ _ => by kernel_rfl⟩) hS ?_
        simp only [List.setIfInBounds_toArray, List.set_cons_zero, List.set_cons_succ]
        refine wpAnyH_put (i := 4) (d := 115) (v := .pointer (some ⟨G, 1, none⟩)) rfl (by kernel_rfl) (by kernel_rfl) (by kernel_rfl) (by kernel_rfl) (fun _ _ _ h => h) (Or.inl ⟨by kernel_rfl, fun _ _ => by kernel_rfl⟩) hS ?_
        simp only [List.setIfInBounds_toArray, List.set_cons_zero, List.set_cons_succ]
        refine wpAnyH_put (i := 5) (d := 116) (v := .int .i64 (c')) rfl (by kernel_rfl) (by kernel_rfl) (by kernel_rfl) (by kernel_rfl) (fun _ _ _ h => h) (Or.inl ⟨by kernel_rfl, fun W hS => by obtain ⟨⟨h1, h2⟩, _⟩ := hS; go_simp⟩) hS ?_
        simp only [List.setIfInBounds_toArray, List.set_cons_zero, List.set_cons_succ]
        refine wpAnyH_put (i := 7) (d := 118) (v := .pointer (some ⟨G, 2, none⟩)) rfl (by kernel_rfl) (by kernel_rfl) (by kernel_rfl) (by kernel_rfl) (fun _ _ _ h => h) (Or.inl ⟨by kernel_rfl, fun _ _ => by kernel_rfl⟩) hS ?_
        simp only [List.setIfInBounds_toArray, List.set_cons_zero, List.set_cons_succ]
        refine wpAnyH_put (i := 8) (d := 119) (v := .int .i64 (s')) rfl (by kernel_rfl) (by kernel_rfl) (by kernel_rfl) (by kernel_rfl) (fun _ _ _ h => h) (Or.inl ⟨by kernel_rfl, fun W hS => by obtain ⟨⟨h1, h2⟩, _⟩ := hS; go_simp⟩) hS ?_
        simp only [List.setIfInBounds_toArray, List.set_cons_zero, List.set_cons_succ]
        refine wpAnyH_put (i := 9) (d := 120) (v := .int .i64 (s' + 1)) rfl (by kernel_rfl) (by kernel_rfl) (by kernel_rfl) (by kernel_rfl) (fun _ _ _ h => h) (Or.inl ⟨by kernel_rfl, fun W _ => by first | (go_simp; done) | (go_simp; omega)⟩) hS ?_
        simp only [List.setIfInBounds_toArray, List.set_cons_zero, List.set_cons_succ]
        refine wpAnyH_put (i := 10) (d := 121) (v := .pointer (some ⟨G, 1, none⟩)) rfl (by kernel_rfl) (by kernel_rfl) (by kernel_rfl) (by kernel_rfl) (fun _ _ _ h => h) (Or.inl ⟨by kernel_rfl, fun _ _ => by kernel_rfl⟩) hS ?_
        simp only [List.setIfInBounds_toArray, List.set_cons_zero, List.set_cons_succ]
        refine wpAnyH_put (i := 11) (d := 122) (v := .int .i64 (c')) rfl (by kernel_rfl) (by kernel_rfl) (by kernel_rfl) (by kernel_rfl) (fun _ _ _ h => h) (Or.inl ⟨by kernel_rfl, fun W hS => by obtain ⟨⟨h1, h2⟩, _⟩ := hS; go_simp⟩) hS ?_
        simp only [List.setIfInBounds_toArray, List.set_cons_zero, List.set_cons_succ]
        refine wpAnyH_one (r := 6) (by kernel_rfl) ?_
        refine wpOp_do rfl (by kernel_rfl) (fun K' hK => ?_)
        go_simp
        refine (RS1.out G _ _ hS.2).mono ?_
        rintro e W106 ⟨rfl, hb6⟩
        refine hK.out _ _ ⟨SS.out _ hb6, ?_⟩
        clear hK K' hS
        have hS := SS.out _ hb6
        refine wpAnyH_one (r := 12) (by kernel_rfl) ?_
        refine wpOp_do rfl (by kernel_rfl) (fun K' hK => ?_)
        go_simp
        refine (SP1.out G _ _ hS.2).mono ?_
        rintro e W112 ⟨rfl, hb12⟩
        refine hK.out _ _ ⟨SS.out _ hb12, ?_⟩
        clear hK K' hS
        have hS := SS.out _ hb12
        refine wpAnyH_put (i := 13) (d := 124) (v := .int .i64 (pp + 1)) rfl (by kernel_rfl) (by kernel_rfl) (by kernel_rfl) (by kernel_rfl) (fun _ _ _ h => h) (Or.inl ⟨by kernel_rfl, fun W _ => by first | (go_simp; done) | (go_simp; omega)⟩) hS ?_
        simp only [List.setIfInBounds_toArray, List.set_cons_zero, List.set_cons_succ]
        refine wpAnyH_put (i := 14) (d := 125) (v := .int .i64 (M)) rfl (by kernel_rfl) (by kernel_rfl) (by kernel_rfl) (by kernel_rfl) (fun _ _ _ h => h) (Or.inl ⟨by kernel_rfl, fun W _ => by first | (go_simp; done) | (go_simp; omega)⟩) hS ?_
        simp only [List.setIfInBounds_toArray, List.set_cons_zero, List.set_cons_succ]
        refine wpAnyH_put (i := 15) (d := 126) (v := .int .i64 (rr + M)) rfl (by kernel_rfl) (by kernel_rfl) (by kernel_rfl) (by kernel_rfl) (fun _ _ _ h => h) (Or.inl ⟨by kernel_rfl, fun W _ => by first | (go_simp; done) | (go_simp; omega)⟩) hS ?_
        simp only [List.setIfInBounds_toArray, List.set_cons_zero, List.set_cons_succ]
        refine wpAnyH_put (i := 16) (d := 127) (v := .int .i64 (rr + M - 1)) rfl (by kernel_rfl) (by kernel_rfl) (by kernel_rfl) (by kernel_rfl) (fun _ _ _ h => h) (Or.inl ⟨by kernel_rfl, fun W _ => by first | (go_simp; done) | (go_simp; omega)⟩) hS ?_
        simp only [List.setIfInBounds_toArray, List.set_cons_zero, List.set_cons_succ]
        refine wpAnyH_put (i := 17) (d := 128) (v := .bool true) rfl (by kernel_rfl) (by kernel_rfl) (by kernel_rfl) (by kernel_rfl) (fun _ _ _ h => h) (Or.inl ⟨by kernel_rfl, fun W _ => by first | (go_simp; done) | (go_simp; omega)⟩) hS ?_
        simp only [List.setIfInBounds_toArray, List.set_cons_zero, List.set_cons_succ]
        refine wpAnyH_put (i := 18) (d := 129) (v := .bool true) rfl (by kernel_rfl) (by kernel_rfl) (by kernel_rfl) (by kernel_rfl) (fun _ _ _ h => h) (Or.inl ⟨by kernel_rfl, fun _ _ => by kernel_rfl⟩) hS ?_
        simp only [List.setIfInBounds_toArray, List.set_cons_zero, List.set_cons_succ]
        refine wpAnyH_put (i := 19) (d := 2) (v := .bool true) rfl (by kernel_rfl) (by kernel_rfl) (by kernel_rfl) (by kernel_rfl) (fun _ _ _ h => h) (Or.inl ⟨by kernel_rfl, fun _ _ => by kernel_rfl⟩) hS ?_
        simp only [List.setIfInBounds_toArray, List.set_cons_zero, List.set_cons_succ]
        refine wpAnyH_done (by kernel_rfl) ?_ _
        go_wp2
        go_ret
        exact ⟨rfl, hS.2.out.bel⟩
      | tail c' s' o' hc' hs' h0 h1 ho h hp =>
        obtain ⟨q, hq⟩ : ∃ q : Int, y / 1024 = q := ⟨_, rfl⟩
        have hl' := sl_in hc'
        have hz' := sz_in hc'
        have hp' := pg_in hc'
        have hr' := rs_le c'
        have hsl : Slot c' s' 0 := ⟨hc'.1, hc'.2, hs'.1, hs'.2, by omega, by omega⟩
        have hX := hsl.dec (o := 0) (by omega) (by omega)
        have t3 : 0 ≤ (s' + 1) * (pg c' + 1) ∧ (s' + 1) * (pg c' + 1) ≤ 30 := by
          have : pg c' = 1 ∨ pg c' = 2 ∨ pg c' = 3 ∨ pg c' = 4 := by omega
          rcases this with e | e | e | e <;> rw [e] <;> omega
        have t4 : 0 ≤ sl c' * sz c' ∧ sl c' * sz c' ≤ 4096 := ⟨Int.mul_nonneg (by omega) (by omega), by omega⟩
        have P0 := hid (Bx.first BB.out TB.out #[.int .i64 2, .int .i64 c', .int .i64 s', .int .i64 0, .int .i64 0, .int .i64 o'])
        have IY := hid (fun W (hW : Bx w wB.heap.size #[.int .i64 2, .int .i64 c', .int .i64 s', .int .i64 0, .int .i64 0, .int .i64 o'] W) => im_SlotAddr_yes c' s' 0 hsl W hW.tb)
        have RS1 := hid (fun G cs W hW => RSx.out G cs c' W hW)
        have SP1 := hid (fun G cs W hW => SPx.out G cs c' W hW)
        have SS1 := hid (fun G cs W hW => SSx.out G cs c' W hW)
        have SZ1 := hid (fun G cs W hW => SZx.out G cs c' W hW)
        clear TB BB LSx RSx SPx SSx SZx
        have hX2 : 1024 ≤ (rs c' + s' * (pg c' + 1)) * 1024 + 0 * sz c' ∧ (rs c' + s' * (pg c' + 1)) * 1024 + 0 * sz c' < 191488 := ⟨hX.2.1, by have := hX.2.2; omega⟩
        generalize (rs c' + s' * (pg c' + 1)) * 1024 + 0 * sz c' = X at h hX2 IY
        have te : (y == X + (sl c' * sz c' + o')) = true := by simp; omega
        have tq : q < rs c' + (s' + 1) * (pg c' + 1) - 1 := by omega
        clear hX h hp hl' hsl
        generalize hM : (s' + 1) * (pg c' + 1) = M at *
        generalize hN : sl c' * sz c' = N at *
        generalize rs c' = rr at *
        generalize pg c' = pp at *
        generalize sl c' = ll at *
        generalize sz c' = zz at *
        have m1 : IntKind.i64.wrap (s' + 1) = s' + 1 := by rw [IntKind.wrap_i64]; omega
        have m2 : IntKind.i64.wrap (pp + 1) = pp + 1 := by rw [IntKind.wrap_i64]; omega
        have m3 : IntKind.i64.wrap (M) = M := by rw [IntKind.wrap_i64]; omega
        have m4 : IntKind.i64.wrap (rr + M) = rr + M := by rw [IntKind.wrap_i64]; omega
        have m5 : IntKind.i64.wrap (rr + M - 1) = rr + M - 1 := by rw [IntKind.wrap_i64]; omega
        have m6 : IntKind.i64.wrap (N) = N := by rw [IntKind.wrap_i64]; omega
        have m7 : IntKind.i64.wrap (N + o') = N + o' := by rw [IntKind.wrap_i64]; omega
        have m8 : IntKind.u64.wrap (N + o') = N + o' := by rw [IntKind.wrap_u64]; omega
        have m9 : IntKind.u64.wrap (X + (N + o')) = X + (N + o') := by rw [IntKind.wrap_u64]; omega
        unfold pl
        go_wp2_with fail
        refine (IY.out _ P0.out).mono ?_
        rintro e wC ⟨rfl, bC⟩
        have P1 := hid (P0.out.below bC)
        clear bC P0 IY
        generalize wB.heap.size = G at P1 ⊢
        go_wp2
        have PD := hid P1.out.drew
        have SS : Hid (∀ W', Bx w G #[.int .i64 2, .int .i64 c', .int .i64 s', .int .i64 0, .int .i64 0, .int .i64 o'] W' → (W'.cell? ⟨G, 1, none⟩ = some (.int .i64 (c')) ∧ W'.cell? ⟨G, 2, none⟩ = some (.int .i64 (s')) ∧ W'.cell? ⟨G, 5, none⟩ = some (.int .i64 (o'))) ∧ Hid (Bx w G #[.int .i64 2, .int .i64 c', .int .i64 s', .int .i64 0, .int .i64 0, .int .i64 o'] W')) := fun W' h => ⟨⟨h.cell 1, h.cell 2, h.cell 5⟩, h⟩
        refine wp_region_held (S := fun W' => (W'.cell? ⟨G, 1, none⟩ = some (.int .i64 (c')) ∧ W'.cell? ⟨G, 2, none⟩ = some (.int .i64 (s')) ∧ W'.cell? ⟨G, 5, none⟩ = some (.int .i64 (o'))) ∧ Hid (Bx w G #[.int .i64 2, .int .i64 c', .int .i64 s', .int .i64 0, .int .i64 0, .int .i64 o'] W')) (by kernel_rfl) ?_
        simp only [List.size_toArray, List.length_cons, List.length_nil, Nat.reduceAdd, Array.replicate_succ, Array.replicate_zero, List.push_toArray, List.nil_append, List.cons_append]
        have hS := SS.out _ PD.out
        refine wpAnyH_put (i := 0) (d := 140) (v := .int .u64 (y)) rfl (by kernel_rfl) (by kernel_rfl) (by kernel_rfl) (by kernel_rfl) (fun _ _ _ h => h) (Or.inl ⟨by kernel_rfl, fun _ _ => by kernel_rfl⟩) hS ?_
        simp only [List.setIfInBounds_toArray, List.set_cons_zero, List.set_cons_succ]
        refine wpAnyH_put (i := 1) (d := 141) (v := .int .u64 (X)) rfl (by kernel_rfl) (by kernel_rfl) (by kernel_rfl) (by kernel_rfl) (fun _ _ _ h => h) (Or.inl ⟨by kernel_rfl, fun _ _ => by kernel_rfl⟩) hS ?_
        simp only [List.setIfInBounds_toArray, List.set_cons_zero, List.set_cons_succ]
        refine wpAnyH_put (i := 2) (d := 142) (v := .pointer (some ⟨G, 1, none⟩)) rfl (by kernel_rfl) (by kernel_rfl) (by kernel_rfl) (by kernel_rfl) (fun _ _ _ h => h) (Or.inl ⟨by kernel_rfl, fun _ _ => by kernel_rfl⟩) hS ?_
        simp only [List.setIfInBounds_toArray, List.set_cons_zero, List.set_cons_succ]
        refine wpAnyH_put (i := 3) (d := 143) (v := .int .i64 (c')) rfl (by kernel_rfl) (by kernel_rfl) (by kernel_rfl) (by kernel_rfl) (fun _ _ _ h => h) (Or.inl ⟨by kernel_rfl, fun W hS => by obtain ⟨⟨h1, h2, h5⟩, _⟩ := hS; go_simp⟩) hS ?_
        simp only [List.setIfInBounds_toArray, List.set_cons_zero, List.set_cons_succ]
        refine wpAnyH_put (i := 5) (d := 145) (v := .pointer (some ⟨G, 1, none⟩)) rfl (by kernel_rfl) (by kernel_rfl) (by kernel_rfl) (by kernel_rfl) (fun _ _ _ h => h) (Or.inl ⟨by kernel_rfl, fun _ _ => by kernel_rfl⟩) hS ?_
        simp only [List.setIfInBounds_toArray, List.set_cons_zero, List.set_cons_succ]
        refine wpAnyH_put (i := 6) (d := 146) (v := .int .i64 (c')) rfl (by kernel_rfl) (by kernel_rfl) (by kernel_rfl) (by kernel_rfl) (fun _ _ _ h => h) (Or.inl ⟨by kernel_rfl, fun W hS => by obtain ⟨⟨h1, h2, h5⟩, _⟩ := hS; go_simp⟩) hS ?_
        simp only [List.setIfInBounds_toArray, List.set_cons_zero, List.set_cons_succ]
        refine wpAnyH_put (i := 9) (d := 149) (v := .pointer (some ⟨G, 5, none⟩)) rfl (by kernel_rfl) (by kernel_rfl) (by kernel_rfl) (by kernel_rfl) (fun _ _ _ h => h) (Or.inl ⟨by kernel_rfl, fun _ _ => by kernel_rfl⟩) hS ?_
        simp only [List.setIfInBounds_toArray, List.set_cons_zero, List.set_cons_succ]
        refine wpAnyH_put (i := 10) (d := 150) (v := .int .i64 (o')) rfl (by kernel_rfl) (by kernel_rfl) (by kernel_rfl) (by kernel_rfl) (fun _ _ _ h => h) (Or.inl ⟨by kernel_rfl, fun W hS => by obtain ⟨⟨h1, h2, h5⟩, _⟩ := hS; go_simp⟩) hS ?_
        simp only [List.setIfInBounds_toArray, List.set_cons_zero, List.set_cons_succ]
        refine wpAnyH_one (r := 4) (by kernel_rfl) ?_
        refine wpOp_do rfl (by kernel_rfl) (fun K' hK => ?_)
        go_simp
        refine (SS1.out G _ _ hS.2).mono ?_
        rintro e W104 ⟨rfl, hb4⟩
        refine hK.out _ _ ⟨SS.out _ hb4, ?_⟩
        clear hK K' hS
        have hS := SS.out _ hb4
        refine wpAnyH_one (r := 7) (by kernel_rfl) ?_
        refine wpOp_do rfl (by kernel_rfl) (fun K' hK => ?_)
        go_simp
        refine (SZ1.out G _ _ hS.2).mono ?_
        rintro e W107 ⟨rfl, hb7⟩
        refine hK.out _ _ ⟨SS.out _ hb7, ?_⟩
        clear hK K' hS
        have hS := SS.out _ hb7
        refine wpAnyH_put (i := 8) (d := 148) (v := .int .i64 (N)) rfl (by kernel_rfl) (by kernel_rfl) (by kernel_rfl) (by kernel_rfl) (fun _ _ _ h => h) (Or.inl ⟨by kernel_rfl, fun W _ => by first | (go_simp; done) | (go_simp; omega)⟩) hS ?_
        simp only [List.setIfInBounds_toArray, List.set_cons_zero, List.set_cons_succ]
        refine wpAnyH_put (i := 11) (d := 151) (v := .int .i64 (N + o')) rfl (by kernel_rfl) (by kernel_rfl) (by kernel_rfl) (by kernel_rfl) (fun _ _ _ h => h) (Or.inl ⟨by kernel_rfl, fun W _ => by first | (go_simp; done) | (go_simp; omega)⟩) hS ?_
        simp only [List.setIfInBounds_toArray, List.set_cons_zero, List.set_cons_succ]
        refine wpAnyH_put (i := 12) (d := 152) (v := .int .u64 (N + o')) rfl (by kernel_rfl) (by kernel_rfl) (by kernel_rfl) (by kernel_rfl) (fun _ _ _ h => h) (Or.inl ⟨by kernel_rfl, fun W _ => by first | (go_simp; done) | (go_simp; omega)⟩) hS ?_
        simp only [List.setIfInBounds_toArray, List.set_cons_zero, List.set_cons_succ]
        refine wpAnyH_put (i := 13) (d := 153) (v := .int .u64 (X + (N + o'))) rfl (by kernel_rfl) (by kernel_rfl) (by kernel_rfl) (by kernel_rfl) (fun _ _ _ h => h) (Or.inl ⟨by kernel_rfl, fun W _ => by first | (go_simp; done) | (go_simp; omega)⟩) hS ?_
        simp only [List.setIfInBounds_toArray, List.set_cons_zero, List.set_cons_succ]
        refine wpAnyH_put (i := 14) (d := 154) (v := .bool true) rfl (by kernel_rfl) (by kernel_rfl) (by kernel_rfl) (by kernel_rfl) (fun _ _ _ h => h) (Or.inl ⟨by kernel_rfl, fun W _ => by first | (go_simp; done) | (go_simp; omega)⟩) hS ?_
        simp only [List.setIfInBounds_toArray, List.set_cons_zero, List.set_cons_succ]
        refine wpAnyH_put (i := 15) (d := 155) (v := .bool true) rfl (by kernel_rfl) (by kernel_rfl) (by kernel_rfl) (by kernel_rfl) (fun _ _ _ h => h) (Or.inl ⟨by kernel_rfl, fun _ _ => by kernel_rfl⟩) hS ?_
        simp only [List.setIfInBounds_toArray, List.set_cons_zero, List.set_cons_succ]
        refine wpAnyH_put (i := 16) (d := 156) (v := .int .i64 (q)) rfl (by kernel_rfl) (by kernel_rfl) (by kernel_rfl) (by kernel_rfl) (fun _ _ _ h => h) (Or.inl ⟨by kernel_rfl, fun _ _ => by kernel_rfl⟩) hS ?_
        simp only [List.setIfInBounds_toArray, List.set_cons_zero, List.set_cons_succ]
        refine wpAnyH_put (i := 17) (d := 157) (v := .pointer (some ⟨G, 1, none⟩)) rfl (by kernel_rfl) (by kernel_rfl) (by kernel_rfl) (by kernel_rfl) (fun _ _ _ h => h) (Or.inl ⟨by kernel_rfl, fun _ _ => by kernel_rfl⟩) hS ?_
        simp only [List.setIfInBounds_toArray, List.set_cons_zero, List.set_cons_succ]
        refine wpAnyH_put (i := 18) (d := 158) (v := .int .i64 (c')) rfl (by kernel_rfl) (by kernel_rfl) (by kernel_rfl) (by kernel_rfl) (fun _ _ _ h => h) (Or.inl ⟨by kernel_rfl, fun W hS => by obtain ⟨⟨h1, h2, h5⟩, _⟩ := hS; go_simp⟩) hS ?_
        simp only [List.setIfInBounds_toArray, List.set_cons_zero, List.set_cons_succ]
        refine wpAnyH_put (i := 20) (d := 160) (v := .pointer (some ⟨G, 2, none⟩)) rfl (by kernel_rfl) (by kernel_rfl) (by kernel_rfl) (by kernel_rfl) (fun _ _ _ h => h) (Or.inl ⟨by kernel_rfl, fun _ _ => by kernel_rfl⟩) hS ?_
        simp only [List.setIfInBounds_toArray, List.set_cons_zero, List.set_cons_succ]
        refine wpAnyH_put (i := 21) (d := 161) (v := .int .i64 (s')) rfl (by kernel_rfl) (by kernel_rfl) (by kernel_rfl) (by kernel_rfl) (fun _ _ _ h => h) (Or.inl ⟨by kernel_rfl, fun W hS => by obtain ⟨⟨h1, h2, h5⟩, _⟩ := hS; go_simp⟩) hS ?_
        simp only [List.setIfInBounds_toArray, List.set_cons_zero, List.set_cons_succ]
        refine wpAnyH_put (i := 22) (d := 162) (v := .int .i64 (s' + 1)) rfl (by kernel_rfl) (by kernel_rfl) (by kernel_rfl) (by kernel_rfl) (fun _ _ _ h => h) (Or.inl ⟨by kernel_rfl, fun W _ => by first | (go_simp; done) | (go_simp; omega)⟩) hS ?_
        simp only [List.setIfInBounds_toArray, List.set_cons_zero, List.set_cons_succ]
        refine wpAnyH_put (i := 23) (d := 163) (v := .pointer (some ⟨G, 1, none⟩)) rfl (by kernel_rfl) (by kernel_rfl) (by kernel_rfl) (by kernel_rfl) (fun _ _ _ h => h) (Or.inl ⟨by kernel_rfl, fun _ _ => by kernel_rfl⟩) hS ?_
        simp only [List.setIfInBounds_toArray, List.set_cons_zero, List.set_cons_succ]
        refine wpAnyH_put (i := 24) (d := 164) (v := .int .i64 (c')) rfl (by kernel_rfl) (by kernel_rfl) (by kernel_rfl) (by kernel_rfl) (fun _ _ _ h => h) (Or.inl ⟨by kernel_rfl, fun W hS => by obtain ⟨⟨h1, h2, h5⟩, _⟩ := hS; go_simp⟩) hS ?_
        simp only [List.setIfInBounds_toArray, List.set_cons_zero, List.set_cons_succ]
        refine wpAnyH_one (r := 19) (by kernel_rfl) ?_
        refine wpOp_do rfl (by kernel_rfl) (fun K' hK => ?_)
        go_simp
        refine (RS1.out G _ _ hS.2).mono ?_
        rintro e W119 ⟨rfl, hb19⟩
        refine hK.out _ _ ⟨SS.out _ hb19, ?_⟩
        clear hK K' hS
        have hS := SS.out _ hb19
        refine wpAnyH_one (r := 25) (by kernel_rfl) ?_
        refine wpOp_do rfl (by kernel_rfl) (fun K' hK => ?_)
        go_simp
        refine (SP1.out G _ _ hS.2).mono ?_
        rintro e W125 ⟨rfl, hb25⟩
        refine hK.out _ _ ⟨SS.out _ hb25, ?_⟩
        clear hK K' hS
        have hS := SS.out _ hb25
        refine wpAnyH_put (i := 26) (d := 166) (v := .int .i64 (pp + 1)) rfl (by kernel_rfl) (by kernel_rfl) (by kernel_rfl) (by kernel_rfl) (fun _ _ _ h => h) (Or.inl ⟨by kernel_rfl, fun W _ => by first | (go_simp; done) | (go_simp; omega)⟩) hS ?_
        simp only [List.setIfInBounds_toArray, List.set_cons_zero, List.set_cons_succ]
        refine wpAnyH_put (i := 27) (d := 167) (v := .int .i64 (M)) rfl (by kernel_rfl) (by kernel_rfl) (by kernel_rfl) (by kernel_rfl) (fun _ _ _ h => h) (Or.inl ⟨by kernel_rfl, fun W _ => by first | (go_simp; done) | (go_simp; omega)⟩) hS ?_
        simp only [List.setIfInBounds_toArray, List.set_cons_zero, List.set_cons_succ]
        refine wpAnyH_put (i := 28) (d := 168) (v := .int .i64 (rr + M)) rfl (by kernel_rfl) (by kernel_rfl) (by kernel_rfl) (by kernel_rfl) (fun _ _ _ h => h) (Or.inl ⟨by kernel_rfl, fun W _ => by first | (go_simp; done) | (go_simp; omega)⟩) hS ?_
        simp only [List.setIfInBounds_toArray, List.set_cons_zero, List.set_cons_succ]
        refine wpAnyH_put (i := 29) (d := 169) (v := .int .i64 (rr + M - 1)) rfl (by kernel_rfl) (by kernel_rfl) (by kernel_rfl) (by kernel_rfl) (fun _ _ _ h => h) (Or.inl ⟨by kernel_rfl, fun W _ => by first | (go_simp; done) | (go_simp; omega)⟩) hS ?_
        simp only [List.setIfInBounds_toArray, List.set_cons_zero, List.set_cons_succ]
        refine wpAnyH_put (i := 30) (d := 170) (v := .bool true) rfl (by kernel_rfl) (by kernel_rfl) (by kernel_rfl) (by kernel_rfl) (fun _ _ _ h => h) (Or.inl ⟨by kernel_rfl, fun W _ => by first | (go_simp; done) | (go_simp; omega)⟩) hS ?_
        simp only [List.setIfInBounds_toArray, List.set_cons_zero, List.set_cons_succ]
        refine wpAnyH_put (i := 31) (d := 171) (v := .bool true) rfl (by kernel_rfl) (by kernel_rfl) (by kernel_rfl) (by kernel_rfl) (fun _ _ _ h => h) (Or.inl ⟨by kernel_rfl, fun _ _ => by kernel_rfl⟩) hS ?_
        simp only [List.setIfInBounds_toArray, List.set_cons_zero, List.set_cons_succ]
        refine wpAnyH_put (i := 32) (d := 2) (v := .bool true) rfl (by kernel_rfl) (by kernel_rfl) (by kernel_rfl) (by kernel_rfl) (fun _ _ _ h => h) (Or.inl ⟨by kernel_rfl, fun _ _ => by kernel_rfl⟩) hS ?_
        simp only [List.setIfInBounds_toArray, List.set_cons_zero, List.set_cons_succ]
        refine wpAnyH_done (by kernel_rfl) ?_ _
        go_wp2
        go_ret
        exact ⟨rfl, hS.2.out.bel⟩
      | slot c' s' t' o' hs' h0 h1 ho h =>
        have hc' : 0 ≤ c' ∧ c' < 12 := ⟨hs'.c0, hs'.c1⟩
        have hz' := sz_in hc'
        have hX := hs'.dec (o := 0) (by omega) (by omega)
        have P0 := hid (Bx.first BB.out TB.out #[.int .i64 3, .int .i64 c', .int .i64 s', .int .i64 t', .int .i64 0, .int .i64 o'])
        have IY := hid (fun W (hW : Bx w wB.heap.size #[.int .i64 3, .int .i64 c', .int .i64 s', .int .i64 t', .int .i64 0, .int .i64 o'] W) => im_SlotAddr_yes c' s' t' hs' W hW.tb)
        have SZ1 := hid (fun G cs W hW => SZx.out G cs c' W hW)
        clear TB BB LSx RSx SPx SSx SZx
        have hX2 : 1024 ≤ (rs c' + s' * (pg c' + 1)) * 1024 + t' * sz c' ∧ (rs c' + s' * (pg c' + 1)) * 1024 + t' * sz c' < 191488 := ⟨hX.2.1, by have := hX.2.2; omega⟩
        generalize (rs c' + s' * (pg c' + 1)) * 1024 + t' * sz c' = X at h hX2 IY
        have te : (y == X + o') = true := by simp; omega
        clear hX h
        generalize sz c' = zz at *
        have tl : o' < zz := ho.2
        have m1 : IntKind.u64.wrap (o') = o' := by rw [IntKind.wrap_u64]; omega
        have m2 : IntKind.u64.wrap (X + o') = X + o' := by rw [IntKind.wrap_u64]; omega
        unfold pl
        go_wp2_with fail
        refine (IY.out _ P0.out).mono ?_
        rintro e wC ⟨rfl, bC⟩
        have P1 := hid (P0.out.below bC)
        clear bC P0 IY
        generalize wB.heap.size = G at P1 ⊢
        go_wp2
        have PD := hid P1.out.drew
        have SS : Hid (∀ W', Bx w G #[.int .i64 3, .int .i64 c', .int .i64 s', .int .i64 t', .int .i64 0, .int .i64 o'] W' → (W'.cell? ⟨G, 1, none⟩ = some (.int .i64 (c')) ∧ W'.cell? ⟨G, 5, none⟩ = some (.int .i64 (o'))) ∧ Hid (Bx w G #[.int .i64 3, .int .i64 c', .int .i64 s', .int .i64 t', .int .i64 0, .int .i64 o'] W')) := fun W' h => ⟨⟨h.cell 1, h.cell 5⟩, h⟩
        refine wp_region_held (S := fun W' => (W'.cell? ⟨G, 1, none⟩ = some (.int .i64 (c')) ∧ W'.cell? ⟨G, 5, none⟩ = some (.int .i64 (o'))) ∧ Hid (Bx w G #[.int .i64 3, .int .i64 c', .int .i64 s', .int .i64 t', .int .i64 0, .int .i64 o'] W')) (by kernel_rfl) ?_
        simp only [List.size_toArray, List.length_cons, List.length_nil, Nat.reduceAdd, Array.replicate_succ, Array.replicate_zero, List.push_toArray, List.nil_append, List.cons_append]
        have hS := SS.out _ PD.out
        refine wpAnyH_put (i := 0) (d := 182) (v := .bool true) rfl (by kernel_rfl) (by kernel_rfl) (by kernel_rfl) (by kernel_rfl) (fun _ _ _ h => h) (Or.inl ⟨by kernel_rfl, fun _ _ => by kernel_rfl⟩) hS ?_
        simp only [List.setIfInBounds_toArray, List.set_cons_zero, List.set_cons_succ]
        refine wpAnyH_put (i := 1) (d := 183) (v := .bool true) rfl (by kernel_rfl) (by kernel_rfl) (by kernel_rfl) (by kernel_rfl) (fun _ _ _ h => h) (Or.inl ⟨by kernel_rfl, fun _ _ => by kernel_rfl⟩) hS ?_
        simp only [List.setIfInBounds_toArray, List.set_cons_zero, List.set_cons_succ]
        refine wpAnyH_put (i := 2) (d := 184) (v := .pointer (some ⟨G, 5, none⟩)) rfl (by kernel_rfl) (by kernel_rfl) (by kernel_rfl) (by kernel_rfl) (fun _ _ _ h => h) (Or.inl ⟨by kernel_rfl, fun _ _ => by kernel_rfl⟩) hS ?_
        simp only [List.setIfInBounds_toArray, List.set_cons_zero, List.set_cons_succ]
        refine wpAnyH_put (i := 3) (d := 185) (v := .int .i64 (o')) rfl (by kernel_rfl) (by kernel_rfl) (by kernel_rfl) (by kernel_rfl) (fun _ _ _ h => h) (Or.inl ⟨by kernel_rfl, fun W hS => by obtain ⟨⟨h1, h5⟩, _⟩ := hS; go_simp⟩) hS ?_
        simp only [List.setIfInBounds_toArray, List.set_cons_zero, List.set_cons_succ]
        refine wpAnyH_put (i := 4) (d := 186) (v := .pointer (some ⟨G, 1, none⟩)) rfl (by kernel_rfl) (by kernel_rfl) (by kernel_rfl) (by kernel_rfl) (fun _ _ _ h => h) (Or.inl ⟨by kernel_rfl, fun _ _ => by kernel_rfl⟩) hS ?_
        simp only [List.setIfInBounds_toArray, List.set_cons_zero, List.set_cons_succ]
        refine wpAnyH_put (i := 5) (d := 187) (v := .int .i64 (c')) rfl (by kernel_rfl) (by kernel_rfl) (by kernel_rfl) (by kernel_rfl) (fun _ _ _ h => h) (Or.inl ⟨by kernel_rfl, fun W hS => by obtain ⟨⟨h1, h5⟩, _⟩ := hS; go_simp⟩) hS ?_
        simp only [List.setIfInBounds_toArray, List.set_cons_zero, List.set_cons_succ]
        refine wpAnyH_one (r := 6) (by kernel_rfl) ?_
        refine wpOp_do rfl (by kernel_rfl) (fun K' hK => ?_)
        go_simp
        refine (SZ1.out G _ _ hS.2).mono ?_
        rintro e W106 ⟨rfl, hb6⟩
        refine hK.out _ _ ⟨SS.out _ hb6, ?_⟩
        clear hK K' hS
        have hS := SS.out _ hb6
        refine wpAnyH_put (i := 7) (d := 189) (v := .bool true) rfl (by kernel_rfl) (by kernel_rfl) (by kernel_rfl) (by kernel_rfl) (fun _ _ _ h => h) (Or.inl ⟨by kernel_rfl, fun W _ => by first | (go_simp; done) | (go_simp; omega)⟩) hS ?_
        simp only [List.setIfInBounds_toArray, List.set_cons_zero, List.set_cons_succ]
        refine wpAnyH_put (i := 8) (d := 190) (v := .bool true) rfl (by kernel_rfl) (by kernel_rfl) (by kernel_rfl) (by kernel_rfl) (fun _ _ _ h => h) (Or.inl ⟨by kernel_rfl, fun _ _ => by kernel_rfl⟩) hS ?_
        simp only [List.setIfInBounds_toArray, List.set_cons_zero, List.set_cons_succ]
        refine wpAnyH_put (i := 9) (d := 191) (v := .bool true) rfl (by kernel_rfl) (by kernel_rfl) (by kernel_rfl) (by kernel_rfl) (fun _ _ _ h => h) (Or.inl ⟨by kernel_rfl, fun _ _ => by kernel_rfl⟩) hS ?_
        simp only [List.setIfInBounds_toArray, List.set_cons_zero, List.set_cons_succ]
        refine wpAnyH_put (i := 10) (d := 192) (v := .int .u64 (y)) rfl (by kernel_rfl) (by kernel_rfl) (by kernel_rfl) (by kernel_rfl) (fun _ _ _ h => h) (Or.inl ⟨by kernel_rfl, fun _ _ => by kernel_rfl⟩) hS ?_
        simp only [List.setIfInBounds_toArray, List.set_cons_zero, List.set_cons_succ]
        refine wpAnyH_put (i := 11) (d := 193) (v := .int .u64 (X)) rfl (by kernel_rfl) (by kernel_rfl) (by kernel_rfl) (by kernel_rfl) (fun _ _ _ h => h) (Or.inl ⟨by kernel_rfl, fun _ _ => by kernel_rfl⟩) hS ?_
        simp only [List.setIfInBounds_toArray, List.set_cons_zero, List.set_cons_succ]
        refine wpAnyH_put (i := 12) (d := 194) (v := .pointer (some ⟨G, 5, none⟩)) rfl (by kernel_rfl) (by kernel_rfl) (by kernel_rfl) (by kernel_rfl) (fun _ _ _ h => h) (Or.inl ⟨by kernel_rfl, fun _ _ => by kernel_rfl⟩) hS ?_
        simp only [List.setIfInBounds_toArray, List.set_cons_zero, List.set_cons_succ]
        refine wpAnyH_put (i := 13) (d := 195) (v := .int .i64 (o')) rfl (by kernel_rfl) (by kernel_rfl) (by kernel_rfl) (by kernel_rfl) (fun _ _ _ h => h) (Or.inl ⟨by kernel_rfl, fun W hS => by obtain ⟨⟨h1, h5⟩, _⟩ := hS; go_simp⟩) hS ?_
        simp only [List.setIfInBounds_toArray, List.set_cons_zero, List.set_cons_succ]
        refine wpAnyH_put (i := 14) (d := 196) (v := .int .u64 (o')) rfl (by kernel_rfl) (by kernel_rfl) (by kernel_rfl) (by kernel_rfl) (fun _ _ _ h => h) (Or.inl ⟨by kernel_rfl, fun W _ => by first | (go_simp; done) | (go_simp; omega)⟩) hS ?_
        simp only [List.setIfInBounds_toArray, List.set_cons_zero, List.set_cons_succ]
        refine wpAnyH_put (i := 15) (d := 197) (v := .int .u64 (X + o')) rfl (by kernel_rfl) (by kernel_rfl) (by kernel_rfl) (by kernel_rfl) (fun _ _ _ h => h) (Or.inl ⟨by kernel_rfl, fun W _ => by first | (go_simp; done) | (go_simp; omega)⟩) hS ?_
        simp only [List.setIfInBounds_toArray, List.set_cons_zero, List.set_cons_succ]
        refine wpAnyH_put (i := 16) (d := 198) (v := .bool true) rfl (by kernel_rfl) (by kernel_rfl) (by kernel_rfl) (by kernel_rfl) (fun _ _ _ h => h) (Or.inl ⟨by kernel_rfl, fun W _ => by first | (go_simp; done) | (go_simp; omega)⟩) hS ?_
        simp only [List.setIfInBounds_toArray, List.set_cons_zero, List.set_cons_succ]
        refine wpAnyH_put (i := 17) (d := 199) (v := .bool true) rfl (by kernel_rfl) (by kernel_rfl) (by kernel_rfl) (by kernel_rfl) (fun _ _ _ h => h) (Or.inl ⟨by kernel_rfl, fun _ _ => by kernel_rfl⟩) hS ?_
        simp only [List.setIfInBounds_toArray, List.set_cons_zero, List.set_cons_succ]
        refine wpAnyH_put (i := 18) (d := 2) (v := .bool true) rfl (by kernel_rfl) (by kernel_rfl) (by kernel_rfl) (by kernel_rfl) (fun _ _ _ h => h) (Or.inl ⟨by kernel_rfl, fun _ _ => by kernel_rfl⟩) hS ?_
        simp only [List.setIfInBounds_toArray, List.set_cons_zero, List.set_cons_succ]
        refine wpAnyH_done (by kernel_rfl) ?_ _
        go_wp2
        go_ret
        exact ⟨rfl, hS.2.out.bel⟩
end Go.Proofs.YtonnkllaiipjoaaDoor
