import Derived.Test.YthcimbocchoehaaPutM

namespace Go.Proofs.Ythcimbocchoehaa
open Go.ChangeShapes Go.WideShapes Go.ChangeAt Go.RowKit
set_option linter.unusedVariables false

set_option maxHeartbeats 400000 in
theorem clone_any (g len cap : Nat) (zs : List Int) (w : World) (hl : zs.length = len) (hlen : len ≤ 64) (hr : RowV w g 45 (U zs)) :
    Calls Try.prog 36 #[.slice (some ⟨g, 0, none⟩) len cap] w fun e w' => ∃ g' c', e = .returned (.slice (some ⟨g', 0, none⟩) len c') ∧ w.heap.size ≤ g' ∧ RowV w' g' 45 (U zs) ∧ Below w.heap.size w w' := by
  obtain ⟨i0, hi, hz0, hz1, hz2⟩ := info_parts Try.info45
  have hnil := fun (w : World) (a : Option Addr) (n c n' c' : Nat) => Lib.run_eql_slice_nil (P := Try.prog) w _ _ a n c n' c' Try.underlying23
  have HR := hid hr
  have HL := hid hl
  clear hr hl
  go_enter Try.func36, Try.ntmps36
  go_wp2_with (at_builtin; refine wpList_append_own _ rfl _ _ 23 rfl w.heap.size 45 i0 (.int .u64 0) 1 8 Try.underlying23 hi hz0 hz1 hz2 rfl (by decide) _ 0 [] rfl ?ao ⟨g, 0, none⟩ len cap (U zs) rfl ?al ?c1 ?c2 ?c3 ?c4 ?c5 ?_)
  case ao => exact World.ownsRow_lit w #[] 0 (Nat.le_refl _) (by decide) rfl
  case al => rw [U_len, HL.out, Nat.mul_one]
  case c1 =>
    intro j u hj
    have hr2 := row_alloc HR.out (.cells #[] 45)
    have hlt : j < (U zs).length := (List.getElem?_eq_some_iff.1 hj).1
    have := hr2.cell j hlt
    rw [hj] at this
    by_cases e : j = 0
    · subst e; simpa [Addr.add] using this
    · simpa [Addr.add, e] using this
  case c2 =>
    intro u hu
    simp only [U, List.mem_map] at hu
    obtain ⟨z, _, rfl⟩ := hu
    rfl
  case c3 => unfold maxLen; omega
  case c4 => omega
  case c5 => simp
  intro v' w1 hown hgrow hn
  have hv : ∃ g' c', v' = .slice (some ⟨g', 0, none⟩) len c' ∧ w.heap.size ≤ g' ∧ RowV w1 g' 45 (U zs) := by
    have hown' := hown
    rcases hown.2 with ⟨h1, _⟩ | ⟨g', c', cur, h1, h2, _⟩
    · exact absurd h1 hn
    · subst h1
      exact ⟨g', c', rfl, h2, RowV.ofOwns hown'⟩
  have hB : Below w.heap.size w w1 := ((Below.refl _ w).alloc (Nat.le_refl _) (.cells #[] 45)).grown hgrow (by simp) (by simp [Value.ownBlock])
  obtain ⟨g', c', hv1, hg', hr'⟩ := hv
  rw [hv1]
  have H0 := hid (And.intro hg' (And.intro hr' hB))
  clear hown hgrow hn hg' hr' hB hv1
  go_wp2
  go_ret
  exact ⟨g', c', rfl, H0.out⟩

set_option maxHeartbeats 400000 in
theorem words_any (g len : Nat) (q : List Bool) (w : World) (hq : q.length = len) (hlen : len ≤ 4096) (hr : RowV w g 4 (Bo q)) :
    Calls Try.prog 30 #[.slice (some ⟨g, 0, none⟩) len len] w fun e w' => ∃ ys, WordsTo q ys len ∧ e = .returned (.slice (some ⟨w.heap.size, 0, none⟩) ((len + 63) / 64) ((len + 63) / 64)) ∧ RowV w' w.heap.size 45 (U ys) ∧ Below w.heap.size w w' := by
  obtain ⟨i0, hi, hz0, hz1, hz2⟩ := info_parts Try.info45
  have HR := hid hr
  have HQ := hid hq
  clear hr hq
  go_enter Try.func30, Try.ntmps30
  go_wp2_with (at_make; refine wpList_make_full _ rfl _ _ 23 rfl w.heap.size 45 i0 (.int .u64 0) 1 Try.underlying23 hi hz0 hz1 .i64 .i64 _ _ ((len + 63) / 64) rfl rfl (by omega) (by omega) ?c1 ?c2 ?c3 ?_)
  case c1 => rw [hz2]; omega
  case c2 => unfold maxLen; omega
  case c3 => exact Nat.le_refl _
  intro w1 hown hgrow
  have hR : RowV w1 w.heap.size 45 (U (List.replicate ((len + 63) / 64) 0)) := by
    have := RowV.ofOwns hown
    simpa [U, toList_madeCells_one, Value.cells] using this
  have hB : Below w.heap.size w w1 := (Below.refl _ w).grown hgrow (Nat.le_refl _) (by simp)
  have H0 := hid (And.intro hR hB)
  clear hown hgrow hR hB
  go_wp2
  go_loopw [4, 5, 13] (fun _ _ i wr => ∃ (k : Nat) (ys : List Int), k ≤ len ∧ i = .int .i64 k ∧ Hid (WordsTo q ys k) ∧ Hid (RowV wr w.heap.size 45 (U ys)) ∧ Hid (Below w.heap.size w wr)) (fun _ _ i _ => len - (intOf i).toNat)
  case atStart => exact ⟨0, _, Nat.zero_le _, rfl, HQ.out ▸ wordsTo_zero q, H0.out.1, H0.out.2⟩
  case round =>
    obtain ⟨k, ys, hk, rfl, hwt, hrow, hb⟩ := hrel
    by_cases hlt : k < len
    · have hc := cell_b (HR.out.below hb.out HR.out.lt) k (by rw [HQ.out]; exact hlt)
      cases hq : q[k]?.getD false
      · rw [hq] at hc
        have HN := hid (wordsTo_off q ys k hwt.out (by rw [HQ.out]; exact hlt) hq)
        clear hq
        go_wp2
        go_roundw
        case rel => exact ⟨k + 1, ys, by omega, by go_num, HN.out, hrow, hb⟩
        case measure => simp [intOf]; omega
      · rw [hq] at hc
        have HN := hid (wordsTo_on q ys k hwt.out (by rw [HQ.out]; exact hlt) hq)
        have hyl : ys.length = (len + 63) / 64 := by have := hwt.out.1; rw [HQ.out] at this; exact this
        have hcy := cell_u hrow.out (k / 64) (by omega)
        have hfy := hrow.out.free (k / 64)
        have R1 := hrow.out.set (k / 64) (by rw [U_len]; omega) (.int .u64 (wput (ys[k / 64]?.getD 0) (k % 64) true))
        rw [U_set] at R1
        have B1 := hb.out.setCell (p := ⟨w.heap.size, k / 64, none⟩) (Nat.le_refl _) (.int .u64 (wput (ys[k / 64]?.getD 0) (k % 64) true))
        have HP := hid (And.intro R1 B1)
        have HE := hid (show bits BinOp.or IntKind.u64 (ys[k / 64]?.getD 0) (IntKind.u64.wrap (2 ^ (k % 64))) = wput (ys[k / 64]?.getD 0) (k % 64) true from rfl)
        clear hq hyl R1 B1
        have hbit : bits BinOp.or IntKind.u64 (ys[k / 64]?.getD 0) (IntKind.u64.wrap (2 ^ (k % 64))) = wput (ys[k / 64]?.getD 0) (k % 64) true := HE.out
        have HN2 : Hid (WordsTo q (ys.set (k / 64) (wput (ys[k / 64]?.getD 0) (k % 64) true)) (k + 1)) := HN.out
        clear HN HE
        generalize wput (ys[k / 64]?.getD 0) (k % 64) true = z2 at *
        generalize ys[k / 64]?.getD 0 = z at *
        go_wp2
        go_roundw
        case rel => exact ⟨k + 1, _, by omega, by go_num, HN2, HP.out.1, HP.out.2⟩
        case measure => simp [intOf]; omega
    · have hkl : k = len := by omega
      subst hkl
      go_wp2
      go_ret
      exact ⟨ys, hwt.out, rfl, hrow.out, hb.out⟩

theorem RowV.other {w : World} {g : Nat} {e : TypeId} {xs : List Value} (h : RowV w g e xs) {p : Addr} (hp : g ≠ p.block) (v : Value) : RowV (w.setCell p v) g e xs := by
  obtain ⟨c, h1, h2⟩ := h
  exact ⟨c, by rw [Below.heap_setCell _ _ _ _ hp]; exact h1, h2⟩

theorem agg_ret {v u : Value} {n : Int} (h : v = u) : Ending.returned (.agg #[v, .int .i64 n]) = .returned (.agg #[u, .int .i64 n]) := by rw [h]

set_option maxHeartbeats 400000 in
theorem with_any (g len cap : Nat) (zs : List Int) (n : Int) (k : Nat) (on : Bool) (w : World) (hl : zs.length = len) (hlen : len ≤ 64) (hk : k < 64 * len) (hr : RowV w g 45 (U zs)) :
    Calls Try.prog 28 #[.agg #[.slice (some ⟨g, 0, none⟩) len cap, .int .i64 n], .int .i64 k, .bool on] w fun e w' =>
      ∃ g' c', e = .returned (.agg #[.slice (some ⟨g', 0, none⟩) len c', .int .i64 n]) ∧ w.heap.size ≤ g' ∧ RowV w' g' 45 (U (putZ zs k on)) ∧ Below w.heap.size w w' := by
  have HR := hid hr
  have HL := hid hl
  have HC := hid (fun w hr => clone_any g len cap zs w hl hlen hr)
  clear hr hl
  go_enter Try.func28, Try.ntmps28
  go_wp2_with fail
  refine (width_any _ _ _ _ _).mono ?_
  rintro e w' ⟨rfl, rfl⟩
  go_wp2_with fail
  have r1 := row_alloc (row_alloc (row_alloc HR.out (.cells #[.slice (some ⟨g, 0, none⟩) len cap, .int .i64 n] 43)) (.cells #[.slice none 0 0, .int .i64 0] 43)) (.cells #[.slice (some ⟨g, 0, none⟩) len cap, .int .i64 n] 43)
  refine (HC.out _ r1).mono ?_
  rintro e w1 ⟨g', c', rfl, hg', hr', hb⟩
  have hsz : w.heap.size + 3 ≤ w1.heap.size := by have := hb.size; simp at this; omega
  have hg3 : w.heap.size + 3 ≤ g' := by simp at hg'; omega
  have e1 : w1.cell? ⟨w.heap.size, 1, none⟩ = some (.int .i64 n) := by
    rw [hb.cell (p := ⟨w.heap.size, 1, none⟩) (by simp; omega)]
    rw [World.cell?_alloc_past _ _ _ (by simp; omega), World.cell?_alloc_past _ _ _ (by simp), World.cell?_alloc_at _ _ _ _ rfl]; rfl
  have e2 : w1.cell? ⟨w.heap.size + 1, 0, none⟩ = some (.slice none 0 0) := by
    rw [hb.cell (p := ⟨w.heap.size + 1, 0, none⟩) (by simp)]
    rw [World.cell?_alloc_past _ _ _ (by simp), World.cell?_alloc_at _ _ _ _ (by simp)]; rfl
  have e3 : w1.cell? ⟨w.heap.size + 1, 1, none⟩ = some (.int .i64 0) := by
    rw [hb.cell (p := ⟨w.heap.size + 1, 1, none⟩) (by simp)]
    rw [World.cell?_alloc_past _ _ _ (by simp), World.cell?_alloc_at _ _ _ _ (by simp)]; rfl
  have f2 : ∀ o, w1.frozen? ⟨w.heap.size + 1, o, none⟩ = false := fun o => by
    rw [hb.frozen (p := ⟨w.heap.size + 1, o, none⟩) (by simp)]
    rw [World.frozen?_alloc_past _ _ _ (by simp), World.frozen?_alloc_at _ _ _ _ (by simp)]
  have f20 := f2 0
  have f21 := f2 1
  have hcy := cell_u hr' (k / 64) (by have := HL.out; omega)
  have hfy := hr'.free (k / 64)
  have hB : Below w.heap.size w w1 := ((((Below.refl _ w).alloc (Nat.le_refl _) _).alloc (by simp) _).alloc (by simp; omega) _).trans (hb.mono (by simp; omega))
  have HP := hid (fun z => And.intro (hr'.set (k / 64) (by rw [U_len]; have := HL.out; omega) (.int .u64 z)) (hB.setCell (p := ⟨g', k / 64, none⟩) (by show w.heap.size ≤ g'; omega) (.int .u64 z)))
  clear f2 hb hr' hB hg' r1
  have hbit1 : bits BinOp.or IntKind.u64 (zs[k / 64]?.getD 0) (IntKind.u64.wrap (2 ^ (k % 64))) = wput (zs[k / 64]?.getD 0) (k % 64) true := rfl
  have hbit2 : bits BinOp.andNot IntKind.u64 (zs[k / 64]?.getD 0) (IntKind.u64.wrap (2 ^ (k % 64))) = wput (zs[k / 64]?.getD 0) (k % 64) false := rfl
  have hne1 : g' ≠ w.heap.size + 1 := by omega
  have hne2 : w.heap.size + 1 ≠ g' := by omega
  have hne3 : w.heap.size ≠ g' := by omega
  cases on
  · have HE : Hid (putZ zs k false = zs.set (k / 64) (wput (zs[k / 64]?.getD 0) (k % 64) false)) := (rfl : _ = _)
    generalize wput (zs[k / 64]?.getD 0) (k % 64) false = z2 at *
    generalize zs[k / 64]?.getD 0 = z at *
    clear hbit1
    go_wp2
    have P1 := HP.out z2
    rw [U_set, ← HE.out] at P1
    refine bodyPost_ret (v := .agg #[.slice (some ⟨g', 0, none⟩) len c', .int .i64 n]) (by simp [results, Try.results28, go_sem, e2, e3]) rfl ⟨g', c', rfl, by omega, (P1.1.other (p := ⟨w.heap.size + 1, 0, none⟩) hne1 _).other (p := ⟨w.heap.size + 1, 1, none⟩) hne1 _, (P1.2.setCell (p := ⟨w.heap.size + 1, 0, none⟩) (by show w.heap.size ≤ w.heap.size + 1; omega) _).setCell (p := ⟨w.heap.size + 1, 1, none⟩) (by show w.heap.size ≤ w.heap.size + 1; omega) _⟩
  · have HE : Hid (putZ zs k true = zs.set (k / 64) (wput (zs[k / 64]?.getD 0) (k % 64) true)) := (rfl : _ = _)
    generalize wput (zs[k / 64]?.getD 0) (k % 64) true = z2 at *
    generalize zs[k / 64]?.getD 0 = z at *
    clear hbit2
    go_wp2
    have P1 := HP.out z2
    rw [U_set, ← HE.out] at P1
    refine bodyPost_ret (v := .agg #[.slice (some ⟨g', 0, none⟩) len c', .int .i64 n]) (by simp [results, Try.results28, go_sem, e2, e3]) rfl ⟨g', c', rfl, by omega, (P1.1.other (p := ⟨w.heap.size + 1, 0, none⟩) hne1 _).other (p := ⟨w.heap.size + 1, 1, none⟩) hne1 _, (P1.2.setCell (p := ⟨w.heap.size + 1, 0, none⟩) (by show w.heap.size ≤ w.heap.size + 1; omega) _).setCell (p := ⟨w.heap.size + 1, 1, none⟩) (by show w.heap.size ≤ w.heap.size + 1; omega) _⟩

/-- BitsPut, as a function of the words: whether it answers, and what -/
def putOk (zs : List Int) (n i : Int) : Bool := goodB zs n && (decide (0 ≤ i) && decide (i < n))

/-- what both sides' BitsPut leave: the answer's words where there is one, in new memory -/
def PutPost (zs : List Int) (n i : Int) (on : Bool) (w : World) (e : Ending) (w' : World) : Prop :=
  (putOk zs n i = false ∧ e = .returned (.tuple #[.slice none 0 0, .bool false]) ∧ Below w.heap.size w w') ∨
  (putOk zs n i = true ∧ ∃ g c, e = .returned (.tuple #[.slice (some ⟨g, 0, none⟩) zs.length c, .bool true]) ∧ w.heap.size ≤ g ∧ RowV w' g 45 (U (putZ zs i.toNat on)) ∧ Below w.heap.size w w')

set_option maxHeartbeats 400000 in
theorem impl_put (g len cap : Nat) (zs : List Int) (n i : Int) (on : Bool) (w : World) (hl : zs.length = len) (hlen : len ≤ 1048576) (hw : Wf zs) (hr : RowV w g 45 (U zs)) :
    Calls Try.prog 10 #[.slice (some ⟨g, 0, none⟩) len cap, .int .i64 n, .int .i64 i, .bool on] w (PutPost zs n i on w) := by
  have HL := hid (fun w hr => good_any g len cap zs n w hl hlen hw hr)
  have HR := hid hr
  clear hr
  go_enter Try.func10, Try.ntmps10
  go_wp2_with fail
  refine (HL.out _ (row_alloc HR.out _)).mono ?_
  rintro e w1 ⟨rfl, hb1⟩
  obtain ⟨hc0, hc1, hsz, hb01, hr1⟩ := after_good HR.out hb1
  have HB := hid hb01
  have HR1 := hid hr1
  clear hb01 hb1 hr1
  cases hg : goodB zs n
  · have H0 := hid (show putOk zs n i = false by simp [putOk, hg])
    clear hg hl hw
    go_wp2
    go_ret2
    exact .inl ⟨H0.out, rfl, HB.out⟩
  · have hn := good_n zs n hg
    have HG := hid hg
    clear hg
    go_wp2_with fail
    refine (inside_any _ _ _ _ _ _).mono ?_
    rintro e w2 ⟨rfl, rfl⟩
    by_cases hin : 0 ≤ i ∧ i < n
    · obtain ⟨k, rfl⟩ := Int.eq_ofNat_of_zero_le hin.1
      obtain ⟨m, rfl⟩ := Int.eq_ofNat_of_zero_le hn.1
      have hd : (decide (0 ≤ (k : Int)) && decide ((k : Int) < (m : Int))) = true := by simp; omega
      rw [hd]
      simp only [Int.toNat_natCast] at hn
      have hgo := hid (fun w hr => with_any g len cap zs m k on w hl (by omega) (by omega) hr)
      have H1 := hid (show putOk zs m k = true by unfold putOk; rw [hd, HG.out]; rfl)
      have r2 := hid (row_alloc HR1.out (.cells #[.slice (some ⟨g, 0, none⟩) len cap, .int .i64 m] 43))
      have HZ := hid hl
      clear hd hin hn hl hw
      go_wp2_with fail
      refine (hgo.out _ r2.out).mono ?_
      rintro e w3 ⟨g', c', rfl, hg', hr', b3⟩
      have B3 := hid (And.intro hg' (And.intro hr' b3))
      clear hg' hr' b3
      have hfld : ∀ (a : Option Addr) (p q : Nat) (x : Int) w, (Instr.field 43 (.agg #[.slice a p q, .int .i64 x]) 0).run Try.prog w = .ok (.slice a p q) w := fun _ _ _ _ _ => by kernel_rfl
      go_wp2
      go_ret2
      refine .inr ⟨H1.out, g', c', by rw [HZ.out]; rfl, ?_, B3.out.2.1, bl_trans HB.out (bl_trans ((Below.refl _ _).alloc (Nat.le_refl _) _) B3.out.2.2)⟩
      have := B3.out.1
      simp at this
      omega
    · have hd : (decide (0 ≤ i) && decide (i < n)) = false := by
        rw [Bool.eq_false_iff]; simpa using hin
      rw [hd]
      have H1 := hid (show putOk zs n i = false by unfold putOk; rw [hd]; simp)
      clear hd hin hl hw hn
      go_wp2
      go_ret2
      exact .inl ⟨H1.out, rfl, bl_trans HB.out ((Below.refl _ _).alloc (Nat.le_refl _) _)⟩

set_option maxHeartbeats 400000 in
theorem spec_put (g len cap : Nat) (zs : List Int) (n i : Int) (on : Bool) (w : World) (hl : zs.length = len) (hw : Wf zs) (hr : RowV w g 45 (U zs)) :
    Calls Try.prog 11 #[.slice (some ⟨g, 0, none⟩) len cap, .int .i64 n, .int .i64 i, .bool on] w (PutPost zs n i on w) := by
  have HL := hid (fun w hr => list_any g len cap zs n w hl hw hr)
  go_enter Try.func11, Try.ntmps11
  go_wp2_with fail
  refine (HL.out _ hr).mono ?_
  rintro e w1 (⟨hg, rfl, hrow, hb⟩ | ⟨hg, rfl, hb⟩)
  · have hn := good_n zs n hg
    obtain ⟨m, rfl⟩ := Int.eq_ofNat_of_zero_le hn.1
    simp only [Int.toNat_natCast] at hrow hn ⊢
    have hm : m ≤ 4096 := by omega
    have HB := hid hb
    by_cases hin : 0 ≤ i ∧ i < (m : Int)
    · obtain ⟨k, rfl⟩ := Int.eq_ofNat_of_zero_le hin.1
      have hd : (decide (0 ≤ (k : Int)) && decide ((k : Int) < (m : Int))) = true := by simp; omega
      have H1 := hid (show putOk zs m k = true by unfold putOk; rw [hd, hg]; rfl)
      have hkm : k < m := by omega
      have hcy := cell_b hrow k (by rw [bitsOf_len]; exact hkm)
      have hfy := hrow.free k
      have R1 := hrow.set k (by rw [Bo_len, bitsOf_len]; exact hkm) (.bool on)
      rw [Bo_set] at R1
      have B1 := hb.setCell (p := ⟨w.heap.size, k, none⟩) (Nat.le_refl _) (.bool on)
      have HP := hid (And.intro R1 B1)
      have HW := hid (fun g w hr => words_any g m ((bitsOf zs m).set k on) w (by rw [List.length_set, bitsOf_len]) hm hr)
      have HF := hid (fun ys h => words_put zs hw m k on hm hn.2.2 hg hkm ys h)
      have HZ := hid hn.2.2
      generalize (bitsOf zs m)[k]?.getD false = y at hcy
      clear hg hl hw hr hn hrow hb hd hin R1 B1
      go_wp2_with fail
      refine (HW.out _ _ HP.out.1).mono ?_
      rintro e w2 ⟨ys, hy, rfl, hr2, hb2⟩
      have H2 := hid (And.intro (HF.out ys hy) (And.intro hr2 hb2))
      clear hy hr2 hb2
      go_wp2
      go_ret2
      obtain ⟨q1, q2, q3⟩ := H2.out
      have hs : (w1.setCell ⟨w.heap.size, k, none⟩ (.bool on)).heap.size = w1.heap.size := by simp [World.setCell]
      rw [hs] at q2
      refine .inr ⟨H1.out, w1.heap.size, (m + 63) / 64, by rw [HZ.out]; rfl, ?_, by rw [Int.toNat_natCast, ← q1]; exact q2, ?_⟩
      · have := HB.out.size; omega
      · exact bl_trans HP.out.2 q3
    · have hd : (decide (0 ≤ i) && decide (i < (m : Int))) = false := by
        rw [Bool.eq_false_iff]; simpa using hin
      have H0 := hid (show putOk zs m i = false by unfold putOk; rw [hd]; simp)
      clear hd hl hw hg hrow hb hn
      by_cases h0 : i < 0
      · clear hin
        go_wp2
        go_ret2
        exact .inl ⟨H0.out, rfl, HB.out⟩
      · have h1 : (m : Int) ≤ i := by omega
        have h2 : ¬ i < 0 := h0
        clear hin
        go_wp2
        go_ret2
        exact .inl ⟨H0.out, rfl, HB.out⟩
  · have H0 := hid (show putOk zs n i = false by simp [putOk, hg])
    have HB := hid hb
    clear hb hg hl hw hr
    go_wp2
    go_ret2
    exact .inl ⟨H0.out, rfl, HB.out⟩
end Go.Proofs.Ythcimbocchoehaa
