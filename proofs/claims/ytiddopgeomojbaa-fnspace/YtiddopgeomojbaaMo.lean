import Derived.Test.YtiddopgeomojbaaMn
namespace Go.Proofs.Ytiddopgeomojbaa
open Go.ChangeShapes Go.WideShapes Go.ChangeAt Go.RowKit Go.Shelf Go.Maps
set_option linter.unusedVariables false

theorem al4 {W : World} {g : Nat} {t : TypeId} {v0 v1 v2 v3 : Value} (h : W.heap[g]? = some (.cells #[v0, v1, v2, v3] t (0, 0))) : W.cell? ⟨g, 0, none⟩ = some v0 ∧ W.cell? ⟨g, 1, none⟩ = some v1 ∧ W.cell? ⟨g, 2, none⟩ = some v2 ∧ W.cell? ⟨g, 3, none⟩ = some v3 := by
  simp [World.cell?, h]

theorem As.at_ {w : World} {a : Option Addr} {n c : Nat} {rs : List (Int × List Int)} (h : As w (.slice a n c) rs) {k : Nat} {r : Int × List Int} (hr : rs[k]? = some r) : ∃ g u, a = some ⟨g, 0, none⟩ ∧ w.rangeAt g (k * 2) [.int .i64 r.1, u] ∧ Bs w u r.2 := by
  obtain ⟨a', c', e, h1⟩ := h
  simp at e
  obtain ⟨rfl, _, _⟩ := e
  exact h1 k r hr
theorem Lo.oi' {W : World} {d : Option Addr} {n cp : Nat} {ops : List Op9} (h : Lo W (.slice d n cp) ops) (h0 : 0 < ops.length) : ∃ G, d = some ⟨G, 0, none⟩ ∧ Oi W G ops := by
  obtain ⟨d', cap, G, e, hd, hO⟩ := h.oi
  simp at e
  obtain ⟨rfl, _, _⟩ := e
  exact ⟨G, hd h0, hO⟩
/-- the first loop under way: what was kept, and its answers -/
structure Kept (Wb : World) (nn : Nat) (bud : Int) (ops : List Op9) (k : Nat) (v8 v9 : Value) (l : List An) (W : World) : Prop where
  kept : W.ownsRow Wb.heap.size 34 6 v8 (okL nn bud ops k).1.length (flatO (okL nn bud ops k).1)
  ans : W.ownsRow Wb.heap.size 36 2 v9 l.length (flatA l)
  lm : l.map Prod.fst = (okL nn bud ops k).2
  dat : ∀ x ∈ l, Bs Wb x.2 x.1.2
  bel : Below Wb.heap.size Wb W

theorem Kept.up {Wb : World} {nn : Nat} {bud : Int} {ops : List Op9} {k : Nat} {v8 v9 : Value} {l : List An} {W W' : World} (h : Kept Wb nn bud ops k v8 v9 l W) (hb : Below W.heap.size W W') : Kept Wb nn bud ops k v8 v9 l W' :=
  ⟨own_up h.kept hb, own_up h.ans hb, h.lm, h.dat, bl_trans h.bel hb⟩

theorem Kept.no {Wb : World} {nn : Nat} {bud : Int} {ops : List Op9} {k : Nat} {v8 v9 : Value} {l : List An} {W : World} (h : Kept Wb nn bud ops k v8 v9 l W) (e : okL nn bud ops (k + 1) = okL nn bud ops k) : Kept Wb nn bud ops (k + 1) v8 v9 l W :=
  ⟨by rw [e]; exact h.kept, h.ans, by rw [e]; exact h.lm, h.dat, h.bel⟩

theorem own_grown {W W' : World} {B : Nat} {e e' : TypeId} {sz sz' : Nat} {v v' : Value} {n n' : Nat} {xs xs' : List Value} (h : W.ownsRow B e sz v n xs) (h' : W.ownsRow B e' sz' v' n' xs') (hne : e ≠ e') (hg : W.grownBy W' v'.ownBlock) : W'.ownsRow B e sz v n xs := by
  refine h.kept hg ?_
  by_cases e1 : v.ownBlock = none
  · exact .inl e1
  · refine .inr (fun e2 => ?_)
    obtain ⟨r, hr⟩ := Option.ne_none_iff_exists'.1 e1
    obtain ⟨c1, h1⟩ := own_type h hr
    obtain ⟨c2, h2⟩ := own_type h' (e2.symm.trans hr)
    rw [h1] at h2
    simp at h2
    exact hne h2.2
theorem Kept.one {Wb : World} {nn : Nat} {bud : Int} {ops : List Op9} {k : Nat} {v8 v9 v1 : Value} {l : List An} {W w9 : World} {o : Op9} {O : Obj} (h : Kept Wb nn bud ops k v8 v9 l W) (ho : w9.ownsRow Wb.heap.size 34 6 v1 ((okL nn bud ops k).1.length + 1) (flatO (okL nn bud ops k).1 ++ opC o)) (hg : (W.alloc O).grownBy w9 v8.ownBlock) :
    w9.ownsRow Wb.heap.size 34 6 v1 ((okL nn bud ops k).1.length + 1) (flatO (okL nn bud ops k).1 ++ opC o) ∧ w9.ownsRow Wb.heap.size 36 2 v9 l.length (flatA l) ∧ Below Wb.heap.size Wb w9 := by
  refine ⟨ho, own_grown (h.ans.alloc O) (h.kept.alloc O) (by decide) hg, ?_⟩
  have b8 := bl_trans h.bel ((Below.refl _ W).alloc (Nat.le_refl _) O)
  exact b8.grown hg b8.size (fun r e => ((h.kept.alloc O).lt r e).1)
theorem two_kept {Wb : World} {nn : Nat} {bud : Int} {ops : List Op9} {k : Nat} {v9 v1 v2 u : Value} {l : List An} {w9 w11 : World} {o : Op9} {O : Obj} {data : List Int} (h : w9.ownsRow Wb.heap.size 34 6 v1 ((okL nn bud ops k).1.length + 1) (flatO (okL nn bud ops k).1 ++ opC o) ∧ w9.ownsRow Wb.heap.size 36 2 v9 l.length (flatA l) ∧ Below Wb.heap.size Wb w9)
    (hm : l.map Prod.fst = (okL nn bud ops k).2) (hd : ∀ x ∈ l, Bs Wb x.2 x.1.2) (hu : Bs Wb u data) (ho : w11.ownsRow Wb.heap.size 36 2 v2 (l.length + 1) (flatA l ++ [.int .i64 0, u])) (hg : (w9.alloc O).grownBy w11 v9.ownBlock)
    (hy : okL nn bud ops (k + 1) = ((okL nn bud ops k).1 ++ [o], (okL nn bud ops k).2 ++ [(stepM nn bud (runM nn bud ops k).1 o.kd o.p o.c o.a o.n o.ys).2])) (hs : (stepM nn bud (runM nn bud ops k).1 o.kd o.p o.c o.a o.n o.ys).2 = (0, data)) : Kept Wb nn bud ops (k + 1) v1 v2 (l ++ [((0, data), u)]) w11 := by
  obtain ⟨h1, h2, h3⟩ := h
  have b8 := bl_trans h3 ((Below.refl _ w9).alloc (Nat.le_refl _) O)
  refine ⟨?_, by rw [List.length_append, flatA_snoc]; exact ho, ?_, fun x hx => ?_, b8.grown hg b8.size (fun r e => ((h2.alloc O).lt r e).1)⟩
  · rw [hy]
    dsimp only
    rw [List.length_append, flatO_snoc]
    exact own_grown (h1.alloc O) (h2.alloc O) (by decide) hg
  · rw [hy, hs]
    dsimp only
    rw [List.map_append, hm]
    rfl
  · rcases List.mem_append.1 hx with hx | hx
    · exact hd x hx
    · obtain rfl := List.mem_singleton.1 hx
      exact hu

theorem Dt9.far {W W' : World} {o : Op9} (h : Dt9 W o) (hb : Below W.heap.size W W') : Dt9 W' o := h.up hb
theorem Kept.lo {Wb : World} {nn : Nat} {bud : Int} {ops : List Op9} {k : Nat} {v v8 v9 : Value} {l : List An} {W : World} (h : Kept Wb nn bud ops k v8 v9 l W) (hl : Lo Wb v ops) : Lo W v8 (okL nn bud ops k).1 :=
  ⟨⟨_, h.kept⟩, fun o ho => (hl.dat o ((okL_len nn bud ops k).2.2 o ho)).up h.bel⟩
theorem as_row {W : World} {B : Nat} {l : List An} {v : Value} (h : W.ownsRow B 36 2 v l.length (flatA l)) (hr : ∀ x ∈ l, Bs W x.2 x.1.2) : As W v (l.map Prod.fst) := by
  rcases h.2 with ⟨e, h0⟩ | ⟨g, cap, cur, e, _, h1, h2, h3, h4, h5⟩
  · have : l = [] := List.eq_nil_of_length_eq_zero h0
    subst this e
    exact ⟨_, _, rfl, fun k r hk => by simp at hk⟩
  · refine ⟨_, cap, by rw [e, List.length_map], fun k r hk => ?_⟩
    rw [List.getElem?_map] at hk
    cases hx : l[k]? with
    | none => rw [hx] at hk; cases hk
    | some x =>
      rw [hx] at hk
      cases hk
      have hi := (List.getElem?_eq_some_iff.1 hx).1
      obtain ⟨f1, f2⟩ := flatA_at hx
      rw [← h5, List.getElem?_take_of_lt (by omega), Array.getElem?_toList] at f1 f2
      refine ⟨g, x.2, rfl, fun j v hj => ?_, hr x (List.mem_of_getElem? hx)⟩
      have hj2 := (List.getElem?_eq_some_iff.1 hj).1
      simp at hj2
      rcases (show j = 0 ∨ j = 1 by omega) with rfl | rfl
      · simp at hj; subst hj; simp [World.cell?, h1, f1]
      · simp at hj; subst hj; simp [World.cell?, h1, f2]
theorem Kept.as {Wb : World} {nn : Nat} {bud : Int} {ops : List Op9} {k : Nat} {v8 v9 : Value} {l : List An} {W : World} (h : Kept Wb nn bud ops k v8 v9 l W) : As W v9 (okL nn bud ops k).2 := by
  rw [← h.lm]
  exact as_row h.ans (fun x hx => (h.dat x hx).below h.bel)

theorem two_cells {W : World} {g : Nat} {t : TypeId} {v0 v1 : Value} (h : W.heap[g]? = some (.cells #[v0, v1] t (0, 0))) : W.cell? ⟨g, 0, none⟩ = some v0 ∧ W.cell? ⟨g, 1, none⟩ = some v1 := by
  simp [World.cell?, h]
theorem dN_below (V : World) (m : Nat) : Below V.heap.size V (V.drewN m) := ⟨rfl, rfl, rfl, Nat.le_refl _, fun _ _ => rfl⟩
theorem Bs.drewN {W V : World} {u : Value} {data : List Int} (h : Bs W u data) (hb : Below W.heap.size W V) (m : Nat) : Bs (V.drewN m) u data := h.below (bl_trans hb (dN_below V m))

theorem row_take {W : World} {g : Nat} {ds : List Int} (h : RowV W g 5 (Ns .u8 ds)) (n : Nat) : RowV W g 5 (Ns .u8 (ds.take n)) := by
  obtain ⟨c, h1, h2, h3⟩ := h
  refine ⟨c, h1, by simp [Ns] at h2 ⊢; omega, fun i hi => ?_⟩
  simp [Ns] at hi
  rw [h3 i (by simp [Ns]; omega)]
  have hin : i < n := by omega
  simp [Ns, hin]
theorem owns_three (w : World) : (w.alloc (.cells #[.int .u8 1, .int .u8 2, .int .u8 3] 5)).ownsRow w.heap.size 5 1 (.slice (some ⟨w.heap.size, 0, none⟩) 3 3) 3 (Ns .u8 [1, 2, 3]) :=
  ⟨rfl, .inr ⟨w.heap.size, 3, #[.int .u8 1, .int .u8 2, .int .u8 3], rfl, Nat.le_refl _, al_last _ _, Nat.le_refl _, by unfold maxLen; omega, rfl, rfl⟩⟩

set_option maxRecDepth 20000 in
set_option maxHeartbeats 2000000 in
theorem walkF (a : Option Addr) (len cap : Nat) (zs : List Int) (w : World) (h0 : IsRow .u8 w a len cap zs) :
    Calls Try.prog 3 #[.slice a len cap] w fun e w' => e = .returned (.bool true) ∧ Below w.heap.size w w' := by
  by_cases hlen : 1048576 < len
  · have hl' : ((1048576 : Int) < (len : Int)) := by omega
    go_enter Try.func3, Try.ntmps3
    go_wp2
    go_ret
    exact ⟨rfl, Below.refl _ _⟩
  have hlen' : len ≤ 1048576 := by omega
  have hl' : ¬ ((1048576 : Int) < (len : Int)) := by omega
  have D := hid (draw_any a len cap zs w h0 hlen')
  obtain ⟨i0, hi0, hz0, hz1, hz2⟩ := info_parts Try.info34
  obtain ⟨j0, hj0, hy0, hy1, hy2⟩ := info_parts Try.info36
  have IR := hid h0
  have HL := hid hlen'
  clear hlen h0 hlen'
  go_enter Try.func3, Try.ntmps3
  go_wp2_with fail
  refine D.out.mono ?_
  rintro e W1 ⟨nn, bud, ops, d, cp, hnn, rfl, hops, R, hdr, b1, hR⟩
  clear D
  have LO := hid hdr.lo
  have B1 := hid b1
  clear hdr b1 hR
  by_cases hok : nn ≤ 4096 ∧ 0 ≤ bud ∧ ops.length ≤ 400
  · obtain ⟨ok1, ok2, ok3⟩ := hok
    have R6 := hid (fun (W : World) (v : Value) (qs : List Op9) (h : Lo W v qs) (hq : qs.length ≤ 400) => h.run6 nn bud ok1 ok2 hq)
    have R7 := hid (fun (W : World) (v : Value) (qs : List Op9) (h : Lo W v qs) (hq : qs.length ≤ 400) => h.run7 nn bud ok1 ok2 hq)
    obtain ⟨n, hn⟩ : ∃ n, ops.length = n := ⟨_, rfl⟩
    obtain ⟨MF, hM⟩ : ∃ m, (runM nn bud ops n).1 = m := ⟨_, rfl⟩
    obtain ⟨rs, hrs⟩ : ∃ m, (runM nn bud ops n).2 = m := ⟨_, rfl⟩
    obtain ⟨cm, hcm⟩ : ∃ m, cntM MF nn = m := ⟨_, rfl⟩
    obtain ⟨os, hos⟩ : ∃ m, opensM MF nn = m := ⟨_, rfl⟩
    obtain ⟨ol, hol⟩ : ∃ m, os.length = m := ⟨_, rfl⟩
    have hb : ¬ (bud < (cm : Int)) := by
      have := cnt_run nn bud ok2 ops n
      rw [hM, hcm] at this
      omega
    have hol4 : ol ≤ 4096 := by
      have := opensM_len MF nn
      rw [hos, hol] at this
      omega
    have R7' := R7.out
    rw [hn] at LO ok3 hops ⊢
    have Q6 : ∀ (W : World) (v : Value), Lo W v ops → Calls Try.prog 6 #[.int .i64 nn, .int .i64 bud, v] W fun e W' => ∃ a c b c', e = .returned (.agg #[.bool true, .slice a n c, .int .i64 (cm : Nat), .slice b ol c']) ∧ As W' (.slice a n c) rs ∧ Zs W' (.slice b ol c') os ∧ Below W.heap.size W W' := fun W v h => by
      have := R6.out W v ops h (by omega)
      unfold Rq at this
      rw [hn, hM, hrs, hcm, hos, hol] at this
      exact this
    have Q7 : ∀ (W : World) (v : Value), Lo W v ops → Calls Try.prog 7 #[.int .i64 nn, .int .i64 bud, v] W fun e W' => ∃ a c b c', e = .returned (.agg #[.bool true, .slice a n c, .int .i64 (cm : Nat), .slice b ol c']) ∧ As W' (.slice a n c) rs ∧ Zs W' (.slice b ol c') os ∧ Below W.heap.size W W' := fun W v h => by
      have := R7.out W v ops h (by omega)
      unfold Rq at this
      rw [hn, hM, hrs, hcm, hos, hol] at this
      exact this
    have HE := hid (And.intro hn (And.intro hM (And.intro hrs (And.intro hcm (And.intro hos hol)))))
    have Q6 := hid Q6
    have Q7 := hid Q7
    clear hn hM hrs hcm hos hol R7 R7'
    go_wp2_with fail
    refine (Q6.out _ _ LO.out).mono ?_
    rintro e W2 ⟨a1, c1, a2, c2, rfl, as2, zs2, b2⟩
    have A2 := hid ((Below.refl _ W2).alloc (Nat.le_refl _) (.cells #[.bool true, .slice a1 n c1, .int .i64 (cm : Nat), .slice a2 ol c2] 29))
    have X2 := hid (al_last W2 (.cells #[.bool true, .slice a1 n c1, .int .i64 (cm : Nat), .slice a2 ol c2] 29))
    have L2 := hid ((LO.out.below b2).below A2.out)
    have S2 := hid (as2.below A2.out)
    have Z2 := hid (zs2.below A2.out)
    have B2 := hid (bl_trans (bl_trans B1.out b2) A2.out)
    clear b2 as2 zs2 LO B1 A2
    go_wp2_with fail
    refine (Q7.out _ _ L2.out).mono ?_
    rintro e W4 ⟨a3, c3, a4, c4, rfl, as4, zs4, b4⟩
    have X4 := hid ((b4.block _ (lt_blk X2.out)).trans X2.out)
    have L4 := hid (L2.out.below b4)
    have S4 := hid (S2.out.below b4)
    have Z4 := hid (Z2.out.below b4)
    have B4 := hid (bl_trans B2.out b4)
    clear b4 X2 L2 S2 Z2 B2 Q7
    generalize W2.heap.size = g6 at X4 ⊢
    have A5 := hid ((Below.refl _ W4).alloc (Nat.le_refl _) (.cells #[.bool true, .slice a3 n c3, .int .i64 (cm : Nat), .slice a4 ol c4] 29))
    have Y5 := hid (al_last W4 (.cells #[.bool true, .slice a3 n c3, .int .i64 (cm : Nat), .slice a4 ol c4] 29))
    have X5 := hid ((A5.out.block _ (lt_blk X4.out)).trans X4.out)
    have L5 := hid (L4.out.below A5.out)
    have S5 := hid (S4.out.below A5.out)
    have Z5 := hid (Z4.out.below A5.out)
    have T5 := hid (as4.below A5.out)
    have U5 := hid (zs4.below A5.out)
    have B5 := hid (bl_trans B4.out A5.out)
    clear as4 zs4 X4 L4 S4 Z4 B4 A5
    have kx := al4 X5.out
    have ky := al4 Y5.out
    obtain ⟨x0, x1, x2, x3⟩ := kx
    obtain ⟨y0, y1, y2, y3⟩ := ky
    go_wp2_with fail
    refine (sameZ _ _ os _ Z5.out U5.out (by have := HE.out.2.2.2.2.2; omega)).mono ?_
    rintro e W6 ⟨rfl, b6⟩
    have X6 := hid ((b6.block _ (lt_blk X5.out)).trans X5.out)
    have Y6 := hid ((b6.block _ (lt_blk Y5.out)).trans Y5.out)
    have L6 := hid (L5.out.below b6)
    have S6 := hid (S5.out.below b6)
    have T6 := hid (T5.out.below b6)
    have Z6 := hid (Z5.out.below b6)
    have U6 := hid (U5.out.below b6)
    have B6 := hid (bl_trans B5.out b6)
    clear b6 X5 Y5 L5 S5 T5 Z5 U5 B5 x0 x1 x2 x3 y0 y1 y2 y3
    generalize W4.heap.size = g7 at Y6 ⊢
    go_wp2
    have K0 := hid (show Kept W6 nn bud ops 0 (.slice none 0 0) (.slice none 0 0) [] W6 from ⟨⟨rfl, .inl ⟨rfl, rfl⟩⟩, ⟨rfl, .inl ⟨rfl, rfl⟩⟩, rfl, (fun x hx => by cases hx), Below.refl _ _⟩)
    go_loopw [8, 9, 67] (fun v8 v9 i wr => ∃ (k : Nat) (l : List An), k ≤ n ∧ i = .int .i64 k ∧ Hid (Kept W6 nn bud ops k v8 v9 l wr)) (fun _ _ i _ => n - (intOf i).toNat)
    case atStart => exact ⟨0, [], Nat.zero_le _, rfl, K0⟩
    case round =>
      obtain ⟨k, l, hk, rfl, HK⟩ := hrel
      clear K0
      obtain ⟨va, vb, vc, rfl⟩ := own_sl HK.out.kept
      obtain ⟨ua, ub, uc, rfl⟩ := own_sl HK.out.ans
      by_cases hlt : k < n
      · obtain ⟨o, ho⟩ : ∃ o, ops[k]? = some o := ⟨_, List.getElem?_eq_getElem (by rw [HE.out.1]; exact hlt)⟩
        obtain ⟨code, data, hcd⟩ : ∃ code data, (stepM nn bud (runM nn bud ops k).1 o.kd o.p o.c o.a o.n o.ys).2 = (code, data) := ⟨_, _, rfl⟩
        have hr : rs[k]? = some (code, data) := by
          rw [← hcd, ← HE.out.2.2.1]
          exact runM_get nn bud ops k o ho n hlt (by rw [HE.out.1]; exact Nat.le_refl _)
        obtain ⟨ga, u1, rfl, ra, bs1⟩ := S6.out.at_ hr
        obtain ⟨gb, u2, rfl, rb, bs2⟩ := T6.out.at_ hr
        obtain ⟨G, hG, hO⟩ := L6.out.oi' (by rw [HE.out.1]; omega)
        subst hG
        obtain ⟨d0, d1, d2, d3, d4, d5⟩ := hO.six HK.out.bel ho
        have bV : Below wr.heap.size wr (wr.alloc (.cells #[.int .i64 o.kd, .int .i64 o.p, .int .i64 o.c, .int .u64 o.a, .int .i64 o.n, .slice o.d o.dl o.dc] 34)) := (Below.refl _ _).alloc (Nat.le_refl _) _
        have HV := hid (HK.out.up bV)
        have OV := hid (al_last wr (.cells #[.int .i64 o.kd, .int .i64 o.p, .int .i64 o.c, .int .u64 o.a, .int .i64 o.n, .slice o.d o.dl o.dc] 34))
        have x1 := below_cell HV.out.bel (al4 X6.out).2.1
        have y1 := below_cell HV.out.bel (al4 Y6.out).2.1
        have p0 := below_cell HV.out.bel (ra 0 _ rfl)
        have q0 := below_cell HV.out.bel (rb 0 _ rfl)
        have p1 := below_cell HV.out.bel (ra 1 _ rfl)
        simp only [Nat.add_zero] at p0 q0
        have BS := hid bs1
        have HO := hid (And.intro ho (And.intro hcd (And.intro hO ra)))
        clear hO ra rb bs1 bs2 ho hr
        clear bV
        go_wp2
        generalize wr.alloc _ = V at HV OV x1 y1 p0 q0 p1 ⊢
        generalize wr.heap.size = X at OV ⊢
        clear d0 d1 d2 d3 d4 d5 HK
        have HV2 := hid (HV.out.up (Below.refl _ V).drew)
        have OV2 := hid (show V.drew.heap[X]? = some (.cells #[.int .i64 o.kd, .int .i64 o.p, .int .i64 o.c, .int .u64 o.a, .int .i64 o.n, .slice o.d o.dl o.dc] 34 (0, 0)) from OV.out)
        have x12 : V.drew.cell? ⟨g6, 1, none⟩ = some (.slice (some ⟨ga, 0, none⟩) n c1) := x1
        have p02 : V.drew.cell? ⟨ga, k * 2, none⟩ = some (.int .i64 code) := p0
        have p12 : V.drew.cell? ⟨ga, k * 2 + 1, none⟩ = some u1 := p1
        go_region
        clear x1 y1 p0 q0 p1 HV OV
        generalize V.drew = V2 at HV2 OV2 x12 p02 p12 ⊢
        by_cases hz : code = 0
        · subst hz
          have HY := hid (okL_yes nn bud ops k o HO.out.1 (by rw [HO.out.2.1]))
          have HK0 := hid HV2.out.lm
          have HD0 := hid HV2.out.dat
          obtain ⟨e0, e1, e2, e3, e4, e5, _, _, _, _, _, _⟩ := six_cells OV2.out
          obtain rfl := own_len HV2.out.kept
          obtain ⟨kl, hkl⟩ : ∃ kl, (okL nn bud ops k).1.length = kl := ⟨_, rfl⟩
          have hkl4 : kl ≤ 400 := by have := (okL_len nn bud ops k).1; omega
          have O8 := hid (HV2.out.kept.alloc (.cells #[.int .i64 o.kd, .int .i64 o.p, .int .i64 o.c, .int .u64 o.a, .int .i64 o.n, .slice o.d o.dl o.dc] 34))
          rw [hkl] at O8 ⊢
          have HKL := hid hkl
          clear hkl
          go_wp2_with (at_builtin; refine wpList_append_own _ rfl _ _ 23 rfl W6.heap.size 34 i0 _ 6 64 Try.underlying23 hi0 hz0 hz1 hz2 rfl (by omega) _ _ _ rfl O8.out _ 1 1 [.int .i64 o.kd, .int .i64 o.p, .int .i64 o.c, .int .u64 o.a, .int .i64 o.n, .slice o.d o.dl o.dc] rfl rfl ?hc ?h1c ?b1 ?b2 ?b3 ?_)
          case hc => exact row_new V2 _ 34
          case h1c => intro x hx; simp at hx; rcases hx with rfl | rfl | rfl | rfl | rfl | rfl <;> rfl
          case b1 => unfold maxLen; omega
          case b2 => omega
          case b3 => have := HV2.out.bel.size; rw [al_size]; omega
          intro v1 w9 ho9 hg9 _
          have K9 := hid (HV2.out.one (v1 := v1) (o := o) (by rw [HKL.out]; exact ho9) (by rw [HKL.out]; exact hg9))
          clear ho9 hg9 O8 e0 e1 e2 e3 e4 e5 x12 p02 p12 HV2 OV2
          obtain ⟨ta, tb, tc, rfl⟩ := own_sl K9.out.1
          have x1 := below_cell K9.out.2.2 (al4 X6.out).2.1
          have p0 := below_cell K9.out.2.2 (HO.out.2.2.2 0 _ rfl)
          have p1 := below_cell K9.out.2.2 (HO.out.2.2.2 1 _ rfl)
          simp only [Nat.add_zero] at p0
          obtain ⟨wa, wb, rfl, bw⟩ := BS.out
          clear bw
          obtain ⟨dn, hdn⟩ : ∃ dn, data.length = dn := ⟨_, rfl⟩
          rw [hdn] at BS p1 HO
          obtain rfl := own_len K9.out.2.1
          obtain ⟨ll, hll⟩ : ∃ ll, l.length = ll := ⟨_, rfl⟩
          have hll4 : ll ≤ 400 := by
            have h1 := congrArg List.length HK0.out
            rw [List.length_map, (okL_len nn bud ops k).2.1, HKL.out] at h1
            omega
          have P8 := hid (K9.out.2.1.alloc (.cells #[.int .i64 0, .slice wa dn wb] 36))
          rw [hll] at P8 ⊢
          have HLL := hid hll
          clear hll hdn
          go_wp2_with (at_builtin; refine wpList_append_own _ rfl _ _ 26 rfl W6.heap.size 36 j0 _ 2 32 Try.underlying26 hj0 hy0 hy1 hy2 rfl (by omega) _ _ _ rfl P8.out _ 1 1 [.int .i64 0, .slice wa dn wb] rfl rfl ?hc ?h1c ?b1 ?b2 ?b3 ?_)
          case hc => exact two_new w9 _ _ 36
          case h1c => intro x hx; simp at hx; rcases hx with rfl | rfl <;> rfl
          case b1 => unfold maxLen; omega
          case b2 => omega
          case b3 => have := K9.out.2.2.size; rw [al_size]; omega
          intro v2 w11 ho11 hg11 _
          have K11 := hid (two_kept (data := data) K9.out HK0.out HD0.out BS.out (by rw [HLL.out]; exact ho11) (by rw [HLL.out]; exact hg11) HY.out HO.out.2.1)
          clear ho11 hg11 P8 x1 p0 p1
          go_wp2
          go_roundw
          case rel => exact ⟨k + 1, _, by omega, by go_num, K11⟩
          case measure => simp [intOf]; omega
        · have HY := hid (okL_no nn bud ops k o HO.out.1 (by rw [HO.out.2.1]; exact hz))
          have hz' : (code == 0) = false := by simpa using hz
          go_wp2
          go_roundw
          case rel => exact ⟨k + 1, l, by omega, by go_num, hid (HV2.out.no HY.out)⟩
          case measure => simp [intOf]; omega
      · obtain rfl : k = n := by omega
        have LK := hid (HK.out.lo L6.out)
        have AK := hid HK.out.as
        obtain rfl := own_len HK.out.kept
        obtain rfl := own_len HK.out.ans
        have kl4 := (okL_len nn bud ops k).1
        have Q8 : ∀ (W : World) (v : Value), Lo W v (okL nn bud ops k).1 → Calls Try.prog 6 #[.int .i64 nn, .int .i64 bud, v] W fun e W' => ∃ a c b c', e = .returned (.agg #[.bool true, .slice a (okL nn bud ops k).1.length c, .int .i64 (cm : Nat), .slice b ol c']) ∧ As W' (.slice a (okL nn bud ops k).1.length c) (okL nn bud ops k).2 ∧ Zs W' (.slice b ol c') os ∧ Below W.heap.size W W' := fun W v h => by
          have := R6.out W v _ h (by omega)
          unfold Rq at this
          rw [runM_ok nn bud ops k] at this
          dsimp only at this
          rw [HE.out.2.1, HE.out.2.2.2.1, HE.out.2.2.2.2.1, HE.out.2.2.2.2.2] at this
          exact this
        have Q8 := hid Q8
        have HAL := hid (show l.length = (okL nn bud ops k).1.length by rw [← (okL_len nn bud ops k).2.1, ← HK.out.lm, List.length_map])
        rw [HAL.out] at AK ⊢
        have HOK := hid (okL_zero nn bud ops k)
        have HR2 := hid (okL_len nn bud ops k).2.1
        generalize (okL nn bud ops k).1 = qs at *
        generalize (okL nn bud ops k).2 = ks at *
        obtain ⟨ql, hql⟩ : ∃ ql, qs.length = ql := ⟨_, rfl⟩
        rw [hql] at LK AK Q8 HR2 kl4 ⊢
        have B9 := hid HK.out.bel
        clear hql HAL
        go_wp2_with fail
        refine (Q8.out _ _ LK.out).mono ?_
        rintro e W8 ⟨a5, c5, a6, c6, rfl, as8, zs8, b8⟩
        have A9 := hid ((Below.refl _ W8).alloc (Nat.le_refl _) (.cells #[.bool true, .slice a5 ql c5, .int .i64 (cm : Nat), .slice a6 ol c6] 29))
        have X9 := hid (al_last W8 (.cells #[.bool true, .slice a5 ql c5, .int .i64 (cm : Nat), .slice a6 ol c6] 29))
        have BB := hid (bl_trans (bl_trans B9.out b8) A9.out)
        have S9 := hid (as8.below A9.out)
        have Z9 := hid (zs8.below A9.out)
        have AK9 := hid ((AK.out.below b8).below A9.out)
        clear b8 as8 zs8 A9 B9 AK LK Q8 HK
        obtain ⟨x0, x1, x2, x3⟩ := al4 X6.out
        replace x0 := below_cell BB.out x0
        replace x1 := below_cell BB.out x1
        replace x2 := below_cell BB.out x2
        replace x3 := below_cell BB.out x3
        obtain ⟨z0, z1, z2, z3⟩ := al4 X9.out
        have ZZ := hid (Z6.out.below BB.out)
        go_wp2_with fail
        refine (sameZ _ _ os _ Z9.out ZZ.out (by have := HE.out.2.2.2.2.2; omega)).mono ?_
        rintro e W10 ⟨rfl, b10⟩
        have X10 := hid ((b10.block _ (lt_blk X9.out)).trans X9.out)
        have BC := hid (bl_trans BB.out b10)
        have S10 := hid (S9.out.below b10)
        have AK10 := hid (AK9.out.below b10)
        clear b10 x0 x1 x2 x3 z0 z1 z2 z3 X9 S9 Z9 ZZ AK9 BB
        generalize W8.heap.size = g12 at X10 ⊢
        obtain ⟨z0, z1, z2, z3⟩ := al4 X10.out
        clear z0 z2 z3
        go_wp2
        go_loopw [138] (fun i wr => ∃ j : Nat, j ≤ ql ∧ i = .int .i64 j ∧ Hid (Below W10.heap.size W10 wr)) (fun i _ => ql - (intOf i).toNat)
        case atStart => exact ⟨0, Nat.zero_le _, rfl, hid (Below.refl _ _)⟩
        case round =>
          obtain ⟨j, hj, rfl, HJ⟩ := hrel
          clear z1
          by_cases hlt2 : j < ql
          · obtain ⟨⟨c0, dt⟩, hkr⟩ : ∃ r, ks[j]? = some r := ⟨_, List.getElem?_eq_getElem (by rw [HR2.out]; exact hlt2)⟩
            have hc0 : c0 = 0 := HOK.out _ (List.mem_of_getElem? hkr)
            subst hc0
            obtain ⟨gc, u3, rfl, rc, bs3⟩ := S10.out.at_ hkr
            obtain ⟨gd, u4, rfl, rd, bs4⟩ := AK10.out.at_ hkr
            obtain ⟨wa3, wb3, rfl, bs3'⟩ := bs3
            obtain ⟨wa4, wb4, rfl, bs4'⟩ := bs4
            have E3 := hid (show Bs W10 (.slice wa3 dt.length wb3) dt from ⟨wa3, wb3, rfl, bs3'⟩)
            have E4 := hid (show Bs W10 (.slice wa4 dt.length wb4) dt from ⟨wa4, wb4, rfl, bs4'⟩)
            generalize dt.length = dl3 at rc rd E3 E4
            have d0 := below_cell HJ.out (rc 0 _ rfl)
            have d1 := below_cell HJ.out (rc 1 _ rfl)
            simp only [Nat.add_zero] at d0
            have bV : Below wr.heap.size wr (wr.alloc (.cells #[.int .i64 0, .slice wa3 dl3 wb3] 36)) := (Below.refl _ _).alloc (Nat.le_refl _) _
            have HV := hid (bl_trans HJ.out bV)
            have p1 := below_cell HV.out (rd 1 _ rfl)
            obtain ⟨e0, e1⟩ := two_cells (al_last wr (.cells #[.int .i64 0, .slice wa3 dl3 wb3] 36))
            clear bs3' bs4' rc rd bV
            go_wp2
            generalize wr.alloc _ = V at HV p1 e0 e1 ⊢
            generalize wr.heap.size = X at e0 e1 ⊢
            clear d0 d1 HJ
            have SB := hid (fun m => sameB _ _ dt (V.drewN m) (E3.out.drewN HV.out m) (E4.out.drewN HV.out m))
            go_quiet (first | (go_at_call 9; exact Calls.quiet_of_same (SB.out _)))
            go_wp2
            go_roundw
            case rel => exact ⟨j + 1, by omega, by go_num, hid (bl_trans HV.out (dN_below V _))⟩
            case measure => simp [intOf]; omega
          · obtain rfl : j = ql := by omega
            have BD := hid (bl_trans BC.out HJ.out)
            have y3 := below_cell BD.out (al4 Y6.out).2.2.2
            have BW := hid (bl_trans B6.out BD.out)
            by_cases hq0 : ol = 0
            · subst hq0
              go_wp2
              go_ret
              exact ⟨rfl, BW.out⟩
            have hq0' : ((ol : Int) == 0) = false := by simp; omega
            by_cases hq4 : 400 < k + 2
            · have hq4' : (400 : Int) < (k : Int) + 2 := by omega
              go_wp2
              go_ret
              exact ⟨rfl, BW.out⟩
            have hq4' : ¬ ((400 : Int) < (k : Int) + 2) := by omega
            have IR2 := hid ((IR.out.below BW.out).below ((Below.refl _ wr).alloc (Nat.le_refl _) (.cells #[.int .u8 1, .int .u8 2, .int .u8 3] 5)))
            have O3 := hid (owns_three wr)
            obtain ⟨v5, w5, happ5, ho5, hg5⟩ := app5 _ wr.heap.size _ 3 [1, 2, 3] O3.out a len cap zs IR2.out (by have := HL.out; omega) (by rw [al_size]; omega)
            have P5 := hid ho5
            have B5 := hid (show Below wr.heap.size wr w5 by
              have b8 := (Below.refl _ wr).alloc (Nat.le_refl _) (.cells #[.int .u8 1, .int .u8 2, .int .u8 3] 5)
              exact b8.grown hg5 b8.size (fun r e => (O3.out.lt r e).1))
            clear ho5 hg5 IR2
            obtain ⟨sa, sb, sc, rfl⟩ := own_sl P5.out
            obtain rfl := own_len P5.out
            go_upto_if 173 with (at_builtin; refine wpList_app rfl (.tmp 168) (.tmp 169) (by with_reducible rfl) rfl rfl rfl happ5 ?_)
            obtain ⟨g, rfl, hls, RG⟩ : ∃ g, sa = some ⟨g, 0, none⟩ ∧ 3 + len ≤ sc ∧ Hid (RowV w5 g 5 (Ns .u8 ([1, 2, 3] ++ zs.take len))) := by
              rcases P5.out.2 with ⟨_, h⟩ | ⟨g, cap', cur, e, hg, hh, h3, h4, h5, h6⟩
              · omega
              · simp at e
                obtain ⟨rfl, rfl⟩ := e
                exact ⟨g, rfl, h3, hid (RowV.ofOwns (n := 3 + len) (cap := sc) (base := wr.heap.size) ⟨P5.out.1, .inr ⟨g, sc, cur, rfl, hg, hh, h3, h4, h5, h6⟩⟩)⟩
            have hds := hid (show ([1, 2, 3] ++ zs.take len).length = 3 + len by
              have := IR.out.len
              rw [List.length_append, this]
              rfl)
            generalize [1, 2, 3] ++ zs.take len = ds at RG hds
            clear happ5 P5 O3
            go_cut [15] (fun s w' => ∃ (yl : Nat) (ys : List Int), s = .slice (some ⟨g, 0, none⟩) yl sc ∧ ys.length = yl ∧ 3 ≤ yl ∧ yl ≤ 1024 ∧ yl ≤ sc ∧ Hid (RowV w5 g 5 (Ns .u8 ys)) ∧ w' = w5)
            case first =>
              by_cases hbig : 1024 < 3 + len
              · have hbig' : (1024 : Int) < ((3 + len : Nat) : Int) := by omega
                have hsc : 1024 ≤ sc := by omega
                go_wp2
                go_meet
                case rel => exact ⟨1024, ds.take 1024, by first | rfl | simp, by have := hds.out; simp; omega, by omega, by omega, hsc, hid (row_take RG.out 1024), rfl⟩
              · have hbig' : ¬ ((1024 : Int) < ((3 + len : Nat) : Int)) := by omega
                go_wp2
                go_meet
                case rel => exact ⟨3 + len, ds, rfl, hds.out, by omega, by omega, hls, RG, rfl⟩
            case rest =>
              obtain ⟨yl, ys, rfl, hyl, hy3, hy4, hysc, RY, rfl⟩ := hcut
              clear RG hds
              obtain ⟨pg, hpg⟩ : ∃ pg : Nat, os[len % ol]? = some (pg : Int) ∧ pg < nn ∧ isOpen (MF pg) = true := by
                have hlt : len % ol < os.length := by rw [HE.out.2.2.2.2.2]; exact Nat.mod_lt _ (by omega)
                obtain ⟨jj, h1, h2, h3⟩ := opens_mem MF (os[len % ol]'hlt) nn (by rw [HE.out.2.2.2.2.1]; exact List.getElem_mem hlt)
                exact ⟨jj, by rw [List.getElem?_eq_getElem hlt, h2], h1, h3⟩
              obtain ⟨gz, rfl, hz⟩ : ∃ gz, a4 = some ⟨gz, 0, none⟩ ∧ wc.cell? ⟨gz, len % ol, none⟩ = some (.int .i64 (pg : Nat)) := by
                obtain ⟨az, cz, e, h1⟩ := U6.out
                simp at e
                obtain ⟨rfl, _, rfl⟩ := e
                obtain ⟨gz, e1, e2⟩ := h1 (len % ol) (by rw [HE.out.2.2.2.2.2]; exact Nat.mod_lt _ (by omega))
                rw [hpg.1] at e2
                exact ⟨gz, e1, below_cell (bl_trans BD.out B5.out) e2⟩
              have y3 := below_cell (bl_trans BD.out B5.out) (al4 Y6.out).2.2.2
              obtain ⟨ix, hix⟩ : ∃ ix, len % ol = ix := ⟨_, rfl⟩
              have hixl : ix < ol := by rw [← hix]; exact Nat.mod_lt _ (by omega)
              rw [hix] at hz
              have tix : (len : Int).tmod (ol : Int) = (ix : Int) := by rw [Int.tmod_eq_emod_of_nonneg (by omega), ← hix, Int.natCast_emod]
              have HPG := hid hpg
              have hpg4 : pg < 4096 := by omega
              clear hpg hix
              go_wp2_with fail
              refine wp_region_held (S := fun V => V = wc.drew) (by kernel_rfl) ?_
              have hS : wc.drew = wc.drew := rfl
              simp only [List.size_toArray, List.length_cons, List.length_nil, Nat.reduceAdd, Array.replicate_succ, Array.replicate_zero, List.push_toArray, List.nil_append, List.cons_append]
              refine wpAnyH_put (i := 0) (d := 176) (v := .pointer (some ⟨g7, 3, none⟩)) rfl (by kernel_rfl) (by kernel_rfl) (by kernel_rfl) (by kernel_rfl) (fun _ _ _ h => h) (Or.inl ⟨by kernel_rfl, fun V hV => by first | kernel_rfl | (go_simp; done)⟩) hS ?_
              simp only [List.setIfInBounds_toArray, List.set_cons_zero, List.set_cons_succ]
              refine wpAnyH_put (i := 1) (d := 177) (v := .slice (some ⟨gz, 0, none⟩) ol c4) rfl (by kernel_rfl) (by kernel_rfl) (by kernel_rfl) (by kernel_rfl) (fun _ _ _ h => h) (Or.inl ⟨by kernel_rfl, fun V hV => by subst hV; first | (go_simp; done) | (go_simp; omega)⟩) hS ?_
              simp only [List.setIfInBounds_toArray, List.set_cons_zero, List.set_cons_succ]
              refine wpAnyH_put (i := 2) (d := 178) (v := .slice a len cap) rfl (by kernel_rfl) (by kernel_rfl) (by kernel_rfl) (by kernel_rfl) (fun _ _ _ h => h) (Or.inl ⟨by kernel_rfl, fun V hV => by first | kernel_rfl | (go_simp; done)⟩) hS ?_
              simp only [List.setIfInBounds_toArray, List.set_cons_zero, List.set_cons_succ]
              refine wpAnyH_put (i := 3) (d := 179) (v := .int .i64 (len : Nat)) rfl (by kernel_rfl) (by kernel_rfl) (by kernel_rfl) (by kernel_rfl) (fun _ _ _ h => h) (Or.inl ⟨by kernel_rfl, fun V hV => by first | kernel_rfl | (go_simp; done)⟩) hS ?_
              simp only [List.setIfInBounds_toArray, List.set_cons_zero, List.set_cons_succ]
              refine wpAnyH_put (i := 4) (d := 180) (v := .pointer (some ⟨g7, 3, none⟩)) rfl (by kernel_rfl) (by kernel_rfl) (by kernel_rfl) (by kernel_rfl) (fun _ _ _ h => h) (Or.inl ⟨by kernel_rfl, fun V hV => by first | kernel_rfl | (go_simp; done)⟩) hS ?_
              simp only [List.setIfInBounds_toArray, List.set_cons_zero, List.set_cons_succ]
              refine wpAnyH_put (i := 5) (d := 181) (v := .slice (some ⟨gz, 0, none⟩) ol c4) rfl (by kernel_rfl) (by kernel_rfl) (by kernel_rfl) (by kernel_rfl) (fun _ _ _ h => h) (Or.inl ⟨by kernel_rfl, fun V hV => by subst hV; first | (go_simp; done) | (go_simp; omega)⟩) hS ?_
              simp only [List.setIfInBounds_toArray, List.set_cons_zero, List.set_cons_succ]
              refine wpAnyH_put (i := 6) (d := 182) (v := .int .i64 (ol : Nat)) rfl (by kernel_rfl) (by kernel_rfl) (by kernel_rfl) (by kernel_rfl) (fun _ _ _ h => h) (Or.inl ⟨by kernel_rfl, fun V hV => by first | kernel_rfl | (go_simp; done)⟩) hS ?_
              simp only [List.setIfInBounds_toArray, List.set_cons_zero, List.set_cons_succ]
              refine wpAnyH_put (i := 7) (d := 183) (v := .int .i64 (ix : Nat)) rfl (by kernel_rfl) (by kernel_rfl) (by kernel_rfl) (by kernel_rfl) (fun _ _ _ h => h) (Or.inl ⟨by kernel_rfl, fun V hV => by first | (go_simp; done) | (go_simp; omega) | (go_simp; simp only [tix]; done) | (go_simp; simp only [tix]; exact wrap64 _ (by omega) (by omega)) | (go_simp; refine ⟨by omega, ?_⟩; simp only [tix]; done)⟩) hS ?_
              simp only [List.setIfInBounds_toArray, List.set_cons_zero, List.set_cons_succ]
              refine wpAnyH_put (i := 8) (d := 184) (v := .pointer (some ⟨gz, ix, none⟩)) rfl (by kernel_rfl) (by kernel_rfl) (by kernel_rfl) (by kernel_rfl) (fun _ _ _ h => h) (Or.inl ⟨by kernel_rfl, fun V hV => by first | (go_simp; done) | (go_simp; omega)⟩) hS ?_
              simp only [List.setIfInBounds_toArray, List.set_cons_zero, List.set_cons_succ]
              refine wpAnyH_put (i := 9) (d := 185) (v := .int .i64 (pg : Nat)) rfl (by kernel_rfl) (by kernel_rfl) (by kernel_rfl) (by kernel_rfl) (fun _ _ _ h => h) (Or.inl ⟨by kernel_rfl, fun V hV => by subst hV; first | (go_simp; done) | (go_simp; omega)⟩) hS ?_
              simp only [List.setIfInBounds_toArray, List.set_cons_zero, List.set_cons_succ]
              refine wpAnyH_put (i := 10) (d := 186) (v := .int .u64 (pg : Nat)) rfl (by kernel_rfl) (by kernel_rfl) (by kernel_rfl) (by kernel_rfl) (fun _ _ _ h => h) (Or.inl ⟨by kernel_rfl, fun V hV => by first | (go_simp; done) | (go_simp; exact wrapU _ (by omega) (by omega))⟩) hS ?_
              simp only [List.setIfInBounds_toArray, List.set_cons_zero, List.set_cons_succ]
              refine wpAnyH_put (i := 11) (d := 187) (v := .int .u64 ((pg * 1024 : Nat) : Int)) rfl (by kernel_rfl) (by kernel_rfl) (by kernel_rfl) (by kernel_rfl) (fun _ _ _ h => h) (Or.inl ⟨by kernel_rfl, fun V hV => by first | (go_simp; done) | (go_simp; omega) | (go_simp; rw [wrapU _ (by omega) (by omega)]; done) | (go_simp; rw [wrapU _ (by omega) (by omega)]; omega)⟩) hS ?_
              simp only [List.setIfInBounds_toArray, List.set_cons_zero, List.set_cons_succ]
              refine wpAnyH_put (i := 12) (d := 16) (v := .int .u64 ((pg * 1024 : Nat) : Int)) rfl (by kernel_rfl) (by kernel_rfl) (by kernel_rfl) (by kernel_rfl) (fun _ _ _ h => h) (Or.inl ⟨by kernel_rfl, fun V hV => by first | kernel_rfl | (go_simp; done)⟩) hS ?_
              simp only [List.setIfInBounds_toArray, List.set_cons_zero, List.set_cons_succ]
              refine wpAnyH_done (by kernel_rfl) ?_ _
              have bE := bl_trans (bl_trans BD.out B5.out) (Below.refl _ wc).drew
              have LE := hid (L6.out.below bE)
              have RE := hid (RY.out.below (Below.refl _ wc).drew RY.out.lt)
              have BE := hid (bl_trans B6.out bE)
              change Exit.then _ _ Exit.normal _ wc.drew
              clear bE hz y3 tix hS RY BD B5 BW U6 Z6 S6 T6 X6 Y6 L6 BC S10 AK10 HJ X10
              generalize wc.drew = Wd at LE RE BE ⊢
              obtain ⟨ad, had⟩ : ∃ ad, pg * 1024 = ad := ⟨_, rfl⟩
              rw [had]
              have had4 : ad < 4194304 := by omega
              obtain ⟨pa, pc, w6, v7, w7, happ6, happ7, lm, b7, sa2, sc2, rfl⟩ := tail_more Wd d k cp ad g yl sc ops ys LE.out RE.out hyl hysc had4 HE.out.1 (by omega)
              have TR := hid (fun W v hl => tail_run nn k bud ops ad g yl sc pg ys ok1 ok2 HE.out.1 (by omega) (by rw [HE.out.2.1]; exact HPG.out.2.2) hpg4 hyl (by omega) hy4 had W v hl)
              have LM := hid lm
              have B7 := hid (bl_trans BE.out b7)
              have R7 := hid (RE.out.below b7 RE.out.lt)
              have HYL := hid hyl
              clear had lm b7 LE RE BE hyl
              go_wp2_with (at_builtin; first | refine wpList_app rfl (.const (.slice none 0 0)) (.tmp 188) (by with_reducible rfl) rfl rfl rfl happ6 ?_ | refine wpList_app rfl (.tmp 189) (.tmp 197) (by with_reducible rfl) rfl rfl rfl happ7 ?_)
              refine (TR.out _ _ LM.out).mono ?_
              rintro e W8 ⟨a8, c8, c9, b9, d9, e9, rs8, rfl, as8, hr8, b8⟩
              obtain ⟨q1, rfl, r1⟩ : ∃ q1, a8 = some ⟨q1, 0, none⟩ ∧ W8.cell? ⟨q1, k * 2, none⟩ = some (.int .i64 0) := by
                obtain ⟨q, u, e, h1, h2⟩ := as8.at_ (k := k) (r := (0, [])) (by rw [List.getElem?_append_right (by omega), hr8, Nat.sub_self]; rfl)
                exact ⟨q, e, h1 0 _ rfl⟩
              obtain ⟨u8, r2, bs8⟩ : ∃ u, W8.cell? ⟨q1, (k + 1) * 2 + 1, none⟩ = some u ∧ Bs W8 u ys := by
                obtain ⟨q, u, e, h1, h2⟩ := as8.at_ (k := k + 1) (r := (0, ys)) (by rw [List.getElem?_append_right (by omega), hr8, show k + 1 - k = 1 by omega]; rfl)
                cases e
                exact ⟨u, h1 1 _ rfl, h2⟩
              have A9 := hid ((Below.refl _ W8).alloc (Nat.le_refl _) (.cells #[.bool true, .slice (some ⟨q1, 0, none⟩) (k + 2) c8, .int .i64 c9, .slice b9 d9 e9] 29))
              obtain ⟨z0, z1, z2, z3⟩ := al4 (al_last W8 (.cells #[.bool true, .slice (some ⟨q1, 0, none⟩) (k + 2) c8, .int .i64 c9, .slice b9 d9 e9] 29))
              replace r1 := below_cell A9.out r1
              replace r2 := below_cell A9.out r2
              have SX := hid (sameB u8 (.slice (some ⟨g, 0, none⟩) yl sc) ys _ (bs8.below A9.out) ⟨_, sc, by rw [HYL.out], fun i hi => ⟨g, rfl, cell_n ((R7.out.below b8 R7.out.lt).below A9.out (R7.out.below b8 R7.out.lt).lt) i hi⟩⟩)
              have BZ := hid (bl_trans (bl_trans B7.out b8) A9.out)
              obtain ⟨ua8, ub8, rfl, _⟩ := bs8
              clear as8 hr8 b8 TR LM B7 R7 A9 z2 z3 happ6 happ7
              go_wp2_with fail
              refine SX.out.mono ?_
              rintro e W9 ⟨rfl, rfl⟩
              go_wp2
              go_ret
              exact ⟨rfl, BZ.out⟩
  · have hno : (nn : Int) < 0 ∨ 4096 < (nn : Int) ∨ bud < 0 ∨ 400 < ops.length := by omega
    have N6 := hid (fun W => im_run_no nn bud ops.length cp d W hno)
    have N7 := hid (fun W => sp_run_no nn bud ops.length cp d W hno)
    clear hok hno LO
    go_wp2_with fail
    refine (N6.out _).mono ?_
    rintro e W2 ⟨rfl, b2⟩
    have B2 := hid (bl_trans B1.out b2)
    have A2 := hid ((Below.refl _ W2).alloc (Nat.le_refl _) (.cells #[.bool false, .slice none 0 0, .int .i64 0, .slice none 0 0] 29))
    have X2 := hid (al_last W2 (.cells #[.bool false, .slice none 0 0, .int .i64 0, .slice none 0 0] 29))
    clear b2
    go_wp2_with fail
    refine (N7.out _).mono ?_
    rintro e W4 ⟨rfl, b4⟩
    have X4 := hid ((b4.block _ (lt_blk X2.out)).trans X2.out)
    have B4 := hid (bl_trans (bl_trans B2.out A2.out) b4)
    clear b4 X2 B2 A2 N6 N7
    generalize W2.heap.size = g6 at X4 ⊢
    have A5 := hid ((Below.refl _ W4).alloc (Nat.le_refl _) (.cells #[.bool false, .slice none 0 0, .int .i64 0, .slice none 0 0] 29))
    have Y5 := hid (al_last W4 (.cells #[.bool false, .slice none 0 0, .int .i64 0, .slice none 0 0] 29))
    have X5 := hid ((A5.out.block _ (lt_blk X4.out)).trans X4.out)
    obtain ⟨x0, x1, x2, x3⟩ := al4 X5.out
    obtain ⟨y0, y1, y2, y3⟩ := al4 Y5.out
    have B5 := hid (bl_trans B4.out A5.out)
    clear X4 B4 A5 X5 Y5
    go_wp2
    go_ret
    exact ⟨rfl, B5.out⟩
end Go.Proofs.Ytiddopgeomojbaa
