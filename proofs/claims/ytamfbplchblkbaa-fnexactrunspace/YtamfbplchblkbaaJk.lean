import Derived.Test.YtamfbplchblkbaaJj
namespace Go.Proofs.Ytamfbplchblkbaa
open Go.RowKit Go.Shelf Go.Maps
set_option linter.unusedVariables false

theorem markAs_nil (k0 : Nat) (w : World) (hk : k0 ≤ 1000000000000) :
    Calls Try.prog 32 #[.slice none 0 0, .int .i64 k0] w fun e w' => e = .returned (.int .i64 k0) ∧ w' = w := by
  go_enter Try.func32, Try.ntmps32
  go_wp2
  refine wp_loop_rounds 1 ?_
  rw [rounds_succ]
  go_wp2
  go_ret
  exact ⟨rfl, rfl⟩
theorem heldAs_nil (k0 : Nat) (w : World) (hk : k0 ≤ 1000000000000) :
    Calls Try.prog 34 #[.slice none 0 0, .int .i64 k0] w fun e w' => e = .returned (.int .i64 k0) ∧ w' = w := by
  go_enter Try.func34, Try.ntmps34
  go_wp2
  refine wp_loop_rounds 1 ?_
  rw [rounds_succ]
  go_wp2
  go_ret
  exact ⟨rfl, rfl⟩
/-- a marked slice of answers -/
def Av (l : List An) (v : Value) (W : World) : Prop := (v = .slice none 0 0 ∧ l = []) ∨ ∃ g cap, v = .slice (some ⟨g, 0, none⟩) l.length cap ∧ Dn g l 1 W
/-- a marked slice of numbers -/
def Oz (k n : Nat) (v : Value) (W : World) : Prop := (v = .slice none 0 0 ∧ n = 0) ∨ ∃ g cap, v = .slice (some ⟨g, 0, none⟩) n cap ∧ RowV W g 3 (Ns .i64 (rampIn k n))
theorem Av.below {l : List An} {v : Value} {W W' : World} (h : Av l v W) (hb : Below W.heap.size W W') : Av l v W' := by
  rcases h with h | ⟨g, cap, e, h1⟩
  · exact .inl h
  · exact .inr ⟨g, cap, e, h1.below hb⟩
theorem Oz.below {k n : Nat} {v : Value} {W W' : World} (h : Oz k n v W) (hb : Below W.heap.size W W') : Oz k n v W' := by
  rcases h with h | ⟨g, cap, e, h1⟩
  · exact .inl h
  · exact .inr ⟨g, cap, e, h1.below hb h1.lt⟩
theorem markV (B : Nat) (l : List An) (v : Value) (w : World) (h : w.ownsRow B 36 2 v l.length (flatA l)) (hr : ∀ x ∈ l, w.ownsRow B 5 1 x.2 x.1.2.length (Ns .u8 x.1.2)) (hap : l.Pairwise fun x y => ∀ g, x.2.ownBlock = some g → y.2.ownBlock ≠ some g) (hb : l.length + totA l ≤ 10000000) (hd : ∀ x ∈ l, x.1.2.length ≤ 1048576) :
    Calls Try.prog 32 #[v, .int .i64 1] w fun e w' => e = .returned (.int .i64 (mkA 1 l l.length : Nat)) ∧ Av l v w' ∧ Bt (fun b => v.ownBlock = some b ∨ ∃ x ∈ l, x.2.ownBlock = some b) w w' := by
  rcases h.2 with ⟨e, h0⟩ | ⟨g, cap, cur, e, _⟩
  · have : l = [] := List.eq_nil_of_length_eq_zero h0
    subst this e
    refine (markAs_nil 1 w (by omega)).mono ?_
    rintro e w' ⟨rfl, rfl⟩
    exact ⟨rfl, .inl ⟨rfl, rfl⟩, Bt.refl _ _⟩
  · subst e
    refine (markAs g l.length cap 1 l w (Mk.first 1 h hr) hap rfl hb (by omega) hd).mono ?_
    rintro e w' ⟨rfl, m⟩
    refine ⟨rfl, .inr ⟨g, cap, rfl, m.dn⟩, m.bt.os, m.bt.tape, m.bt.output, m.bt.size, fun b hb' hn => m.bt.block b hb' (fun hs => hn ?_)⟩
    rcases hs with rfl | hs
    · exact .inl rfl
    · exact .inr hs
theorem markO (B : Nat) (os : List Int) (k : Nat) (vo : Value) (w : World) (h : w.ownsRow B 3 1 vo os.length (Ns .i64 os)) (ho : os.length ≤ 1048576) (hk : k ≤ 1000000000000) :
    Calls Try.prog 33 #[vo, .int .i64 k] w fun e w' => e = .returned (.int .i64 (k + os.length : Nat)) ∧ Oz k os.length vo w' ∧ w.grownBy w' vo.ownBlock := by
  rcases h.2 with ⟨e, h0⟩ | ⟨g, cap, cur, e, _⟩
  · have : os = [] := List.eq_nil_of_length_eq_zero h0
    subst this e
    refine (markIn_nil k w hk).mono ?_
    rintro e w' ⟨rfl, rfl⟩
    exact ⟨rfl, .inl ⟨rfl, rfl⟩, ⟨rfl, rfl, rfl, Nat.le_refl _, fun _ _ _ => rfl⟩⟩
  · subst e
    refine (markIn g os.length cap os k w rfl ho hk (RowV.ofOwns h)).mono ?_
    rintro e w' ⟨rfl, r, hg⟩
    exact ⟨rfl, .inr ⟨g, cap, rfl, r⟩, hg⟩
theorem heldV (l : List An) (v : Value) (w : World) (h : Av l v w) (hb : l.length + totA l ≤ 10000000) (hd : ∀ x ∈ l, x.1.2.length ≤ 1048576) :
    Calls Try.prog 34 #[v, .int .i64 1] w fun e w' => e = .returned (.int .i64 (mkA 1 l l.length : Nat)) ∧ Below w.heap.size w w' := by
  rcases h with ⟨rfl, rfl⟩ | ⟨g, cap, rfl, h⟩
  · refine (heldAs_nil 1 w (by omega)).mono ?_
    rintro e w' ⟨rfl, rfl⟩
    exact ⟨rfl, Below.refl _ _⟩
  · exact heldAs g l.length cap 1 l w h rfl hb (by omega) hd
theorem heldO (k n : Nat) (vo : Value) (w : World) (h : Oz k n vo w) (ho : n ≤ 1048576) (hk : k ≤ 1000000000000) :
    Calls Try.prog 35 #[vo, .int .i64 k] w fun e w' => e = .returned (.int .i64 (k + n : Nat)) ∧ w' = w := by
  rcases h with ⟨rfl, rfl⟩ | ⟨g, cap, rfl, h⟩
  · exact heldIn_nil k w hk
  · exact heldIn g n cap k w ho hk h
theorem own_sl {W : World} {base : Nat} {e : TypeId} {size : Nat} {v : Value} {n : Nat} {xs : List Value} (h : W.ownsRow base e size v n xs) : ∃ a b c, v = .slice a b c := by
  rcases h.2 with ⟨rfl, _⟩ | ⟨g, cap, cur, rfl, _⟩ <;> exact ⟨_, _, _, rfl⟩
theorem own_ap {W : World} {b1 b2 : Nat} {e1 e2 : TypeId} {s1 s2 : Nat} {v1 v2 : Value} {n1 n2 : Nat} {x1 x2 : List Value} (h1 : W.ownsRow b1 e1 s1 v1 n1 x1) (h2 : W.ownsRow b2 e2 s2 v2 n2 x2) (hne : e1 ≠ e2) {g : Nat} (e : v1.ownBlock = some g) : v2.ownBlock ≠ some g := fun e' => by
  obtain ⟨c, hc⟩ := own_type h1 e
  obtain ⟨c', hc'⟩ := own_type h2 e'
  rw [hc] at hc'
  simp at hc'
  exact hne hc'.2

set_option maxHeartbeats 1000000 in
theorem markR (B : Nat) (ok : Bool) (cm : Int) (l : List An) (os : List Int) (v vo : Value) (w : World) (hB : B ≤ w.heap.size) (h : w.ownsRow B 36 2 v l.length (flatA l)) (hr : ∀ x ∈ l, w.ownsRow B 5 1 x.2 x.1.2.length (Ns .u8 x.1.2)) (hap : l.Pairwise fun x y => ∀ g, x.2.ownBlock = some g → y.2.ownBlock ≠ some g)
    (hos : w.ownsRow B 3 1 vo os.length (Ns .i64 os)) (hb : l.length + totA l ≤ 10000000) (hd : ∀ x ∈ l, x.1.2.length ≤ 1048576) (ho : os.length ≤ 1048576) :
    Calls Try.prog 15 #[.agg #[.bool ok, v, .int .i64 cm, vo], .int .i64 1] w fun e w' => e = .returned (.int .i64 (mkA 1 l l.length + os.length : Nat)) ∧ (Av l v w' ∧ Oz (mkA 1 l l.length) os.length vo w') ∧ Below B w w' ∧ ∀ (g : Nat) (c : Array Value) (f : Nat × Nat), w.heap[g]? = some (.cells c 29 f) → w'.heap[g]? = w.heap[g]? := by
  have T0 := hid (show Below w.heap.size w (w.alloc (.cells #[.bool ok, v, .int .i64 cm, vo] 29)) from (Below.refl _ _).alloc (Nat.le_refl _) _)
  have X1 := hid (al_last w (.cells #[.bool ok, v, .int .i64 cm, vo] 29))
  have k1 : ∀ {e : TypeId} {s : Nat} {u : Value} {n : Nat} {xs : List Value}, w.ownsRow B e s u n xs → (w.alloc (.cells #[.bool ok, v, .int .i64 cm, vo] 29)).ownsRow B e s u n xs := fun hu => own_keep hu (fun g c _ hc => T0.out.block g (lt_blk hc))
  have HV := hid (markV B l v _ (k1 h) (fun x hx => k1 (hr x hx)) hap hb hd)
  have HH := hid (And.intro h (And.intro hr hos))
  have hmk : mkA 1 l l.length ≤ 1000000000000 := by have := totA_le l l.length; unfold mkA; omega
  obtain ⟨p1, q1, c1, hvs⟩ := own_sl h
  obtain ⟨p2, q2, c2, hos'⟩ := own_sl hos
  have V1 := hid hvs
  have V2 := hid hos'
  obtain ⟨mm, hmm⟩ : ∃ mm, mkA 1 l l.length = mm := ⟨_, rfl⟩
  rw [hmm] at HV hmk ⊢
  have HB := hid hB
  clear h hr hos hap hvs hos' k1 hmm hB
  go_enter Try.func15, Try.ntmps15
  go_wp2_with fail
  generalize w.alloc _ = W1 at *
  refine (HV.out).mono ?_
  rintro e w2 ⟨rfl, av, bt⟩
  obtain ⟨h, hr, hos⟩ := HH.out
  have hsz := T0.out.size
  have hx : W1.heap[w.heap.size]? = w2.heap[w.heap.size]? := (bt.block _ (lt_blk X1.out) (fun hs => by
    rcases hs with e | ⟨x, hm, e⟩
    · have := (h.lt _ e).2; omega
    · have := ((hr x hm).lt _ e).2; omega)).symm
  have hos2 : w2.ownsRow B 3 1 vo os.length (Ns .i64 os) := own_keep (W := W1) (own_keep hos (fun g c _ hc => T0.out.block g (lt_blk hc))) (fun g c hg hc => bt.block g (lt_blk hc) (fun hs => by
    rcases hs with e | ⟨x, hm, e⟩
    · exact own_ap h hos (by decide) e hg
    · exact own_ap (hr x hm) hos (by decide) e hg))
  have cw : w2.cell? ⟨w.heap.size, 3, none⟩ = some vo := by rw [cell_of_row _ _ _ _ _ _ (hx.symm.trans X1.out)]; rfl
  have HM := hid (markO B os mm vo w2 hos2 ho hmk)
  have AV := hid av
  have BT := hid bt
  clear av bt hx hos2 HV hsz h hr hos
  go_wp2_with fail
  refine (HM.out).mono ?_
  rintro e w3 ⟨rfl, oz, hg⟩
  have av3 : Av l v w3 := by
    rcases AV.out with hh | ⟨g, cap, e, hh⟩
    · exact .inl hh
    · refine .inr ⟨g, cap, e, hh.keep ?_ (fun x hm b hb' hlt => ?_)⟩
      · have hgl : g < w2.heap.size := by
          have := (HH.out.1.lt g (by rw [e]; rfl)).2
          have := T0.out.size
          have := BT.out.size
          omega
        exact hg.block g hgl (fun e' => own_ap HH.out.1 HH.out.2.2 (by decide) (by rw [e]; rfl) e'.symm)
      · exact hg.block b hlt (fun e' => own_ap (HH.out.2.1 x hm) HH.out.2.2 (by decide) hb' e'.symm)
  have AO := hid (And.intro av3 oz)
  have BF := hid (show Below B w w3 by
    have hB := HB.out
    have s1 := T0.out.size
    have s2 := BT.out.size
    refine ⟨hg.os.trans (BT.out.os.trans T0.out.os), hg.tape.trans (BT.out.tape.trans T0.out.tape), hg.output.trans (BT.out.output.trans T0.out.output), by have := hg.size; omega, fun g hgB => ?_⟩
    rw [hg.block g (by omega) (fun e => by have := (HH.out.2.2.lt g e.symm).1; omega), BT.out.block g (by omega) (fun hs => by
      rcases hs with e | ⟨x, hm, e⟩
      · have := (HH.out.1.lt g e).1; omega
      · have := ((HH.out.2.1 x hm).lt g e).1; omega)]
    exact T0.out.block g (by omega))
  have BK := hid (show ∀ (g : Nat) (c : Array Value) (f : Nat × Nat), w.heap[g]? = some (.cells c 29 f) → w3.heap[g]? = w.heap[g]? from fun g c f hc => by
    have s1 := T0.out.size
    have s2 := BT.out.size
    have hl := lt_blk hc
    have hne : ∀ {e : TypeId} {s : Nat} {u : Value} {n : Nat} {xs : List Value}, w.ownsRow B e s u n xs → e ≠ 29 → u.ownBlock ≠ some g := fun hu he e' => by
      obtain ⟨c', hc'⟩ := own_type hu e'
      rw [hc] at hc'
      simp at hc'
      exact he hc'.2.1.symm
    rw [hg.block g (by omega) (fun e => hne HH.out.2.2 (by decide) e.symm), BT.out.block g (by omega) (fun hs => by
      rcases hs with e | ⟨x, hm, e⟩
      · exact hne HH.out.1 (by decide) e
      · exact hne (HH.out.2.1 x hm) (by decide) e)]
    exact T0.out.block g hl)
  clear av3 oz hg HM AV BT cw
  go_wp2
  go_ret
  exact ⟨rfl, AO.out, BF.out, BK.out⟩

set_option maxHeartbeats 1000000 in
theorem heldR (ok : Bool) (cm : Int) (l : List An) (n : Nat) (v vo : Value) (w : World) (h : Av l v w) (hz : Oz (mkA 1 l l.length) n vo w) (hb : l.length + totA l ≤ 10000000) (hd : ∀ x ∈ l, x.1.2.length ≤ 1048576) (ho : n ≤ 1048576) :
    Calls Try.prog 16 #[.agg #[.bool ok, v, .int .i64 cm, vo], .int .i64 1] w fun e w' => e = .returned (.int .i64 (mkA 1 l l.length + n : Nat)) ∧ Below w.heap.size w w' := by
  have T0 := hid (show Below w.heap.size w (w.alloc (.cells #[.bool ok, v, .int .i64 cm, vo] 29)) from (Below.refl _ _).alloc (Nat.le_refl _) _)
  have X1 := hid (al_last w (.cells #[.bool ok, v, .int .i64 cm, vo] 29))
  have HV := hid (heldV l v _ (h.below T0.out) hb hd)
  have HH := hid hz
  have hmk : mkA 1 l l.length ≤ 1000000000000 := by have := totA_le l l.length; unfold mkA; omega
  obtain ⟨p1, q1, c1, hvs⟩ : ∃ a b c, v = .slice a b c := by rcases h with ⟨e, _⟩ | ⟨g, cap, e, _⟩ <;> exact ⟨_, _, _, e⟩
  obtain ⟨p2, q2, c2, hos'⟩ : ∃ a b c, vo = .slice a b c := by rcases hz with ⟨e, _⟩ | ⟨g, cap, e, _⟩ <;> exact ⟨_, _, _, e⟩
  have V1 := hid hvs
  have V2 := hid hos'
  obtain ⟨mm, hmm⟩ : ∃ mm, mkA 1 l l.length = mm := ⟨_, rfl⟩
  rw [hmm] at HV hmk HH ⊢
  clear h hz hvs hos' hmm
  have t1 : ¬ ((mm : Int) < 0) := by omega
  have t2 : ¬ (((mm + n : Nat) : Int) < 0) := by omega
  go_enter Try.func16, Try.ntmps16
  go_wp2_with fail
  generalize w.alloc _ = W1 at *
  refine (HV.out).mono ?_
  rintro e w2 ⟨rfl, b2⟩
  have cw : w2.cell? ⟨w.heap.size, 3, none⟩ = some vo := by rw [cell_of_row _ _ _ _ _ _ ((b2.block _ (lt_blk X1.out)).trans X1.out)]; rfl
  have B2 := hid (bl_trans T0.out b2)
  have HM := hid (heldO mm n vo w2 (HH.out.below B2.out) ho hmk)
  clear b2 HV
  go_wp2_with fail
  refine (HM.out).mono ?_
  rintro e w3 ⟨rfl, rfl⟩
  clear cw HM
  go_wp2
  go_ret
  exact ⟨rfl, B2.out⟩
end Go.Proofs.Ytamfbplchblkbaa
