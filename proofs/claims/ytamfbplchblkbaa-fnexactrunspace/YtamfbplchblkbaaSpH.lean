import Derived.Test.YtamfbplchblkbaaSpG
import Derived.Deep.AppendLies
import Derived.Laws.Tables
import Derived.Laws.Rows
namespace Go.Proofs.Ytamfbplchblkbaa
open Go.RowKit Go.Shelf
set_option linter.unusedVariables false

theorem wpAny_one {P : Program} {md : Region.Mode} {ops : Array Oper} {Q : Exit → Act → World → Prop} {r fuel : Nat} {listed : Array Bool} {a : Act} {w : World} (hr : Region.ready md ops listed = [r])
    (h : wpOp P ops Q r (wpAny P md ops Q fuel (listed.setIfInBounds r true)) a w) : wpAny P md ops Q (fuel + 1) listed a w :=
  wpAny_all hr (by simp) (fun i hi => by
    obtain rfl : i = r := by simpa using hi
    exact h)
theorem wpAny_put {P : Program} {md : Region.Mode} {ops : Array Oper} {Q : Exit → Act → World → Prop} {i d : Nat} {oi : Oper} {v : Value} {fuel : Nat} {listed : Array Bool} {a : Act} {w : World} (hi : ops[i]? = some oi) (hd : oi.dst = some d)
    (hs : Region.noSelect ops = true) (hf : Region.free md ops listed i = true) (hr : (Region.ready md ops listed).contains i = true)
    (hQ : ∀ c a w, Q (.panic c) (a.put oi.dst v) w → Q (.panic c) a w) (hy : Yields P ops oi v a)
    (h : wpAny P md ops Q fuel (listed.setIfInBounds i true) { a with tmps := a.tmps.setIfInBounds d v } w) : wpAny P md ops Q (fuel + 1) listed a w :=
  wpAny_take hi hs hf hr hQ hy (by
    have e : a.put oi.dst v = { a with tmps := a.tmps.setIfInBounds d v } := by rw [hd]; rfl
    rw [e]; exact h)

/-- the bytes from a on -/
def loadB (m : Nat → Option (Bool × List Int)) (a n : Nat) : List Int := (List.range n).map fun i => byteAt m (a + i)
theorem loadB_succ (m : Nat → Option (Bool × List Int)) (a k : Nat) : loadB m a (k + 1) = loadB m a k ++ [byteAt m (a + k)] := by
  simp [loadB, List.range_succ]

/-- the answer under way -/
structure La (w : World) (Rb A : Nat) (v : Value) (k : Nat) (xs : List Value) (W : World) : Prop where
  own : W.ownsRow (w.heap.size + 2) 5 1 v k xs
  at_ : W.heap[A]? = some (.cells #[.int .i64 0, v] 36 (0, 0))
  res : W.heap[Rb]? = some (.cells #[.int .i64 0, .slice none 0 0] 36 (0, 0))
  bel : Below w.heap.size w W
  big : w.heap.size + 2 ≤ W.heap.size
  hA : A = w.heap.size + 1
  hR : Rb = w.heap.size
theorem La.next {w W w9 : World} {Rb A : Nat} {v : Value} {k : Nat} {xs : List Value} (h : La w Rb A v k xs W) (b : Value) (g cap : Nat)
    (ho : w9.ownsRow (w.heap.size + 2) 5 1 (.slice (some ⟨g, 0, none⟩) (k + 1) cap) (k + 1) (xs ++ [b])) (hg : ((W.alloc (.cells #[b] 5)).drew).grownBy w9 v.ownBlock) :
    w9.cell? ⟨A, 1, none⟩ = some v ∧ w9.frozen? ⟨A, 1, none⟩ = false ∧ La w Rb A (.slice (some ⟨g, 0, none⟩) (k + 1) cap) (k + 1) (xs ++ [b]) (w9.setCell ⟨A, 1, none⟩ (.slice (some ⟨g, 0, none⟩) (k + 1) cap)) := by
  have hlA : A < W.heap.size := by have := h.hA; have := h.big; omega
  have hlR : Rb < W.heap.size := by have := h.hR; have := h.big; omega
  have nA : v.ownBlock ≠ some A := by
    intro e
    have := own_base h.own A e
    have := h.hA
    omega
  have nR : v.ownBlock ≠ some Rb := by
    intro e
    have := own_base h.own Rb e
    have := h.hR
    omega
  have sz : ((W.alloc (.cells #[b] 5)).drew).heap.size = W.heap.size + 1 := al_size W _
  have eA : w9.heap[A]? = some (.cells #[.int .i64 0, v] 36 (0, 0)) := by
    rw [hg.block A (by rw [sz]; omega) (Ne.symm nA)]
    exact (al_old W _ A hlA).trans h.at_
  have eR : w9.heap[Rb]? = some (.cells #[.int .i64 0, .slice none 0 0] 36 (0, 0)) := by
    rw [hg.block Rb (by rw [sz]; omega) (Ne.symm nR)]
    exact (al_old W _ Rb hlR).trans h.res
  have hgA : g ≠ A := by
    have := own_base ho g rfl
    have := h.hA
    omega
  have b9 : Below w.heap.size w w9 := by
    have b8 : Below w.heap.size w (W.alloc (.cells #[b] 5)).drew := (h.bel.alloc h.bel.size _).drew
    exact b8.grown hg b8.size (fun r hr => by have := own_base h.own r hr; omega)
  refine ⟨by simp [World.cell?, eA], by simp [World.frozen?, eA], ?_⟩
  refine ⟨ho.kept (grown_set (grown_refl w9 A) 1 _) (.inr (by simpa [Value.ownBlock] using hgA)), ?_, ?_, ?_, ?_, h.hA, h.hR⟩
  · rw [heap_set_at eA]; rfl
  · rw [Below.heap_setCell _ _ _ _ (by have := h.hA; have := h.hR; show Rb ≠ A; omega)]
    exact eR
  · exact b9.setCell (by have := h.hA; show w.heap.size ≤ A; omega) _
  · have : w9.heap.size ≤ (w9.setCell ⟨A, 1, none⟩ (.slice (some ⟨g, 0, none⟩) (k + 1) cap)).heap.size := (grown_set (grown_refl w9 A) 1 _).size
    have := hg.size
    have := h.big
    rw [sz] at *
    omega

theorem setRow_at {v : World} {g : Nat} {old : Array Value} {t : TypeId} (h : v.heap[g]? = some (.cells old t (0, 0))) (cs : Array Value) : (v.setRow g cs).heap[g]? = some (.cells cs t (0, 0)) := by
  simp [World.setRow, Array.getElem?_modify, h]
theorem grown_setRow (w : World) (g : Nat) (cs : Array Value) : w.grownBy (w.setRow g cs) (some g) :=
  ⟨rfl, rfl, rfl, by simp [World.setRow], fun k _ hne => by
    have : g ≠ k := fun e => hne (by rw [e])
    simp [World.setRow, Array.getElem?_modify, this]⟩
theorem own_mono {w : World} {base base' : Nat} {e : TypeId} {size : Nat} {v : Value} {n : Nat} {xs : List Value} (h : w.ownsRow base e size v n xs) (hb : base' ≤ base) : w.ownsRow base' e size v n xs :=
  ⟨h.1, h.2.imp id fun ⟨g, cap, cur, h1, h2, h3⟩ => ⟨g, cap, cur, h1, Nat.le_trans hb h2, h3⟩⟩
theorem La.one {w W : World} {Rb A : Nat} {v : Value} {k : Nat} {xs : List Value} (h : La w Rb A v k xs W) : (#[Value.int IntKind.i64 0, v].all fun x => x.oneCell') = true := by
  rcases h.own.2 with ⟨rfl, _⟩ | ⟨g, cap, cur, rfl, _⟩ <;> simp [Value.oneCell']
theorem La.done {w W : World} {Rb A : Nat} {v : Value} {k : Nat} {xs : List Value} (h : La w Rb A v k xs W) : (W.setRow Rb #[Value.int IntKind.i64 0, v]).ownsRow w.heap.size 5 1 v k xs ∧ Below w.heap.size w (W.setRow Rb #[Value.int IntKind.i64 0, v]) := by
  have hg := grown_setRow W Rb #[Value.int IntKind.i64 0, v]
  refine ⟨own_mono (h.own.kept hg ?_) (by omega), h.bel.grown hg h.bel.size (fun r hr => by have := h.hR; simp at hr; omega)⟩
  right
  intro e
  have := own_base h.own Rb e
  have := h.hR
  omega

set_option maxHeartbeats 1000000 in
theorem sp_load_yes (T Q nn : Nat) (bud : Int) (m : Nat → Option (Bool × List Int)) (a n : Nat) (w : World) (hs : Sx T Q nn bud m w) (hnn : nn ≤ 4096) (h2 : n ≤ 4096) (ha : a + n < 18446744073709551616) (ho : ∀ i, i < n → isOpen (m ((a + i) / 1024)) = true) (hacc : ∀ W, Below w.heap.size w W → Calls Try.prog 61 #[.pointer (some ⟨T, 0, none⟩), .int .u64 a, .int .i64 n] W fun e w' => e = .returned (.int .i64 0) ∧ w' = W) :
    Calls Try.prog 44 #[.pointer (some ⟨T, 0, none⟩), .int .u64 a, .int .i64 n] w fun e w' => ∃ v, e = .returned (.agg #[.int .i64 0, v]) ∧ w'.ownsRow w.heap.size 5 1 v n (Ns .u8 (loadB m a n)) ∧ Below w.heap.size w w' := by
  obtain ⟨i0, hi0, hz0, hz1, hz2⟩ := info_parts Try.info5By
  have H1 := hid hacc
  have HS := hid hs
  have HO := hid ho
  clear hacc hs ho
  go_enter Try.func44, Try.ntmps44
  go_wp2_with fail
  refine (H1.out _ ((Below.refl _ _).alloc (Nat.le_refl _) _)).mono ?_
  rintro _ w1 ⟨rfl, rfl⟩
  have L0 : Hid (La w w.heap.size (w.heap.size + 1) (.slice none 0 0) 0 [] ((w.alloc (.cells #[.int .i64 0, .slice none 0 0] 36)).alloc (.cells #[.int .i64 0, .slice none 0 0] 36))) :=
    ⟨⟨rfl, .inl ⟨rfl, rfl⟩⟩, by rw [← al_size w]; exact al_last _ _, by rw [al_old _ _ _ (by rw [al_size]; omega)]; exact al_last _ _, ((Below.refl _ _).alloc (Nat.le_refl _) _).alloc (by rw [al_size]; omega) _, by rw [al_size, al_size]; omega, rfl, rfl⟩
  go_wp2
  generalize (w.alloc (Obj.cells #[Value.int IntKind.i64 0, Value.slice none 0 0] 36)).alloc (Obj.cells #[Value.int IntKind.i64 0, Value.slice none 0 0] 36) = W0 at L0 ⊢
  generalize hAe : w.heap.size + 1 = A at L0 ⊢
  generalize hRe : w.heap.size = Rb at L0 ⊢
  go_loopw [8] (fun i wr => ∃ k : Nat, k ≤ n ∧ i = .int .i64 k ∧ Hid (∃ v, La w Rb A v k (Ns .u8 (loadB m a k)) wr)) (fun i _ => n - (intOf i).toNat)
  case atStart => exact ⟨0, Nat.zero_le _, rfl, _, L0.out⟩
  case round =>
    obtain ⟨k, hk, rfl, HL⟩ := hrel
    obtain ⟨v, hl⟩ := HL.out
    clear HL
    have cA0 : wr.cell? ⟨A, 0, none⟩ = some (.int .i64 0) := by simp [World.cell?, hl.at_]
    have cA1 : wr.cell? ⟨A, 1, none⟩ = some v := by simp [World.cell?, hl.at_]
    by_cases hlt : k < n
    · have fA : wr.frozen? ⟨A, 1, none⟩ = false := by simp [World.frozen?, hl.at_]
      have HG := hid (get_any T Q nn bud m (a + k) wr.drew (HS.out.below hl.bel).drew hnn (by omega) (HO.out k hlt))
      have NX := hid (fun b g cap w9 h1 h2 => hl.next (w9 := w9) (.int .u8 b) g cap h1 h2)
      have HE := hid (loadB_succ m a k)
      have HR8' := hid (fun b => (hl.own.alloc (.cells #[.int .u8 b] 5)).drew)
      have HN8' := hid (fun (b : Int) => one_new wr (.int .u8 b) 5 wr.heap.size rfl)
      have HZ8' := hid (show ∀ b : Int, w.heap.size + 2 ≤ ((wr.alloc (.cells #[.int .u8 b] 5)).drew).heap.size from fun b => by
        have := hl.big
        have e : ((wr.alloc (.cells #[.int .u8 b] 5)).drew).heap.size = wr.heap.size + 1 := al_size wr _
        omega)
      generalize byteAt m (a + k) = b at *
      have NX := hid (NX.out b)
      have HR8 := hid (HR8'.out b)
      have HN8 := hid (HN8'.out b)
      have HZ8 := hid (HZ8'.out b)
      have cA8 : (wr.alloc (.cells #[.int .u8 b] 5)).cell? ⟨A, 1, none⟩ = some v := by
        have hlA : A < wr.heap.size := by have := hl.hA; have := hl.big; omega
        have e := (al_old wr (.cells #[.int .u8 b] 5) A hlA).trans hl.at_
        simp [World.cell?, e]
      have m1 : IntKind.u64.wrap (k : Int) = (k : Int) := by rw [IntKind.wrap_u64]; omega
      have m2 : IntKind.u64.wrap ((a : Int) + (k : Int)) = ((a + k : Nat) : Int) := by rw [IntKind.wrap_u64]; omega
      clear hl HR8' HN8' HZ8' L0
      go_wp2
      refine wp_region_any (by kernel_rfl) ?_
      simp only [List.size_toArray, List.length_cons, List.length_nil, Nat.reduceAdd, Array.replicate_succ, Array.replicate_zero, List.push_toArray, List.nil_append, List.cons_append]
      refine wpAny_put (i := 0) (d := 24) (v := .pointer (some ⟨A, 1, none⟩)) rfl (by kernel_rfl) (by kernel_rfl) (by kernel_rfl) (by kernel_rfl) (fun _ _ _ h => h) (Or.inl ⟨by kernel_rfl, fun _ => by kernel_rfl⟩) ?_
      simp only [List.setIfInBounds_toArray, List.set_cons_zero, List.set_cons_succ]
      refine wpAny_put (i := 2) (d := 26) (v := .pointer (some ⟨T, 0, none⟩)) rfl (by kernel_rfl) (by kernel_rfl) (by kernel_rfl) (by kernel_rfl) (fun _ _ _ h => h) (Or.inl ⟨by kernel_rfl, fun _ => by kernel_rfl⟩) ?_
      simp only [List.setIfInBounds_toArray, List.set_cons_zero, List.set_cons_succ]
      refine wpAny_put (i := 3) (d := 27) (v := .int .u64 (a : Int)) rfl (by kernel_rfl) (by kernel_rfl) (by kernel_rfl) (by kernel_rfl) (fun _ _ _ h => h) (Or.inl ⟨by kernel_rfl, fun _ => by kernel_rfl⟩) ?_
      simp only [List.setIfInBounds_toArray, List.set_cons_zero, List.set_cons_succ]
      refine wpAny_put (i := 4) (d := 28) (v := .int .i64 (k : Int)) rfl (by kernel_rfl) (by kernel_rfl) (by kernel_rfl) (by kernel_rfl) (fun _ _ _ h => h) (Or.inl ⟨by kernel_rfl, fun _ => by kernel_rfl⟩) ?_
      simp only [List.setIfInBounds_toArray, List.set_cons_zero, List.set_cons_succ]
      refine wpAny_put (i := 5) (d := 29) (v := .int .u64 (k : Int)) rfl (by kernel_rfl) (by kernel_rfl) (by kernel_rfl) (by kernel_rfl) (fun _ _ _ h => h) (Or.inl ⟨by kernel_rfl, fun W => by first | (go_simp; done) | (go_simp; omega)⟩) ?_
      simp only [List.setIfInBounds_toArray, List.set_cons_zero, List.set_cons_succ]
      refine wpAny_put (i := 6) (d := 30) (v := .int .u64 ((a + k : Nat) : Int)) rfl (by kernel_rfl) (by kernel_rfl) (by kernel_rfl) (by kernel_rfl) (fun _ _ _ h => h) (Or.inl ⟨by kernel_rfl, fun W => by first | (go_simp; done) | (go_simp; omega)⟩) ?_
      simp only [List.setIfInBounds_toArray, List.set_cons_zero, List.set_cons_succ]
      refine wpAny_all (rs := [1, 7]) (by kernel_rfl) (by simp) (fun i hi => ?_)
      have hi2 : i = 1 ∨ i = 7 := by simpa using hi
      clear hi
      rcases hi2 with rfl | rfl
      · skip
        refine wpOp_do rfl (by kernel_rfl) (fun K' hK => ?_)
        go_simp
        refine hK.out _ _ ?_
        clear hK K'
        refine wpAny_one (r := 7) (by kernel_rfl) ?_
        refine wpOp_do rfl (by kernel_rfl) (fun K' hK => ?_)
        go_simp
        refine (HG.out).mono ?_
        rintro e w' ⟨rfl, rfl⟩
        refine hK.out _ _ ?_
        clear hK K'
        refine wpAny_one (r := 8) (by kernel_rfl) ?_
        refine wpOp_do rfl (by kernel_rfl) (fun K' hK => ?_)
        go_simp
        refine hK.out _ _ ?_
        clear hK K'
        refine wpAny_one (r := 9) (by kernel_rfl) ?_
        refine wpOp_do rfl (by kernel_rfl) (fun K' hK => ?_)
        refine wp_append_lies _ (.tmp 25) (.tmp 32) 22 rfl (w.heap.size + 2) 5 i0 (.int .u8 0) 1 1 Try.underlying22 hi0 hz0 hz1 hz2 rfl (by omega) v k _ (by rfl) HR8.out ⟨wr.heap.size, 0, none⟩ 1 1 [.int .u8 b] (by rfl) rfl HN8.out ?h1c (by omega) ?b1 ?b2 ?b3 _ rfl ?_
        case h1c => intro u hu; simp at hu; subst hu; rfl
        case b1 => unfold maxLen; omega
        case b2 => omega
        case b3 => exact HZ8.out
        intro g cap w9 ho9 hg9 hgo hgl
        have HQ9 := hid (NX.out g cap w9 ho9 hg9)
        obtain ⟨cA1', fA', _⟩ := HQ9.out
        clear ho9 hg9 hgo hgl cA1 fA cA8
        refine hK.out _ _ ?_
        clear hK K'
        simp only [Act.put, List.setIfInBounds_toArray, List.set_cons_zero, List.set_cons_succ]
        refine wpAny_put (i := 10) (d := 34) (v := .pointer (some ⟨A, 1, none⟩)) rfl (by kernel_rfl) (by kernel_rfl) (by kernel_rfl) (by kernel_rfl) (fun _ _ _ h => h) (Or.inl ⟨by kernel_rfl, fun _ => by kernel_rfl⟩) ?_
        refine wpAny_one (r := 11) (by kernel_rfl) ?_
        refine wpOp_do rfl (by kernel_rfl) (fun K' hK => ?_)
        go_simp
        refine hK.out _ _ ?_
        clear hK K'
        refine wpAny_done (by kernel_rfl) ?_ _
        go_wp2
        go_roundw
        case rel => exact ⟨k + 1, by omega, by go_num, _, by rw [HE.out]; simpa [Ns] using HQ9.out.2.2⟩
        case measure => simp [intOf]; omega
      · skip
        refine wpOp_do rfl (by kernel_rfl) (fun K' hK => ?_)
        go_simp
        refine (HG.out).mono ?_
        rintro e w' ⟨rfl, rfl⟩
        refine hK.out _ _ ?_
        clear hK K'
        refine wpAny_all (rs := [1, 8]) (by kernel_rfl) (by simp) (fun i hi => ?_)
        have hi2 : i = 1 ∨ i = 8 := by simpa using hi
        clear hi
        rcases hi2 with rfl | rfl
        · skip
          refine wpOp_do rfl (by kernel_rfl) (fun K' hK => ?_)
          go_simp
          refine hK.out _ _ ?_
          clear hK K'
          refine wpAny_one (r := 8) (by kernel_rfl) ?_
          refine wpOp_do rfl (by kernel_rfl) (fun K' hK => ?_)
          go_simp
          refine hK.out _ _ ?_
          clear hK K'
          refine wpAny_one (r := 9) (by kernel_rfl) ?_
          refine wpOp_do rfl (by kernel_rfl) (fun K' hK => ?_)
          refine wp_append_lies _ (.tmp 25) (.tmp 32) 22 rfl (w.heap.size + 2) 5 i0 (.int .u8 0) 1 1 Try.underlying22 hi0 hz0 hz1 hz2 rfl (by omega) v k _ (by rfl) HR8.out ⟨wr.heap.size, 0, none⟩ 1 1 [.int .u8 b] (by rfl) rfl HN8.out ?h1c (by omega) ?b1 ?b2 ?b3 _ rfl ?_
          case h1c => intro u hu; simp at hu; subst hu; rfl
          case b1 => unfold maxLen; omega
          case b2 => omega
          case b3 => exact HZ8.out
          intro g cap w9 ho9 hg9 hgo hgl
          have HQ9 := hid (NX.out g cap w9 ho9 hg9)
          obtain ⟨cA1', fA', _⟩ := HQ9.out
          clear ho9 hg9 hgo hgl cA1 fA cA8
          refine hK.out _ _ ?_
          clear hK K'
          simp only [Act.put, List.setIfInBounds_toArray, List.set_cons_zero, List.set_cons_succ]
          refine wpAny_put (i := 10) (d := 34) (v := .pointer (some ⟨A, 1, none⟩)) rfl (by kernel_rfl) (by kernel_rfl) (by kernel_rfl) (by kernel_rfl) (fun _ _ _ h => h) (Or.inl ⟨by kernel_rfl, fun _ => by kernel_rfl⟩) ?_
          refine wpAny_one (r := 11) (by kernel_rfl) ?_
          refine wpOp_do rfl (by kernel_rfl) (fun K' hK => ?_)
          go_simp
          refine hK.out _ _ ?_
          clear hK K'
          refine wpAny_done (by kernel_rfl) ?_ _
          go_wp2
          go_roundw
          case rel => exact ⟨k + 1, by omega, by go_num, _, by rw [HE.out]; simpa [Ns] using HQ9.out.2.2⟩
          case measure => simp [intOf]; omega
        · skip
          refine wpOp_do rfl (by kernel_rfl) (fun K' hK => ?_)
          go_simp
          refine hK.out _ _ ?_
          clear hK K'
          refine wpAny_one (r := 1) (by kernel_rfl) ?_
          refine wpOp_do rfl (by kernel_rfl) (fun K' hK => ?_)
          go_simp
          refine hK.out _ _ ?_
          clear hK K'
          refine wpAny_one (r := 9) (by kernel_rfl) ?_
          refine wpOp_do rfl (by kernel_rfl) (fun K' hK => ?_)
          refine wp_append_lies _ (.tmp 25) (.tmp 32) 22 rfl (w.heap.size + 2) 5 i0 (.int .u8 0) 1 1 Try.underlying22 hi0 hz0 hz1 hz2 rfl (by omega) v k _ (by rfl) HR8.out ⟨wr.heap.size, 0, none⟩ 1 1 [.int .u8 b] (by rfl) rfl HN8.out ?h1c (by omega) ?b1 ?b2 ?b3 _ rfl ?_
          case h1c => intro u hu; simp at hu; subst hu; rfl
          case b1 => unfold maxLen; omega
          case b2 => omega
          case b3 => exact HZ8.out
          intro g cap w9 ho9 hg9 hgo hgl
          have HQ9 := hid (NX.out g cap w9 ho9 hg9)
          obtain ⟨cA1', fA', _⟩ := HQ9.out
          clear ho9 hg9 hgo hgl cA1 fA cA8
          refine hK.out _ _ ?_
          clear hK K'
          simp only [Act.put, List.setIfInBounds_toArray, List.set_cons_zero, List.set_cons_succ]
          refine wpAny_put (i := 10) (d := 34) (v := .pointer (some ⟨A, 1, none⟩)) rfl (by kernel_rfl) (by kernel_rfl) (by kernel_rfl) (by kernel_rfl) (fun _ _ _ h => h) (Or.inl ⟨by kernel_rfl, fun _ => by kernel_rfl⟩) ?_
          refine wpAny_one (r := 11) (by kernel_rfl) ?_
          refine wpOp_do rfl (by kernel_rfl) (fun K' hK => ?_)
          go_simp
          refine hK.out _ _ ?_
          clear hK K'
          refine wpAny_done (by kernel_rfl) ?_ _
          go_wp2
          go_roundw
          case rel => exact ⟨k + 1, by omega, by go_num, _, by rw [HE.out]; simpa [Ns] using HQ9.out.2.2⟩
          case measure => simp [intOf]; omega
    · have hkn : k = n := by omega
      subst hkn
      have HL := hid hl
      clear hl L0
      go_wp2_with (first | (refine wpList_load_row rfl 36 _ rfl _ rfl _ _ _ _ HL.out.at_ Try.underlying36 rfl (by kernel_rfl) ?_) | (refine wpList_store_row rfl 36 _ _ rfl _ _ rfl rfl 36 _ HL.out.res (by kernel_rfl) rfl ?o1 ?_))
      case o1 => exact HL.out.one
      refine bodyPost_ret (results_cell_row (by rfl) _ _ Rb 36 _ (0, 0) _ (by rfl) (setRow_at HL.out.res _) Try.underlying36 rfl (by kernel_rfl)) (by rfl) ?_
      exact ⟨v, rfl, HL.out.done⟩
end Go.Proofs.Ytamfbplchblkbaa
