import Derived.Test.YtamfbplchblkbaaSpJ
namespace Go.Proofs.Ytamfbplchblkbaa
open Go.RowKit Go.Shelf
set_option linter.unusedVariables false

/-- an operation as a value -/
def opV (k p c : Int) (a : Nat) (n : Int) (d : Option Addr) (dl dc : Nat) : Value := .agg #[.int .i64 k, .int .i64 p, .int .i64 c, .int .u64 a, .int .i64 n, .slice d dl dc]

/-- a step under way: its operation lies in block O, its answer goes to block Rb -/
structure Dw (w : World) (op : Array Value) (Q O Rb : Nat) (V : World) : Prop where
  o : V.heap[O]? = some (.cells op 34 (0, 0))
  r : V.heap[Rb]? = some (.cells #[.int .i64 0, .slice none 0 0] 36 (0, 0))
  fr : Sf Q w V
  big : w.heap.size + 2 ≤ V.heap.size
  hO : O = w.heap.size
  hR : Rb = w.heap.size + 1
theorem Dw.first (w : World) (op : Array Value) (Q : Nat) (hQ : Q < w.heap.size) : Dw w op Q w.heap.size (w.heap.size + 1) ((w.alloc (.cells op 34)).alloc (.cells #[.int .i64 0, .slice none 0 0] 36)) :=
  ⟨by rw [al_old _ _ _ (by rw [al_size]; omega)]; exact al_last _ _, by rw [← al_size w (.cells op 34)]; exact al_last _ _,
   Sf.ofBelow (((Below.refl _ _).alloc (Nat.le_refl _) _).alloc (by rw [al_size]; omega) _) hQ, by rw [al_size, al_size]; omega, rfl, rfl⟩
theorem Dw.below {w V V' : World} {op : Array Value} {Q O Rb : Nat} (h : Dw w op Q O Rb V) (hQ : Q < V.heap.size) (hb : Below V.heap.size V V') : Dw w op Q O Rb V' :=
  ⟨by rw [hb.block _ (lt_blk h.o)]; exact h.o, by rw [hb.block _ (lt_blk h.r)]; exact h.r, h.fr.trans (Sf.ofBelow hb hQ), Nat.le_trans h.big hb.size, h.hO, h.hR⟩
theorem Dw.done {w V : World} {op : Array Value} {Q O Rb : Nat} (h : Dw w op Q O Rb V) (hQ : Q < w.heap.size) (cs : Array Value) : Sf Q w (V.setRow Rb cs) :=
  h.fr.newBlock (by have := h.hR; omega) (by have := h.hR; omega) cs
theorem Dw.sx {T Q n : Nat} {bud : Int} {m : Nat → Option (Bool × List Int)} {w V : World} {op : Array Value} {O Rb : Nat} (h : Dw w op Q O Rb V) (hs : Sx T Q n bud m V) (cs : Array Value) : Sx T Q n bud m (V.setRow Rb cs) :=
  hs.other (grown_setRow V Rb cs) (fun c t f e => by rw [h.r] at e; cases e; exact ⟨by decide, by decide, by decide⟩)
/-- an operation of the space has gone by -/
theorem Dw.kind {T Q n : Nat} {bud : Int} {m : Nat → Option (Bool × List Int)} {w V V' : World} {op : Array Value} {O Rb : Nat} (h : Dw w op Q O Rb V) (hs : Sx T Q n bud m V) (hf : Sf Q V V') : Dw w op Q O Rb V' := by
  have np : ∀ g c t f, V.heap[g]? = some (Obj.cells c t f) → t ≠ 5 → ¬ IsPg Q V g := by
    rintro g c t f hg ht ⟨k, hk⟩
    obtain ⟨cc, h1, h2, h3, _⟩ := hs.row
    have e0 : cc[k * 3 + 2]? = some (.slice (some ⟨g, 0, none⟩) 1024 1024) := by simpa [World.cell?, h1] using hk
    have hkn : k < n := by
      by_cases hl : k < n
      · exact hl
      · rw [Array.getElem?_eq_none (by omega)] at e0; cases e0
    have h4 := h3 k hkn
    cases hm : m k with
    | none => rw [hm] at h4; rw [h4.2.2] at e0; simp at e0
    | some q =>
      obtain ⟨l, xs⟩ := q
      rw [hm] at h4
      obtain ⟨_, _, _, g', a3, a5⟩ := h4
      rw [a3] at e0
      simp at e0
      subst e0
      rw [hg] at a5
      simp at a5
      exact ht a5.2.1
  have nQ : ∀ g c t f, V.heap[g]? = some (Obj.cells c t f) → t ≠ 92 → g ≠ Q := by
    rintro g c t f hg ht rfl
    obtain ⟨cc, h1, _⟩ := hs.row
    rw [hg] at h1
    simp at h1
    exact ht h1.2.1
  exact ⟨(hf.block O (lt_blk h.o) (nQ _ _ _ _ h.o (by decide)) (np _ _ _ _ h.o (by decide))).trans h.o, (hf.block Rb (lt_blk h.r) (nQ _ _ _ _ h.r (by decide)) (np _ _ _ _ h.r (by decide))).trans h.r, h.fr.trans hf, Nat.le_trans h.big hf.size, h.hO, h.hR⟩
theorem own_one {W : World} {base : Nat} {v : Value} {k : Nat} {xs : List Value} (h : W.ownsRow base 5 1 v k xs) (c : Int) : (#[Value.int IntKind.i64 c, v].all fun x => x.oneCell') = true := by
  rcases h.2 with ⟨rfl, _⟩ | ⟨g, cap, cur, rfl, _⟩ <;> simp [Value.oneCell']

set_option maxHeartbeats 1000000 in
theorem do_load (T Q nn : Nat) (bud : Int) (m : Nat → Option (Bool × List Int)) (p c : Int) (a : Nat) (n : Int) (d : Option Addr) (dl dc : Nat) (w : World) (hs : Sx T Q nn bud m w) (hnn : nn ≤ 4096) (ha : a < 18446744073709551616) (cd : Int) (hc : accC m a n = cd) :
    Calls Try.prog 23 #[.pointer (some ⟨T, 0, none⟩), opV 4 p c a n d dl dc] w fun e w' => ∃ v, e = .returned (.agg #[.int .i64 cd, v]) ∧ w'.ownsRow w.heap.size 5 1 v (if cd = 0 then n.toNat else 0) (Ns .u8 (if cd = 0 then loadB m a n.toNat else [])) ∧ Below w.heap.size w w' := by
  have HL := hid (fun W (hW : Sx T Q nn bud m W) => sp_load T Q nn bud m a n W hW hnn ha cd hc)
  generalize (if cd = 0 then n.toNat else 0) = L at HL ⊢
  generalize (if cd = 0 then loadB m a n.toNat else []) = xs at HL ⊢
  have HS := hid hs
  clear hs hc
  unfold opV
  go_enter Try.func23, Try.ntmps23
  have D0 := hid (Dw.first w #[.int .i64 4, .int .i64 p, .int .i64 c, .int .u64 a, .int .i64 n, .slice d dl dc] Q HS.out.ltQ)
  have hb0 : Below w.heap.size w ((w.alloc (.cells #[.int .i64 4, .int .i64 p, .int .i64 c, .int .u64 a, .int .i64 n, .slice d dl dc] 34)).alloc (.cells #[.int .i64 0, .slice none 0 0] 36)) := ((Below.refl _ _).alloc (Nat.le_refl _) _).alloc (by rw [al_size]; omega) _
  have S0 := hid (HS.out.below hb0)
  have B0 := hid hb0
  clear hb0
  go_wp2_with fail
  generalize (w.alloc (Obj.cells #[Value.int IntKind.i64 4, Value.int IntKind.i64 p, Value.int IntKind.i64 c, Value.int IntKind.u64 a, Value.int IntKind.i64 n, Value.slice d dl dc] 34)).alloc (Obj.cells #[Value.int IntKind.i64 0, Value.slice none 0 0] 36) = V at D0 S0 B0 ⊢
  generalize hOe : w.heap.size + 1 = Rb at D0 ⊢
  refine (HL.out _ S0.out).mono ?_
  rintro e w3 ⟨v, rfl, ho, hb⟩
  have D3 := hid (D0.out.below S0.out.ltQ hb)
  have HO := hid ho
  have B3 := hid (bl_trans B0.out hb)
  have HZ := hid D0.out.big
  clear ho hb D0 S0 B0
  go_wp2_with (refine wpList_store_row rfl 36 _ _ rfl _ _ rfl rfl 36 _ D3.out.r (by kernel_rfl) rfl (own_one HO.out _) ?_)
  refine bodyPost_ret (results_cell_row (by rfl) _ _ Rb 36 _ (0, 0) _ (by rfl) (setRow_at D3.out.r _) Try.underlying36 rfl (by kernel_rfl)) (by rfl) ?_
  have hle : w.heap.size ≤ V.heap.size := by have := HZ.out; omega
  refine ⟨v, rfl, own_mono (HO.out.kept (grown_setRow w3 Rb _) (.inr fun e => ?_)) hle, B3.out.grown (grown_setRow w3 Rb _) B3.out.size (fun r hr => ?_)⟩
  · have := own_base HO.out Rb e
    have := HZ.out
    omega
  · simp at hr
    omega

set_option maxHeartbeats 1000000 in
theorem do_store (T Q nn : Nat) (bud : Int) (m : Nat → Option (Bool × List Int)) (p c : Int) (a : Nat) (n : Int) (d : Option Addr) (dl dc : Nat) (ys : List Int) (w : World) (hs : Sx T Q nn bud m w) (hd : Dt Q w d dl ys) (hnn : nn ≤ 4096) (ha : a < 18446744073709551616) (cd : Int) (hc : accC m a (dl : Int) = cd) :
    Calls Try.prog 23 #[.pointer (some ⟨T, 0, none⟩), opV 5 p c a n d dl dc] w fun e w' => e = .returned (.agg #[.int .i64 cd, .slice none 0 0]) ∧ Sx T Q nn bud (if cd = 0 then storeM m a ys dl else m) w' ∧ Sf Q w w' := by
  have HL := hid (fun W (hW : Sx T Q nn bud m W) (hD : Dt Q W d dl ys) => sp_store T Q nn bud m a dl dc d ys W hW hD hnn ha cd hc)
  generalize (if cd = 0 then storeM m a ys dl else m) = m' at HL ⊢
  have HS := hid hs
  have HD := hid hd
  clear hs hc hd
  unfold opV
  go_enter Try.func23, Try.ntmps23
  have D0 := hid (Dw.first w #[.int .i64 5, .int .i64 p, .int .i64 c, .int .u64 a, .int .i64 n, .slice d dl dc] Q HS.out.ltQ)
  have hb0 : Below w.heap.size w ((w.alloc (.cells #[.int .i64 5, .int .i64 p, .int .i64 c, .int .u64 a, .int .i64 n, .slice d dl dc] 34)).alloc (.cells #[.int .i64 0, .slice none 0 0] 36)) := ((Below.refl _ _).alloc (Nat.le_refl _) _).alloc (by rw [al_size]; omega) _
  have S0 := hid (HS.out.below hb0)
  have HQ := hid HS.out.ltQ
  clear hb0
  go_wp2_with fail
  generalize (w.alloc (Obj.cells #[Value.int IntKind.i64 5, Value.int IntKind.i64 p, Value.int IntKind.i64 c, Value.int IntKind.u64 a, Value.int IntKind.i64 n, Value.slice d dl dc] 34)).alloc (Obj.cells #[Value.int IntKind.i64 0, Value.slice none 0 0] 36) = V at D0 S0 ⊢
  generalize hOe : w.heap.size + 1 = Rb at D0 ⊢
  generalize hOo : w.heap.size = Ob at D0 ⊢
  refine (HL.out _ S0.out (HD.out.keep D0.out.fr)).mono ?_
  rintro e w3 ⟨rfl, hs3, hf3⟩
  have D3 := hid (D0.out.kind S0.out hf3)
  have S3 := hid hs3
  clear hs3 hf3 D0 S0
  go_wp2_with (refine wpList_store_row rfl 36 _ _ rfl _ _ rfl rfl 36 _ D3.out.r (by kernel_rfl) rfl (by simp [Value.oneCell']) ?_)
  refine bodyPost_ret (results_cell_row (by rfl) _ _ Rb 36 _ (0, 0) _ (by rfl) (setRow_at D3.out.r _) Try.underlying36 rfl (by kernel_rfl)) (by rfl) ?_
  exact ⟨rfl, D3.out.sx S3.out _, D3.out.done HQ.out _⟩

set_option maxHeartbeats 1000000 in
theorem do_none (T : Nat) (kd p c : Int) (a : Nat) (n : Int) (d : Option Addr) (dl dc : Nat) (w : World) (hk : kd < 0 ∨ 5 < kd) :
    Calls Try.prog 23 #[.pointer (some ⟨T, 0, none⟩), opV kd p c a n d dl dc] w fun e w' => e = .returned (.agg #[.int .i64 6, .slice none 0 0]) ∧ Below w.heap.size w w' := by
  have e0 : (kd == 0) = false := by simp; omega
  have e1 : (kd == 1) = false := by simp; omega
  have e2 : (kd == 2) = false := by simp; omega
  have e3 : (kd == 3) = false := by simp; omega
  have e4 : (kd == 4) = false := by simp; omega
  have e5 : (kd == 5) = false := by simp; omega
  clear hk
  unfold opV
  go_enter Try.func23, Try.ntmps23
  go_wp2
  exact bodyPost_ret (v := .agg #[.int .i64 6, .slice none 0 0]) (by simp [results, Try.results23, go_sem]) rfl ⟨rfl, by
    have hb : Below w.heap.size w _ := ((Below.refl _ w).alloc (Nat.le_refl _) (.cells #[.int .i64 kd, .int .i64 p, .int .i64 c, .int .u64 a, .int .i64 n, .slice d dl dc] 34)).alloc (by rw [al_size]; omega) (.cells #[.int .i64 6, .slice none 0 0] 36)
    exact hb⟩
end Go.Proofs.Ytamfbplchblkbaa
