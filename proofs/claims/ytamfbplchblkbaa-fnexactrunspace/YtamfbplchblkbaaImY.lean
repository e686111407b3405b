import Derived.Test.YtamfbplchblkbaaImX
namespace Go.Proofs.Ytamfbplchblkbaa
open Go.ChangeShapes Go.WideShapes Go.ChangeAt Go.RowKit Go.Maps Go.Shelf
set_option linter.unusedVariables false

/-- what slices.Sort does to a slice of one's own -/
def Sorts : Prop := ∀ (v : Value) (os : List Int) (W : World) (base : Nat), W.ownsRow base 3 1 v os.length (Ns .i64 os) → os.length ≤ 4096 →
  Calls Try.prog 43 #[v] W fun e w' => e = .returned (.tuple #[]) ∧ w'.ownsRow base 3 1 v os.length (Ns .i64 (os.mergeSort fun x y => decide (x ≤ y))) ∧ W.grownBy w' v.ownBlock
def mkP (c : Option Nat) : Value := .pointer (c.map fun b => ⟨b, 0, none⟩)
/-- the open pages met so far -/
def Met (m : Nat → Option (Bool × List Int)) (left : Lit → Bool) (os : List Int) : Prop := os.Nodup ∧ ∀ z, z ∈ os ↔ ∃ k : Nat, z = k ∧ k < 4096 ∧ isOpen (m k) = true ∧ left (.int .i64 k) = false
theorem Met.step {m : Nat → Option (Bool × List Int)} {left : Lit → Bool} {os : List Int} (h : Met m left os) {k : Nat} (hk : k < 4096) (hl : left (.int .i64 k) = true) :
    (isOpen (m k) = true → Met m (fun z => left z && !z.sameKey (.int .i64 k)) (os ++ [(k : Int)])) ∧ (isOpen (m k) = false → Met m (fun z => left z && !z.sameKey (.int .i64 k)) os) := by
  have hs : ∀ j : Nat, (Lit.int .i64 (j : Int)).sameKey (.int .i64 (k : Int)) = decide (j = k) := fun j => by
    by_cases e : j = k
    · subst e; simp [Lit.sameKey]
    · have : ¬ ((j : Int) = (k : Int)) := by omega
      simp [Lit.sameKey, e, this]
  have hnot : (k : Int) ∉ os := fun hx => by
    obtain ⟨j, e, _, _, h4⟩ := (h.2 _).1 hx
    obtain rfl : k = j := by omega
    rw [hl] at h4; cases h4
  constructor
  · intro ho
    refine ⟨List.nodup_append.2 ⟨h.1, by simp, fun a ha b hb => by simp at hb; subst hb; exact fun e => hnot (e ▸ ha)⟩, fun z => ?_⟩
    rw [List.mem_append, h.2 z]
    simp only [List.mem_singleton, hs]
    constructor
    · rintro (⟨j, rfl, h1, h2, h3⟩ | rfl)
      · exact ⟨j, rfl, h1, h2, by rw [h3]; rfl⟩
      · exact ⟨k, rfl, hk, ho, by simp⟩
    · rintro ⟨j, rfl, h1, h2, h3⟩
      by_cases e : j = k
      · right; rw [e]
      · left
        refine ⟨j, rfl, h1, h2, ?_⟩
        simpa [e] using h3
  · intro ho
    refine ⟨h.1, fun z => ?_⟩
    rw [h.2 z]
    simp only [hs]
    constructor
    · rintro ⟨j, rfl, h1, h2, h3⟩
      exact ⟨j, rfl, h1, h2, by rw [h3]; rfl⟩
    · rintro ⟨j, rfl, h1, h2, h3⟩
      have e : j ≠ k := fun e => by subst e; rw [ho] at h2; cases h2
      refine ⟨j, rfl, h1, h2, ?_⟩
      simpa [e] using h3

theorem Fr.grownS {S M : Nat} {f : Nat → Option Nat} {w W W' : World} (h : Fr S M f f w W) (hg : W.grownBy W' (some S)) : Fr S M f f w W' :=
  ⟨hg.os.trans h.os, hg.tape.trans h.tape, hg.output.trans h.output, Nat.le_trans h.size hg.size, fun j h0 h1 h2 h3 => by
    rw [hg.block j (Nat.lt_of_lt_of_le h0 h.size) (by simpa using h1)]
    exact h.block j h0 h1 h2 h3, h.made⟩
theorem Fr.belowV {S M : Nat} {f : Nat → Option Nat} {w V W : World} (h : Fr S M f f w V) (hb : Below V.heap.size V W) : Fr S M f f w W :=
  ⟨hb.os.trans h.os, hb.tape.trans h.tape, hb.output.trans h.output, Nat.le_trans h.size hb.size, fun j h0 h1 h2 h3 => by
    rw [hb.block j (Nat.lt_of_lt_of_le h0 h.size)]
    exact h.block j h0 h1 h2 h3, h.made⟩

set_option maxRecDepth 20000 in
set_option maxHeartbeats 2000000 in
theorem told_in (hso : Sorts) (S M nn : Nat) (bud : Int) (f : Nat → Option Nat) (m : Nat → Option (Bool × List Int)) (w : World) (h : Im S M 0 nn bud f w) (hp : Pg f m w) :
    Calls Try.prog 21 #[.pointer (some ⟨S, 0, none⟩)] w fun e w' => ∃ v os, e = .returned (.tuple #[.int .i64 (heldN f 0 4096 : Nat), v]) ∧ w'.ownsRow w.heap.size 3 1 v os.length (Ns .i64 (os.mergeSort fun x y => decide (x ≤ y))) ∧ Met m (fun _ => false) os ∧ Fr S M f f w w' := by
  obtain ⟨i0, hi0, hz0, hz1, hz2⟩ := info_parts Try.info3Op
  have HI := hid h
  have HP := hid hp
  have HSO := hid hso
  clear h hp hso
  go_enter_defers Try.func21, Try.ntmps21
  go_wp2_with fail
  refine (im_lock HI.out).mono ?_
  rintro e V ⟨rfl, hV⟩
  have IV := hid (hV ▸ HI.out.st 1)
  have PV := hid (show Pg f m V by rw [hV]; exact HP.out.other (fun k b hb => Below.heap_setCell _ _ _ _ (HP.out.apart HI.out hb).1))
  have FV := hid (show Fr S M f f w V by rw [hV]; exact (Fr.refl S M f w).grownS (grown_set (grown_refl w S) 0 _))
  obtain ⟨D, hown, hsz, hat, hhas, honly⟩ := IV.out.only
  have HD := hid (And.intro hat (And.intro hhas honly))
  have cM : V.cell? ⟨S, 4, none⟩ = some (.map (some M)) := by simp [World.cell?, IV.out.box]
  have hb4 : heldN f 0 4096 ≤ 4096 := heldN_le f 0 4096
  clear hV hat hhas honly
  go_wp2_with (at_range; refine wpList_range_own _ rfl _ 68 rfl 3 82 keyed3 Try.underlying68 ptrE M 4096 D rfl hown ?_; intro w0 hrg0 hg0 hs0)
  go_frame
  have MV := hid (show M < V.heap.size by obtain ⟨es, clock, hb, _⟩ := hown; exact lt_blk hb)
  have B0 := hid ((Below.refl V.heap.size V).grown hg0 (Nat.le_refl _) (by simp))
  have RG0 := hid hrg0
  have SZ := hid (show V.heap.size + 1 ≤ w0.heap.size by omega)
  have M0 := hid (show Met m (has D) [] from ⟨List.nodup_nil, fun z => by
    constructor
    · intro hz; cases hz
    · rintro ⟨k, rfl, h1, h2, h3⟩
      obtain ⟨g, hg⟩ := open_some PV.out h2
      rw [HD.out.2.1 k (by omega), hg] at h3
      cases h3⟩)
  obtain ⟨r, hr⟩ : ∃ r, r = V.heap.size := ⟨_, rfl⟩
  rw [← hr] at RG0 SZ ⊢
  have HRr := hid hr
  clear hrg0 hg0 hs0 hown hr
  go_loopw [4] (fun v wr => ∃ (left : Lit → Bool) (cnt : Nat) (os : List Int), os.length + cnt ≤ heldN f 0 4096 ∧ Hid (wr.ranges Try.prog 3 ptrE M r 4096 D left cnt) ∧ Hid (wr.ownsRow (r + 1) 3 1 v os.length (Ns .i64 os)) ∧ Hid (Met m left os) ∧ Hid (Below V.heap.size V wr)) (fun _ wr => wr.rangeLeft M r)
  case atStart => exact ⟨_, _, [], by simp [hsz], RG0, hid ⟨rfl, .inl ⟨rfl, rfl⟩⟩, M0, B0⟩
  case round =>
    obtain ⟨left, cnt, os, hle, hrg, hrow, hmet, hbel⟩ := hrel
    clear RG0 M0 B0
    go_wp2_with (at_next; refine wpList_next_ranges _ rfl _ rfl 3 keyed3 ptrE (Value.int .i64) mkP (fun key kl hk => by obtain ⟨x, rfl, _⟩ := Maps.keyOf_int_inv Try.underlying3 hk; exact ⟨x, rfl⟩) (fun v y hv => by exact (ptrE_inv hv).elim (fun ⟨b, e, _⟩ => ⟨some b, e⟩) (fun ⟨e, _⟩ => ⟨none, e⟩)) M r 4096 D left cnt rfl hrg.out ?_ ?_)
    · intro hc0 hl0
      have HM := hid (show Met m (fun _ => false) os from ⟨hmet.out.1, fun z => by rw [hmet.out.2 z]; simp [hl0]⟩)
      have HSV := HSO.out _ os wr (r + 1) hrow.out (by omega)
      obtain ⟨vp, vl, vc, rfl⟩ : ∃ p l c, u4 = .slice p l c := by
        rcases hrow.out.2 with ⟨rfl, _⟩ | ⟨g, cap, cur, rfl, _⟩
        · exact ⟨_, _, _, rfl⟩
        · exact ⟨_, _, _, rfl⟩
      have hob := own_base hrow.out
      have HX := hid HSV
      have OB := hid hob
      clear HSV hob hc0 hl0 hrg hmet
      go_wp2_with fail
      refine (HX.out).mono ?_
      rintro e w5 ⟨rfl, ho5, hg5⟩
      have B5 := hid (hbel.out.grown hg5 hbel.out.size (fun g e => by have := OB.out g e; have := HRr.out; omega))
      have I5 := hid (IV.out.grown (W' := w5) ⟨B5.out.os, B5.out.tape, B5.out.output, B5.out.size, fun k h _ => B5.out.block k h⟩)
      have H5 := hid ho5
      have c4 : w5.cell? ⟨S, 4, none⟩ = some (.map (some M)) := by simp [World.cell?, I5.out.box]
      clear ho5 hg5 hbel hrow HX
      go_wp2_with (at_len; refine wpList_len_im _ rfl _ rfl I5.out rfl ?_)
      refine leaves_cons (f := 37) (args := #[.pointer (some ⟨S, 0, none⟩)]) (by simp) (by simp [go_sem]) ?_
      refine (Go.MuLone.unlock_deferred muLib ⟨S, 0, none⟩ .returning _ (by simp [World.cell?, I5.out.box]) (by simp [World.frozen?, I5.out.box])).mono ?_
      rintro e u' w'' ⟨rfl, rfl, rfl⟩
      have hSr : S < r + 1 := by have := HRr.out; have := lt_blk IV.out.box; omega
      have g6 := grown_set (grown_refl w5 S) 0 (.int .i32 0)
      refine ⟨_, results_tmp2 (t := 2) (u := 3) (by rfl) _ _ _, _, os, rfl, own_mono (H5.out.kept g6 (.inr fun e => by have := OB.out _ e; omega)) ?_, HM.out, (FV.out.belowV B5.out).grownS g6⟩
      have := HRr.out
      have := FV.out.size
      omega
    · intro x c kl yd yp w2 cnt2 hkey hlk hv hat hrg2 hlt hg2 hs2 hen
      obtain ⟨x', ex, rfl, _⟩ := Maps.keyOf_int_inv Try.underlying3 hkey
      cases ex
      obtain ⟨k, rfl, hk4, hfk⟩ := HD.out.2.2 _ (has_true_of_atKey hat)
      obtain ⟨g, hg⟩ := Option.isSome_iff_exists.1 hfk
      have e1 := hat .nil
      rw [HD.out.1 k (by omega), hg] at e1
      obtain rfl : c = some g := by
        cases c with
        | none => simp [mkP, ptrE] at hv; rw [← hv.1] at e1; simp [asD] at e1
        | some b =>
          simp [mkP, ptrE] at hv
          rw [← hv.1] at e1
          simp [asD] at e1
          have : b = g := by omega
          rw [this]
      obtain ⟨l, xs, hm, hxl, hb⟩ := PV.out.cell hg
      have B2 := hid (hbel.out.grown hg2 hbel.out.size (fun j e => by cases e; have := HRr.out; omega))
      have cl : w2.cell? ⟨g, 1024, none⟩ = some (.bool l) := below_cell B2.out (PV.out.lockCell hg hm).1
      have R2 := hid (hrow.out.kept hg2 (.inr fun e => by have := own_base hrow.out _ e; omega))
      have G2 := hid hrg2
      have ST := hid (hmet.out.step hk4 hlk)
      have LE := hid (And.intro hrg2.left_eq hrg.out.left_eq)
      have S2 := hid hs2
      have hlo := hrg.out.lt
      unfold mkP at hen ⊢
      simp only [Option.map_some] at hen ⊢
      have ho : isOpen (m k) = !l := by rw [hm]; rfl
      clear hkey hlk hv hat hrg2 hg2 hs2 hfk hg e1 hb hxl hrow hmet hbel hrg
      cases l with
      | true =>
        go_wp2
        go_roundw
        case rel => exact ⟨_, cnt2, os, by omega, G2, R2, ST.out.2 (by rw [ho]; rfl), B2⟩
        case measure => rw [LE.out.1, LE.out.2]; exact hlt
      | false =>
        have R3 := hid (R2.out.alloc (.cells #[.int .i64 (k : Int)] 3))
        have B3 := hid (B2.out.alloc B2.out.size (.cells #[.int .i64 (k : Int)] 3))
        go_wp2_with (at_builtin; refine wpList_append_own _ rfl _ _ 27 rfl (r + 1) 3 i0 (.int .i64 0) 1 8 Try.underlying27 hi0 hz0 hz1 hz2 rfl (by omega) _ _ _ rfl R3.out _ 1 1 [.int .i64 (k : Int)] rfl rfl ?hc ?h1c ?b1 ?b2 ?b3 ?_)
        case hc => exact one_new _ _ _ _ (by simp)
        case h1c => intro u hu; simp at hu; subst hu; rfl
        case b1 => unfold maxLen; omega
        case b2 => omega
        case b3 => have := S2.out; have := HRr.out; simp; omega
        intro v1 w3 ho1 hg3 _
        have hob := own_base R3.out
        have G3 := hid ((G2.out.alloc (.cells #[.int .i64 (k : Int)] 3)).kept hg3 (fun e => by have := hob _ e.symm; have := MV.out; have := HRr.out; omega) (fun e => by have := hob _ e.symm; omega))
        have B4 := hid (B3.out.grown hg3 B3.out.size (fun j e => by have := hob _ e; have := HRr.out; omega))
        have O3 := hid (show w3.ownsRow (r + 1) 3 1 v1 (os ++ [(k : Int)]).length (Ns .i64 (os ++ [(k : Int)])) by rw [List.length_append]; simpa [Ns] using ho1)
        have LE3 := hid G3.out.left_eq
        clear ho1 hg3 hob
        go_wp2
        go_roundw
        case rel => exact ⟨_, cnt2, os ++ [(k : Int)], by rw [List.length_append]; simp; omega, G3, O3, ST.out.1 (by rw [ho]; rfl), B4⟩
        case measure => rw [LE3.out, LE.out.2]; exact hlt
end Go.Proofs.Ytamfbplchblkbaa
