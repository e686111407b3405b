import Derived.Test.YtiddopgeomojbaaMh
import Derived.Maps.RangeWalk
import Derived.Sort.KeysCollected
namespace Go.Proofs.Ytiddopgeomojbaa
open Go.RowKit Go.Shelf
set_option linter.unusedVariables false

theorem Da.keep {S M : Nat} {f : Nat → Option Nat} {w V : World} {p : Option Addr} {n : Nat} {ys : List Int} (h : Da S M f w p n ys) (hf : Fr S M f f w V) : Da S M f V p n ys := by
  refine ⟨h.1, fun i hi => ?_⟩
  obtain ⟨x, e, c, l, h1, h2, h3⟩ := h.2 i hi
  refine ⟨x, e, ?_, Nat.lt_of_lt_of_le l hf.size, h1, h2, h3⟩
  unfold World.cell? at c ⊢
  rw [hf.block _ l h1 h2 h3]
  exact c

/-- stores, as the document has them -/
theorem im_store (S M nn : Nat) (bud : Int) (f : Nat → Option Nat) (m : Nat → Option (Bool × List Int)) (p c : Int) (a : Nat) (n : Int) (d : Option Addr) (dl dc : Nat) (ys : List Int) (w : World) (h : Im S M 0 nn bud f w) (hp : Pg f m w) (ha : a < 18446744073709551616) (hd : Da S M f w d dl ys) (hdc : dl ≤ dc) :
    Calls Try.prog 20 #[.pointer (some ⟨S, 0, none⟩), opV 5 p c a n d dl dc] w fun e w' => e = .returned (.agg #[.int .i64 (stepM nn bud m 5 p c a n ys).2.1, .slice none 0 0]) ∧ Ims S M nn bud f (stepM nn bud m 5 p c a n ys).1 w w' := by
  have es : stepM nn bud m 5 p c a n ys = (if accC m a (ys.length : Int) = 0 then storeM m a ys ys.length else m, accC m a (ys.length : Int), []) := by unfold stepM; rw [if_neg (by decide), if_pos rfl]
  rw [es, hd.1]
  refine run_store S M nn bud f m _ _ p c a n d dl dc w h hp (fun V i q r => ?_)
  by_cases hz : accC m a (dl : Int) = 0
  · rw [hz, if_pos rfl]
    obtain ⟨k, hk, h1, h2, h3⟩ := acc_zero hz
    obtain rfl : dl = k := by omega
    have hl := store_in S M 1 nn bud f m a dl dc d ys V i q h1 hdc h2 (hd.keep r) (fun d hd => open_some q (h3 d hd)) (fun W iW qW => by
      have := im_access S M 1 nn bud f m a (dl : Nat) W iW qW ha
      rwa [hz] at this)
    refine ((callsIn_wide (n := 5)).1 hl).mono ?_
    rintro e w' ⟨rfl, r1, r2, r3⟩
    exact ⟨rfl, f, r1, r2, r3⟩
  · rw [if_neg hz]
    refine (store_no1 S a _ dl dc d V (by simpa using hz) (im_access S M 1 nn bud f m a dl _ (i.alloc _) (q.alloc _) ha)).mono ?_
    rintro e w' ⟨rfl, rfl⟩
    exact ⟨rfl, f, i.alloc _, q.alloc _, Fr.ofGrown (World.grownBy_alloc _ _ none)⟩

/-- one operation, whatever its kind -/
theorem im_do (S M nn : Nat) (bud : Int) (f : Nat → Option Nat) (m : Nat → Option (Bool × List Int)) (kd p c : Int) (a : Nat) (n : Int) (d : Option Addr) (dl dc : Nat) (ys : List Int) (w : World) (h : Im S M 0 nn bud f w) (hp : Pg f m w) (hout : ∀ k, nn ≤ k → m k = none) (hnn : nn ≤ 4096) (ha : a < 18446744073709551616) (hpm : p ≤ 9223372036854775807) (hd : Da S M f w d dl ys) (hdc : dl ≤ dc) :
    Calls Try.prog 20 #[.pointer (some ⟨S, 0, none⟩), opV kd p c a n d dl dc] w fun e w' => ∃ v, e = .returned (.agg #[.int .i64 (stepM nn bud m kd p c a n ys).2.1, v]) ∧ w'.ownsRow w.heap.size 5 1 v (stepM nn bud m kd p c a n ys).2.2.length (Ns .u8 (stepM nn bud m kd p c a n ys).2.2) ∧ Ims S M nn bud f (stepM nn bud m kd p c a n ys).1 w w' := by
  have key : ∀ (e : Ending) (w' : World), (stepM nn bud m kd p c a n ys).2.2 = [] → (e = .returned (.agg #[.int .i64 (stepM nn bud m kd p c a n ys).2.1, .slice none 0 0]) ∧ Ims S M nn bud f (stepM nn bud m kd p c a n ys).1 w w') → ∃ v, e = .returned (.agg #[.int .i64 (stepM nn bud m kd p c a n ys).2.1, v]) ∧ w'.ownsRow w.heap.size 5 1 v (stepM nn bud m kd p c a n ys).2.2.length (Ns .u8 (stepM nn bud m kd p c a n ys).2.2) ∧ Ims S M nn bud f (stepM nn bud m kd p c a n ys).1 w w' := by
    rintro e w' h0 ⟨rfl, r⟩
    exact ⟨_, rfl, by rw [h0]; exact ⟨rfl, .inl ⟨rfl, rfl⟩⟩, r⟩
  by_cases h4 : kd = 4
  · subst h4
    exact im_load S M nn bud f m p c a n d dl dc ys w h hp ha
  · by_cases h5 : kd = 5
    · subst h5
      refine (im_store S M nn bud f m p c a n d dl dc ys w h hp ha hd hdc).mono (fun e w' => key e w' ?_)
      unfold stepM; rw [if_neg (by decide), if_pos rfl]
    · by_cases hk : kd < 0 ∨ 5 < kd
      · refine (im_none S M nn bud f m kd p c a n d dl dc ys w h hp hk).mono (fun e w' => key e w' ?_)
        unfold stepM; rw [if_neg h4, if_neg h5, if_pos hk]
      · refine (im_page S M nn bud f m kd p c a n d dl dc ys w h hp hout hnn hpm (by omega)).mono (fun e w' => key e w' ?_)
        unfold stepM; rw [if_neg h4, if_neg h5, if_neg hk]; split <;> rfl
theorem freshM_at (m : Nat → Option (Bool × List Int)) (p : Nat) : ∀ k j, p + k ≤ j → freshM m p k j = m j
  | 0, j, h => rfl
  | k + 1, j, h => by
    show updM (freshM m p k) (p + k) _ j = m j
    rw [updM_other _ _ _ _ (by omega)]
    exact freshM_at m p k j (by omega)
theorem goneM_at (m : Nat → Option (Bool × List Int)) (p : Nat) : ∀ k j, p + k ≤ j → goneM m p k j = m j
  | 0, j, h => rfl
  | k + 1, j, h => by
    show updM (goneM m p k) (p + k) _ j = m j
    rw [updM_other _ _ _ _ (by omega)]
    exact goneM_at m p k j (by omega)
theorem stepM_out (nn : Nat) (bud : Int) (m : Nat → Option (Bool × List Int)) (kd p c : Int) (a : Nat) (n : Int) (ys : List Int) (h : ∀ k, nn ≤ k → m k = none) : ∀ k, nn ≤ k → (stepM nn bud m kd p c a n ys).1 k = none := by
  intro k hk
  unfold stepM
  split
  · exact h k hk
  · split
    · dsimp only
      split
      · have : ∀ j, (storeM m a ys j k).isSome = (m k).isSome := by
          intro j
          induction j with
          | zero => rfl
          | succ j ih =>
            show (putM (storeM m a ys j) (a + j) (ys[j]?.getD 0) k).isSome = _
            unfold putM
            by_cases e : k = (a + j) / 1024
            · subst e; rw [updM_same, Option.isSome_map]; exact ih
            · rw [updM_other _ _ _ _ e]; exact ih
        have := this ys.length
        rw [h k hk] at this
        cases hs : storeM m a ys ys.length k with
        | none => rfl
        | some q => rw [hs] at this; cases this
      · exact h k hk
    · split
      · exact h k hk
      · split
        · rename_i hok
          unfold okP at hok
          have hle : p.toNat + c.toNat ≤ k := by omega
          have h0 := h k hk
          dsimp only
          unfold pageM
          split
          · split
            · exact h0
            · split
              · exact h0
              · rw [← h0]; exact freshM_at m _ _ k hle
          · split
            · exact h0
            · split
              · rw [← h0]; exact goneM_at m _ _ k hle
              · split
                · rw [← h0]; exact lockedM_at m _ _ _ k hle
                · rw [← h0]; exact lockedM_at m _ _ _ k hle
        · exact h k hk
end Go.Proofs.Ytiddopgeomojbaa

namespace Go.Proofs.Ytiddopgeomojbaa
open Go.ChangeShapes Go.WideShapes Go.ChangeAt Go.RowKit Go.Maps Go.Shelf
set_option linter.unusedVariables false

theorem sub_all : ∀ (L1 L2 : List Int), L1.Nodup → (∀ x, x ∈ L1 → x ∈ L2) → L2.length ≤ L1.length → ∀ y, y ∈ L2 → y ∈ L1
  | [], L2, _, _, hl, y, hy => by
    have : L2 = [] := List.length_eq_zero_iff.1 (by simpa using hl)
    rw [this] at hy; cases hy
  | a :: t, L2, hn, hs, hl, y, hy => by
    have ha := hs a (by simp)
    rw [List.nodup_cons] at hn
    by_cases e : y = a
    · subst e; simp
    · have h1 : ∀ x, x ∈ t → x ∈ L2.erase a := fun x hx => (List.mem_erase_of_ne (fun e : x = a => hn.1 (e ▸ hx))).2 (hs x (by simp [hx]))
      have h2 : (L2.erase a).length ≤ t.length := by rw [List.length_erase_of_mem ha]; simp at hl; omega
      have h3 := sub_all t (L2.erase a) hn.2 h1 h2 y ((List.mem_erase_of_ne e).2 hy)
      simp [h3]

def litZ : Lit → Int
  | .int _ x => x
  | _ => 0
/-- the pages that are held -/
def heldL (f : Nat → Option Nat) (N : Nat) : List Int := ((List.range N).filter fun k => (f k).isSome).map fun k => ((k : Nat) : Int)
theorem heldL_len (f : Nat → Option Nat) : ∀ N, (heldL f N).length = heldN f 0 N
  | 0 => rfl
  | N + 1 => by
    have ih := heldL_len f N
    unfold heldL at ih ⊢
    rw [List.range_succ, List.filter_append, List.map_append, List.length_append, ih]
    simp only [heldN, Nat.zero_add]
    congr 1
    cases hfN : (f N).isSome <;> simp [List.filter, hfN]
theorem heldL_nodup (f : Nat → Option Nat) (N : Nat) : (heldL f N).Nodup := by
  unfold heldL
  refine List.pairwise_map.2 ((List.nodup_range.filter _).imp ?_)
  intro a b h e
  exact h (by omega)
theorem heldL_mem (f : Nat → Option Nat) (N : Nat) (z : Int) : z ∈ heldL f N ↔ ∃ k : Nat, z = k ∧ k < N ∧ (f k).isSome = true := by
  unfold heldL
  simp only [List.mem_map, List.mem_filter, List.mem_range]
  constructor
  · rintro ⟨k, ⟨h1, h2⟩, rfl⟩; exact ⟨k, rfl, h1, h2⟩
  · rintro ⟨k, rfl, h1, h2⟩; exact ⟨k, ⟨h1, h2⟩, rfl⟩
/-- the map has no other keys than the pages' -/
theorem Im.only {S M : Nat} {st n bud : Int} {f : Nat → Option Nat} {W : World} (h : Im S M st n bud f W) : ∃ D : DataW Unit, W.ownsMap Try.prog 3 ptrE M 4096 D ∧ Maps.size D = heldN f 0 4096 ∧ (∀ k : Nat, k < 4611686018427387904 → D.atKey (.int .i64 k) .nil = asD (f k)) ∧ (∀ k : Nat, k < 4611686018427387904 → has D (.int .i64 k) = (f k).isSome) ∧ ∀ z : Int, has D (.int .i64 z) = true → ∃ k : Nat, z = k ∧ k < 4096 ∧ (f k).isSome = true := by
  obtain ⟨D, hown, hsz, hat, hhas⟩ := h.map
  refine ⟨D, hown, hsz, hat, hhas, ?_⟩
  obtain ⟨es, hD, hpw, _⟩ := hown.entries keyed3
  have hint : ∀ p ∈ es, ∃ x : Int, p.1 = .int .i64 x := by
    obtain ⟨es', hD', hko⟩ := hown.keysOf
    obtain rfl : es = es' := by rw [hD] at hD'; simpa using hD'
    intro p hp
    obtain ⟨v, hv⟩ := hko p hp
    obtain ⟨x, _, hx, _⟩ := Maps.keyOf_int_inv Try.underlying3 hv
    exact ⟨x, hx⟩
  subst hD
  have hm : ∀ z : Int, z ∈ es.map (fun p => litZ p.1) ↔ has (.map es) (.int .i64 z) = true := by
    intro z
    rw [has_eq, List.any_eq_true, List.mem_map]
    constructor
    · rintro ⟨p, hp, rfl⟩
      obtain ⟨x, hx⟩ := hint p hp
      exact ⟨p, hp, by rw [hx]; simp [Lit.sameKey, litZ]⟩
    · rintro ⟨p, hp, hs⟩
      obtain ⟨x, hx⟩ := hint p hp
      refine ⟨p, hp, ?_⟩
      rw [hx] at hs ⊢
      simpa [Lit.sameKey, litZ] using hs
  intro z hz
  have := sub_all (heldL f 4096) (es.map fun p => litZ p.1) (heldL_nodup f 4096) (fun x hx => by
    obtain ⟨k, rfl, h1, h2⟩ := (heldL_mem f 4096 x).1 hx
    rw [hm, hhas k (by omega)]; exact h2) (by rw [List.length_map, heldL_len, ← hsz]; exact Nat.le_refl _) z ((hm z).2 hz)
  exact (heldL_mem f 4096 z).1 this

theorem opensM_mem (m : Nat → Option (Bool × List Int)) : ∀ (n : Nat) (z : Int), z ∈ opensM m n ↔ ∃ k : Nat, z = k ∧ k < n ∧ isOpen (m k) = true
  | 0, z => by simp [opensM]
  | n + 1, z => by
    have ih := opensM_mem m n z
    simp only [opensM]
    split
    · rename_i ho
      rw [List.mem_append, ih]
      simp only [List.mem_singleton]
      constructor
      · rintro (⟨k, rfl, h1, h2⟩ | rfl)
        · exact ⟨k, rfl, by omega, h2⟩
        · exact ⟨n, rfl, by omega, ho⟩
      · rintro ⟨k, rfl, h1, h2⟩
        by_cases e : k = n
        · right; rw [e]
        · left; exact ⟨k, rfl, by omega, h2⟩
    · rename_i ho
      rw [ih]
      constructor
      · rintro ⟨k, rfl, h1, h2⟩; exact ⟨k, rfl, by omega, h2⟩
      · rintro ⟨k, rfl, h1, h2⟩
        refine ⟨k, rfl, ?_, h2⟩
        by_cases e : k = n
        · subst e; exact absurd h2 ho
        · omega
theorem opensM_sorted (m : Nat → Option (Bool × List Int)) : ∀ n : Nat, (opensM m n).Pairwise (fun x y => x < y)
  | 0 => List.Pairwise.nil
  | n + 1 => by
    simp only [opensM]
    split
    · rw [List.pairwise_append]
      refine ⟨opensM_sorted m n, by simp, fun x hx y hy => ?_⟩
      obtain ⟨k, rfl, h1, _⟩ := (opensM_mem m n x).1 hx
      simp at hy
      omega
    · exact opensM_sorted m n
/-- what was collected, sorted -/
theorem sort_opens (m : Nat → Option (Bool × List Int)) (n : Nat) (os : List Int) (hn : os.Nodup) (h : ∀ z, z ∈ os ↔ ∃ k : Nat, z = k ∧ k < n ∧ isOpen (m k) = true) : (os.mergeSort fun x y => decide (x ≤ y)) = opensM m n := by
  have hp : os.Perm (opensM m n) := (List.perm_ext_iff_of_nodup hn ((opensM_sorted m n).imp fun h => by omega)).2 fun z => by rw [h z, opensM_mem]
  have tr : ∀ a b c : Int, decide (a ≤ b) = true → decide (b ≤ c) = true → decide (a ≤ c) = true := fun a b c h1 h2 => by simp at *; omega
  have to : ∀ a b : Int, (decide (a ≤ b) || decide (b ≤ a)) = true := fun a b => by simp; omega
  refine List.Perm.eq_of_pairwise (le := fun a b => decide (a ≤ b) = true) (fun a b _ _ h1 h2 => by simp at h1 h2; omega) (List.pairwise_mergeSort tr to os) ((opensM_sorted m n).imp fun h => by simp; omega) ((List.mergeSort_perm os _).trans hp)
end Go.Proofs.Ytiddopgeomojbaa

namespace Go.Proofs.Ytiddopgeomojbaa
open Go.ChangeShapes Go.WideShapes Go.ChangeAt Go.RowKit Go.Maps Go.Shelf
set_option linter.unusedVariables false

/-- what slices.Sort does to a slice of one's own -/
def Sorts : Prop := ∀ (v : Value) (os : List Int) (W : World) (base : Nat), W.ownsRow base 3 1 v os.length (Ns .i64 os) → os.length ≤ 4096 →
  Calls Try.prog 43 #[v] W fun e w' => e = .returned (.tuple #[]) ∧ w'.ownsRow base 3 1 v os.length (Ns .i64 (os.mergeSort fun x y => decide (x ≤ y))) ∧ W.grownBy w' v.ownBlock
def mkP (c : Option Nat) : Value := .pointer (c.map fun b => ⟨b, 0, none⟩)
/-- the open pages met so far -/
def Met (m : Nat → Option (Bool × List Int)) (left : Lit → Bool) (os : List Int) : Prop := os.Nodup ∧ ∀ z, z ∈ os ↔ ∃ k : Nat, z = k ∧ k < 4096 ∧ isOpen (m k) = true ∧ left (.int .i64 k) = false
theorem Met.step {m : Nat → Option (Bool × List Int)} {left : Lit → Bool} {os : List Int} (h : Met m left os) {k : Nat} (hk : k < 4096) (hl : left (.int .i64 k) = true) :
    (isOpen (m k) = true → Met m (fun z => left z && !z.sameKey (.int .i64 k)) (os ++ [(k : Int)])) ∧ (isOpen (m k) = false → Met m (fun z => left z && !z.sameKey (.int .i64 k)) os) := by
  have hs : ∀ j : Nat, (Lit.int .i64 (j : Int)).sameKey (.int .i64 (k : Int)) = decide (j = k) := fun j => by
    by_cases e : j = k
    · subst e; simp [Lit.sameKey]
    · have : ¬ ((j : Int) = (k : Int)) := by omega
      simp [Lit.sameKey, e, this]
  have hnot : (k : Int) ∉ os := fun hx => by
    obtain ⟨j, e, _, _, h4⟩ := (h.2 _).1 hx
    obtain rfl : k = j := by omega
    rw [hl] at h4; cases h4
  constructor
  · intro ho
    refine ⟨List.nodup_append.2 ⟨h.1, by simp, fun a ha b hb => by simp at hb; subst hb; exact fun e => hnot (e ▸ ha)⟩, fun z => ?_⟩
    rw [List.mem_append, h.2 z]
    simp only [List.mem_singleton, hs]
    constructor
    · rintro (⟨j, rfl, h1, h2, h3⟩ | rfl)
      · exact ⟨j, rfl, h1, h2, by rw [h3]; rfl⟩
      · exact ⟨k, rfl, hk, ho, by simp⟩
    · rintro ⟨j, rfl, h1, h2, h3⟩
      by_cases e : j = k
      · right; rw [e]
      · left
        refine ⟨j, rfl, h1, h2, ?_⟩
        simpa [e] using h3
  · intro ho
    refine ⟨h.1, fun z => ?_⟩
    rw [h.2 z]
    simp only [hs]
    constructor
    · rintro ⟨j, rfl, h1, h2, h3⟩
      exact ⟨j, rfl, h1, h2, by rw [h3]; rfl⟩
    · rintro ⟨j, rfl, h1, h2, h3⟩
      have e : j ≠ k := fun e => by subst e; rw [ho] at h2; cases h2
      refine ⟨j, rfl, h1, h2, ?_⟩
      simpa [e] using h3

theorem Fr.grownS {S M : Nat} {f : Nat → Option Nat} {w W W' : World} (h : Fr S M f f w W) (hg : W.grownBy W' (some S)) : Fr S M f f w W' :=
  ⟨hg.os.trans h.os, hg.tape.trans h.tape, hg.output.trans h.output, Nat.le_trans h.size hg.size, fun j h0 h1 h2 h3 => by
    rw [hg.block j (Nat.lt_of_lt_of_le h0 h.size) (by simpa using h1)]
    exact h.block j h0 h1 h2 h3, h.made⟩
theorem Fr.belowV {S M : Nat} {f : Nat → Option Nat} {w V W : World} (h : Fr S M f f w V) (hb : Below V.heap.size V W) : Fr S M f f w W :=
  ⟨hb.os.trans h.os, hb.tape.trans h.tape, hb.output.trans h.output, Nat.le_trans h.size hb.size, fun j h0 h1 h2 h3 => by
    rw [hb.block j (Nat.lt_of_lt_of_le h0 h.size)]
    exact h.block j h0 h1 h2 h3, h.made⟩

set_option maxRecDepth 20000 in
set_option maxHeartbeats 2000000 in
theorem told_in (hso : Sorts) (S M nn : Nat) (bud : Int) (f : Nat → Option Nat) (m : Nat → Option (Bool × List Int)) (w : World) (h : Im S M 0 nn bud f w) (hp : Pg f m w) :
    Calls Try.prog 21 #[.pointer (some ⟨S, 0, none⟩)] w fun e w' => ∃ v os, e = .returned (.tuple #[.int .i64 (heldN f 0 4096 : Nat), v]) ∧ w'.ownsRow w.heap.size 3 1 v os.length (Ns .i64 (os.mergeSort fun x y => decide (x ≤ y))) ∧ Met m (fun _ => false) os ∧ Fr S M f f w w' := by
  obtain ⟨i0, hi0, hz0, hz1, hz2⟩ := info_parts Try.info3Op
  have HI := hid h
  have HP := hid hp
  have HSO := hid hso
  clear h hp hso
  go_enter_defers Try.func21, Try.ntmps21
  go_wp2_with fail
  refine (im_lock HI.out).mono ?_
  rintro e V ⟨rfl, hV⟩
  have IV := hid (hV ▸ HI.out.st 1)
  have PV := hid (show Pg f m V by rw [hV]; exact HP.out.other (fun k b hb => Below.heap_setCell _ _ _ _ (HP.out.apart HI.out hb).1))
  have FV := hid (show Fr S M f f w V by rw [hV]; exact (Fr.refl S M f w).grownS (grown_set (grown_refl w S) 0 _))
  obtain ⟨D, hown, hsz, hat, hhas, honly⟩ := IV.out.only
  have HD := hid (And.intro hat (And.intro hhas honly))
  have cM : V.cell? ⟨S, 4, none⟩ = some (.map (some M)) := by simp [World.cell?, IV.out.box]
  have hb4 : heldN f 0 4096 ≤ 4096 := heldN_le f 0 4096
  clear hV hat hhas honly
  go_wp2_with (at_range; refine wpList_range_own _ rfl _ 68 rfl 3 82 keyed3 Try.underlying68 ptrE M 4096 D rfl hown ?_; intro w0 hrg0 hg0 hs0)
  go_frame
  have MV := hid (show M < V.heap.size by obtain ⟨es, clock, hb, _⟩ := hown; exact lt_blk hb)
  have B0 := hid ((Below.refl V.heap.size V).grown hg0 (Nat.le_refl _) (by simp))
  have RG0 := hid hrg0
  have SZ := hid (show V.heap.size + 1 ≤ w0.heap.size by omega)
  have M0 := hid (show Met m (has D) [] from ⟨List.nodup_nil, fun z => by
    constructor
    · intro hz; cases hz
    · rintro ⟨k, rfl, h1, h2, h3⟩
      obtain ⟨g, hg⟩ := open_some PV.out h2
      rw [HD.out.2.1 k (by omega), hg] at h3
      cases h3⟩)
  obtain ⟨r, hr⟩ : ∃ r, r = V.heap.size := ⟨_, rfl⟩
  rw [← hr] at RG0 SZ ⊢
  have HRr := hid hr
  clear hrg0 hg0 hs0 hown hr
  go_loopw [4] (fun v wr => ∃ (left : Lit → Bool) (cnt : Nat) (os : List Int), os.length + cnt ≤ heldN f 0 4096 ∧ Hid (wr.ranges Try.prog 3 ptrE M r 4096 D left cnt) ∧ Hid (wr.ownsRow (r + 1) 3 1 v os.length (Ns .i64 os)) ∧ Hid (Met m left os) ∧ Hid (Below V.heap.size V wr)) (fun _ wr => wr.rangeLeft M r)
  case atStart => exact ⟨_, _, [], by simp [hsz], RG0, hid ⟨rfl, .inl ⟨rfl, rfl⟩⟩, M0, B0⟩
  case round =>
    obtain ⟨left, cnt, os, hle, hrg, hrow, hmet, hbel⟩ := hrel
    clear RG0 M0 B0
    go_wp2_with (at_next; refine wpList_next_ranges _ rfl _ rfl 3 keyed3 ptrE (Value.int .i64) mkP (fun key kl hk => by obtain ⟨x, rfl, _⟩ := Maps.keyOf_int_inv Try.underlying3 hk; exact ⟨x, rfl⟩) (fun v y hv => by exact (ptrE_inv hv).elim (fun ⟨b, e, _⟩ => ⟨some b, e⟩) (fun ⟨e, _⟩ => ⟨none, e⟩)) M r 4096 D left cnt rfl hrg.out ?_ ?_)
    · intro hc0 hl0
      have HM := hid (show Met m (fun _ => false) os from ⟨hmet.out.1, fun z => by rw [hmet.out.2 z]; simp [hl0]⟩)
      have HSV := HSO.out _ os wr (r + 1) hrow.out (by omega)
      obtain ⟨vp, vl, vc, rfl⟩ : ∃ p l c, u4 = .slice p l c := by
        rcases hrow.out.2 with ⟨rfl, _⟩ | ⟨g, cap, cur, rfl, _⟩
        · exact ⟨_, _, _, rfl⟩
        · exact ⟨_, _, _, rfl⟩
      have hob := own_base hrow.out
      have HX := hid HSV
      have OB := hid hob
      clear HSV hob hc0 hl0 hrg hmet
      go_wp2_with fail
      refine (HX.out).mono ?_
      rintro e w5 ⟨rfl, ho5, hg5⟩
      have B5 := hid (hbel.out.grown hg5 hbel.out.size (fun g e => by have := OB.out g e; have := HRr.out; omega))
      have I5 := hid (IV.out.grown (W' := w5) ⟨B5.out.os, B5.out.tape, B5.out.output, B5.out.size, fun k h _ => B5.out.block k h⟩)
      have H5 := hid ho5
      have c4 : w5.cell? ⟨S, 4, none⟩ = some (.map (some M)) := by simp [World.cell?, I5.out.box]
      clear ho5 hg5 hbel hrow HX
      go_wp2_with (at_len; refine wpList_len_im _ rfl _ rfl I5.out rfl ?_)
      refine leaves_cons (f := 37) (args := #[.pointer (some ⟨S, 0, none⟩)]) (by simp) (by simp [go_sem]) ?_
      refine (Go.MuLone.unlock_deferred muLib ⟨S, 0, none⟩ .returning _ (by simp [World.cell?, I5.out.box]) (by simp [World.frozen?, I5.out.box])).mono ?_
      rintro e u' w'' ⟨rfl, rfl, rfl⟩
      have hSr : S < r + 1 := by have := HRr.out; have := lt_blk IV.out.box; omega
      have g6 := grown_set (grown_refl w5 S) 0 (.int .i32 0)
      refine ⟨_, results_tmp2 (t := 2) (u := 3) (by rfl) _ _ _, _, os, rfl, own_mono (H5.out.kept g6 (.inr fun e => by have := OB.out _ e; omega)) ?_, HM.out, (FV.out.belowV B5.out).grownS g6⟩
      have := HRr.out
      have := FV.out.size
      omega
    · intro x c kl yd yp w2 cnt2 hkey hlk hv hat hrg2 hlt hg2 hs2 hen
      obtain ⟨x', ex, rfl, _⟩ := Maps.keyOf_int_inv Try.underlying3 hkey
      cases ex
      obtain ⟨k, rfl, hk4, hfk⟩ := HD.out.2.2 _ (has_true_of_atKey hat)
      obtain ⟨g, hg⟩ := Option.isSome_iff_exists.1 hfk
      have e1 := hat .nil
      rw [HD.out.1 k (by omega), hg] at e1
      obtain rfl : c = some g := by
        cases c with
        | none => simp [mkP, ptrE] at hv; rw [← hv.1] at e1; simp [asD] at e1
        | some b =>
          simp [mkP, ptrE] at hv
          rw [← hv.1] at e1
          simp [asD] at e1
          have : b = g := by omega
          rw [this]
      obtain ⟨l, xs, hm, hxl, hb⟩ := PV.out.cell hg
      have B2 := hid (hbel.out.grown hg2 hbel.out.size (fun j e => by cases e; have := HRr.out; omega))
      have cl : w2.cell? ⟨g, 1024, none⟩ = some (.bool l) := below_cell B2.out (PV.out.lockCell hg hm).1
      have R2 := hid (hrow.out.kept hg2 (.inr fun e => by have := own_base hrow.out _ e; omega))
      have G2 := hid hrg2
      have ST := hid (hmet.out.step hk4 hlk)
      have LE := hid (And.intro hrg2.left_eq hrg.out.left_eq)
      have S2 := hid hs2
      have hlo := hrg.out.lt
      unfold mkP at hen ⊢
      simp only [Option.map_some] at hen ⊢
      have ho : isOpen (m k) = !l := by rw [hm]; rfl
      clear hkey hlk hv hat hrg2 hg2 hs2 hfk hg e1 hb hxl hrow hmet hbel hrg
      cases l with
      | true =>
        go_wp2
        go_roundw
        case rel => exact ⟨_, cnt2, os, by omega, G2, R2, ST.out.2 (by rw [ho]; rfl), B2⟩
        case measure => rw [LE.out.1, LE.out.2]; exact hlt
      | false =>
        have R3 := hid (R2.out.alloc (.cells #[.int .i64 (k : Int)] 3))
        have B3 := hid (B2.out.alloc B2.out.size (.cells #[.int .i64 (k : Int)] 3))
        go_wp2_with (at_builtin; refine wpList_append_own _ rfl _ _ 27 rfl (r + 1) 3 i0 (.int .i64 0) 1 8 Try.underlying27 hi0 hz0 hz1 hz2 rfl (by omega) _ _ _ rfl R3.out _ 1 1 [.int .i64 (k : Int)] rfl rfl ?hc ?h1c ?b1 ?b2 ?b3 ?_)
        case hc => exact one_new _ _ _ _ (by simp)
        case h1c => intro u hu; simp at hu; subst hu; rfl
        case b1 => unfold maxLen; omega
        case b2 => omega
        case b3 => have := S2.out; have := HRr.out; simp; omega
        intro v1 w3 ho1 hg3 _
        have hob := own_base R3.out
        have G3 := hid ((G2.out.alloc (.cells #[.int .i64 (k : Int)] 3)).kept hg3 (fun e => by have := hob _ e.symm; have := MV.out; have := HRr.out; omega) (fun e => by have := hob _ e.symm; omega))
        have B4 := hid (B3.out.grown hg3 B3.out.size (fun j e => by have := hob _ e; have := HRr.out; omega))
        have O3 := hid (show w3.ownsRow (r + 1) 3 1 v1 (os ++ [(k : Int)]).length (Ns .i64 (os ++ [(k : Int)])) by rw [List.length_append]; simpa [Ns] using ho1)
        have LE3 := hid G3.out.left_eq
        clear ho1 hg3 hob
        go_wp2
        go_roundw
        case rel => exact ⟨_, cnt2, os ++ [(k : Int)], by rw [List.length_append]; simp; omega, G3, O3, ST.out.1 (by rw [ho]; rfl), B4⟩
        case measure => rw [LE3.out, LE.out.2]; exact hlt
end Go.Proofs.Ytiddopgeomojbaa
