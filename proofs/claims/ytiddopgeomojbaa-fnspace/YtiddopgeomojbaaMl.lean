import Derived.Test.YtiddopgeomojbaaMk
import Derived.Laws.Bits64b
import Derived.Laws.BytesString
import Derived.OrdersHeld
import Derived.Deep.RegionHeld
import Derived.Deep.RegionWith
import Derived.Deep.DeepCutAuto
import Derived.Deep.CutBlock
import Derived.Lib.SmallJoins
namespace Go.Proofs.Ytiddopgeomojbaa
open Go.RowKit Go.Shelf Go.Maps
set_option linter.unusedVariables false

/-- an operation that is refused changes nothing -/
theorem stepM_refused (nn : Nat) (bud : Int) (m : Nat → Option (Bool × List Int)) (kd p c : Int) (a : Nat) (n : Int) (ys : List Int) (h : (stepM nn bud m kd p c a n ys).2.1 ≠ 0) : (stepM nn bud m kd p c a n ys).1 = m := by
  unfold stepM at h ⊢
  split
  · rfl
  · rename_i h4
    rw [if_neg h4] at h
    split
    · rename_i h5
      rw [if_pos h5] at h
      dsimp only at h ⊢
      rw [if_neg h]
    · rename_i h5
      rw [if_neg h5] at h
      split
      · rfl
      · rename_i h6
        rw [if_neg h6] at h
        split
        · rename_i h7
          rw [if_pos h7] at h
          dsimp only at h ⊢
          unfold pageM at h ⊢
          split
          · rename_i h8
            rw [if_pos h8] at h
            split
            · rfl
            · rename_i h9
              rw [if_neg h9] at h
              split
              · rfl
              · rename_i h10
                rw [if_neg h10] at h
                exact absurd rfl h
          · rename_i h8
            rw [if_neg h8] at h
            split
            · rfl
            · rename_i h9
              rw [if_neg h9] at h
              exfalso
              revert h
              split
              · simp
              · split <;> simp
        · rfl
theorem runM_take (nn : Nat) (bud : Int) (l r : List Op9) : ∀ k, k ≤ l.length → runM nn bud (l ++ r) k = runM nn bud l k
  | 0, _ => rfl
  | k + 1, h => by
    simp only [runM]
    rw [runM_take nn bud l r k (by omega), List.getElem?_append_left (by omega)]
/-- the operations among the first that were answered by 0, and their answers -/
def okL (nn : Nat) (bud : Int) (ops : List Op9) : Nat → List Op9 × List (Int × List Int)
  | 0 => ([], [])
  | k + 1 => match ops[k]? with
    | none => okL nn bud ops k
    | some o => if (stepM nn bud (runM nn bud ops k).1 o.kd o.p o.c o.a o.n o.ys).2.1 = 0 then ((okL nn bud ops k).1 ++ [o], (okL nn bud ops k).2 ++ [(stepM nn bud (runM nn bud ops k).1 o.kd o.p o.c o.a o.n o.ys).2]) else okL nn bud ops k
/-- they run alone as they ran among the others -/
theorem runM_ok (nn : Nat) (bud : Int) (ops : List Op9) : ∀ k, runM nn bud (okL nn bud ops k).1 (okL nn bud ops k).1.length = ((runM nn bud ops k).1, (okL nn bud ops k).2)
  | 0 => rfl
  | k + 1 => by
    have ih := runM_ok nn bud ops k
    simp only [okL]
    cases ho : ops[k]? with
    | none => simp only [runM, ho]; exact ih
    | some o =>
      rw [runM_succ nn bud ops k o ho]
      dsimp only
      split
      · rename_i h0
        dsimp only
        rw [List.length_append, List.length_singleton, runM_succ nn bud _ _ o (by simp), runM_take _ _ _ _ _ (Nat.le_refl _), ih]
      · rename_i h0
        rw [ih, stepM_refused nn bud _ _ _ _ _ _ _ h0]
end Go.Proofs.Ytiddopgeomojbaa

namespace Go.Proofs.Ytiddopgeomojbaa
open Go.RowKit Go.Shelf Go.Maps
set_option linter.unusedVariables false

/-- a byte behind a put -/
theorem byte_put (m : Nat → Option (Bool × List Int)) (p : Nat) (x : Int) (q : Nat) {l : Bool} {xs : List Int} (hm : m (p / 1024) = some (l, xs)) (hx : xs.length = 1024) : byteAt (putM m p x) q = if q = p then x else byteAt m q := by
  unfold byteAt putM updM
  by_cases e : q / 1024 = p / 1024
  · rw [if_pos e, e, hm]
    simp only [Option.map_some, Option.getD_some]
    rw [List.getElem?_set]
    by_cases e2 : q % 1024 = p % 1024
    · have : q = p := by omega
      subst this
      simp [hx, Nat.mod_lt]
    · have : q ≠ p := fun e => e2 (by rw [e])
      rw [if_neg (Ne.symm e2), if_neg this]
  · rw [if_neg e, if_neg (fun h => e (by rw [h]))]
/-- a byte behind a store -/
theorem byte_store (m : Nat → Option (Bool × List Int)) (a : Nat) (ys : List Int) (hf : ∀ k l xs, m k = some (l, xs) → xs.length = 1024) : ∀ n, reachN m a n = true → (∀ k l xs, storeM m a ys n k = some (l, xs) → xs.length = 1024) ∧ ∀ i, i < n → byteAt (storeM m a ys n) (a + i) = ys[i]?.getD 0
  | 0, _ => ⟨hf, fun i hi => by omega⟩
  | n + 1, h => by
    simp only [reachN, Bool.and_eq_true] at h
    obtain ⟨ih1, ih2⟩ := byte_store m a ys hf n h.1
    have ho : isOpen (storeM m a ys n ((a + n) / 1024)) = true := by rw [storeM_open]; exact h.2
    obtain ⟨l, xs, hm⟩ : ∃ l xs, storeM m a ys n ((a + n) / 1024) = some (l, xs) := by
      cases hs : storeM m a ys n ((a + n) / 1024) with
      | none => rw [hs] at ho; cases ho
      | some q => exact ⟨q.1, q.2, rfl⟩
    have hx := ih1 _ _ _ hm
    refine ⟨fun k l' xs' hk => ?_, fun i hi => ?_⟩
    · simp only [storeM, putM, updM] at hk
      split at hk
      · rw [hm] at hk
        simp at hk
        rw [← hk.2]
        simpa using hx
      · exact ih1 _ _ _ hk
    · simp only [storeM]
      rw [byte_put _ _ _ _ hm hx]
      split
      · rename_i e
        have : i = n := by omega
        rw [this]
      · rename_i e
        exact ih2 i (by omega)
/-- a load gives what was just stored -/
theorem load_store (m : Nat → Option (Bool × List Int)) (a : Nat) (ys : List Int) (hf : ∀ k l xs, m k = some (l, xs) → xs.length = 1024) (h : reachN m a ys.length = true) : loadB (storeM m a ys ys.length) a ys.length = ys := by
  unfold loadB
  apply List.ext_getElem (by simp)
  intro i h1 h2
  simp only [List.getElem_map, List.getElem_range]
  rw [(byte_store m a ys hf ys.length h).2 i h2]
  simp [h2]
end Go.Proofs.Ytiddopgeomojbaa

namespace Go.Proofs.Ytiddopgeomojbaa
open Go.RowKit Go.Shelf Go.Maps
set_option linter.unusedVariables false

set_option maxHeartbeats 1000000 in
theorem sameI (a b : Option Addr) (len ca cb : Nat) (zs : List Int) (w : World) (hlen : len ≤ 1048576)
    (ha : ∀ i, i < len → ∃ g, a = some ⟨g, 0, none⟩ ∧ w.cell? ⟨g, i, none⟩ = some (.int .i64 (zs[i]?.getD 0)))
    (hb : ∀ i, i < len → ∃ g, b = some ⟨g, 0, none⟩ ∧ w.cell? ⟨g, i, none⟩ = some (.int .i64 (zs[i]?.getD 0))) :
    Calls Try.prog 8 #[.slice a len ca, .slice b len cb] w fun e w' => e = .returned (.bool true) ∧ Below w.heap.size w w' := by
  go_enter Try.func8, Try.ntmps8
  go_wp2
  go_loopw [13] (fun i wr => ∃ (k : Nat), k ≤ len ∧ i = .int .i64 k ∧ Below w.heap.size w wr) (fun i _ => len - (intOf i).toNat)
  case atStart => exact ⟨0, Nat.zero_le _, rfl, Below.refl _ _⟩
  case round =>
    obtain ⟨k, hk, rfl, hbel⟩ := hrel
    by_cases hlt : k < len
    · obtain ⟨ga, rfl, hca⟩ := ha k hlt
      obtain ⟨gb, rfl, hcb⟩ := hb k hlt
      have hca' := below_cell hbel hca
      have hcb' := below_cell hbel hcb
      have HB := hid hbel
      clear ha hb hca hcb hbel
      go_wp2
      go_region
      all_goals go_wp2
      go_roundw
      case rel => exact ⟨k + 1, by omega, by go_num, HB.out.drew⟩
      case measure => simp [intOf]; omega
    · go_wp2
      go_ret
      exact ⟨rfl, hbel⟩
theorem sameZ (u1 u2 : Value) (os : List Int) (w : World) (h1 : Zs w u1 os) (h2 : Zs w u2 os) (hl : os.length ≤ 1048576) :
    Calls Try.prog 8 #[u1, u2] w fun e w' => e = .returned (.bool true) ∧ Below w.heap.size w w' := by
  obtain ⟨a, ca, rfl, h3⟩ := h1
  obtain ⟨b, cb, rfl, h4⟩ := h2
  exact sameI a b os.length ca cb os w hl h3 h4
/-- the pages are whole -/
def Whole (m : Nat → Option (Bool × List Int)) : Prop := ∀ k l xs, m k = some (l, xs) → xs.length = 1024
theorem Whole.upd {m : Nat → Option (Bool × List Int)} (h : Whole m) (k : Nat) {v : Option (Bool × List Int)} (hv : ∀ l xs, v = some (l, xs) → xs.length = 1024) : Whole (updM m k v) := fun j l xs hj => by
  unfold updM at hj
  split at hj
  · exact hv l xs hj
  · exact h j l xs hj
theorem whole_step (nn : Nat) (bud : Int) (m : Nat → Option (Bool × List Int)) (kd p c : Int) (a : Nat) (n : Int) (ys : List Int) (h : Whole m) : Whole (stepM nn bud m kd p c a n ys).1 := by
  have hfresh : ∀ f k, Whole (freshM m f k) := fun f k => by
    induction k with
    | zero => exact h
    | succ k ih => exact ih.upd _ (fun l xs e => by cases e; exact List.length_replicate)
  have hgone : ∀ f k, Whole (goneM m f k) := fun f k => by
    induction k with
    | zero => exact h
    | succ k ih => exact ih.upd _ (fun l xs e => by cases e)
  have hlock : ∀ f b k, Whole (lockedM m f b k) := fun f b k => by
    induction k with
    | zero => exact h
    | succ k ih =>
      refine ih.upd _ (fun l xs e => ?_)
      cases hq : lockedM m f b k (f + k) with
      | none => rw [hq] at e; cases e
      | some q => rw [hq] at e; cases e; exact ih _ q.1 _ hq
  have hstore : ∀ k, Whole (storeM m a ys k) := fun k => by
    induction k with
    | zero => exact h
    | succ k ih =>
      refine ih.upd _ (fun l xs e => ?_)
      cases hq : storeM m a ys k ((a + k) / 1024) with
      | none => rw [hq] at e; cases e
      | some q => rw [hq] at e; cases e; simpa using ih _ q.1 _ hq
  unfold stepM
  split
  · exact h
  · split
    · dsimp only
      split
      · exact hstore _
      · exact h
    · split
      · exact h
      · split
        · dsimp only
          unfold pageM
          repeat' split
          all_goals first | exact h | exact hfresh _ _ | exact hgone _ _ | exact hlock _ _ _
        · exact h
theorem whole_run (nn : Nat) (bud : Int) (ops : List Op9) : ∀ k, Whole (runM nn bud ops k).1
  | 0 => fun k l xs h => by cases h
  | k + 1 => by
    simp only [runM]
    cases ops[k]? with
    | none => exact whole_run nn bud ops k
    | some o => exact whole_step nn bud _ _ _ _ _ _ _ (whole_run nn bud ops k)
end Go.Proofs.Ytiddopgeomojbaa

namespace Go.Proofs.Ytiddopgeomojbaa
open Go.ChangeShapes Go.WideShapes Go.ChangeAt Go.RowKit
set_option linter.unusedVariables false

theorem IsRow.byte {w : World} {a : Option Addr} {len cap : Nat} {zs : List Int} (h : IsRow .u8 w a len cap zs) (i : Nat) (hi : i < len) : ∃ x c, a = some x ∧ 0 ≤ c ∧ c ≤ 255 ∧ w.cell? (x.add i) = some (.int .u8 c) := by
  rcases h with ⟨_, rfl, _, rfl⟩ | ⟨x, h1, h2, h3, h4, h5, h6⟩
  · omega
  · have hi' : i < zs.length := by omega
    have hb := bounds_u8 (h6 _ (List.getElem_mem hi'))
    refine ⟨x, _, h1, hb.1, hb.2, ?_⟩
    rw [h5 i hi']; simp [hi']

/-- the reader of a code lies in block R; nothing that lay when the law began has turned -/
structure Rd (w0 : World) (a : Option Addr) (len cap : Nat) (R : Nat) (W : World) : Prop where
  box : ∃ i : Nat, i ≤ len ∧ W.heap[R]? = some (.cells #[.slice a len cap, .int .i64 i] 49 (0, 0))
  bel : Below w0.heap.size w0 W
  new : w0.heap.size ≤ R

theorem Rd.below {w0 : World} {a : Option Addr} {len cap R : Nat} {W W' : World} (h : Rd w0 a len cap R W) (hb : Below W.heap.size W W') : Rd w0 a len cap R W' := by
  obtain ⟨i, hi, h1⟩ := h.box
  exact ⟨⟨i, hi, by rw [hb.block R (lt_blk h1)]; exact h1⟩, bl_trans h.bel hb, h.new⟩
theorem Rd.drew {w0 : World} {a : Option Addr} {len cap R : Nat} {W : World} (h : Rd w0 a len cap R W) : Rd w0 a len cap R W.drew := h.below (Below.refl _ _).drew

set_option maxHeartbeats 400000 in
theorem next_any (w0 : World) (a : Option Addr) (len cap : Nat) (zs : List Int) (h0 : IsRow .u8 w0 a len cap zs) (hlen : len ≤ 1048576) (R : Nat) (W : World) (hR : Rd w0 a len cap R W) :
    Calls Try.prog 17 #[.pointer (some ⟨R, 0, none⟩)] W fun e W' => (∃ c : Nat, c ≤ 255 ∧ e = .returned (.int .i64 c)) ∧ Rd w0 a len cap R W' ∧ W.grownBy W' (some R) := by
  obtain ⟨i, hi, hbox⟩ := hR.box
  have c0 : W.cell? ⟨R, 0, none⟩ = some (.slice a len cap) := by simp [World.cell?, hbox]
  have c1 : W.cell? ⟨R, 1, none⟩ = some (.int .i64 i) := by simp [World.cell?, hbox]
  have f1 : W.frozen? ⟨R, 1, none⟩ = false := by simp [World.frozen?, hbox]
  have HR := hid hR
  have HB := hid hbox
  clear hbox hR
  by_cases hlt : i < len
  · obtain ⟨x, c, rfl, hc0, hc1, hcx⟩ := h0.byte i hlt
    obtain ⟨c, rfl⟩ := Int.eq_ofNat_of_zero_le hc0
    have hcx' := below_cell HR.out.bel hcx
    have R1 := hid (show Rd w0 (some x) len cap R (W.setCell ⟨R, 1, none⟩ (.int .i64 (i + 1 : Nat))) from ⟨⟨i + 1, by omega, by simp [World.setCell, Array.getElem?_modify, HB.out]⟩, HR.out.bel.setCell HR.out.new _, HR.out.new⟩)
    have ec : ((i + 1 : Nat) : Int) = (i : Int) + 1 := by omega
    rw [ec] at R1
    have G1 := hid (grown_set (grown_refl W R) 1 (.int .i64 ((i : Int) + 1)))
    clear hcx h0 hc0 ec
    go_enter Try.func17, Try.ntmps17
    go_wp2
    go_region
    go_wp2
    go_region
    go_wp2
    go_ret
    exact ⟨⟨c, by omega, rfl⟩, R1.out.drew.drew, ⟨G1.out.os, G1.out.tape, G1.out.output, G1.out.size, G1.out.block⟩⟩
  · go_enter Try.func17, Try.ntmps17
    go_wp2
    go_region
    go_wp2
    go_ret
    exact ⟨⟨0, by omega, rfl⟩, HR.out.drew, ⟨rfl, rfl, rfl, Nat.le_refl _, fun _ _ _ => rfl⟩⟩
end Go.Proofs.Ytiddopgeomojbaa

namespace Go.Proofs.Ytiddopgeomojbaa
open Go.RowKit Go.Shelf Go.Maps
set_option linter.unusedVariables false

set_option maxHeartbeats 1000000 in
/-- n bytes are drawn -/
theorem bytes_any (w0 : World) (a : Option Addr) (len cap : Nat) (zs : List Int) (h0 : IsRow .u8 w0 a len cap zs) (hlen : len ≤ 1048576) (R n : Nat) (hn : n ≤ 10000) (W : World) (hR : Rd w0 a len cap R W) :
    Calls Try.prog 18 #[.pointer (some ⟨R, 0, none⟩), .int .i64 n] W fun e W' => ∃ v ys, e = .returned v ∧ ys.length = n ∧ W'.ownsRow W.heap.size 5 1 v n (Ns .u8 ys) ∧ Rd w0 a len cap R W' ∧ W.grownBy W' (some R) := by
  obtain ⟨i0, hi0, hz0, hz1, hz2⟩ := info_parts Try.info5By
  have HN := hid (fun V (hV : Rd w0 a len cap R V) => next_any w0 a len cap zs h0 hlen R V hV)
  have HR := hid hR
  have HL := hid (show R < W.heap.size by obtain ⟨i, _, h⟩ := hR.box; exact lt_blk h)
  clear h0 hR
  go_enter Try.func18, Try.ntmps18
  go_wp2
  go_loopw [5, 6] (fun v i wr => ∃ (k : Nat) (ys : List Int), k ≤ n ∧ i = .int .i64 k ∧ ys.length = k ∧ Hid (wr.ownsRow W.heap.size 5 1 v k (Ns .u8 ys)) ∧ Hid (Rd w0 a len cap R wr) ∧ Hid (W.grownBy wr (some R))) (fun _ i _ => n - (intOf i).toNat)
  case atStart => exact ⟨0, [], Nat.zero_le _, rfl, rfl, hid ⟨rfl, .inl ⟨rfl, rfl⟩⟩, HR, hid ⟨rfl, rfl, rfl, Nat.le_refl _, fun _ _ _ => rfl⟩⟩
  case round =>
    obtain ⟨k, ys, hk, rfl, hy, HO, HD, HG⟩ := hrel
    clear HR
    obtain ⟨va, vb, vc, rfl⟩ : ∃ a b c, u5 = .slice a b c := own_sl HO.out
    have HY := hid hy
    clear hy
    by_cases hlt : k < n
    · go_wp2_with fail
      refine (HN.out _ HD.out).mono ?_
      rintro e w1 ⟨⟨c, hc, rfl⟩, rd, hg⟩
      have hne : ∀ {v : Value} {xs : List Value} {j : Nat}, wr.ownsRow W.heap.size 5 1 v j xs → v.ownBlock ≠ some R := fun ho e => by have := (ho.lt R e).1; have := HL.out; omega
      have O1 := hid (HO.out.kept hg (.inr (hne HO.out)))
      have D1 := hid rd
      have G1 := hid (show W.grownBy w1 (some R) from ⟨hg.os.trans HG.out.os, hg.tape.trans HG.out.tape, hg.output.trans HG.out.output, Nat.le_trans HG.out.size hg.size, fun g h1 h2 => (hg.block g (Nat.lt_of_lt_of_le h1 HG.out.size) h2).trans (HG.out.block g h1 h2)⟩)
      clear rd hg hne HO HD HG
      have O8 := hid (O1.out.alloc (.cells #[.int .u8 (c : Int)] 5))
      go_wp2_with (at_builtin; refine wpList_append_own _ rfl _ _ 22 rfl W.heap.size 5 i0 (.int .u8 0) 1 1 Try.underlying22 hi0 hz0 hz1 hz2 rfl (by omega) _ _ _ rfl O8.out _ 1 1 [.int .u8 (c : Int)] rfl rfl ?hc ?h1c ?b1 ?b2 ?b3 ?_)
      case hc => exact one_new _ _ _ _ (by simp)
      case h1c => intro x hx; simp at hx; subst hx; rfl
      case b1 => unfold maxLen; omega
      case b2 => omega
      case b3 => have := G1.out.size; simp; omega
      intro v1 w9 ho9 hg9 _
      have ob := own_base O8.out
      have D9 := hid (show Rd w0 a len cap R w9 by
        have D8 := D1.out.below ((Below.refl _ _).alloc (Nat.le_refl _) (.cells #[.int .u8 (c : Int)] 5))
        obtain ⟨i, hi, hbx⟩ := D8.box
        refine ⟨⟨i, hi, ?_⟩, D8.bel.grown hg9 D8.bel.size (fun r hr => ?_), D8.new⟩
        · rw [hg9.block R (lt_blk hbx) (fun e => by have := ob _ e.symm; have := HL.out; omega)]
          exact hbx
        · have := ob _ hr
          have := HL.out
          have := D8.new
          omega)
      have G9 := hid (show W.grownBy w9 (some R) by
        have g8 := World.grownBy_alloc w1 (.cells #[.int .u8 (c : Int)] 5) none
        refine ⟨hg9.os.trans G1.out.os, hg9.tape.trans G1.out.tape, hg9.output.trans G1.out.output, Nat.le_trans G1.out.size (Nat.le_trans g8.size hg9.size), fun g h1 h2 => ?_⟩
        rw [hg9.block g (Nat.lt_of_lt_of_le h1 (Nat.le_trans G1.out.size g8.size)) (fun e => by have := ob _ e.symm; omega), g8.block g (Nat.lt_of_lt_of_le h1 G1.out.size) (by simp)]
        exact G1.out.block g h1 h2)
      have O9 := hid (show w9.ownsRow W.heap.size 5 1 v1 (k + 1) (Ns .u8 (ys ++ [(c : Int)])) by simpa [Ns] using ho9)
      clear ho9 hg9 ob O8 O1 D1 G1
      go_wp2
      go_roundw
      case rel => exact ⟨k + 1, ys ++ [(c : Int)], by omega, by go_num, by simp [HY.out], O9, D9, G9⟩
      case measure => simp [intOf]; omega
    · have : k = n := by omega
      subst this
      go_wp2
      go_ret
      exact ⟨_, ys, rfl, HY.out, HO.out, HD.out, HG.out⟩
end Go.Proofs.Ytiddopgeomojbaa

namespace Go.Proofs.Ytiddopgeomojbaa
open Go.RowKit Go.Shelf Go.Maps
set_option linter.unusedVariables false

/-- bytes as a string -/
def strB (data : List Int) : ByteArray := data.foldl (fun r n => r.push (UInt8.ofNat n.toNat)) ByteArray.empty
theorem conv_bs {w : World} {u : Value} {data : List Int} (h : Bs w u data) : (convert 22 9 u).run Try.prog w = .ok (.string (strB data)) w := by
  obtain ⟨a, c, rfl, hc⟩ := h
  rw [run_convert_bytes_string w 22 9 5 a data.length c Try.underlying22 Try.underlying5 Try.underlying9]
  cases a with
  | none =>
    have : data = [] := by
      cases data with
      | nil => rfl
      | cons x r => obtain ⟨g, e, _⟩ := hc 0 (by simp); cases e
    subst this
    unfold Conv.bytesToString
    simp [strB, Sem.run_pure]
  | some p =>
    refine run_bytesToString w p data.length c data ?_
    have := run_loadCells_list (P := Try.prog) w p (data.map (Value.int .u8)) (fun j v hj => by
      have hj2 := (List.getElem?_eq_some_iff.1 hj).1
      simp at hj2
      obtain ⟨g, e, h1⟩ := hc j hj2
      cases e
      rw [Addr.add_mid, Nat.zero_add, h1, ← hj]
      simp [hj2])
    simpa using this
theorem sameB (u1 u2 : Value) (data : List Int) (w : World) (h1 : Bs w u1 data) (h2 : Bs w u2 data) :
    Calls Try.prog 9 #[u1, u2] w fun e w' => e = .returned (.bool true) ∧ w' = w := by
  have e1 := conv_bs h1
  have e2 := conv_bs h2
  generalize strB data = t at e1 e2
  clear h1 h2
  go_enter Try.func9, Try.ntmps9
  go_wp2
  go_ret
  exact ⟨by simp, rfl⟩
end Go.Proofs.Ytiddopgeomojbaa

namespace Go.Proofs.Ytiddopgeomojbaa
open Go.RowKit Go.Shelf Go.Maps
set_option linter.unusedVariables false

theorem cnt_mono {m m' : Nat → Option (Bool × List Int)} (h : ∀ k, (m' k).isSome = true → (m k).isSome = true) : ∀ n, cntM m' n ≤ cntM m n
  | 0 => Nat.le_refl _
  | n + 1 => by
    have ih := cnt_mono h n
    have h1 := h n
    simp only [cntM]
    cases e1 : (m' n).isSome <;> cases e2 : (m n).isSome <;> simp_all <;> omega
theorem cnt_upd (m : Nat → Option (Bool × List Int)) (k : Nat) (v : Option (Bool × List Int)) : ∀ n, cntM (updM m k v) n ≤ cntM m n + (if k < n then 1 else 0)
  | 0 => Nat.le_refl _
  | n + 1 => by
    have ih := cnt_upd m k v n
    have h2 := Bool.toNat_le (updM m k v n).isSome
    simp only [cntM]
    by_cases e : n = k
    · subst e
      rw [if_neg (by omega)] at ih
      rw [if_pos (by omega)]
      omega
    · rw [updM_other _ _ _ _ e]
      by_cases hk : k < n
      · rw [if_pos hk] at ih; rw [if_pos (by omega)]; omega
      · rw [if_neg hk] at ih; rw [if_neg (by omega)]; omega
theorem cnt_fresh (m : Nat → Option (Bool × List Int)) (f : Nat) : ∀ c n, cntM (freshM m f c) n ≤ cntM m n + c
  | 0, n => Nat.le_refl _
  | c + 1, n => by
    have ih := cnt_fresh m f c n
    have h2 := cnt_upd (freshM m f c) (f + c) (some (false, List.replicate 1024 0)) n
    simp only [freshM]
    split at h2 <;> omega
theorem some_gone (m : Nat → Option (Bool × List Int)) (f : Nat) : ∀ c k, (goneM m f c k).isSome = true → (m k).isSome = true
  | 0, k => id
  | c + 1, k => fun h => by
    simp only [goneM, updM] at h
    split at h
    · cases h
    · exact some_gone m f c k h
theorem some_lock (m : Nat → Option (Bool × List Int)) (f : Nat) (b : Bool) : ∀ c k, (lockedM m f b c k).isSome = true → (m k).isSome = true
  | 0, k => id
  | c + 1, k => fun h => by
    simp only [lockedM, updM] at h
    split at h
    · rename_i e
      subst e
      exact some_lock m f b c _ (by simpa using h)
    · exact some_lock m f b c k h
theorem some_store (m : Nat → Option (Bool × List Int)) (a : Nat) (ys : List Int) : ∀ c k, (storeM m a ys c k).isSome = true → (m k).isSome = true
  | 0, k => id
  | c + 1, k => fun h => by
    simp only [storeM, putM, updM] at h
    split at h
    · rename_i e
      subst e
      exact some_store m a ys c _ (by simpa using h)
    · exact some_store m a ys c k h
theorem cnt_step (nn : Nat) (bud : Int) (m : Nat → Option (Bool × List Int)) (kd p c : Int) (a : Nat) (n : Int) (ys : List Int) (h : (cntM m nn : Int) ≤ bud) : (cntM (stepM nn bud m kd p c a n ys).1 nn : Int) ≤ bud := by
  have hgone : ∀ f k, (cntM (goneM m f k) nn : Int) ≤ bud := fun f k => by have := cnt_mono (some_gone m f k) nn; omega
  have hlock : ∀ f b k, (cntM (lockedM m f b k) nn : Int) ≤ bud := fun f b k => by have := cnt_mono (some_lock m f b k) nn; omega
  have hstore : ∀ k, (cntM (storeM m a ys k) nn : Int) ≤ bud := fun k => by have := cnt_mono (some_store m a ys k) nn; omega
  unfold stepM
  split
  · exact h
  · split
    · dsimp only
      split
      · exact hstore _
      · exact h
    · split
      · exact h
      · split
        · dsimp only
          unfold pageM
          split
          · split
            · exact h
            · split
              · exact h
              · have := cnt_fresh m p.toNat c.toNat nn
                dsimp only
                omega
          · repeat' split
            all_goals first | exact h | exact hgone _ _ | exact hlock _ _ _
        · exact h
theorem cnt_run (nn : Nat) (bud : Int) (hb : 0 ≤ bud) (ops : List Op9) : ∀ k, (cntM (runM nn bud ops k).1 nn : Int) ≤ bud
  | 0 => by
    have : ∀ n, cntM (fun _ => none) n = 0 := fun n => by induction n with
      | zero => rfl
      | succ n ih => simp [cntM, ih]
    show (cntM (fun _ => none) nn : Int) ≤ bud
    rw [this]
    exact hb
  | k + 1 => by
    simp only [runM]
    cases ops[k]? with
    | none => exact cnt_run nn bud hb ops k
    | some o => exact cnt_step nn bud _ _ _ _ _ _ _ (cnt_run nn bud hb ops k)
theorem opens_mem (m : Nat → Option (Bool × List Int)) (x : Int) : ∀ k, x ∈ opensM m k → ∃ j, j < k ∧ x = (j : Int) ∧ isOpen (m j) = true
  | 0, h => by cases h
  | k + 1, h => by
    simp only [opensM] at h
    split at h
    · rename_i ho
      rcases List.mem_append.1 h with h | h
      · obtain ⟨j, h1, h2⟩ := opens_mem m x k h
        exact ⟨j, by omega, h2⟩
      · simp at h
        exact ⟨k, by omega, h, ho⟩
    · obtain ⟨j, h1, h2⟩ := opens_mem m x k h
      exact ⟨j, by omega, h2⟩
theorem acc_page (m : Nat → Option (Bool × List Int)) (p n : Nat) (hp : isOpen (m p) = true) (h4 : p < 4096) (h1 : 1 ≤ n) (h2 : n ≤ 1024) : reachN m (p * 1024) n = true ∧ accC m (p * 1024) (n : Int) = 0 := by
  have hr : reachN m (p * 1024) n = true := reachN_of (fun k hk => by
    rw [show (p * 1024 + k) / 1024 = p by omega]; exact hp)
  refine ⟨hr, ?_⟩
  unfold accC
  rw [if_neg (by omega), if_neg (by omega), if_neg (by omega), show ((n : Int)).toNat = n by omega, hr]
  rfl
theorem run_more (nn : Nat) (bud : Int) (ops : List Op9) (o1 o2 : Op9) (p : Nat) (ys : List Int) (hp : isOpen ((runM nn bud ops ops.length).1 p) = true) (hp2 : p < 4096) (h1 : 1 ≤ ys.length) (h2 : ys.length ≤ 1024) (e1 : o1.kd = 5 ∧ o1.a = p * 1024 ∧ o1.ys = ys) (e2 : o2.kd = 4 ∧ o2.a = p * 1024 ∧ o2.n = (ys.length : Nat)) :
    ∃ rs, (runM nn bud (ops ++ [o1, o2]) (ops.length + 2)).2 = rs ++ [(0, []), (0, ys)] ∧ rs.length = ops.length := by
  have r0 := runM_take nn bud ops [o1, o2] ops.length (Nat.le_refl _)
  have g1 : (ops ++ [o1, o2])[ops.length]? = some o1 := by simp
  have g2 : (ops ++ [o1, o2])[ops.length + 1]? = some o2 := by simp
  obtain ⟨a1, a2⟩ := acc_page (runM nn bud ops ops.length).1 p ys.length hp hp2 h1 h2
  have s1 : stepM nn bud (runM nn bud ops ops.length).1 o1.kd o1.p o1.c o1.a o1.n o1.ys = (storeM (runM nn bud ops ops.length).1 (p * 1024) ys ys.length, 0, []) := by
    unfold stepM
    rw [e1.1, e1.2.1, e1.2.2, if_neg (by decide), if_pos rfl, a2, if_pos rfl]
  have op2 : isOpen (storeM (runM nn bud ops ops.length).1 (p * 1024) ys ys.length p) = true := by rw [storeM_open]; exact hp
  obtain ⟨b1, b2⟩ := acc_page _ p ys.length op2 hp2 h1 h2
  have s2 : stepM nn bud (storeM (runM nn bud ops ops.length).1 (p * 1024) ys ys.length) o2.kd o2.p o2.c o2.a o2.n o2.ys = (storeM (runM nn bud ops ops.length).1 (p * 1024) ys ys.length, 0, ys) := by
    unfold stepM
    rw [e2.1, e2.2.1, e2.2.2, if_pos rfl, b2, if_pos rfl, show ((ys.length : Nat) : Int).toNat = ys.length by omega, load_store _ _ _ (whole_run nn bud ops ops.length) a1]
  refine ⟨(runM nn bud ops ops.length).2, ?_, runM_len nn bud ops ops.length (Nat.le_refl _)⟩
  rw [runM_succ nn bud _ (ops.length + 1) o2 g2, runM_succ nn bud _ ops.length o1 g1, r0, s1]
  simp only [s2, List.append_assoc, List.cons_append, List.nil_append]
end Go.Proofs.Ytiddopgeomojbaa

namespace Go.Proofs.Ytiddopgeomojbaa
open Go.RowKit Go.Shelf Go.Maps
set_option linter.unusedVariables false

/-- an operation that was drawn: its bytes lie in a row of their own, at base or above -/
structure Od (B : Nat) (o : Op9) (W : World) : Prop where
  a : o.a < 18446744073709551616
  p : o.p ≤ 9223372036854775807
  d : W.ownsRow B 5 1 (.slice o.d o.dl o.dc) o.dl (Ns .u8 o.ys)
/-- the cells of operations -/
def flatO (ops : List Op9) : List Value := ops.flatMap opC
/-- the operations drawn so far -/
structure Dr (B : Nat) (v : Value) (ops : List Op9) (W : World) : Prop where
  row : W.ownsRow B 34 6 v ops.length (flatO ops)
  dat : ∀ o ∈ ops, Od B o W
/-- an operation under way in block X, in a round that began in W0 -/
structure Ob (w0 : World) (a : Option Addr) (len cap R : Nat) (W0 : World) (X : Nat) (o : Op9) (W : World) : Prop where
  rd : Rd w0 a len cap R W
  g : W0.grownBy W (some R)
  x : W.heap[X]? = some (.cells (opC o).toArray 34 (0, 0))
  xn : W0.heap.size ≤ X
  rn : R < W0.heap.size
  od : Od W0.heap.size o W

theorem wrap64 (x : Int) (h1 : -9223372036854775808 ≤ x) (h2 : x ≤ 9223372036854775807) : IntKind.i64.wrap x = x := by
  show (if (true && decide ((9223372036854775808 : Int) ≤ x % 18446744073709551616)) = true then x % 18446744073709551616 - 18446744073709551616 else x % 18446744073709551616) = x
  by_cases h : (9223372036854775808 : Int) ≤ x % 18446744073709551616
  · rw [if_pos (by simp [h])]; omega
  · rw [if_neg (by simp [h])]; omega
theorem rem_nat (c2 k9 : Nat) (h : c2 ≤ 255) : ∃ r : Nat, r ≤ 255 ∧ (c2 : Int).tmod ((k9 : Int) + 2) = (r : Int) := by
  refine ⟨c2 % (k9 + 2), by have := Nat.mod_le c2 (k9 + 2); omega, ?_⟩
  rw [Int.tmod_eq_emod_of_nonneg (by omega), Int.natCast_emod]
  rfl
theorem rem_nat1 (c2 k9 : Nat) (h : c2 ≤ 255) : ∃ r : Nat, r ≤ 255 ∧ (c2 : Int).tmod ((k9 : Int) + 1) = (r : Int) := by
  refine ⟨c2 % (k9 + 1), by have := Nat.mod_le c2 (k9 + 1); omega, ?_⟩
  rw [Int.tmod_eq_emod_of_nonneg (by omega), Int.natCast_emod]
  rfl
theorem wrapU (x : Int) (h1 : 0 ≤ x) (h2 : x < 18446744073709551616) : IntKind.u64.wrap x = x := by
  rw [wrap_u64x]; omega
theorem wp_region_drew {P : Program} {ops : Array Oper} {Q : Exit → Act → World → Prop} {id : Nat} {a : Act} {w : World} (hm : P.follows .mixedOrders = true)
    (h : wpAny P .any ops Q ops.size (Array.replicate ops.size false) a w.drew) : (Code.region id ops true).wp P Q a w := wp_region_any hm h
/-- a round under way: nothing old has turned but the reader -/
structure Md (w0 : World) (a : Option Addr) (len cap R : Nat) (W0 W : World) : Prop where
  rd : Rd w0 a len cap R W
  g : W0.grownBy W (some R)
  rn : R < W0.heap.size
theorem grown_tr {a b c : World} {r : Option Nat} (h : a.grownBy b r) (k : b.grownBy c r) : a.grownBy c r :=
  ⟨k.os.trans h.os, k.tape.trans h.tape, k.output.trans h.output, Nat.le_trans h.size k.size, fun g h1 h2 => (k.block g (Nat.lt_of_lt_of_le h1 h.size) h2).trans (h.block g h1 h2)⟩
theorem Md.alloc {w0 : World} {a : Option Addr} {len cap R : Nat} {W0 W : World} (h : Md w0 a len cap R W0 W) (o : Obj) : Md w0 a len cap R W0 (W.alloc o) :=
  ⟨h.rd.below ((Below.refl _ _).alloc (Nat.le_refl _) o), grown_tr h.g (World.grownBy_alloc W o _), h.rn⟩
theorem Md.next {w0 : World} {a : Option Addr} {len cap R : Nat} {W0 W W' : World} (h : Md w0 a len cap R W0 W) (rd : Rd w0 a len cap R W') (g : W.grownBy W' (some R)) : Md w0 a len cap R W0 W' := ⟨rd, grown_tr h.g g, h.rn⟩
theorem Md.keep {w0 : World} {a : Option Addr} {len cap R : Nat} {W0 W W' : World} (h : Md w0 a len cap R W0 W) (g : W.grownBy W' (some R)) {b : Nat} {o : Obj} (hb : W0.heap.size ≤ b) (hx : W.heap[b]? = some o) : W'.heap[b]? = some o := by
  have hl : b < W.heap.size := by
    by_cases hl : b < W.heap.size
    · exact hl
    · rw [Array.getElem?_eq_none (by omega)] at hx; cases hx
  rw [g.block b hl (fun e => by have := h.rn; simp at e; omega)]
  exact hx
theorem Md.set {w0 : World} {a : Option Addr} {len cap R : Nat} {W0 W : World} (h : Md w0 a len cap R W0 W) {X : Nat} (hX : W0.heap.size ≤ X) (i : Nat) (v : Value) : Md w0 a len cap R W0 (W.setCell ⟨X, i, none⟩ v) := by
  obtain ⟨j, hj, hb⟩ := h.rd.box
  have hne : R ≠ X := by have := h.rn; omega
  refine ⟨⟨⟨j, hj, by rw [Below.heap_setCell _ _ _ _ hne]; exact hb⟩, h.rd.bel.setCell (by have := h.rd.new; have := h.rn; dsimp only; omega) v, h.rd.new⟩, ⟨h.g.os, h.g.tape, h.g.output, by simp [World.setCell]; exact h.g.size, fun g h1 h2 => ?_⟩, h.rn⟩
  rw [Below.heap_setCell _ _ _ _ (by dsimp only; omega)]
  exact h.g.block g h1 h2
/-- a box of six cells -/
theorem six_cells {W : World} {X : Nat} {v0 v1 v2 v3 v4 v5 : Value} (h : W.heap[X]? = some (.cells #[v0, v1, v2, v3, v4, v5] 34 (0, 0))) : W.cell? ⟨X, 0, none⟩ = some v0 ∧ W.cell? ⟨X, 1, none⟩ = some v1 ∧ W.cell? ⟨X, 2, none⟩ = some v2 ∧ W.cell? ⟨X, 3, none⟩ = some v3 ∧ W.cell? ⟨X, 4, none⟩ = some v4 ∧ W.cell? ⟨X, 5, none⟩ = some v5 ∧ W.frozen? ⟨X, 0, none⟩ = false ∧ W.frozen? ⟨X, 1, none⟩ = false ∧ W.frozen? ⟨X, 2, none⟩ = false ∧ W.frozen? ⟨X, 3, none⟩ = false ∧ W.frozen? ⟨X, 4, none⟩ = false ∧ W.frozen? ⟨X, 5, none⟩ = false := by
  simp [World.cell?, World.frozen?, h]
/-- the six cells of a box stored -/
def set6 (W : World) (X : Nat) (v0 v1 v2 v3 v4 v5 : Value) : World := (((((W.setCell ⟨X, 0, none⟩ v0).setCell ⟨X, 1, none⟩ v1).setCell ⟨X, 2, none⟩ v2).setCell ⟨X, 3, none⟩ v3).setCell ⟨X, 4, none⟩ v4).setCell ⟨X, 5, none⟩ v5
structure Bx6 (w0 : World) (a : Option Addr) (len cap R : Nat) (W0 : World) (X : Nat) (cs : Array Value) (W : World) : Prop where
  m : Md w0 a len cap R W0 W
  x : W.heap[X]? = some (.cells cs 34 (0, 0))
  xn : W0.heap.size ≤ X
theorem Md.box {w0 : World} {a : Option Addr} {len cap R : Nat} {W0 W : World} (h : Md w0 a len cap R W0 W) {X : Nat} (hX : W0.heap.size ≤ X) {u0 u1 u2 u3 u4 u5 : Value} (hx : W.heap[X]? = some (.cells #[u0, u1, u2, u3, u4, u5] 34 (0, 0))) (v0 v1 v2 v3 v4 v5 : Value) :
    Bx6 w0 a len cap R W0 X #[v0, v1, v2, v3, v4, v5] ((((((W.setCell ⟨X, 0, none⟩ v0).setCell ⟨X, 1, none⟩ v1).setCell ⟨X, 2, none⟩ v2).setCell ⟨X, 3, none⟩ v3).setCell ⟨X, 4, none⟩ v4).setCell ⟨X, 5, none⟩ v5) := by
  refine ⟨(((((h.set hX 0 v0).set hX 1 v1).set hX 2 v2).set hX 3 v3).set hX 4 v4).set hX 5 v5, ?_, hX⟩
  simp [World.setCell, Array.getElem?_modify, hx]
theorem Bx6.ob {w0 : World} {a : Option Addr} {len cap R : Nat} {W0 W : World} {X : Nat} (kd p c : Int) (hp : p ≤ 9223372036854775807) (h : Bx6 w0 a len cap R W0 X #[.int .i64 kd, .int .i64 p, .int .i64 c, .int .u64 0, .int .i64 0, .slice none 0 0] W) :
    Ob w0 a len cap R W0 X ⟨kd, p, c, 0, 0, none, 0, 0, []⟩ W :=
  ⟨h.m.rd, h.m.g, h.x, h.xn, h.m.rn, ⟨by show (0 : Nat) < 18446744073709551616; omega, hp, ⟨rfl, .inl ⟨rfl, rfl⟩⟩⟩⟩
theorem cell_tbl {V : World} {b ix : Nat} {kd : Int} {cs : Array Value} (hV : V.heap[b]? = some (.cells cs 3 (0, 0))) (hk : cs[ix]? = some (.int .i64 kd)) : V.cell? ⟨b, ix, none⟩ = some (.int .i64 kd) := by
  simp [World.cell?, hV, hk]
theorem set6_other {W : World} {X b : Nat} {ts : Array Value} {u0 u1 u2 u3 u4 u5 : Value} (ht : W.heap[b]? = some (.cells ts 3 (0, 0))) (hx : W.heap[X]? = some (.cells #[u0, u1, u2, u3, u4, u5] 34 (0, 0))) (v0 v1 v2 v3 v4 v5 : Value) :
    ((((((W.setCell ⟨X, 0, none⟩ v0).setCell ⟨X, 1, none⟩ v1).setCell ⟨X, 2, none⟩ v2).setCell ⟨X, 3, none⟩ v3).setCell ⟨X, 4, none⟩ v4).setCell ⟨X, 5, none⟩ v5).heap[b]? = some (.cells ts 3 (0, 0)) := by
  have hne : b ≠ X := by rintro rfl; rw [ht] at hx; simp at hx
  rw [Below.heap_setCell _ _ _ _ hne, Below.heap_setCell _ _ _ _ hne, Below.heap_setCell _ _ _ _ hne, Below.heap_setCell _ _ _ _ hne, Below.heap_setCell _ _ _ _ hne, Below.heap_setCell _ _ _ _ hne]
  exact ht

theorem Od.set {B : Nat} {o : Op9} {W : World} (h : Od B o W) {X : Nat} {cs : Array Value} (hx : W.heap[X]? = some (.cells cs 34 (0, 0))) (i : Nat) (v : Value) : Od B o (W.setCell ⟨X, i, none⟩ v) := by
  refine ⟨h.a, h.p, h.d.kept (grown_set (grown_refl W X) i v) ?_⟩
  by_cases e : (Value.slice o.d o.dl o.dc).ownBlock = none
  · exact .inl e
  · exact .inr (own_ne h.d hx (by decide))
theorem Ob.upd {w0 : World} {a : Option Addr} {len cap R : Nat} {W0 W : World} {X : Nat} {o : Op9} (h : Ob w0 a len cap R W0 X o W) (i : Nat) (v : Value) (o' : Op9) (ho : opC o' = (opC o).set i v) (hd : Od W0.heap.size o' (W.setCell ⟨X, i, none⟩ v)) : Ob w0 a len cap R W0 X o' (W.setCell ⟨X, i, none⟩ v) := by
  have m := Md.set (⟨h.rd, h.g, h.rn⟩ : Md w0 a len cap R W0 W) h.xn i v
  refine ⟨m.rd, m.g, ?_, h.xn, h.rn, hd⟩
  rw [ho]
  simp [World.setCell, Array.getElem?_modify, h.x]
theorem Ob.setKd {w0 : World} {a : Option Addr} {len cap R : Nat} {W0 W : World} {X : Nat} {o : Op9} (h : Ob w0 a len cap R W0 X o W) (x : Int) : Ob w0 a len cap R W0 X { o with kd := x } (W.setCell ⟨X, 0, none⟩ (.int .i64 x)) :=
  h.upd 0 _ _ rfl ⟨h.od.a, h.od.p, (h.od.set h.x 0 _).d⟩
theorem Ob.setP {w0 : World} {a : Option Addr} {len cap R : Nat} {W0 W : World} {X : Nat} {o : Op9} (h : Ob w0 a len cap R W0 X o W) (x : Int) (hx : x ≤ 9223372036854775807) : Ob w0 a len cap R W0 X { o with p := x } (W.setCell ⟨X, 1, none⟩ (.int .i64 x)) :=
  h.upd 1 _ _ rfl ⟨h.od.a, hx, (h.od.set h.x 1 _).d⟩
theorem Ob.setC {w0 : World} {a : Option Addr} {len cap R : Nat} {W0 W : World} {X : Nat} {o : Op9} (h : Ob w0 a len cap R W0 X o W) (x : Int) : Ob w0 a len cap R W0 X { o with c := x } (W.setCell ⟨X, 2, none⟩ (.int .i64 x)) :=
  h.upd 2 _ _ rfl ⟨h.od.a, h.od.p, (h.od.set h.x 2 _).d⟩
theorem Ob.setA {w0 : World} {a : Option Addr} {len cap R : Nat} {W0 W : World} {X : Nat} {o : Op9} (h : Ob w0 a len cap R W0 X o W) (x : Nat) (hx : x < 18446744073709551616) : Ob w0 a len cap R W0 X { o with a := x } (W.setCell ⟨X, 3, none⟩ (.int .u64 (x : Nat))) :=
  h.upd 3 _ _ rfl ⟨hx, h.od.p, (h.od.set h.x 3 _).d⟩
theorem Ob.setN {w0 : World} {a : Option Addr} {len cap R : Nat} {W0 W : World} {X : Nat} {o : Op9} (h : Ob w0 a len cap R W0 X o W) (x : Int) : Ob w0 a len cap R W0 X { o with n := x } (W.setCell ⟨X, 4, none⟩ (.int .i64 x)) :=
  h.upd 4 _ _ rfl ⟨h.od.a, h.od.p, (h.od.set h.x 4 _).d⟩
theorem Ob.setD {w0 : World} {a : Option Addr} {len cap R : Nat} {W0 W : World} {X : Nat} {o : Op9} (h : Ob w0 a len cap R W0 X o W) (d : Option Addr) (dl dc : Nat) (ys : List Int) (hd : W.ownsRow W0.heap.size 5 1 (.slice d dl dc) dl (Ns .u8 ys)) : Ob w0 a len cap R W0 X { o with d := d, dl := dl, dc := dc, ys := ys } (W.setCell ⟨X, 5, none⟩ (.slice d dl dc)) :=
  h.upd 5 _ _ rfl ((⟨h.od.a, h.od.p, hd⟩ : Od W0.heap.size { o with d := d, dl := dl, dc := dc, ys := ys } W).set h.x 5 _)
theorem Ob.next {w0 : World} {a : Option Addr} {len cap R : Nat} {W0 W W' : World} {X : Nat} {o : Op9} (h : Ob w0 a len cap R W0 X o W) (rd : Rd w0 a len cap R W') (g : W.grownBy W' (some R)) : Ob w0 a len cap R W0 X o W' := by
  have m : Md w0 a len cap R W0 W := ⟨h.rd, h.g, h.rn⟩
  refine ⟨rd, grown_tr h.g g, m.keep g h.xn h.x, h.xn, h.rn, h.od.a, h.od.p, h.od.d.kept g ?_⟩
  by_cases e : (Value.slice o.d o.dl o.dc).ownBlock = none
  · exact .inl e
  · refine .inr (fun e' => ?_)
    have := (h.od.d.lt R e').1
    have := h.rn
    omega
theorem Ob.drew {w0 : World} {a : Option Addr} {len cap R : Nat} {W0 W : World} {X : Nat} {o : Op9} (h : Ob w0 a len cap R W0 X o W) : Ob w0 a len cap R W0 X o W.drew :=
  h.next h.rd.drew ⟨rfl, rfl, rfl, Nat.le_refl _, fun _ _ _ => rfl⟩
theorem Ob.cells {w0 : World} {a : Option Addr} {len cap R : Nat} {W0 W : World} {X : Nat} {o : Op9} (h : Ob w0 a len cap R W0 X o W) : W.cell? ⟨X, 0, none⟩ = some (.int .i64 o.kd) ∧ W.cell? ⟨X, 1, none⟩ = some (.int .i64 o.p) ∧ W.cell? ⟨X, 2, none⟩ = some (.int .i64 o.c) ∧ W.cell? ⟨X, 3, none⟩ = some (.int .u64 o.a) ∧ W.cell? ⟨X, 4, none⟩ = some (.int .i64 o.n) ∧ W.cell? ⟨X, 5, none⟩ = some (.slice o.d o.dl o.dc) ∧ W.frozen? ⟨X, 0, none⟩ = false ∧ W.frozen? ⟨X, 1, none⟩ = false ∧ W.frozen? ⟨X, 2, none⟩ = false ∧ W.frozen? ⟨X, 3, none⟩ = false ∧ W.frozen? ⟨X, 4, none⟩ = false ∧ W.frozen? ⟨X, 5, none⟩ = false :=
  six_cells h.x
theorem own_down {W : World} {b b' : Nat} {e : TypeId} {sz : Nat} {v : Value} {n : Nat} {xs : List Value} (hb : b' ≤ b) (h : W.ownsRow b e sz v n xs) : W.ownsRow b' e sz v n xs := by
  refine ⟨h.1, ?_⟩
  rcases h.2 with h2 | ⟨g, cap, cur, h1, h2, h3⟩
  · exact .inl h2
  · exact .inr ⟨g, cap, cur, h1, Nat.le_trans hb h2, h3⟩
theorem own_len {W : World} {b : Nat} {e : TypeId} {sz : Nat} {d : Option Addr} {l c : Nat} {n : Nat} {xs : List Value} (h : W.ownsRow b e sz (.slice d l c) n xs) : n = l := by
  rcases h.2 with ⟨h2, h3⟩ | ⟨g, cap, cur, h1, _⟩
  · simp at h2; omega
  · simp at h1; omega
/-- what was drawn before stands, behind the round -/
theorem Dr.ob {w0 : World} {a : Option Addr} {len cap R : Nat} {W0 W : World} {X : Nat} {o : Op9} {v : Value} {ops : List Op9} (h : Dr (R + 1) v ops W0) (hb : Ob w0 a len cap R W0 X o W) : Dr (R + 1) v ops W := by
  have key : ∀ {e : TypeId} {sz : Nat} {u : Value} {n : Nat} {xs : List Value}, W0.ownsRow (R + 1) e sz u n xs → W.ownsRow (R + 1) e sz u n xs := fun ho => ho.kept hb.g (.inr (fun e' => by have := (ho.lt R e').1; omega))
  exact ⟨key h.row, fun o ho => ⟨(h.dat o ho).a, (h.dat o ho).p, key (h.dat o ho).d⟩⟩
theorem row_new (W : World) (xs : List Value) (t : TypeId) : ∀ j u, xs[j]? = some u → (W.alloc (.cells xs.toArray t)).cell? ((⟨W.heap.size, 0, none⟩ : Addr).add j) = some u := by
  intro j u h
  have hadd : (⟨W.heap.size, 0, none⟩ : Addr).add j = ⟨W.heap.size, j, none⟩ := by unfold Addr.add; split <;> simp_all
  rw [hadd, cell_of_row _ _ j _ _ _ (al_last W (.cells xs.toArray t)), ← h]
  simp
theorem flatO_snoc (ops : List Op9) (o : Op9) : flatO (ops ++ [o]) = flatO ops ++ opC o := by simp [flatO]
theorem Dr.next {w0 : World} {a : Option Addr} {len cap R : Nat} {W w9 : World} {o : Op9} {v v1 : Value} {ops : List Op9} (h : Dr (R + 1) v ops W) (rd : Rd w0 a len cap R W) (od : Od (R + 1) o W) {O : Obj}
    (ho : w9.ownsRow (R + 1) 34 6 v1 (ops.length + 1) (flatO ops ++ opC o)) (hg : (W.alloc O).grownBy w9 v.ownBlock) : Dr (R + 1) v1 (ops ++ [o]) w9 ∧ Rd w0 a len cap R w9 := by
  have key : ∀ x, Od (R + 1) x W → Od (R + 1) x w9 := fun x hx => by
    refine ⟨hx.a, hx.p, (hx.d.alloc O).kept hg ?_⟩
    by_cases e : (Value.slice x.d x.dl x.dc).ownBlock = none
    · exact .inl e
    · refine .inr (fun e' => ?_)
      obtain ⟨r, hr⟩ := Option.ne_none_iff_exists'.1 e
      obtain ⟨c1, h1⟩ := own_type hx.d hr
      obtain ⟨c2, h2⟩ := own_type h.row (e'.symm.trans hr)
      rw [h1] at h2
      simp at h2
  refine ⟨⟨by rw [List.length_append, flatO_snoc]; exact ho, fun x hx => ?_⟩, ?_⟩
  · rcases List.mem_append.1 hx with hx | hx
    · exact key x (h.dat x hx)
    · obtain rfl := List.mem_singleton.1 hx
      exact key _ od
  · have r8 := rd.below ((Below.refl _ _).alloc (Nat.le_refl _) O)
    obtain ⟨i, hi, hb⟩ := r8.box
    refine ⟨⟨i, hi, ?_⟩, r8.bel.grown hg r8.bel.size (fun r hr => ?_), r8.new⟩
    · rw [hg.block R (lt_blk hb) (fun e => by have := (h.row.lt R e.symm).1; omega)]
      exact hb
    · have := (h.row.lt r hr).1
      have := rd.new
      omega
theorem Ob.odR {w0 : World} {a : Option Addr} {len cap R : Nat} {W0 W : World} {X : Nat} {o : Op9} (h : Ob w0 a len cap R W0 X o W) : Od (R + 1) o W := ⟨h.od.a, h.od.p, own_down h.rn h.od.d⟩
end Go.Proofs.Ytiddopgeomojbaa
