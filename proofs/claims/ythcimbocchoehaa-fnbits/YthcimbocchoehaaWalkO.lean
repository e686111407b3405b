import Derived.Test.YthcimbocchoehaaWalkN
import Derived.Deep.DeepCutAuto
import Derived.Deep.LoopGhost
import Derived.Deep.CutBlock
import Derived.OrdersHeld
import Derived.Maps.AppendAt
import Derived.Deep.RegionWith

namespace Go.Proofs.Ythcimbocchoehaa
open Go.ChangeShapes Go.WideShapes Go.ChangeAt Go.RowKit
set_option linter.unusedVariables false

theorem int_cast {k : IntKind} {a b : Int} (h : a = b) : Value.int k a = .int k b := by rw [h]

/-- one operation of a drawn region, carried out -/
theorem wpOp_do {P : Program} {ops : Array Oper} {Q : Exit → Act → World → Prop} {i : Nat} {o : Oper} {K : Act → World → Prop} {a : Act} {w : World} (hi : ops[i]? = some o) (hw : Region.wanted o (yielded ops a.tmps) = true)
    (h : ∀ K' : Act → World → Prop, Hid (∀ a w, K a w → K' a w) → o.wp P a w K' Q) : wpOp P ops Q i K a w := by
  unfold wpOp; simp only [hi, hw, if_true]; exact .inl (h K fun _ _ h => h)
theorem wpAny_one {P : Program} {md : Region.Mode} {ops : Array Oper} {Q : Exit → Act → World → Prop} {r fuel : Nat} {listed : Array Bool} {a : Act} {w : World} (hr : Region.ready md ops listed = [r])
    (h : wpOp P ops Q r (wpAny P md ops Q fuel (listed.setIfInBounds r true)) a w) : wpAny P md ops Q (fuel + 1) listed a w :=
  wpAny_all hr (by simp) (fun i hi => by
    obtain rfl : i = r := by simpa using hi
    exact h)

theorem wpAnyH_one {P : Program} {md : Region.Mode} {ops : Array Oper} {Q : Exit → Act → World → Prop} {S : World → Prop} {r fuel : Nat} {listed : Array Bool} {a : Act} {w : World} (hr : Region.ready md ops listed = [r])
    (h : wpOp P ops Q r (fun a' w' => S w' ∧ wpAnyH P md ops Q S fuel (listed.setIfInBounds r true) a' w') a w) : wpAnyH P md ops Q S (fuel + 1) listed a w :=
  wpAnyH_all hr (by simp) (fun i hi => by
    obtain rfl : i = r := by simpa using hi
    exact h)

theorem wf_snoc {zs : List Int} (h : Wf zs) : Wf (zs ++ [0]) := by
  intro i
  rw [List.getElem?_append]
  split
  · exact h i
  · rw [List.getElem?_singleton]; split <;> simp
theorem wf_set {zs : List Int} (h : Wf zs) {i : Nat} {z : Int} (h0 : 0 ≤ z) (h1 : z ≤ 18446744073709551615) : Wf (zs.set i z) := by
  intro j
  rw [List.getElem?_set]
  split
  · split
    · exact ⟨h0, h1⟩
    · simp
  · exact h j
theorem or_top (z : Int) (h0 : 0 ≤ z) (h1 : z ≤ 18446744073709551615) : ∃ y : Int, bits BinOp.or IntKind.u64 z 9223372036854775808 = y ∧ 0 ≤ y ∧ y ≤ 18446744073709551615 := by
  refine ⟨_, rfl, ?_⟩
  obtain ⟨a, rfl⟩ := Int.eq_ofNat_of_zero_le h0
  have e : bits BinOp.or IntKind.u64 (a : Int) 9223372036854775808 = ((a ||| 9223372036854775808 : Nat) : Int) := u64_or_nat a 9223372036854775808 (by omega) (by decide)
  rw [e]
  have h2 : a ||| 9223372036854775808 < 2 ^ 64 := Nat.or_lt_two_pow (by omega) (by decide)
  omega

/-- what a drawn bitmap is known to be -/
def Drawn (w0 : World) (a : Option Addr) (len cap R : Nat) (e : Ending) (W' : World) : Prop :=
  ∃ (g L c : Nat) (zs : List Int) (n : Int), e = .returned (.tuple #[.slice (some ⟨g, 0, none⟩) L c, .int .i64 n]) ∧ zs.length = L ∧ L ≤ 100 ∧ Wf zs ∧ -1 ≤ n ∧ n ≤ 4097 ∧ RowV W' g 45 (U zs) ∧ g ≠ R ∧ w0.heap.size ≤ g ∧ Rd w0 a len cap R W'

set_option maxRecDepth 100000 in
set_option maxHeartbeats 4000000 in
theorem bitmap_any (w0 : World) (a : Option Addr) (len cap : Nat) (zs : List Int) (h0 : IsRow .u8 w0 a len cap zs) (hlen : len ≤ 1048576) (R : Nat) (W : World) (hR : Rd w0 a len cap R W) :
    Calls Try.prog 25 #[.pointer (some ⟨R, 0, none⟩)] W (Drawn w0 a len cap R) := by
  obtain ⟨i0, hi, hz0, hz1, hz2⟩ := info_parts Try.info4
  obtain ⟨j0, hj0, hk0, hk1, hk2⟩ := info_parts Try.info45
  have N := hid (fun W h => next_any w0 a len cap zs h0 hlen R W h)
  have ND := hid (fun i hi => next_det w0 a len cap zs h0 hlen R i hi)
  have HR := hid hR
  clear hR h0
  go_enter Try.func25, Try.ntmps25
  go_wp2_with fail
  refine (N.out _ HR.out).mono ?_
  rintro e W1 ⟨⟨k, hk, rfl⟩, r1, _⟩
  have R1 := hid r1
  clear r1
  go_wp2_with fail
  refine (N.out _ R1.out).mono ?_
  rintro e W2 ⟨⟨n0, hn0, rfl⟩, r2, _⟩
  have R2 := hid r2
  clear r2
  go_upto_block 0 with fail
  go_cut [5] (fun s5 w => ∃ n : Nat, n ≤ 4097 ∧ s5 = .int .i64 n ∧ w = W2)
  case first =>
    by_cases h250 : 250 ≤ k
    · go_wp2
      go_meet
      case rel => exact ⟨4095 + k % 3, by omega, int_cast (by omega), rfl⟩
    · by_cases h7 : k % 7 = 0
      · have h7b : ((k : Int) % 7 == 0) = true := by simp; omega
        clear h7
        go_wp2
        go_meet
        case rel => exact ⟨n0 % 200 / 64 * 64, by omega, int_cast (by omega), rfl⟩
      · have h7b : ((k : Int) % 7 == 0) = false := by simp; omega
        clear h7
        go_wp2
        go_meet
        case rel => exact ⟨n0 % 200, by omega, int_cast (by omega), rfl⟩
  case rest =>
    obtain ⟨n, hn, rfl, rfl⟩ := hcut
    go_wp2_with (at_make; refine wpList_make_full _ rfl _ _ 48 rfl wc.heap.size 4 i0 (.bool false) 1 Try.underlying48 hi hz0 hz1 .i64 .i64 _ _ n rfl rfl rfl rfl ?c1 ?c2 ?c3 ?_)
    case c1 => rw [hz2]; omega
    case c2 => unfold maxLen; omega
    case c3 => exact Nat.le_refl _
    intro W3 hown hgrow
    have Q3 := hid (show RowV W3 wc.heap.size 4 (Bo (List.replicate n false)) from by
      have := RowV.ofOwns hown
      simpa [Bo, toList_madeCells_one, Value.cells] using this)
    have hB : Below wc.heap.size wc W3 := (Below.refl _ wc).grown hgrow (Nat.le_refl _) (by simp)
    have R3 := hid (R2.out.below hB)
    have S3 := hid (show wc.heap.size ≠ R from by have := R2.out.lt; omega)
    have S4 := hid (show w0.heap.size ≤ wc.heap.size from R2.out.bel.size)
    clear hown hgrow hB
    generalize wc.heap.size = gq at *
    go_upto_block 1 with fail
    go_cut [7, 31] (fun _ _ w => ∃ qs : List Bool, qs.length = n ∧ Hid (RowV w gq 4 (Bo qs)) ∧ Hid (Rd w0 a len cap R w))
    case first =>
      go_wp2_with fail
      go_loopg [7, 31] n (fun g _ s31 wr => ∃ (i : Nat) (qs : List Bool), i + g = n ∧ s31 = .int .i64 i ∧ qs.length = n ∧ Hid (RowV wr gq 4 (Bo qs)) ∧ Hid (Rd w0 a len cap R wr))
      case atStart => exact ⟨0, _, by omega, rfl, by simp, Q3.out, R3.out⟩
      case round =>
        obtain ⟨i, qs, hig, rfl, hqs, hrow, hrd⟩ := hrel
        by_cases hlt : i < n
        · have hfy := hrow.out.free i
          have hcy := cell_b hrow.out i (by omega)
          generalize qs[i]?.getD false = y9 at hcy
          have ST := hid (fun (W' : World) (y : Bool) (hr' : RowV W' gq 4 (Bo qs)) (hd' : Rd w0 a len cap R W') =>
            (show RowV (W'.setCell ⟨gq, i, none⟩ (.bool y)) gq 4 (Bo (qs.set i y)) ∧ Rd w0 a len cap R (W'.setCell ⟨gq, i, none⟩ (.bool y)) from
              ⟨by rw [← Bo_set]; exact hr'.set i (by rw [Bo_len]; omega) _, hd'.set (p := ⟨gq, i, none⟩) (Ne.symm S3.out) S4.out _⟩))
          have NX := hid (fun (W : World) (hrow : RowV W gq 4 (Bo qs)) (hrd : Rd w0 a len cap R W) => (show Calls Try.prog 24 #[.pointer (some ⟨R, 0, none⟩)] W fun e W' => ∃ c ii : Nat, c ≤ 255 ∧ ii ≤ len ∧ e = .returned (.int .i64 c) ∧ (W'.cell? ⟨gq, i, none⟩ = some (.bool (qs[i]?.getD false)) ∧ W'.frozen? ⟨gq, i, none⟩ = false ∧ W'.cell? ⟨R, 0, none⟩ = some (.slice a len cap) ∧ W'.cell? ⟨R, 1, none⟩ = some (.int .i64 ii)) ∧ Hid (RowV W' gq 4 (Bo qs) ∧ Rd w0 a len cap R W') from
            (N.out W hrd).mono (by
              rintro e W' ⟨⟨c, hc, rfl⟩, r', g'⟩
              have hq' := hrow.grown g' S3.out
              obtain ⟨ii, hii, hbx⟩ := r'.box
              exact ⟨c, ii, hc, hii, rfl, ⟨cell_b hq' i (by omega), hq'.free i, by simp [World.cell?, hbx], by simp [World.cell?, hbx]⟩, hq', r'⟩)))
          by_cases h50 : k % 5 = 0
          · have h5a : ((k : Int) % 5 == 0) = true := by simp; omega
            clear h50
            have P1 := hid (ST.out wr true hrow.out hrd.out)
            go_wp2
            go_roundg (n - (i + 1))
            case measure => omega
            case rel => exact ⟨i + 1, _, by omega, by go_num, by simp [hqs], P1.out.1, P1.out.2⟩
          · have h5a : ((k : Int) % 5 == 0) = false := by simp; omega
            by_cases h51 : k % 5 = 1
            · have h5b : ((k : Int) % 5 == 1) = true := by simp; omega
              clear h50 h51
              obtain ⟨p0, hp0, hat⟩ := hrd.out.at
              obtain ⟨c, j, hc, hj, hnx⟩ := ND.out p0 hp0
              have NY := hid (show Calls Try.prog 24 #[.pointer (some ⟨R, 0, none⟩)] wr.drew fun e W' => e = .returned (.int .i64 c) ∧ (W'.cell? ⟨gq, i, none⟩ = some (.bool (qs[i]?.getD false)) ∧ W'.frozen? ⟨gq, i, none⟩ = false ∧ W'.cell? ⟨R, 0, none⟩ = some (.slice a len cap) ∧ W'.cell? ⟨R, 1, none⟩ = some (.int .i64 j)) ∧ Hid (RowV W' gq 4 (Bo qs) ∧ Rd w0 a len cap R W') from
                (hnx wr.drew hat.drew).mono (by
                  rintro e W' ⟨rfl, r', g'⟩
                  have hq' := (RowV.drew hrow.out).grown g' S3.out
                  have hbx := r'.box
                  exact ⟨rfl, ⟨cell_b hq' i (by omega), hq'.free i, by simp [World.cell?, hbx], by simp [World.cell?, hbx]⟩, hq', r'.rd hj⟩))
              clear hnx hat hp0
              generalize qs[i]?.getD false = y0 at *
              by_cases hc8 : c % 8 = 0
              · have q1 : (c : Int) % 8 = 0 := by omega
                have q2 : Int.tmod (c : Int) 8 = 0 := by rw [Int.tmod_eq_emod_of_nonneg (by omega)]; exact q1
                have q3 : IntKind.i64.wrap (Int.tmod (c : Int) 8) = 0 := by rw [q2]; rfl
                clear hc8
                go_wp2_with fail
                refine wp_region_any (by kernel_rfl) ?_
                simp only [List.size_toArray, List.length_cons, List.length_nil, Nat.reduceAdd, Array.replicate_succ, Array.replicate_zero, List.push_toArray, List.nil_append, List.cons_append]
                refine wpAny_take (i := 0) (v := .slice (some ⟨gq, 0, none⟩) n n) rfl (by kernel_rfl) (by kernel_rfl) (by kernel_rfl) (fun _ _ _ h => h) (Or.inl ⟨by kernel_rfl, fun _ => by kernel_rfl⟩) ?_
                refine wpAny_take (i := 1) (v := .int .i64 i) rfl (by kernel_rfl) (by kernel_rfl) (by kernel_rfl) (fun _ _ _ h => h) (Or.inl ⟨by kernel_rfl, fun _ => by kernel_rfl⟩) ?_
                refine wpAny_take (i := 2) (v := .pointer (some ⟨R, 0, none⟩)) rfl (by kernel_rfl) (by kernel_rfl) (by kernel_rfl) (fun _ _ _ h => h) (Or.inl ⟨by kernel_rfl, fun _ => by kernel_rfl⟩) ?_
                simp only [Act.put, List.setIfInBounds_toArray, List.set_cons_zero, List.set_cons_succ]
                refine wpAny_one (r := 3) (by kernel_rfl) ?_
                refine wpOp_do rfl (by kernel_rfl) (fun K' hK => ?_)
                go_simp
                refine NY.out.mono ?_
                rintro e W4 ⟨rfl, ⟨cc, cf, cr0, cr1⟩, h4⟩
                refine hK.out _ _ ?_
                clear hK K'
                refine wpAny_take (i := 4) (v := .int .i64 0) rfl (by kernel_rfl) (by kernel_rfl) (by kernel_rfl) (fun _ _ _ h => h) (Or.inl ⟨by kernel_rfl, fun w => by go_simp⟩) ?_
                simp only [Act.put, List.setIfInBounds_toArray, List.set_cons_zero, List.set_cons_succ]
                refine wpAny_take (i := 5) (v := .bool false) rfl (by kernel_rfl) (by kernel_rfl) (by kernel_rfl) (fun _ _ _ h => h) (Or.inl ⟨by kernel_rfl, fun w => by go_simp⟩) ?_
                simp only [Act.put, List.setIfInBounds_toArray, List.set_cons_zero, List.set_cons_succ]
                refine wpAny_take (i := 6) (v := .bool false) rfl (by kernel_rfl) (by kernel_rfl) (by kernel_rfl) (fun _ _ _ h => h) (Or.inl ⟨by kernel_rfl, fun _ => by kernel_rfl⟩) ?_
                simp only [Act.put, List.setIfInBounds_toArray, List.set_cons_zero, List.set_cons_succ]
                refine wpAny_of_held (S := fun w' => w'.cell? ⟨R, 0, none⟩ = some (.slice a len cap) ∧ w'.cell? ⟨R, 1, none⟩ = some (.int .i64 j)) _ _ _ _ ?_
                have hS : W4.cell? ⟨R, 0, none⟩ = some (.slice a len cap) ∧ W4.cell? ⟨R, 1, none⟩ = some (.int .i64 j) := ⟨cr0, cr1⟩
                refine wpAnyH_take (i := 7) (v := .pointer (some ⟨R, 0, none⟩)) rfl (by kernel_rfl) (by kernel_rfl) (by kernel_rfl) (fun _ _ _ h => h) (Or.inl ⟨by kernel_rfl, fun _ _ => by kernel_rfl⟩) hS ?_
                simp only [Act.put, List.setIfInBounds_toArray, List.set_cons_zero, List.set_cons_succ]
                refine wpAnyH_take (i := 8) (v := .pointer (some ⟨R, 0, none⟩)) rfl (by kernel_rfl) (by kernel_rfl) (by kernel_rfl) (fun _ _ _ h => h) (Or.inl ⟨by kernel_rfl, fun _ _ => by kernel_rfl⟩) hS ?_
                simp only [Act.put, List.setIfInBounds_toArray, List.set_cons_zero, List.set_cons_succ]
                refine wpAnyH_take (i := 9) (v := .pointer (some ⟨R, 1, none⟩)) rfl (by kernel_rfl) (by kernel_rfl) (by kernel_rfl) (fun _ _ _ h => h) (Or.inl ⟨by kernel_rfl, fun _ _ => by kernel_rfl⟩) hS ?_
                simp only [Act.put, List.setIfInBounds_toArray, List.set_cons_zero, List.set_cons_succ]
                refine wpAnyH_take (i := 10) (v := .int .i64 j) rfl (by kernel_rfl) (by kernel_rfl) (by kernel_rfl) (fun _ _ _ h => h) (Or.inl ⟨by kernel_rfl, fun w hS => by obtain ⟨hS0, hS1⟩ := hS; go_simp⟩) hS ?_
                simp only [Act.put, List.setIfInBounds_toArray, List.set_cons_zero, List.set_cons_succ]
                refine wpAnyH_take (i := 11) (v := .pointer (some ⟨R, 0, none⟩)) rfl (by kernel_rfl) (by kernel_rfl) (by kernel_rfl) (fun _ _ _ h => h) (Or.inl ⟨by kernel_rfl, fun _ _ => by kernel_rfl⟩) hS ?_
                simp only [Act.put, List.setIfInBounds_toArray, List.set_cons_zero, List.set_cons_succ]
                refine wpAnyH_take (i := 12) (v := .pointer (some ⟨R, 0, none⟩)) rfl (by kernel_rfl) (by kernel_rfl) (by kernel_rfl) (fun _ _ _ h => h) (Or.inl ⟨by kernel_rfl, fun _ _ => by kernel_rfl⟩) hS ?_
                simp only [Act.put, List.setIfInBounds_toArray, List.set_cons_zero, List.set_cons_succ]
                refine wpAnyH_take (i := 13) (v := .pointer (some ⟨R, 0, none⟩)) rfl (by kernel_rfl) (by kernel_rfl) (by kernel_rfl) (fun _ _ _ h => h) (Or.inl ⟨by kernel_rfl, fun _ _ => by kernel_rfl⟩) hS ?_
                simp only [Act.put, List.setIfInBounds_toArray, List.set_cons_zero, List.set_cons_succ]
                refine wpAnyH_take (i := 14) (v := .slice a len cap) rfl (by kernel_rfl) (by kernel_rfl) (by kernel_rfl) (fun _ _ _ h => h) (Or.inl ⟨by kernel_rfl, fun w hS => by obtain ⟨hS0, hS1⟩ := hS; go_simp⟩) hS ?_
                simp only [Act.put, List.setIfInBounds_toArray, List.set_cons_zero, List.set_cons_succ]
                refine wpAnyH_take (i := 15) (v := .int .i64 len) rfl (by kernel_rfl) (by kernel_rfl) (by kernel_rfl) (fun _ _ _ h => h) (Or.inl ⟨by kernel_rfl, fun _ _ => by kernel_rfl⟩) hS ?_
                simp only [Act.put, List.setIfInBounds_toArray, List.set_cons_zero, List.set_cons_succ]
                refine wpAnyH_take (i := 16) (v := .bool (decide ((len : Int) ≤ (j : Int)))) rfl (by kernel_rfl) (by kernel_rfl) (by kernel_rfl) (fun _ _ _ h => h) (Or.inl ⟨by kernel_rfl, fun w hS => by obtain ⟨hS0, hS1⟩ := hS; go_simp⟩) hS ?_
                simp only [Act.put, List.setIfInBounds_toArray, List.set_cons_zero, List.set_cons_succ]
                refine wpAnyH_take (i := 17) (v := .bool (decide ((len : Int) ≤ (j : Int)))) rfl (by kernel_rfl) (by kernel_rfl) (by kernel_rfl) (fun _ _ _ h => h) (Or.inl ⟨by kernel_rfl, fun _ _ => by kernel_rfl⟩) hS ?_
                simp only [Act.put, List.setIfInBounds_toArray, List.set_cons_zero, List.set_cons_succ]
                refine wpAnyH_take (i := 18) (v := .pointer (some ⟨gq, i, none⟩)) rfl (by kernel_rfl) (by kernel_rfl) (by kernel_rfl) (fun _ _ _ h => h) (Or.inl ⟨by kernel_rfl, fun w _ => by first | (go_simp; done) | (go_simp; omega)⟩) hS ?_
                simp only [Act.put, List.setIfInBounds_toArray, List.set_cons_zero, List.set_cons_succ]
                have P1 := hid (fun y => ST.out W4 y h4.out.1 h4.out.2)
                have E1 := hid (fun (y : Value) (o : Nat) => World.cell?_of_block (w := W4) (w' := W4.setCell ⟨gq, i, none⟩ y) (a := ⟨R, o, none⟩) (Below.heap_setCell _ _ _ _ (Ne.symm S3.out)))
                refine wpAnyH_one (r := 19) (by kernel_rfl) ?_
                refine wpOp_do rfl (by kernel_rfl) (fun K' hK => ?_)
                go_simp
                refine hK.out _ _ ⟨⟨(E1.out _ 0).trans cr0, (E1.out _ 1).trans cr1⟩, ?_⟩
                clear hK K'
                refine wpAnyH_done (by kernel_rfl) ?_ _
                go_wp2
                go_roundg (n - (i + 1))
                case measure => omega
                case rel => exact ⟨i + 1, _, by omega, by go_num, by simp [hqs], (P1.out _).1, (P1.out _).2⟩
              · obtain ⟨r, hr⟩ : ∃ r : Nat, c % 8 = r := ⟨_, rfl⟩
                have q1 : (c : Int) % 8 = (r : Int) := by omega
                have q2 : Int.tmod (c : Int) 8 = (r : Int) := by rw [Int.tmod_eq_emod_of_nonneg (by omega)]; exact q1
                have q3 : IntKind.i64.wrap (Int.tmod (c : Int) 8) = (r : Int) := by rw [q2, IntKind.wrap_i64]; omega
                have q4 : (0 : Int) < (r : Int) := by omega
                have q5 : 0 < r := by omega
                clear hc8 hr
                go_wp2_with fail
                refine wp_region_any (by kernel_rfl) ?_
                simp only [List.size_toArray, List.length_cons, List.length_nil, Nat.reduceAdd, Array.replicate_succ, Array.replicate_zero, List.push_toArray, List.nil_append, List.cons_append]
                refine wpAny_take (i := 0) (v := .slice (some ⟨gq, 0, none⟩) n n) rfl (by kernel_rfl) (by kernel_rfl) (by kernel_rfl) (fun _ _ _ h => h) (Or.inl ⟨by kernel_rfl, fun _ => by kernel_rfl⟩) ?_
                refine wpAny_take (i := 1) (v := .int .i64 i) rfl (by kernel_rfl) (by kernel_rfl) (by kernel_rfl) (fun _ _ _ h => h) (Or.inl ⟨by kernel_rfl, fun _ => by kernel_rfl⟩) ?_
                refine wpAny_take (i := 2) (v := .pointer (some ⟨R, 0, none⟩)) rfl (by kernel_rfl) (by kernel_rfl) (by kernel_rfl) (fun _ _ _ h => h) (Or.inl ⟨by kernel_rfl, fun _ => by kernel_rfl⟩) ?_
                simp only [Act.put, List.setIfInBounds_toArray, List.set_cons_zero, List.set_cons_succ]
                refine wpAny_one (r := 3) (by kernel_rfl) ?_
                refine wpOp_do rfl (by kernel_rfl) (fun K' hK => ?_)
                go_simp
                refine NY.out.mono ?_
                rintro e W4 ⟨rfl, ⟨cc, cf, cr0, cr1⟩, h4⟩
                refine hK.out _ _ ?_
                clear hK K'
                refine wpAny_take (i := 4) (v := .int .i64 r) rfl (by kernel_rfl) (by kernel_rfl) (by kernel_rfl) (fun _ _ _ h => h) (Or.inl ⟨by kernel_rfl, fun w => by go_simp⟩) ?_
                simp only [Act.put, List.setIfInBounds_toArray, List.set_cons_zero, List.set_cons_succ]
                refine wpAny_take (i := 5) (v := .bool true) rfl (by kernel_rfl) (by kernel_rfl) (by kernel_rfl) (fun _ _ _ h => h) (Or.inl ⟨by kernel_rfl, fun w => by go_simp⟩) ?_
                simp only [Act.put, List.setIfInBounds_toArray, List.set_cons_zero, List.set_cons_succ]
                refine wpAny_take (i := 6) (v := .bool true) rfl (by kernel_rfl) (by kernel_rfl) (by kernel_rfl) (fun _ _ _ h => h) (Or.inl ⟨by kernel_rfl, fun _ => by kernel_rfl⟩) ?_
                simp only [Act.put, List.setIfInBounds_toArray, List.set_cons_zero, List.set_cons_succ]
                refine wpAny_take (i := 7) (v := undef) rfl (by kernel_rfl) (by kernel_rfl) (by kernel_rfl) (fun _ _ _ h => h) (Or.inr ⟨by kernel_rfl, rfl⟩) ?_
                simp only [Act.put, List.setIfInBounds_toArray, List.set_cons_zero, List.set_cons_succ]
                refine wpAny_take (i := 8) (v := undef) rfl (by kernel_rfl) (by kernel_rfl) (by kernel_rfl) (fun _ _ _ h => h) (Or.inr ⟨by kernel_rfl, rfl⟩) ?_
                simp only [Act.put, List.setIfInBounds_toArray, List.set_cons_zero, List.set_cons_succ]
                refine wpAny_take (i := 9) (v := undef) rfl (by kernel_rfl) (by kernel_rfl) (by kernel_rfl) (fun _ _ _ h => h) (Or.inr ⟨by kernel_rfl, rfl⟩) ?_
                simp only [Act.put, List.setIfInBounds_toArray, List.set_cons_zero, List.set_cons_succ]
                refine wpAny_take (i := 10) (v := undef) rfl (by kernel_rfl) (by kernel_rfl) (by kernel_rfl) (fun _ _ _ h => h) (Or.inr ⟨by kernel_rfl, rfl⟩) ?_
                simp only [Act.put, List.setIfInBounds_toArray, List.set_cons_zero, List.set_cons_succ]
                refine wpAny_take (i := 11) (v := undef) rfl (by kernel_rfl) (by kernel_rfl) (by kernel_rfl) (fun _ _ _ h => h) (Or.inr ⟨by kernel_rfl, rfl⟩) ?_
                simp only [Act.put, List.setIfInBounds_toArray, List.set_cons_zero, List.set_cons_succ]
                refine wpAny_take (i := 12) (v := undef) rfl (by kernel_rfl) (by kernel_rfl) (by kernel_rfl) (fun _ _ _ h => h) (Or.inr ⟨by kernel_rfl, rfl⟩) ?_
                simp only [Act.put, List.setIfInBounds_toArray, List.set_cons_zero, List.set_cons_succ]
                refine wpAny_take (i := 13) (v := undef) rfl (by kernel_rfl) (by kernel_rfl) (by kernel_rfl) (fun _ _ _ h => h) (Or.inr ⟨by kernel_rfl, rfl⟩) ?_
                simp only [Act.put, List.setIfInBounds_toArray, List.set_cons_zero, List.set_cons_succ]
                refine wpAny_take (i := 14) (v := undef) rfl (by kernel_rfl) (by kernel_rfl) (by kernel_rfl) (fun _ _ _ h => h) (Or.inr ⟨by kernel_rfl, rfl⟩) ?_
                simp only [Act.put, List.setIfInBounds_toArray, List.set_cons_zero, List.set_cons_succ]
                refine wpAny_take (i := 15) (v := undef) rfl (by kernel_rfl) (by kernel_rfl) (by kernel_rfl) (fun _ _ _ h => h) (Or.inr ⟨by kernel_rfl, rfl⟩) ?_
                simp only [Act.put, List.setIfInBounds_toArray, List.set_cons_zero, List.set_cons_succ]
                refine wpAny_take (i := 16) (v := undef) rfl (by kernel_rfl) (by kernel_rfl) (by kernel_rfl) (fun _ _ _ h => h) (Or.inr ⟨by kernel_rfl, rfl⟩) ?_
                simp only [Act.put, List.setIfInBounds_toArray, List.set_cons_zero, List.set_cons_succ]
                refine wpAny_take (i := 17) (v := .bool true) rfl (by kernel_rfl) (by kernel_rfl) (by kernel_rfl) (fun _ _ _ h => h) (Or.inl ⟨by kernel_rfl, fun _ => by kernel_rfl⟩) ?_
                simp only [Act.put, List.setIfInBounds_toArray, List.set_cons_zero, List.set_cons_succ]
                refine wpAny_take (i := 18) (v := .pointer (some ⟨gq, i, none⟩)) rfl (by kernel_rfl) (by kernel_rfl) (by kernel_rfl) (fun _ _ _ h => h) (Or.inl ⟨by kernel_rfl, fun w => by first | (go_simp; done) | (go_simp; omega)⟩) ?_
                simp only [Act.put, List.setIfInBounds_toArray, List.set_cons_zero, List.set_cons_succ]
                have P1 := hid (fun y => ST.out W4 y h4.out.1 h4.out.2)
                refine wpAny_one (r := 19) (by kernel_rfl) ?_
                refine wpOp_do rfl (by kernel_rfl) (fun K' hK => ?_)
                go_simp
                refine hK.out _ _ ?_
                clear hK K'
                refine wpAny_done (by kernel_rfl) ?_ _
                go_wp2
                go_roundg (n - (i + 1))
                case measure => omega
                case rel => exact ⟨i + 1, _, by omega, by go_num, by simp [hqs], (P1.out _).1, (P1.out _).2⟩
            · have h5b : ((k : Int) % 5 == 1) = false := by simp; omega
              by_cases h52 : k % 5 = 2
              · have h5c : ((k : Int) % 5 == 2) = true := by simp; omega
                clear h50 h51 h52
                go_wp2_with fail
                refine (NX.out _ hrow.out hrd.out).mono ?_
                rintro e W4 ⟨c, ii, hc, hii, rfl, ⟨cc, cf, cr0, cr1⟩, h4⟩
                generalize qs[i]?.getD false = y0 at *
                have P1 := hid (fun y => ST.out W4 y h4.out.1 h4.out.2)
                go_wp2
                go_roundg (n - (i + 1))
                case measure => omega
                case rel => exact ⟨i + 1, _, by omega, by go_num, by simp [hqs], (P1.out _).1, (P1.out _).2⟩
              · have h5c : ((k : Int) % 5 == 2) = false := by simp; omega
                clear h50 h51 h52
                go_wp2_with fail
                refine (NX.out _ hrow.out hrd.out).mono ?_
                rintro e W4 ⟨c, ii, hc, hii, rfl, ⟨cc, cf, cr0, cr1⟩, h4⟩
                generalize qs[i]?.getD false = y0 at *
                have P1 := hid (fun y => ST.out W4 y h4.out.1 h4.out.2)
                go_wp2
                go_roundg (n - (i + 1))
                case measure => omega
                case rel => exact ⟨i + 1, _, by omega, by go_num, by simp [hqs], (P1.out _).1, (P1.out _).2⟩
        · go_wp2_with fail
          go_meet
          case rel => exact ⟨qs, hqs, hrow, hrd⟩
    case rest =>
      obtain ⟨qs, hqs, hrow, hrd⟩ := hcut
      by_cases hA : k % 5 = 0
      · have a1 : ((k : Int) % 5 == 0) = true := by simp; omega
        clear hA
        by_cases hB : 0 < n
        · by_cases hC : 0 < k % 3
          · go_wp2_with fail
            refine (N.out _ hrd.out).mono ?_
            rintro e W5 ⟨⟨x, hx, rfl⟩, r5, g5⟩
            have Q5 := hid (hrow.out.grown g5 S3.out)
            have R5 := hid r5
            clear r5 g5
            have hmb : x * 256 % n < n := Nat.mod_lt _ hB
            have hmi : ((x : Int) * 256) % (n : Int) = ((x * 256 % n : Nat) : Int) := by simp
            have hfy := Q5.out.free (x * 256 % n)
            have hcy := cell_b Q5.out (x * 256 % n) (by omega)
            generalize qs[x * 256 % n]?.getD false = y9 at hcy
            generalize x * 256 % n = px at *
            have P5 := hid (And.intro (show RowV (W5.setCell ⟨gq, px, none⟩ (.bool false)) gq 4 (Bo (qs.set px false)) from by rw [← Bo_set]; exact Q5.out.set px (by rw [Bo_len]; omega) _) (R5.out.set (p := ⟨gq, px, none⟩) (Ne.symm S3.out) S4.out (.bool false)))
            have hq5 : (qs.set px false).length = n := by simp [hqs]
            go_wp2_with fail
            refine (words_own gq n (qs.set px false) _ hq5 (by omega) P5.out.1).mono ?_
            rintro e W6 ⟨ys, hy, rfl, hown, b6⟩
            have hs5 : (W5.setCell ⟨gq, px, none⟩ (.bool false)).heap.size = W5.heap.size := by simp [World.setCell]
            rw [hs5] at hown
            have L5 := hid (P5.out.2).lt
            have N5 := hid (P5.out.2).bel.size
            rw [hs5] at L5 N5
            have HY := hid (And.intro (show ys.length = (n + 63) / 64 by have := hy.1; rw [hq5] at this; exact this) hy.2.1)
            have O6 := hid hown
            have R6 := hid ((P5.out.2).below b6)
            clear hy hown b6
            go_wp2_with fail
            refine (N.out _ R6.out).mono ?_
            rintro e W7 ⟨⟨c, hc, rfl⟩, r7, g7⟩
            have O7 := hid (O6.out.kept g7 (Or.inr (by simp only [Value.ownBlock]; intro e; have := L5.out; injection e with e; omega)))
            have V7 := hid (RowV.ofOwns O7.out)
            have R7 := hid r7
            clear r7 g7 O6 R6
            have G7 := hid (And.intro (show _ ≠ R from Nat.ne_of_gt L5.out) N5.out)
            by_cases c1 : c % 24 = 1
            · have d1 : ((c : Int) % 24 == 1) = true := by simp; omega
              clear c1
              go_wp2_with (at_builtin; refine wpList_append_own _ rfl _ _ 23 rfl (W5.heap.size) 45 j0 (.int .u64 0) 1 8 Try.underlying23 hj0 hk0 hk1 hk2 rfl (by decide) _ ((n + 63) / 64) (U ys) rfl ?ao ⟨W7.heap.size, 0, none⟩ 1 1 [.int .u64 0] rfl rfl ?ac1 ?ac2 ?ac3 ?ac4 ?ac5 ?_)
              case ao => exact O7.out.alloc _
              case ac1 => exact cell_one_new _ _ _
              case ac2 => simp [Value.oneCell']
              case ac3 => unfold maxLen; omega
              case ac4 => omega
              case ac5 =>
                have := V7.out.lt
                simp
                omega
              intro v' W8 hown8 hgrow8 hn8
              have R8 := hid (show Rd w0 a len cap R W8 from Rd.grown (R7.out.below ((Below.refl _ _).alloc (Nat.le_refl _) _)) hgrow8 (Ne.symm G7.out.1) G7.out.2)
              obtain ⟨g8, c8, hv8, hb8⟩ : ∃ g8 c8, v' = .slice (some ⟨g8, 0, none⟩) ((n + 63) / 64 + 1) c8 ∧ (R < g8 ∧ w0.heap.size ≤ g8 ∧ RowV W8 g8 45 (U (ys ++ [0]))) := by
                have hown8' := hown8
                rcases hown8.2 with ⟨_, h1⟩ | ⟨g8, c8, cur, h1, h2, _⟩
                · omega
                · subst h1
                  refine ⟨g8, c8, rfl, Nat.lt_of_lt_of_le L5.out h2, Nat.le_trans N5.out h2, ?_⟩
                  have := RowV.ofOwns hown8'
                  simpa [U] using this
              rw [hv8]
              have H8 := hid hb8
              clear hown8 hgrow8 hn8 hv8 hb8
              go_wp2
              go_ret2
              exact ⟨_, _, _, ys ++ [0], _, rfl, by simp [HY.out.1], by omega, wf_snoc HY.out.2, by omega, by omega, H8.out.2.2, Nat.ne_of_gt H8.out.1, H8.out.2.1, R8.out⟩
            · have d1 : ((c : Int) % 24 == 1) = false := by simp; omega
              by_cases c2 : c % 24 = 2
              · have d2 : ((c : Int) % 24 == 2) = true := by simp; omega
                clear c1 c2
                by_cases e1 : 0 < (n + 63) / 64
                · by_cases e2 : 0 < n % 64
                  · have hcy := cell_u V7.out ((n + 63) / 64 - 1) (by rw [HY.out.1]; omega)
                    have hfy := V7.out.free ((n + 63) / 64 - 1)
                    have hor := or_top (ys[(n + 63) / 64 - 1]?.getD 0) (HY.out.2 _).1 (HY.out.2 _).2
                    have ST := hid (fun z => And.intro (V7.out.set ((n + 63) / 64 - 1) (by rw [U_len, HY.out.1]; omega) (.int .u64 z)) (R7.out.set (p := ⟨_, (n + 63) / 64 - 1, none⟩) (Ne.symm G7.out.1) G7.out.2 (.int .u64 z)))
                    obtain ⟨z2, hz2', hz3⟩ := hor
                    have Z3 := hid hz3
                    generalize ys[(n + 63) / 64 - 1]?.getD 0 = z at *
                    clear hz3
                    go_wp2
                    go_ret2
                    exact ⟨_, _, _, ys.set ((n + 63) / 64 - 1) z2, _, rfl, by simp [HY.out.1], by omega, wf_set HY.out.2 Z3.out.1 Z3.out.2, by omega, by omega, by rw [← U_set]; exact (ST.out z2).1, G7.out.1, G7.out.2, (ST.out z2).2⟩
                  · go_wp2
                    go_ret2
                    exact ⟨_, _, _, ys, _, rfl, HY.out.1, by omega, HY.out.2, by omega, by omega, V7.out, G7.out.1, G7.out.2, R7.out⟩
                · exact absurd e1 (by omega)
              · have d2 : ((c : Int) % 24 == 2) = false := by simp; omega
                by_cases c3 : c % 24 = 3
                · have d3 : ((c : Int) % 24 == 3) = true := by simp; omega
                  clear c1 c2 c3
                  go_wp2
                  go_ret2
                  exact ⟨_, _, _, ys, _, rfl, HY.out.1, by omega, HY.out.2, by omega, by omega, V7.out, G7.out.1, G7.out.2, R7.out⟩
                · have d3 : ((c : Int) % 24 == 3) = false := by simp; omega
                  clear c1 c2 c3
                  go_wp2
                  go_ret2
                  exact ⟨_, _, _, ys, _, rfl, HY.out.1, by omega, HY.out.2, by omega, by omega, V7.out, G7.out.1, G7.out.2, R7.out⟩
          · go_wp2_with fail
            refine (words_own gq n qs _ hqs (by omega) hrow.out).mono ?_
            rintro e W6 ⟨ys, hy, rfl, hown, b6⟩
            have L5 := hid (hrd.out).lt
            have N5 := hid (hrd.out).bel.size
            have HY := hid (And.intro (show ys.length = (n + 63) / 64 by have := hy.1; rw [hqs] at this; exact this) hy.2.1)
            have O6 := hid hown
            have R6 := hid ((hrd.out).below b6)
            clear hy hown b6
            go_wp2_with fail
            refine (N.out _ R6.out).mono ?_
            rintro e W7 ⟨⟨c, hc, rfl⟩, r7, g7⟩
            have O7 := hid (O6.out.kept g7 (Or.inr (by simp only [Value.ownBlock]; intro e; have := L5.out; injection e with e; omega)))
            have V7 := hid (RowV.ofOwns O7.out)
            have R7 := hid r7
            clear r7 g7 O6 R6
            have G7 := hid (And.intro (show _ ≠ R from Nat.ne_of_gt L5.out) N5.out)
            by_cases c1 : c % 24 = 1
            · have d1 : ((c : Int) % 24 == 1) = true := by simp; omega
              clear c1
              go_wp2_with (at_builtin; refine wpList_append_own _ rfl _ _ 23 rfl (wc.heap.size) 45 j0 (.int .u64 0) 1 8 Try.underlying23 hj0 hk0 hk1 hk2 rfl (by decide) _ ((n + 63) / 64) (U ys) rfl ?ao ⟨W7.heap.size, 0, none⟩ 1 1 [.int .u64 0] rfl rfl ?ac1 ?ac2 ?ac3 ?ac4 ?ac5 ?_)
              case ao => exact O7.out.alloc _
              case ac1 => exact cell_one_new _ _ _
              case ac2 => simp [Value.oneCell']
              case ac3 => unfold maxLen; omega
              case ac4 => omega
              case ac5 =>
                have := V7.out.lt
                simp
                omega
              intro v' W8 hown8 hgrow8 hn8
              have R8 := hid (show Rd w0 a len cap R W8 from Rd.grown (R7.out.below ((Below.refl _ _).alloc (Nat.le_refl _) _)) hgrow8 (Ne.symm G7.out.1) G7.out.2)
              obtain ⟨g8, c8, hv8, hb8⟩ : ∃ g8 c8, v' = .slice (some ⟨g8, 0, none⟩) ((n + 63) / 64 + 1) c8 ∧ (R < g8 ∧ w0.heap.size ≤ g8 ∧ RowV W8 g8 45 (U (ys ++ [0]))) := by
                have hown8' := hown8
                rcases hown8.2 with ⟨_, h1⟩ | ⟨g8, c8, cur, h1, h2, _⟩
                · omega
                · subst h1
                  refine ⟨g8, c8, rfl, Nat.lt_of_lt_of_le L5.out h2, Nat.le_trans N5.out h2, ?_⟩
                  have := RowV.ofOwns hown8'
                  simpa [U] using this
              rw [hv8]
              have H8 := hid hb8
              clear hown8 hgrow8 hn8 hv8 hb8
              go_wp2
              go_ret2
              exact ⟨_, _, _, ys ++ [0], _, rfl, by simp [HY.out.1], by omega, wf_snoc HY.out.2, by omega, by omega, H8.out.2.2, Nat.ne_of_gt H8.out.1, H8.out.2.1, R8.out⟩
            · have d1 : ((c : Int) % 24 == 1) = false := by simp; omega
              by_cases c2 : c % 24 = 2
              · have d2 : ((c : Int) % 24 == 2) = true := by simp; omega
                clear c1 c2
                by_cases e1 : 0 < (n + 63) / 64
                · by_cases e2 : 0 < n % 64
                  · have hcy := cell_u V7.out ((n + 63) / 64 - 1) (by rw [HY.out.1]; omega)
                    have hfy := V7.out.free ((n + 63) / 64 - 1)
                    have hor := or_top (ys[(n + 63) / 64 - 1]?.getD 0) (HY.out.2 _).1 (HY.out.2 _).2
                    have ST := hid (fun z => And.intro (V7.out.set ((n + 63) / 64 - 1) (by rw [U_len, HY.out.1]; omega) (.int .u64 z)) (R7.out.set (p := ⟨_, (n + 63) / 64 - 1, none⟩) (Ne.symm G7.out.1) G7.out.2 (.int .u64 z)))
                    obtain ⟨z2, hz2', hz3⟩ := hor
                    have Z3 := hid hz3
                    generalize ys[(n + 63) / 64 - 1]?.getD 0 = z at *
                    clear hz3
                    go_wp2
                    go_ret2
                    exact ⟨_, _, _, ys.set ((n + 63) / 64 - 1) z2, _, rfl, by simp [HY.out.1], by omega, wf_set HY.out.2 Z3.out.1 Z3.out.2, by omega, by omega, by rw [← U_set]; exact (ST.out z2).1, G7.out.1, G7.out.2, (ST.out z2).2⟩
                  · go_wp2
                    go_ret2
                    exact ⟨_, _, _, ys, _, rfl, HY.out.1, by omega, HY.out.2, by omega, by omega, V7.out, G7.out.1, G7.out.2, R7.out⟩
                · exact absurd e1 (by omega)
              · have d2 : ((c : Int) % 24 == 2) = false := by simp; omega
                by_cases c3 : c % 24 = 3
                · have d3 : ((c : Int) % 24 == 3) = true := by simp; omega
                  clear c1 c2 c3
                  go_wp2
                  go_ret2
                  exact ⟨_, _, _, ys, _, rfl, HY.out.1, by omega, HY.out.2, by omega, by omega, V7.out, G7.out.1, G7.out.2, R7.out⟩
                · have d3 : ((c : Int) % 24 == 3) = false := by simp; omega
                  clear c1 c2 c3
                  go_wp2
                  go_ret2
                  exact ⟨_, _, _, ys, _, rfl, HY.out.1, by omega, HY.out.2, by omega, by omega, V7.out, G7.out.1, G7.out.2, R7.out⟩
        · go_wp2_with fail
          refine (words_own gq n qs _ hqs (by omega) hrow.out).mono ?_
          rintro e W6 ⟨ys, hy, rfl, hown, b6⟩
          have L5 := hid (hrd.out).lt
          have N5 := hid (hrd.out).bel.size
          have HY := hid (And.intro (show ys.length = (n + 63) / 64 by have := hy.1; rw [hqs] at this; exact this) hy.2.1)
          have O6 := hid hown
          have R6 := hid ((hrd.out).below b6)
          clear hy hown b6
          go_wp2_with fail
          refine (N.out _ R6.out).mono ?_
          rintro e W7 ⟨⟨c, hc, rfl⟩, r7, g7⟩
          have O7 := hid (O6.out.kept g7 (Or.inr (by simp only [Value.ownBlock]; intro e; have := L5.out; injection e with e; omega)))
          have V7 := hid (RowV.ofOwns O7.out)
          have R7 := hid r7
          clear r7 g7 O6 R6
          have G7 := hid (And.intro (show _ ≠ R from Nat.ne_of_gt L5.out) N5.out)
          by_cases c1 : c % 24 = 1
          · have d1 : ((c : Int) % 24 == 1) = true := by simp; omega
            clear c1
            go_wp2_with (at_builtin; refine wpList_append_own _ rfl _ _ 23 rfl (wc.heap.size) 45 j0 (.int .u64 0) 1 8 Try.underlying23 hj0 hk0 hk1 hk2 rfl (by decide) _ ((n + 63) / 64) (U ys) rfl ?ao ⟨W7.heap.size, 0, none⟩ 1 1 [.int .u64 0] rfl rfl ?ac1 ?ac2 ?ac3 ?ac4 ?ac5 ?_)
            case ao => exact O7.out.alloc _
            case ac1 => exact cell_one_new _ _ _
            case ac2 => simp [Value.oneCell']
            case ac3 => unfold maxLen; omega
            case ac4 => omega
            case ac5 =>
              have := V7.out.lt
              simp
              omega
            intro v' W8 hown8 hgrow8 hn8
            have R8 := hid (show Rd w0 a len cap R W8 from Rd.grown (R7.out.below ((Below.refl _ _).alloc (Nat.le_refl _) _)) hgrow8 (Ne.symm G7.out.1) G7.out.2)
            obtain ⟨g8, c8, hv8, hb8⟩ : ∃ g8 c8, v' = .slice (some ⟨g8, 0, none⟩) ((n + 63) / 64 + 1) c8 ∧ (R < g8 ∧ w0.heap.size ≤ g8 ∧ RowV W8 g8 45 (U (ys ++ [0]))) := by
              have hown8' := hown8
              rcases hown8.2 with ⟨_, h1⟩ | ⟨g8, c8, cur, h1, h2, _⟩
              · omega
              · subst h1
                refine ⟨g8, c8, rfl, Nat.lt_of_lt_of_le L5.out h2, Nat.le_trans N5.out h2, ?_⟩
                have := RowV.ofOwns hown8'
                simpa [U] using this
            rw [hv8]
            have H8 := hid hb8
            clear hown8 hgrow8 hn8 hv8 hb8
            go_wp2
            go_ret2
            exact ⟨_, _, _, ys ++ [0], _, rfl, by simp [HY.out.1], by omega, wf_snoc HY.out.2, by omega, by omega, H8.out.2.2, Nat.ne_of_gt H8.out.1, H8.out.2.1, R8.out⟩
          · have d1 : ((c : Int) % 24 == 1) = false := by simp; omega
            by_cases c2 : c % 24 = 2
            · have d2 : ((c : Int) % 24 == 2) = true := by simp; omega
              clear c1 c2
              by_cases e1 : 0 < (n + 63) / 64
              · exact absurd e1 (by omega)
              · go_wp2
                go_ret2
                exact ⟨_, _, _, ys, _, rfl, HY.out.1, by omega, HY.out.2, by omega, by omega, V7.out, G7.out.1, G7.out.2, R7.out⟩
            · have d2 : ((c : Int) % 24 == 2) = false := by simp; omega
              by_cases c3 : c % 24 = 3
              · have d3 : ((c : Int) % 24 == 3) = true := by simp; omega
                clear c1 c2 c3
                go_wp2
                go_ret2
                exact ⟨_, _, _, ys, _, rfl, HY.out.1, by omega, HY.out.2, by omega, by omega, V7.out, G7.out.1, G7.out.2, R7.out⟩
              · have d3 : ((c : Int) % 24 == 3) = false := by simp; omega
                clear c1 c2 c3
                go_wp2
                go_ret2
                exact ⟨_, _, _, ys, _, rfl, HY.out.1, by omega, HY.out.2, by omega, by omega, V7.out, G7.out.1, G7.out.2, R7.out⟩
      · have a1 : ((k : Int) % 5 == 0) = false := by simp; omega
        clear hA
        go_wp2_with fail
        refine (words_own gq n qs _ hqs (by omega) hrow.out).mono ?_
        rintro e W6 ⟨ys, hy, rfl, hown, b6⟩
        have L5 := hid (hrd.out).lt
        have N5 := hid (hrd.out).bel.size
        have HY := hid (And.intro (show ys.length = (n + 63) / 64 by have := hy.1; rw [hqs] at this; exact this) hy.2.1)
        have O6 := hid hown
        have R6 := hid ((hrd.out).below b6)
        clear hy hown b6
        go_wp2_with fail
        refine (N.out _ R6.out).mono ?_
        rintro e W7 ⟨⟨c, hc, rfl⟩, r7, g7⟩
        have O7 := hid (O6.out.kept g7 (Or.inr (by simp only [Value.ownBlock]; intro e; have := L5.out; injection e with e; omega)))
        have V7 := hid (RowV.ofOwns O7.out)
        have R7 := hid r7
        clear r7 g7 O6 R6
        have G7 := hid (And.intro (show _ ≠ R from Nat.ne_of_gt L5.out) N5.out)
        by_cases c1 : c % 24 = 1
        · have d1 : ((c : Int) % 24 == 1) = true := by simp; omega
          clear c1
          go_wp2_with (at_builtin; refine wpList_append_own _ rfl _ _ 23 rfl (wc.heap.size) 45 j0 (.int .u64 0) 1 8 Try.underlying23 hj0 hk0 hk1 hk2 rfl (by decide) _ ((n + 63) / 64) (U ys) rfl ?ao ⟨W7.heap.size, 0, none⟩ 1 1 [.int .u64 0] rfl rfl ?ac1 ?ac2 ?ac3 ?ac4 ?ac5 ?_)
          case ao => exact O7.out.alloc _
          case ac1 => exact cell_one_new _ _ _
          case ac2 => simp [Value.oneCell']
          case ac3 => unfold maxLen; omega
          case ac4 => omega
          case ac5 =>
            have := V7.out.lt
            simp
            omega
          intro v' W8 hown8 hgrow8 hn8
          have R8 := hid (show Rd w0 a len cap R W8 from Rd.grown (R7.out.below ((Below.refl _ _).alloc (Nat.le_refl _) _)) hgrow8 (Ne.symm G7.out.1) G7.out.2)
          obtain ⟨g8, c8, hv8, hb8⟩ : ∃ g8 c8, v' = .slice (some ⟨g8, 0, none⟩) ((n + 63) / 64 + 1) c8 ∧ (R < g8 ∧ w0.heap.size ≤ g8 ∧ RowV W8 g8 45 (U (ys ++ [0]))) := by
            have hown8' := hown8
            rcases hown8.2 with ⟨_, h1⟩ | ⟨g8, c8, cur, h1, h2, _⟩
            · omega
            · subst h1
              refine ⟨g8, c8, rfl, Nat.lt_of_lt_of_le L5.out h2, Nat.le_trans N5.out h2, ?_⟩
              have := RowV.ofOwns hown8'
              simpa [U] using this
          rw [hv8]
          have H8 := hid hb8
          clear hown8 hgrow8 hn8 hv8 hb8
          go_wp2
          go_ret2
          exact ⟨_, _, _, ys ++ [0], _, rfl, by simp [HY.out.1], by omega, wf_snoc HY.out.2, by omega, by omega, H8.out.2.2, Nat.ne_of_gt H8.out.1, H8.out.2.1, R8.out⟩
        · have d1 : ((c : Int) % 24 == 1) = false := by simp; omega
          by_cases c2 : c % 24 = 2
          · have d2 : ((c : Int) % 24 == 2) = true := by simp; omega
            clear c1 c2
            by_cases e1 : 0 < (n + 63) / 64
            · by_cases e2 : 0 < n % 64
              · have hcy := cell_u V7.out ((n + 63) / 64 - 1) (by rw [HY.out.1]; omega)
                have hfy := V7.out.free ((n + 63) / 64 - 1)
                have hor := or_top (ys[(n + 63) / 64 - 1]?.getD 0) (HY.out.2 _).1 (HY.out.2 _).2
                have ST := hid (fun z => And.intro (V7.out.set ((n + 63) / 64 - 1) (by rw [U_len, HY.out.1]; omega) (.int .u64 z)) (R7.out.set (p := ⟨_, (n + 63) / 64 - 1, none⟩) (Ne.symm G7.out.1) G7.out.2 (.int .u64 z)))
                obtain ⟨z2, hz2', hz3⟩ := hor
                have Z3 := hid hz3
                generalize ys[(n + 63) / 64 - 1]?.getD 0 = z at *
                clear hz3
                go_wp2
                go_ret2
                exact ⟨_, _, _, ys.set ((n + 63) / 64 - 1) z2, _, rfl, by simp [HY.out.1], by omega, wf_set HY.out.2 Z3.out.1 Z3.out.2, by omega, by omega, by rw [← U_set]; exact (ST.out z2).1, G7.out.1, G7.out.2, (ST.out z2).2⟩
              · go_wp2
                go_ret2
                exact ⟨_, _, _, ys, _, rfl, HY.out.1, by omega, HY.out.2, by omega, by omega, V7.out, G7.out.1, G7.out.2, R7.out⟩
            · go_wp2
              go_ret2
              exact ⟨_, _, _, ys, _, rfl, HY.out.1, by omega, HY.out.2, by omega, by omega, V7.out, G7.out.1, G7.out.2, R7.out⟩
          · have d2 : ((c : Int) % 24 == 2) = false := by simp; omega
            by_cases c3 : c % 24 = 3
            · have d3 : ((c : Int) % 24 == 3) = true := by simp; omega
              clear c1 c2 c3
              go_wp2
              go_ret2
              exact ⟨_, _, _, ys, _, rfl, HY.out.1, by omega, HY.out.2, by omega, by omega, V7.out, G7.out.1, G7.out.2, R7.out⟩
            · have d3 : ((c : Int) % 24 == 3) = false := by simp; omega
              clear c1 c2 c3
              go_wp2
              go_ret2
              exact ⟨_, _, _, ys, _, rfl, HY.out.1, by omega, HY.out.2, by omega, by omega, V7.out, G7.out.1, G7.out.2, R7.out⟩
end Go.Proofs.Ythcimbocchoehaa
