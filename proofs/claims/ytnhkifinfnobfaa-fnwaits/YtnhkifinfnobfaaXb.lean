import Derived.Test.YtnhkifinfnobfaaXa
namespace Go.Proofs.Ytnhkifinfnobfaa
open Go.ChangeShapes Go.WideShapes Go.ChangeAt Go.RowKit
set_option linter.unusedVariables false

set_option maxHeartbeats 1000000 in
theorem srun_no (mix lim : Int) (a2 : Option Addr) (l2 c2 : Nat) (a3 : Option Addr) (l3 c3 : Nat) (slots : List Int) (w : World) (hs : Sl w a2 slots) (e2 : slots.length = l2) (hk : okW mix lim slots = false) :
    Calls Try.prog 8 #[.int .i64 mix, .int .i64 lim, .slice a2 l2 c2, .slice a3 l3 c3] w fun e w' => e = .returned (.tuple #[.slice none 0 0, .bool false]) ∧ Below w.heap.size w w' := by
  by_cases h1 : mix < 0
  · clear hk hs
    go_enter Try.func8, Try.ntmps8
    go_wp2
    go_ret2
    exact ⟨rfl, Below.refl _ _⟩
  by_cases h2 : 16 < mix
  · clear hk hs
    go_enter Try.func8, Try.ntmps8
    go_wp2
    go_ret2
    exact ⟨rfl, Below.refl _ _⟩
  by_cases h4 : lim < 1
  · clear hk hs
    go_enter Try.func8, Try.ntmps8
    go_wp2
    go_ret2
    exact ⟨rfl, Below.refl _ _⟩
  by_cases h5 : 32 < lim
  · clear hk hs
    go_enter Try.func8, Try.ntmps8
    go_wp2
    go_ret2
    exact ⟨rfl, Below.refl _ _⟩
  by_cases h3 : 2000 < (l2 : Int)
  · clear hk hs
    go_enter Try.func8, Try.ntmps8
    go_wp2
    go_ret2
    exact ⟨rfl, Below.refl _ _⟩
  have hnb : nb 0 slots = false := by
    unfold okW at hk
    rw [decide_eq_true (show (0 : Int) ≤ mix by omega), decide_eq_true (show mix ≤ 16 by omega), decide_eq_true (show 1 ≤ lim by omega), decide_eq_true (show lim ≤ 32 by omega), decide_eq_true (show slots.length ≤ 2000 by omega)] at hk
    simpa using hk
  have NB := hid hnb
  have CS := hid hs.cells
  have E2 := hid e2
  clear hk hs e2 hnb
  go_enter Try.func8, Try.ntmps8
  go_wp2
  go_loopw [39] (fun i wr => ∃ k : Nat, k ≤ l2 ∧ i = .int .i64 k ∧ wr = w ∧ Hid (nb 0 (slots.take k) = true)) (fun i _ => l2 - (intOf i).toNat)
  case atStart => exact ⟨0, Nat.zero_le _, rfl, rfl, by show nb _ _ = _; rfl⟩
  case round =>
    obtain ⟨k, hk, rfl, rfl, hn⟩ := hrel
    by_cases hlt : k < l2
    · obtain ⟨g, rfl, hc⟩ := CS.out k (by rw [E2.out]; exact hlt)
      have hkl : k < slots.length := by rw [E2.out]; exact hlt
      by_cases hx : 0 ≤ slots[k]?.getD 0
      · have NX := hid (nb_take hn.out hkl hx)
        have hx' : ¬ (slots[k]?.getD 0 < 0) := by omega
        clear hx hkl
        generalize slots[k]?.getD 0 = x at *
        go_wp2
        go_roundw
        case rel => exact ⟨k + 1, by omega, by go_num, trivial, NX⟩
        case measure => simp [intOf]; omega
      · have hx' : slots[k]?.getD 0 < 0 := by omega
        clear hx hkl
        generalize slots[k]?.getD 0 = x at *
        go_wp2
        go_ret2
        exact ⟨rfl, Below.refl _ _⟩
    · exfalso
      have := hn.out
      rw [show k = l2 by omega, ← E2.out, List.take_length, NB.out] at this
      cases this

set_option maxHeartbeats 2000000 in
theorem srun_yes (m n : Nat) (a2 : Option Addr) (l2 c2 : Nat) (a3 : Option Addr) (l3 c3 : Nat) (slots draws : List Int) (w : World) (hs : Sl w a2 slots) (e2 : slots.length = l2) (hd : Sl w a3 draws) (e3 : draws.length = l3) (h1 : m ≤ 16) (hn : 1 ≤ n ∧ n ≤ 32) (h2 : l2 ≤ 2000) (hnb : nb 0 slots = true) :
    Calls Try.prog 8 #[.int .i64 (m : Nat), .int .i64 (n : Nat), .slice a2 l2 c2, .slice a3 l3 c3] w fun e w' => ∃ a c, e = .returned (.tuple #[.slice a l2 c, .bool true]) ∧ Sl w' a (outsW n m slots draws) ∧ Below w.heap.size w w' := by
  have t1 : ¬ ((m : Int) < 0) := by omega
  have t2 : ¬ ((16 : Int) < (m : Int)) := by omega
  have t3 : ¬ ((2000 : Int) < (l2 : Int)) := by omega
  have t4 : ¬ ((n : Int) < 1) := by omega
  have t5 : ¬ ((32 : Int) < (n : Int)) := by omega
  have SG := hid (fun k => slot_ge hnb k)
  have CS := hid (fun W (hW : Below w.heap.size w W) => (hs.below hW).cells)
  have CD := hid (fun W (hW : Below w.heap.size w W) => (hd.below hW).cells)
  have E2 := hid e2
  have E3 := hid e3
  have LN := hid (l5New_in m n w h1)
  have PS := hid (fun W k (b1 : Option Addr) (d1 : Nat) (b2 : Option Addr) (d2 : Nat) (hW : Wt W b1 (stW n m slots draws k).1.length b2 (stW n m slots draws k).2.length (stW n m slots draws k).1 (stW n m slots draws k).2) (hz : b2 = none → d2 = 0) =>
    (show Calls Try.prog 11 #[wv b1 (stW n m slots draws k).1.length d1 b2 (stW n m slots draws k).2.length d2 (n : Nat), .int .i64 (slots[k]?.getD 0), .int .i64 (draws[k]?.getD 0)] W fun e w' => Ans W n (stW n m slots draws (k + 1)).1 (stW n m slots draws (k + 1)).2 (outW n m slots draws k) e w' from
      spush_yes b1 _ d1 b2 _ d2 n _ _ _ _ W hW hz (stW_good h1 hn hnb k) (slot_ge hnb k)))
  have LO := hid (show ∀ k, (stW n m slots draws k).1.length = m from stW_len n m slots draws)
  unfold wv at LN PS
  clear hs hd e2 e3 hnb
  go_enter Try.func8, Try.ntmps8
  go_wp2
  go_loopw [39] (fun i wr => ∃ k : Nat, k ≤ l2 ∧ i = .int .i64 k ∧ wr = w) (fun i _ => l2 - (intOf i).toNat)
  case atStart => exact ⟨0, Nat.zero_le _, rfl, rfl⟩
  case round =>
    obtain ⟨k, hk, rfl, rfl⟩ := hrel
    by_cases hlt : k < l2
    · obtain ⟨g, rfl, hc⟩ := CS.out _ (Below.refl _ _) k (by rw [E2.out]; exact hlt)
      have hx' : ¬ (slots[k]?.getD 0 < 0) := by have := SG.out k; omega
      generalize slots[k]?.getD 0 = x at *
      go_wp2
      go_roundw
      case rel => exact ⟨k + 1, by omega, by go_num, trivial⟩
      case measure => simp [intOf]; omega
    · have hk2 : ¬ ((k : Int) < (l2 : Int)) := by omega
      go_wp2_with fail
      refine (LN.out).mono ?_
      rintro e w1 ⟨a, c, rfl, ow1, b1⟩
      have A1 := hid ((Below.refl _ w1).alloc (Nat.le_refl _) (.cells #[.slice a m c, .slice none 0 0, .int .i64 (n : Nat)] 29))
      have L0 := hid (show Ls wr w1.heap.size n m slots draws 0 none 0 a c none 0 (w1.alloc (.cells #[.slice a m c, .slice none 0 0, .int .i64 (n : Nat)] 29)) from
        ⟨by rw [LO.out 0]; exact al_last _ _, ⟨(ow1.below A1.out).sl, rfl, .inl ⟨rfl, rfl⟩, rfl⟩, fun _ => rfl, Ow.nil _ _, bl_trans b1 A1.out, b1.size⟩)
      clear A1 ow1 b1 hlt hk2 hk LN
      go_wp2
      generalize w1.heap.size = o at *
      generalize w1.alloc (.cells #[.slice a m c, .slice none 0 0, .int .i64 (n : Nat)] 29) = W1 at *
      go_loopw [51, 12] (fun i v W => ∃ (k : Nat) (a : Option Addr) (c : Nat) (b1 : Option Addr) (d1 : Nat) (b2 : Option Addr) (d2 : Nat), k ≤ l2 ∧ i = .int .i64 k ∧ v = .slice a k c ∧ Hid (Ls wr o n m slots draws k a c b1 d1 b2 d2 W)) (fun i _ _ => l2 - (intOf i).toNat)
      case atStart => exact ⟨0, none, 0, _, _, _, _, Nat.zero_le _, rfl, rfl, L0⟩
      case round =>
        clear L0
        obtain ⟨k', a, c, b1, d1, b2, d2, hk, rfl, rfl, HL⟩ := hrel
        by_cases hlt : k' < l2
        · obtain ⟨g2, rfl, hc2⟩ := CS.out _ HL.out.b k' (by rw [E2.out]; exact hlt)
          have q0 := (cell_of_row _ _ 0 _ _ _ HL.out.ob).trans rfl
          have q1 := (cell_of_row _ _ 1 _ _ _ HL.out.ob).trans rfl
          have q2 := (cell_of_row _ _ 2 _ _ _ HL.out.ob).trans rfl
          by_cases hl3 : k' < l3
          · obtain ⟨g3, rfl, hc3⟩ := CD.out _ HL.out.b k' (by rw [E3.out]; exact hl3)
            go_wp2_with fail
            refine (PS.out _ k' b1 d1 b2 d2 HL.out.wt HL.out.z2).mono ?_
            rintro e w5 ⟨b1', d1', b2', d2', rfl, hw, z1, z2, hb, n1, n2⟩
            obtain ⟨ho5, nx⟩ := HL.out.next (by rw [E2.out]; exact hlt) (by rw [E2.out]; exact h2) hw z2 hb n1 n2 (d1 := d1')
            obtain ⟨a', c', W7, happ, hl'⟩ := nx _ rfl
            have HN := hid hl'
            have hsz : (((w5.setCell ⟨o, 0, none⟩ (.slice b1' (stW n m slots draws (k' + 1)).1.length d1')).setCell ⟨o, 1, none⟩ (.slice b2' (stW n m slots draws (k' + 1)).2.length d2')).setCell ⟨o, 2, none⟩ (.int .i64 (n : Nat))).heap.size = w5.heap.size := by simp [World.setCell]
            rw [hsz] at happ
            have d0 : w5.cell? ⟨o, 0, none⟩ = some _ := (cell_of_row _ _ 0 _ _ _ ho5).trans rfl
            have d1 : w5.cell? ⟨o, 1, none⟩ = some _ := (cell_of_row _ _ 1 _ _ _ ho5).trans rfl
            have d2 : w5.cell? ⟨o, 2, none⟩ = some _ := (cell_of_row _ _ 2 _ _ _ ho5).trans rfl
            have f0 := frozen_of_row _ _ 0 _ _ ho5
            have f1 := frozen_of_row _ _ 1 _ _ ho5
            have f2 := frozen_of_row _ _ 2 _ _ ho5
            clear hw z1 z2 hb n1 n2 nx hl' ho5 HL hsz q0 q1 q2
            unfold wv
            go_wp2_with (at_builtin; refine wpList_app rfl (.tmp 71) (.tmp 73) (by with_reducible rfl) rfl rfl rfl happ ?_)
            go_roundw
            case rel => exact ⟨k' + 1, a', c', b1', d1', b2', d2', by omega, by go_num, rfl, HN⟩
            case measure => simp [intOf]; omega
          · have hdz : draws[k']?.getD 0 = 0 := by rw [List.getElem?_eq_none (by rw [E3.out]; omega)]; rfl
            have PS0 := PS.out _ k' b1 d1 b2 d2 HL.out.wt HL.out.z2
            rw [hdz] at PS0
            have PX := hid PS0
            clear hdz PS0
            go_wp2_with fail
            refine (PX.out).mono ?_
            rintro e w5 ⟨b1', d1', b2', d2', rfl, hw, z1, z2, hb, n1, n2⟩
            obtain ⟨ho5, nx⟩ := HL.out.next (by rw [E2.out]; exact hlt) (by rw [E2.out]; exact h2) hw z2 hb n1 n2 (d1 := d1')
            obtain ⟨a', c', W7, happ, hl'⟩ := nx _ rfl
            have HN := hid hl'
            have hsz : (((w5.setCell ⟨o, 0, none⟩ (.slice b1' (stW n m slots draws (k' + 1)).1.length d1')).setCell ⟨o, 1, none⟩ (.slice b2' (stW n m slots draws (k' + 1)).2.length d2')).setCell ⟨o, 2, none⟩ (.int .i64 (n : Nat))).heap.size = w5.heap.size := by simp [World.setCell]
            rw [hsz] at happ
            have d0 : w5.cell? ⟨o, 0, none⟩ = some _ := (cell_of_row _ _ 0 _ _ _ ho5).trans rfl
            have d1 : w5.cell? ⟨o, 1, none⟩ = some _ := (cell_of_row _ _ 1 _ _ _ ho5).trans rfl
            have d2 : w5.cell? ⟨o, 2, none⟩ = some _ := (cell_of_row _ _ 2 _ _ _ ho5).trans rfl
            have f0 := frozen_of_row _ _ 0 _ _ ho5
            have f1 := frozen_of_row _ _ 1 _ _ ho5
            have f2 := frozen_of_row _ _ 2 _ _ ho5
            clear hw z1 z2 hb n1 n2 nx hl' ho5 HL hsz q0 q1 q2
            unfold wv
            go_wp2_with (at_builtin; refine wpList_app rfl (.tmp 71) (.tmp 73) (by with_reducible rfl) rfl rfl rfl happ ?_)
            go_roundw
            case rel => exact ⟨k' + 1, a', c', b1', d1', b2', d2', by omega, by go_num, rfl, HN⟩
            case measure => simp [intOf]; omega
        · obtain rfl : l2 = k' := by omega
          have hsl := HL.out.ow.sl
          rw [List.take_of_length_le (by rw [outsW_len, E2.out]; omega)] at hsl
          have HF := hid (And.intro hsl HL.out.b)
          clear hsl
          clear HL
          go_wp2
          go_ret2
          exact ⟨a, c, rfl, HF.out.1, HF.out.2⟩
end Go.Proofs.Ytnhkifinfnobfaa
