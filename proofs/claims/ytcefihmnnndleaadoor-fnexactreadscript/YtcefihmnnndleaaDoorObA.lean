import Derived.Test.YtcefihmnnndleaaDoorOrB
import Derived.Test.YtcefihmnnndleaaDoorWoA
namespace Go.Proofs.YtcefihmnnndleaaDoor
open Go.ChangeShapes Go.WideShapes Go.ChangeAt Go.RowKit
set_option linter.unusedVariables false
set_option maxRecDepth 20000
set_option linter.unusedSimpArgs false
set_option maxHeartbeats 1000000 in
theorem obey36 (M A n S : Nat) (x : List UInt8) (w : World) (Q : Ending → World → Prop) (hQ : ∀ e w', Q e w' → ∃ v, e = .returned v) (hn : 0 < n) (hnl : n ≤ 1048576) (hx : w.cell? ⟨A, 0, none⟩ = some (.string (bs x)))
    (hr : (Instr.lookup 67 (.map (some M)) (.string (bs x)) true).run Tryd.prog w = .ok (.tuple #[.func (.func 36) #[.pointer (some ⟨S, 0, none⟩)] #[], .bool true]) w)
    (hC : ∀ sa c, (n = 1 ∨ sa = some ⟨A, 1, none⟩) → Calls Tryd.prog 36 #[.pointer (some ⟨S, 0, none⟩), .slice sa (n - 1) c] w Q) :
    Calls Tryd.prog 32 #[.map (some M), .slice (some ⟨A, 0, none⟩) n n] w Q := by
  obtain ⟨sx, hsx⟩ : ∃ t, t = bs x := ⟨_, rfl⟩
  rw [← hsx] at hx hr
  clear hsx
  have h0 : ((n : Int) == 0) = false := by simp; omega
  have HC := hid hC
  have HQ := hid hQ
  clear hC hQ
  by_cases h1 : n = 1
  · have hC := HC.out (some ⟨A, 0, none⟩) 0 (.inl h1)
    subst h1
    simp only [Nat.sub_self] at hC
    go_enter Tryd.func32, Tryd.ntmps32
    go_wp2_with fail
    refine hC.mono ?_
    rintro e w1 hq
    obtain ⟨v, rfl⟩ := HQ.out _ _ hq
    have HH := hid hq
    clear hC hq
    go_wp2_with fail
    exact HH.out
  · have hC := HC.out (some ⟨A, 1, none⟩) (n - 1) (.inr rfl)
    have h2 : ¬ n - 1 = 0 := by omega
    go_enter Tryd.func32, Tryd.ntmps32
    go_wp2_with fail
    refine hC.mono ?_
    rintro e w1 hq
    obtain ⟨v, rfl⟩ := HQ.out _ _ hq
    have HH := hid hq
    clear hC hq
    go_wp2_with fail
    exact HH.out
set_option maxHeartbeats 1000000 in
theorem obey37 (M A n S : Nat) (x : List UInt8) (w : World) (Q : Ending → World → Prop) (hQ : ∀ e w', Q e w' → ∃ v, e = .returned v) (hn : 0 < n) (hnl : n ≤ 1048576) (hx : w.cell? ⟨A, 0, none⟩ = some (.string (bs x)))
    (hr : (Instr.lookup 67 (.map (some M)) (.string (bs x)) true).run Tryd.prog w = .ok (.tuple #[.func (.func 37) #[.pointer (some ⟨S, 0, none⟩)] #[], .bool true]) w)
    (hC : ∀ sa c, (n = 1 ∨ sa = some ⟨A, 1, none⟩) → Calls Tryd.prog 37 #[.pointer (some ⟨S, 0, none⟩), .slice sa (n - 1) c] w Q) :
    Calls Tryd.prog 32 #[.map (some M), .slice (some ⟨A, 0, none⟩) n n] w Q := by
  obtain ⟨sx, hsx⟩ : ∃ t, t = bs x := ⟨_, rfl⟩
  rw [← hsx] at hx hr
  clear hsx
  have h0 : ((n : Int) == 0) = false := by simp; omega
  have HC := hid hC
  have HQ := hid hQ
  clear hC hQ
  by_cases h1 : n = 1
  · have hC := HC.out (some ⟨A, 0, none⟩) 0 (.inl h1)
    subst h1
    simp only [Nat.sub_self] at hC
    go_enter Tryd.func32, Tryd.ntmps32
    go_wp2_with fail
    refine hC.mono ?_
    rintro e w1 hq
    obtain ⟨v, rfl⟩ := HQ.out _ _ hq
    have HH := hid hq
    clear hC hq
    go_wp2_with fail
    exact HH.out
  · have hC := HC.out (some ⟨A, 1, none⟩) (n - 1) (.inr rfl)
    have h2 : ¬ n - 1 = 0 := by omega
    go_enter Tryd.func32, Tryd.ntmps32
    go_wp2_with fail
    refine hC.mono ?_
    rintro e w1 hq
    obtain ⟨v, rfl⟩ := HQ.out _ _ hq
    have HH := hid hq
    clear hC hq
    go_wp2_with fail
    exact HH.out
set_option maxHeartbeats 1000000 in
theorem obey38 (M A n S : Nat) (x : List UInt8) (w : World) (Q : Ending → World → Prop) (hQ : ∀ e w', Q e w' → ∃ v, e = .returned v) (hn : 0 < n) (hnl : n ≤ 1048576) (hx : w.cell? ⟨A, 0, none⟩ = some (.string (bs x)))
    (hr : (Instr.lookup 67 (.map (some M)) (.string (bs x)) true).run Tryd.prog w = .ok (.tuple #[.func (.func 38) #[.pointer (some ⟨S, 0, none⟩)] #[], .bool true]) w)
    (hC : ∀ sa c, (n = 1 ∨ sa = some ⟨A, 1, none⟩) → Calls Tryd.prog 38 #[.pointer (some ⟨S, 0, none⟩), .slice sa (n - 1) c] w Q) :
    Calls Tryd.prog 32 #[.map (some M), .slice (some ⟨A, 0, none⟩) n n] w Q := by
  obtain ⟨sx, hsx⟩ : ∃ t, t = bs x := ⟨_, rfl⟩
  rw [← hsx] at hx hr
  clear hsx
  have h0 : ((n : Int) == 0) = false := by simp; omega
  have HC := hid hC
  have HQ := hid hQ
  clear hC hQ
  by_cases h1 : n = 1
  · have hC := HC.out (some ⟨A, 0, none⟩) 0 (.inl h1)
    subst h1
    simp only [Nat.sub_self] at hC
    go_enter Tryd.func32, Tryd.ntmps32
    go_wp2_with fail
    refine hC.mono ?_
    rintro e w1 hq
    obtain ⟨v, rfl⟩ := HQ.out _ _ hq
    have HH := hid hq
    clear hC hq
    go_wp2_with fail
    exact HH.out
  · have hC := HC.out (some ⟨A, 1, none⟩) (n - 1) (.inr rfl)
    have h2 : ¬ n - 1 = 0 := by omega
    go_enter Tryd.func32, Tryd.ntmps32
    go_wp2_with fail
    refine hC.mono ?_
    rintro e w1 hq
    obtain ⟨v, rfl⟩ := HQ.out _ _ hq
    have HH := hid hq
    clear hC hq
    go_wp2_with fail
    exact HH.out
set_option maxHeartbeats 1000000 in
theorem obey50 (M A n Pb Kb Sb : Nat) (x : List UInt8) (w : World) (Q : Ending → World → Prop) (hQ : ∀ e w', Q e w' → ∃ v, e = .returned v) (hn : 0 < n) (hnl : n ≤ 1048576) (hx : w.cell? ⟨A, 0, none⟩ = some (.string (bs x)))
    (hr : (Instr.lookup 67 (.map (some M)) (.string (bs x)) true).run Tryd.prog w = .ok (.tuple #[.func (.func 50) #[] #[.pointer (some ⟨Pb, 0, none⟩), .pointer (some ⟨Kb, 0, none⟩), .pointer (some ⟨Sb, 0, none⟩)], .bool true]) w)
    (hC : ∀ sa c, (n = 1 ∨ sa = some ⟨A, 1, none⟩) → Calls Tryd.prog 50 #[.slice sa (n - 1) c, .pointer (some ⟨Pb, 0, none⟩), .pointer (some ⟨Kb, 0, none⟩), .pointer (some ⟨Sb, 0, none⟩)] w Q) :
    Calls Tryd.prog 32 #[.map (some M), .slice (some ⟨A, 0, none⟩) n n] w Q := by
  obtain ⟨sx, hsx⟩ : ∃ t, t = bs x := ⟨_, rfl⟩
  rw [← hsx] at hx hr
  clear hsx
  have h0 : ((n : Int) == 0) = false := by simp; omega
  have HC := hid hC
  have HQ := hid hQ
  clear hC hQ
  by_cases h1 : n = 1
  · have hC := HC.out (some ⟨A, 0, none⟩) 0 (.inl h1)
    subst h1
    simp only [Nat.sub_self] at hC
    go_enter Tryd.func32, Tryd.ntmps32
    go_wp2_with fail
    refine hC.mono ?_
    rintro e w1 hq
    obtain ⟨v, rfl⟩ := HQ.out _ _ hq
    have HH := hid hq
    clear hC hq
    go_wp2_with fail
    exact HH.out
  · have hC := HC.out (some ⟨A, 1, none⟩) (n - 1) (.inr rfl)
    have h2 : ¬ n - 1 = 0 := by omega
    go_enter Tryd.func32, Tryd.ntmps32
    go_wp2_with fail
    refine hC.mono ?_
    rintro e w1 hq
    obtain ⟨v, rfl⟩ := HQ.out _ _ hq
    have HH := hid hq
    clear hC hq
    go_wp2_with fail
    exact HH.out
set_option maxHeartbeats 1000000 in
theorem obeyN (M A n : Nat) (x : List UInt8) (a1 : Addr) (w : World) (hn : 0 < n) (hnl : n ≤ 1048576) (hx : w.cell? ⟨A, 0, none⟩ = some (.string (bs x)))
    (h1 : w.cell? ⟨1, 0, none⟩ = some (.iface 141 (.pointer (some a1))))
    (hr : (Instr.lookup 67 (.map (some M)) (.string (bs x)) true).run Tryd.prog w = .ok (.tuple #[.nilFunc, .bool false]) w) :
    Calls Tryd.prog 32 #[.map (some M), .slice (some ⟨A, 0, none⟩) n n] w fun e w' => e = .returned (wE (bs x) a1) ∧ w' = w := by
  obtain ⟨sx, hsx⟩ : ∃ t, t = bs x := ⟨_, rfl⟩
  rw [← hsx] at hx hr ⊢
  clear hsx
  have h0 : ((n : Int) == 0) = false := by simp; omega
  have hC := im_unclear sx a1 w h1
  go_enter Tryd.func32, Tryd.ntmps32
  go_wp2_with fail
  refine hC.mono ?_
  rintro e w1 ⟨rfl, rfl⟩
  unfold wE
  clear hC
  go_wp2_with fail
  go_ret
  exact ⟨rfl, rfl⟩
theorem obey0 (M A : Nat) (w : World) :
    Calls Tryd.prog 32 #[.map (some M), .slice (some ⟨A, 0, none⟩) 0 0] w fun e w' => e = .returned .nilIface ∧ w' = w := by
  go_enter Tryd.func32, Tryd.ntmps32
  go_wp2_with fail
  go_ret
  exact ⟨rfl, rfl⟩
end Go.Proofs.YtcefihmnnndleaaDoor
