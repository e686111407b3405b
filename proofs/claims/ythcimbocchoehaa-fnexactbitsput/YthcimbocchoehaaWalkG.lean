import Derived.Test.YthcimbocchoehaaScanM
import Derived.Deep.LoopGhost
import Derived.WalkMore

namespace Go.Proofs.Ythcimbocchoehaa
open Go.ChangeShapes Go.WideShapes Go.ChangeAt Go.RowKit
set_option linter.unusedVariables false

theorem mod_len (s t len : Nat) (hs : s / 64 < len) (ht : t ≤ len) : (s / 64 + t) % len = if s / 64 + t < len then s / 64 + t else s / 64 + t - len := by
  split
  · exact Nat.mod_eq_of_lt ‹_›
  · rw [show s / 64 + t = (s / 64 + t - len) + len by omega, Nat.add_mod_right, Nat.mod_eq_of_lt (by omega)]
    omega

/-- the call's own box of the bitmap lies, and nothing old has turned -/
def Box (v : Value) (n : Int) (w wr : World) : Prop :=
  wr.cell? ⟨w.heap.size, 0, none⟩ = some v ∧ wr.cell? ⟨w.heap.size, 1, none⟩ = some (.int .i64 n) ∧ w.heap.size < wr.heap.size ∧ Below w.heap.size w wr
theorem Box.mk (v : Value) (n : Int) (w : World) : Box v n w (w.alloc (.cells #[v, .int .i64 n] 43)) :=
  ⟨by simp [World.cell?_alloc_at], by simp [World.cell?_alloc_at], by simp, (Below.refl _ _).alloc (Nat.le_refl _) _⟩
theorem Box.step {v : Value} {n : Int} {w a b : World} (h : Box v n w a) (hb : Below a.heap.size a b) : Box v n w b := by
  obtain ⟨h1, h2, h3, h4⟩ := h
  exact ⟨by rw [hb.cell (p := ⟨w.heap.size, 0, none⟩) h3]; exact h1, by rw [hb.cell (p := ⟨w.heap.size, 1, none⟩) h3]; exact h2, Nat.lt_of_lt_of_le h3 hb.size, bl_trans h4 hb⟩
theorem Box.drew {v : Value} {n : Int} {w a : World} (h : Box v n w a) : Box v n w a.drew := h.step (Below.refl _ _).drew
theorem Box.alloc {v : Value} {n : Int} {w a : World} (h : Box v n w a) (o : Obj) : Box v n w (a.alloc o) := h.step ((Below.refl _ _).alloc (Nat.le_refl _) o)

set_option maxHeartbeats 1000000 in
theorem scan_any (g len cap : Nat) (zs : List Int) (n s : Nat) (w : World) (hl : zs.length = len) (hn : n ≤ 4096) (hln : len = (n + 63) / 64) (hs : s < n) (hw : Wf zs) (hr : RowV w g 45 (U zs)) :
    Calls Try.prog 33 #[.agg #[.slice (some ⟨g, 0, none⟩) len cap, .int .i64 n], .int .i64 s] w fun e w' => e = .returned (.int .i64 (scanF zs n s n 0)) ∧ Below w.heap.size w w' := by
  have hlen : len ≤ 64 := by omega
  have hlen0 : 0 < len := by omega
  have hsl : s / 64 < len := by omega
  have HR := hid hr
  have HZ := hid hln
  have HH := hid (fun k W h1 h2 h3 => has_any g len cap k zs n W hl hw h1 h2 h3)
  have HE := hid (fun u a i => scan_found zs n s len u a i hln hs)
  have HX := hid (fun u a i => seen_next zs n s len u a i hln hsl)
  have HF := hid (scan_end zs n s len hln hs)
  have B0 := hid (Box.mk (.slice (some ⟨g, 0, none⟩) len cap) n w)
  clear hl hln hr hw
  go_enter Try.func33, Try.ntmps33
  go_wp2_with fail
  go_step3
  go_wp2_with fail
  refine (width_any _ _ _ _ _).mono ?_
  rintro e w' ⟨rfl, rfl⟩
  go_wp2
  go_step3
  go_wp2
  go_loopg [6, 16] (len + 1) (fun g6 s6 s16 wr => ∃ t : Nat, t + g6 = len + 1 ∧ s6 = .int .i64 (-1) ∧ s16 = .int .i64 t ∧ Aside (Seen zs n s len (s / 64 + t)) ∧ Aside (Box (.slice (some ⟨g, 0, none⟩) len cap) n w wr))
  case atStart => exact ⟨0, by omega, rfl, rfl, seen_zero zs n s len hsl, B0.out.alloc _⟩
  case round =>
    obtain ⟨t, ht, rfl, rfl, hseen, hbox⟩ := hrel
    obtain ⟨hc0, hc1, hsz, hbel⟩ := hbox.out
    by_cases hlt : t < len + 1
    · have hmod := mod_len s t len hsl (by omega)
      have hmi : ((s : Int) / 64 + (t : Int)) % (len : Int) = (((s / 64 + t) % len : Nat) : Int) := by simp
      have hmb : (s / 64 + t) % len < len := Nat.mod_lt _ hlen0
      have HM := hid hmod
      have BX := hid hbox.out
      clear hbel hbox hmod
      generalize (s / 64 + t) % len = a at *
      obtain ⟨wo, rfl⟩ : ∃ wo : World, wo = wr := ⟨_, rfl⟩
      go_wp2
      go_region
      go_wp2
      clear hc0 hc1 hsz
      have hd17 : decide ((t : Int) < (len : Int) + 1) = true := by simp; omega
      simp only [hmi, hd17]
      clear hd17 hmi
      go_loopg [6, 9] 64 (fun g2 s6 s9 wy => ∃ i : Nat, i + g2 = 64 * (a + 1) ∧ 64 * a ≤ i ∧ s6 = .int .i64 (-1) ∧ s9 = .int .i64 i ∧ Aside (SeenIn zs n s len (s / 64 + t) a i) ∧ Aside (Box (.slice (some ⟨g, 0, none⟩) len cap) n w wy))
      case atStart => exact ⟨64 * a, by omega, by omega, rfl, by go_num, ⟨hseen.out, fun p h1 h2 h3 => by omega⟩, BX.out.drew⟩
      case round =>
        obtain ⟨i, hi, hai, rfl, rfl, hin, hbox⟩ := hrel
        obtain ⟨hc0, hc1, hsz, hbel⟩ := hbox.out
        have BY := hid hbox.out
        clear hbel hbox
        by_cases h1 : i < 64 * (a + 1)
        · by_cases h2 : i < n
          · by_cases h3 : t = 0 ∧ i < s
            · obtain ⟨h3a, h3b⟩ := h3
              have h4 : ((t : Int) == 0) = true := by simp; omega
              have HN := hid (show SeenIn zs n s len (s / 64 + t) a (i + 1) from ⟨hin.out.1, fun p q1 q2 q3 q4 => by
                by_cases e : p = i
                · omega
                · exact hin.out.2 p q1 q2 (by omega) q4⟩)
              have HT := hid h3a
              clear h3a hin
              go_wp2
              go_roundg (64 * (a + 1) - (i + 1))
              case measure => omega
              case rel => exact ⟨i + 1, by omega, by omega, rfl, by go_num, HN.out, BY.out⟩
            · have hd : ((t : Int) == 0 && decide ((i : Int) < (s : Int))) = false := by
                rw [Bool.eq_false_iff]; simp; omega
              have hrw := hid (HR.out.below BY.out.2.2.2 HR.out.lt)
              have hgo := hid (HH.out i _ hrw.out (by omega) (by omega))
              have hEX := hid (fun ho => HE.out (s / 64 + t) a i HM.out (by omega) (by omega) hin.out h2 hai h1 (by omega) ho)
              have HN := hid (fun hb : bitAt zs i = true => (show SeenIn zs n s len (s / 64 + t) a (i + 1) from ⟨hin.out.1, fun p q1 q2 q3 q4 => by
                by_cases e : p = i
                · rw [e]; exact hb
                · exact hin.out.2 p q1 q2 (by omega) q4⟩))
              clear hin
              by_cases h5 : t = 0
              · have h4 : ((t : Int) == 0) = true := by simp; omega
                have h6 : s ≤ i := by omega
                have HT := hid h5
                clear h5 h3 hd
                go_wp2_with fail
                refine (hgo.out).mono ?_
                rintro e w3 ⟨rfl, b3⟩
                have B3 := hid (BY.out.step b3)
                clear b3
                cases hb : bitAt zs i
                · go_wp2
                  rw [Exit.noGoto_ret]
                  go_ret
                  exact ⟨ret_int (hEX.out hb).symm, B3.out.2.2.2⟩
                · go_wp2
                  go_roundg (64 * (a + 1) - (i + 1))
                  case measure => omega
                  case rel => exact ⟨i + 1, by omega, by omega, rfl, by go_num, HN.out hb, B3.out⟩
              · have h4 : ((t : Int) == 0) = false := by simp; omega
                clear h5 h3 hd
                go_wp2_with fail
                refine (hgo.out).mono ?_
                rintro e w3 ⟨rfl, b3⟩
                have B3 := hid (BY.out.step b3)
                clear b3
                cases hb : bitAt zs i
                · go_wp2
                  rw [Exit.noGoto_ret]
                  go_ret
                  exact ⟨ret_int (hEX.out hb).symm, B3.out.2.2.2⟩
                · go_wp2
                  go_roundg (64 * (a + 1) - (i + 1))
                  case measure => omega
                  case rel => exact ⟨i + 1, by omega, by omega, rfl, by go_num, HN.out hb, B3.out⟩
          · have HN := hid (HX.out (s / 64 + t) a i HM.out (by omega) hin.out (by omega))
            clear hin
            go_wp2
            go_roundg (len - t)
            case measure => omega
            case rel => exact ⟨t + 1, by omega, rfl, by go_num, HN.out, BY.out⟩
        · have HN := hid (HX.out (s / 64 + t) a i HM.out (by omega) hin.out (by omega))
          clear hin
          go_wp2
          go_roundg (len - t)
          case measure => omega
          case rel => exact ⟨t + 1, by omega, rfl, by go_num, HN.out, BY.out⟩
    · have HT := hid (HF.out (by have := hseen.out; rwa [show t = len + 1 by omega] at this))
      clear hseen hbox
      have HB := hid hbel
      clear hbel
      go_wp2
      rw [Exit.noGoto_ret]
      go_ret
      exact ⟨ret_int HT.out.symm, HB.out⟩
end Go.Proofs.Ythcimbocchoehaa
