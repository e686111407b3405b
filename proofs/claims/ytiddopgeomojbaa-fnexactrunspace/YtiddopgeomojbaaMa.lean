import Derived.Test.YtiddopgeomojbaaRows
import Derived.WalkKit
import Derived.ProofKit
import Derived.OpenShut
import Derived.WalkLawsBesides
import Derived.BigQuiet
import Derived.Deep.QuietTactic
import Derived.Maps.OwnSet
import Derived.Maps.OwnOps
namespace Go.Proofs.Ytiddopgeomojbaa
open Go.ChangeShapes Go.WideShapes Go.ChangeAt Go.RowKit
set_option linter.unusedVariables false

theorem hid {p : Prop} (h : p) : Hid p := h
theorem ret_int {k : IntKind} {a b : Int} (h : a = b) : Ending.returned (.int k a) = .returned (.int k b) := by rw [h]
theorem ret_bool {a b : Bool} (h : a = b) : Ending.returned (.bool a) = .returned (.bool b) := by rw [h]
theorem int_cast {k : IntKind} {a b : Int} (h : a = b) : Value.int k a = .int k b := by rw [h]

/-- Block g is a row of cells of type e whose first cells are xs; no cell of it is frozen. -/
def RowV (w : World) (g : Nat) (e : TypeId) (xs : List Value) : Prop :=
  ∃ c : Array Value, w.heap[g]? = some (.cells c e (0, 0)) ∧ xs.length ≤ c.size ∧ ∀ i, i < xs.length → c[i]? = xs[i]?

theorem RowV.lt {w : World} {g : Nat} {e : TypeId} {xs : List Value} (h : RowV w g e xs) : g < w.heap.size := by
  obtain ⟨c, h1, _⟩ := h
  exact lt_of_block h1
theorem RowV.cell {w : World} {g : Nat} {e : TypeId} {xs : List Value} (h : RowV w g e xs) (i : Nat) (hi : i < xs.length) : w.cell? ⟨g, i, none⟩ = xs[i]? := by
  obtain ⟨c, h1, _, h3⟩ := h
  simp [World.cell?, h1, h3 i hi]
theorem RowV.free {w : World} {g : Nat} {e : TypeId} {xs : List Value} (h : RowV w g e xs) (i : Nat) : w.frozen? ⟨g, i, none⟩ = false := by
  obtain ⟨c, h1, _⟩ := h
  simp [World.frozen?, h1]
theorem RowV.below {w w' : World} {B g : Nat} {e : TypeId} {xs : List Value} (h : RowV w g e xs) (hb : Below B w w') (hg : g < B) : RowV w' g e xs := by
  obtain ⟨c, h1, h2⟩ := h
  exact ⟨c, by rw [hb.block g hg]; exact h1, h2⟩
theorem RowV.drew {w : World} {g : Nat} {e : TypeId} {xs : List Value} (h : RowV w g e xs) : RowV w.drew g e xs := h
theorem RowV.set {w : World} {g : Nat} {e : TypeId} {xs : List Value} (h : RowV w g e xs) (i : Nat) (hi : i < xs.length) (v : Value) : RowV (w.setCell ⟨g, i, none⟩ v) g e (xs.set i v) := by
  obtain ⟨c, h1, h2, h3⟩ := h
  refine ⟨c.setIfInBounds i v, ?_, by simpa using h2, ?_⟩
  · simp [World.setCell, Array.getElem?_modify, h1]
  · intro j hj
    simp at hj
    rw [Array.getElem?_setIfInBounds, List.getElem?_set]
    by_cases e : i = j
    · subst e; simp [hi, show i < c.size by omega]
    · simp [e, h3 j hj]
theorem RowV.other {w : World} {g : Nat} {e : TypeId} {xs : List Value} (h : RowV w g e xs) {p : Addr} (hp : g ≠ p.block) (v : Value) : RowV (w.setCell p v) g e xs := by
  obtain ⟨c, h1, h2⟩ := h
  exact ⟨c, by rw [Below.heap_setCell _ _ _ _ hp]; exact h1, h2⟩
theorem RowV.grown {w w' : World} {g g' : Nat} {e : TypeId} {xs : List Value} (h : RowV w g e xs) (hg : w.grownBy w' (some g')) (hne : g ≠ g') : RowV w' g e xs := by
  obtain ⟨c, h1, h2⟩ := h
  exact ⟨c, by rw [hg.block g (lt_of_block h1) (by simpa using hne)]; exact h1, h2⟩
theorem RowV.ofOwns {w : World} {g n cap base : Nat} {e : TypeId} {xs : List Value} (h : w.ownsRow base e 1 (.slice (some ⟨g, 0, none⟩) n cap) n xs) : RowV w g e xs := by
  obtain ⟨h1, h2⟩ := h
  rcases h2 with h2 | ⟨g', cap', cur, hv, hg, hh, h3, h4, h5, h6⟩
  · simp at h2
  · simp at hv
    obtain ⟨rfl, rfl⟩ := hv
    subst h6
    refine ⟨cur, hh, by simp; omega, ?_⟩
    intro i hi
    simp at hi
    simp [List.getElem?_take]; omega

/-- numbers as values -/
def Ns (k : IntKind) (zs : List Int) : List Value := zs.map (Value.int k)
theorem Ns_len (k : IntKind) (zs : List Int) : (Ns k zs).length = zs.length := by simp [Ns]
theorem Ns_set (k : IntKind) (zs : List Int) (i : Nat) (v : Int) : (Ns k zs).set i (.int k v) = Ns k (zs.set i v) := by simp [Ns, List.map_set]
theorem cell_n {k : IntKind} {w : World} {g : Nat} {e : TypeId} {zs : List Int} (h : RowV w g e (Ns k zs)) (i : Nat) (hi : i < zs.length) : w.cell? ⟨g, i, none⟩ = some (.int k (zs[i]?.getD 0)) := by
  rw [h.cell i (by simpa [Ns] using hi)]
  simp [Ns, hi]
theorem getD_some (zs : List Int) (k : Nat) (h : k < zs.length) : zs[k]? = some (zs[k]?.getD 0) := by simp [h]

/-- what the skeleton's walk is told of a slice of integers that came in -/
def IsRow (k : IntKind) (w : World) (a : Option Addr) (len cap : Nat) (zs : List Int) : Prop :=
  (a = none ∧ len = 0 ∧ cap = 0 ∧ zs = []) ∨
  ∃ x, a = some x ∧ len ≤ cap ∧ cap ≤ maxLen ∧ zs.length = cap ∧ (∀ i, i < zs.length → w.cell? (x.add i) = some (.int k (zs.getD i 0))) ∧ ∀ n ∈ zs, (Lit.int k n).wf = true
theorem below_cell {w w' : World} (hb : Below w.heap.size w w') {x : Addr} {v : Value} (h : w.cell? x = some v) : w'.cell? x = some v := by
  have hx : x.block < w.heap.size := by
    unfold World.cell? at h
    split at h
    · rename_i h1; exact lt_of_block h1
    · cases h
  rw [hb.cell hx]; exact h
theorem IsRow.below {k : IntKind} {w w' : World} {a : Option Addr} {len cap : Nat} {zs : List Int} (h : IsRow k w a len cap zs) (hb : Below w.heap.size w w') : IsRow k w' a len cap zs := by
  rcases h with h | ⟨x, h1, h2, h3, h4, h5, h6⟩
  · exact .inl h
  · exact .inr ⟨x, h1, h2, h3, h4, fun i hi => below_cell hb (h5 i hi), h6⟩
theorem IsRow.len {k : IntKind} {w : World} {a : Option Addr} {len cap : Nat} {zs : List Int} (h : IsRow k w a len cap zs) : (zs.take len).length = len := by
  rcases h with ⟨_, rfl, _, rfl⟩ | ⟨x, h1, h2, h3, h4, h5, h6⟩
  · simp
  · simp; omega
theorem bl_trans {a b c : World} (h1 : Below a.heap.size a b) (h2 : Below b.heap.size b c) : Below a.heap.size a c := h1.trans (h2.mono h1.size)

/-- ys agrees with zs in the first k places -/
def Agree {α : Type} (ys zs : List α) (k : Nat) : Prop := ys.length = zs.length ∧ ∀ j, j < k → ys[j]? = zs[j]?
theorem Agree.zero {α : Type} {ys zs : List α} (h : ys.length = zs.length) : Agree ys zs 0 := ⟨h, fun j hj => by omega⟩
theorem Agree.succ {α : Type} {ys zs : List α} {k : Nat} (h : Agree ys zs k) (hk : k < zs.length) (v : α) (hv : zs[k]? = some v) : Agree (ys.set k v) zs (k + 1) := by
  refine ⟨by simp [h.1], fun j hj => ?_⟩
  rw [List.getElem?_set]
  by_cases e : k = j
  · subst e; simp [h.1, hk] at *; exact hv.symm
  · rw [if_neg e]; exact h.2 j (by omega)
theorem Agree.all {α : Type} {ys zs : List α} {k : Nat} (h : Agree ys zs k) (hk : zs.length ≤ k) : ys = zs := by
  apply List.ext_getElem?
  intro j
  by_cases hj : j < k
  · exact h.2 j hj
  · rw [List.getElem?_eq_none (by have := h.1; omega), List.getElem?_eq_none (by omega)]

theorem grown_refl (w : World) (g : Nat) : w.grownBy w (some g) := ⟨rfl, rfl, rfl, Nat.le_refl _, fun _ _ _ => rfl⟩
theorem grown_set {w w1 : World} {g : Nat} (h : w.grownBy w1 (some g)) (i : Nat) (v : Value) : w.grownBy (w1.setCell ⟨g, i, none⟩ v) (some g) :=
  ⟨h.os, h.tape, h.output, by simp [World.setCell]; exact h.size, fun k hk hne => by
    rw [Below.heap_setCell _ _ _ _ (by intro e; exact hne (by rw [e]))]; exact h.block k hk hne⟩
theorem grown_drew {W W' : World} {g : Option Nat} (h : W.grownBy W' g) : W.grownBy W'.drew g := ⟨h.os, h.tape, h.output, h.size, h.block⟩
theorem below_grown {a w w' : World} {g : Nat} (h : Below a.heap.size a w) (hg : w.grownBy w' (some g)) (hb : a.heap.size ≤ g) : Below a.heap.size a w' :=
  h.grown hg h.size (fun k e => by cases e; exact hb)
end Go.Proofs.Ytiddopgeomojbaa

namespace Go.Proofs.Ytiddopgeomojbaa
open Go.ChangeShapes Go.WideShapes Go.ChangeAt Go.RowKit
set_option linter.unusedVariables false

theorem Try.info5By : (Try.prog.info? 5).map (fun i => (i.zero, i.size, i.bytes)) = some (some (.int .u8 0), 1, 1) := by kernel_rfl
/-- k0, k0 + 1, .. as the kind holds them -/
def rampBy (k0 len : Nat) : List Int := (List.range len).map fun j => ((k0 + j : Nat) : Int) % 256
theorem rampBy_len (k0 len : Nat) : (rampBy k0 len).length = len := by simp [rampBy]
theorem rampBy_get (k0 len j : Nat) (h : j < len) : (rampBy k0 len)[j]? = some (((k0 + j : Nat) : Int) % 256) := by simp [rampBy, h]
theorem slBy {w : World} {g : Nat} {zs : List Int} (h : RowV w g 5 (Ns .u8 zs)) {len : Nat} (hl : zs.length = len) : ∀ i, i < len → ∃ g', some (⟨g, 0, none⟩ : Addr) = some ⟨g', 0, none⟩ ∧ w.cell? ⟨g', i, none⟩ = some (.int .u8 (zs[i]?.getD 0)) :=
  fun i hi => ⟨g, rfl, cell_n h i (by omega)⟩

set_option maxHeartbeats 400000 in
theorem toBy_some (x : Addr) (len cap : Nat) (zs : List Int) (w : World) (hl : zs.length = len) (hlen : len ≤ 1048576)
    (hc : ∀ i, i < len → w.cell? (x.add i) = some (.int .u8 (zs[i]?.getD 0))) :
    Calls Try.prog 49 #[.slice (some x) len cap] w fun e w' => e = .returned (.slice (some ⟨w.heap.size, 0, none⟩) len len) ∧ RowV w' w.heap.size 5 (Ns .u8 zs) ∧ Below w.heap.size w w' := by
  obtain ⟨i0, hi, hz0, hz1, hz2⟩ := info_parts Try.info5By
  go_enter Try.func49, Try.ntmps49
  go_wp2_with (at_make; refine wpList_make_full _ rfl _ _ 22 rfl w.heap.size 5 i0 (.int .u8 0) 1 Try.underlying22 hi hz0 hz1 .i64 .i64 _ _ len rfl rfl rfl rfl ?c1 ?c2 ?c3 ?_)
  case c1 => rw [hz2]; omega
  case c2 => unfold maxLen; omega
  case c3 => exact Nat.le_refl _
  intro w1 hown hgrow
  have hR : RowV w1 w.heap.size 5 (Ns .u8 (List.replicate len 0)) := by
    have := RowV.ofOwns hown
    simpa [Ns, toList_madeCells_one, Value.cells] using this
  have hB : Below w.heap.size w w1 := (Below.refl _ w).grown hgrow (Nat.le_refl _) (by simp)
  clear hown hgrow
  go_wp2
  go_loopw [4] (fun i wr => ∃ (k : Nat) (ys : List Int), k ≤ len ∧ i = .int .i64 k ∧ Agree ys zs k ∧ RowV wr w.heap.size 5 (Ns .u8 ys) ∧ Below w.heap.size w wr) (fun i _ => len - (intOf i).toNat)
  case atStart => exact ⟨0, _, Nat.zero_le _, rfl, Agree.zero (by simp [hl]), hR, hB⟩
  case round =>
    obtain ⟨k, ys, hk, rfl, hag, hrow, hbel⟩ := hrel
    by_cases hlt : k < len
    · have hcx : wr.cell? (x.add k) = some (.int .u8 (zs[k]?.getD 0)) := below_cell hbel (hc k hlt)
      have hcy := cell_n hrow k (by rw [hag.1]; omega)
      have hfy := hrow.free k
      have R1 := hrow.set k (by rw [Ns_len, hag.1]; omega) (.int .u8 (zs[k]?.getD 0))
      rw [Ns_set] at R1
      have A1 := hag.succ (by omega) _ (getD_some zs k (by omega))
      have B1 := hbel.setCell (p := ⟨w.heap.size, k, none⟩) (Nat.le_refl _) (.int .u8 (zs[k]?.getD 0))
      have HR := hid (And.intro R1 (And.intro A1 B1))
      clear R1 A1 B1 hrow hbel hag hR hB hc
      generalize zs[k]?.getD 0 = z at *
      generalize ys[k]?.getD 0 = y at hcy
      go_wp2
      go_roundw
      case rel => exact ⟨k + 1, _, by omega, by go_num, HR.out.2.1, HR.out.1, HR.out.2.2⟩
      case measure => simp [intOf]; omega
    · have HR := hid (And.intro (hag.all (by omega) ▸ hrow) hbel)
      clear hrow hbel hag hR hB hc
      go_wp2
      go_ret
      exact ⟨rfl, HR.out⟩

set_option maxHeartbeats 400000 in
theorem toBy_none (w : World) :
    Calls Try.prog 49 #[.slice none 0 0] w fun e w' => e = .returned (.slice (some ⟨w.heap.size, 0, none⟩) 0 0) ∧ RowV w' w.heap.size 5 (Ns .u8 []) ∧ Below w.heap.size w w' := by
  obtain ⟨i0, hi, hz0, hz1, hz2⟩ := info_parts Try.info5By
  go_enter Try.func49, Try.ntmps49
  go_wp2_with (at_make; refine wpList_make_full _ rfl _ _ 22 rfl w.heap.size 5 i0 (.int .u8 0) 1 Try.underlying22 hi hz0 hz1 .i64 .i64 _ _ 0 rfl rfl rfl rfl ?c1 ?c2 ?c3 ?_)
  case c1 => omega
  case c2 => unfold maxLen; omega
  case c3 => exact Nat.le_refl _
  intro w1 hown hgrow
  have hR : RowV w1 w.heap.size 5 (Ns .u8 []) := by
    have := RowV.ofOwns hown
    simpa [Ns, toList_madeCells_one, Value.cells] using this
  have hB : Below w.heap.size w w1 := (Below.refl _ w).grown hgrow (Nat.le_refl _) (by simp)
  clear hown hgrow
  go_wp2
  refine wp_loop_rounds 1 ?_
  rw [rounds_succ]
  go_wp2
  go_ret
  exact ⟨rfl, hR, hB⟩

theorem toBy (a : Option Addr) (len cap : Nat) (zs : List Int) (w : World) (h : IsRow .u8 w a len cap zs) (hlen : len ≤ 1048576) :
    Calls Try.prog 49 #[.slice a len cap] w fun e w' => e = .returned (.slice (some ⟨w.heap.size, 0, none⟩) len len) ∧ RowV w' w.heap.size 5 (Ns .u8 (zs.take len)) ∧ Below w.heap.size w w' := by
  have hl := h.len
  rcases h with ⟨rfl, rfl, rfl, rfl⟩ | ⟨x, rfl, h2, h3, h4, h5, h6⟩
  · exact toBy_none w
  · refine toBy_some x len cap (zs.take len) w hl hlen fun i hi => ?_
    rw [h5 i (by omega)]
    simp [hi, List.getD_eq_getElem?_getD]

set_option maxHeartbeats 400000 in
theorem eqBy (a b : Option Addr) (len ca cb : Nat) (zs : List Int) (w : World) (hlen : len ≤ 1048576)
    (ha : ∀ i, i < len → ∃ g, a = some ⟨g, 0, none⟩ ∧ w.cell? ⟨g, i, none⟩ = some (.int .u8 (zs[i]?.getD 0)))
    (hb : ∀ i, i < len → ∃ g, b = some ⟨g, 0, none⟩ ∧ w.cell? ⟨g, i, none⟩ = some (.int .u8 (zs[i]?.getD 0))) :
    Calls Try.prog 51 #[.slice a len ca, .slice b len cb] w fun e w' => e = .returned (.bool true) ∧ Below w.heap.size w w' := by
  go_enter Try.func51, Try.ntmps51
  go_wp2
  go_loopw [5] (fun i wr => ∃ (k : Nat), k ≤ len ∧ i = .int .i64 k ∧ Below w.heap.size w wr) (fun i _ => len - (intOf i).toNat)
  case atStart => exact ⟨0, Nat.zero_le _, rfl, Below.refl _ _⟩
  case round =>
    obtain ⟨k, hk, rfl, hbel⟩ := hrel
    by_cases hlt : k < len
    · obtain ⟨ga, rfl, hca⟩ := ha k hlt
      obtain ⟨gb, rfl, hcb⟩ := hb k hlt
      have hca' := below_cell hbel hca
      have hcb' := below_cell hbel hcb
      have HB := hid hbel
      clear ha hb hca hcb hbel
      go_wp2
      go_region
      all_goals go_wp2
      go_roundw
      case rel => exact ⟨k + 1, by omega, by go_num, HB.out.drew⟩
      case measure => simp [intOf]; omega
    · go_wp2
      go_ret
      exact ⟨rfl, hbel⟩

set_option maxHeartbeats 400000 in
theorem markBy_nil (k0 : Nat) (w : World) (hk : k0 ≤ 1000000000000) :
    Calls Try.prog 31 #[.slice none 0 0, .int .i64 k0] w fun e w' => e = .returned (.int .i64 k0) ∧ w' = w := by
  go_enter Try.func31, Try.ntmps31
  go_wp2
  refine wp_loop_rounds 1 ?_
  rw [rounds_succ]
  go_wp2
  go_ret
  exact ⟨rfl, rfl⟩

set_option maxHeartbeats 400000 in
theorem heldBy_nil (k0 : Nat) (w : World) (hk : k0 ≤ 1000000000000) :
    Calls Try.prog 52 #[.slice none 0 0, .int .i64 k0] w fun e w' => e = .returned (.int .i64 k0) ∧ w' = w := by
  go_enter Try.func52, Try.ntmps52
  go_wp2
  refine wp_loop_rounds 1 ?_
  rw [rounds_succ]
  go_wp2
  go_ret
  exact ⟨rfl, rfl⟩

set_option maxHeartbeats 400000 in
theorem markBy (g len cap : Nat) (zs : List Int) (k0 : Nat) (w : World) (hl : zs.length = len) (hlen : len ≤ 1048576) (hk : k0 ≤ 1000000000000) (hr : RowV w g 5 (Ns .u8 zs)) :
    Calls Try.prog 31 #[.slice (some ⟨g, 0, none⟩) len cap, .int .i64 k0] w fun e w' => e = .returned (.int .i64 (k0 + len : Nat)) ∧ RowV w' g 5 (Ns .u8 (rampBy k0 len)) ∧ w.grownBy w' (some g) := by
  have HR := hid hr
  have HL := hid hl
  clear hr hl
  go_enter Try.func31, Try.ntmps31
  go_wp2
  go_loopw [1, 5] (fun v i wr => ∃ (j : Nat) (ys : List Int), j ≤ len ∧ i = .int .i64 j ∧ v = .int .i64 (k0 + j : Nat) ∧ Hid (Agree ys (rampBy k0 len) j) ∧ Hid (RowV wr g 5 (Ns .u8 ys)) ∧ Hid (w.grownBy wr (some g))) (fun _ i _ => len - (intOf i).toNat)
  case atStart => exact ⟨0, zs, Nat.zero_le _, rfl, rfl, Agree.zero (by rw [HL.out, rampBy_len]), HR.out, grown_refl w g⟩
  case round =>
    obtain ⟨j, ys, hj, rfl, rfl, hag, hrow, hgr⟩ := hrel
    by_cases hlt : j < len
    · have hyl : ys.length = len := by rw [hag.out.1, rampBy_len]
      have hcy := cell_n hrow.out j (by omega)
      have hfy := hrow.out.free j
      have R1 := hrow.out.set j (by rw [Ns_len]; omega) (.int .u8 (((k0 + j : Nat) : Int) % 256))
      rw [Ns_set] at R1
      have A1 := hag.out.succ (by rw [rampBy_len]; exact hlt) _ (rampBy_get k0 len j hlt)
      have HP := hid (And.intro R1 (And.intro A1 (grown_set hgr.out j (.int .u8 (((k0 + j : Nat) : Int) % 256)))))
      have hcv : IntKind.u8.wrap ((k0 : Int) + (j : Int)) = ((k0 + j : Nat) : Int) % 256 := by rw [IntKind.wrap_u8']; simp
      clear hyl R1 A1
      generalize ys[j]?.getD 0 = y at hcy
      go_wp2
      go_roundw
      case rel => exact ⟨j + 1, _, by omega, by go_num, by go_num, HP.out.2.1, by first | exact HP.out.1 | (have := HP.out.1; simpa using this), by first | exact HP.out.2.2 | (have := HP.out.2.2; simpa using this)⟩
      case measure => simp [intOf]; omega
    · have hjl : j = len := by omega
      subst hjl
      have HP := hid (And.intro (hag.out.all (by rw [rampBy_len]; exact Nat.le_refl _) ▸ hrow.out) hgr.out)
      go_wp2
      go_ret
      exact ⟨rfl, HP.out⟩

set_option maxHeartbeats 400000 in
theorem heldBy (g len cap : Nat) (k0 : Nat) (w : World) (hlen : len ≤ 1048576) (hk : k0 ≤ 1000000000000) (hr : RowV w g 5 (Ns .u8 (rampBy k0 len))) :
    Calls Try.prog 52 #[.slice (some ⟨g, 0, none⟩) len cap, .int .i64 k0] w fun e w' => e = .returned (.int .i64 (k0 + len : Nat)) ∧ w' = w := by
  have HR := hid hr
  clear hr
  go_enter Try.func52, Try.ntmps52
  go_wp2
  go_loop [1, 5] (fun v i => ∃ (j : Nat), j ≤ len ∧ i = .int .i64 j ∧ v = .int .i64 (k0 + j : Nat)) (fun _ i => len - (intOf i).toNat)
  case atStart => exact ⟨0, Nat.zero_le _, rfl, rfl⟩
  case round =>
    obtain ⟨j, hj, rfl, rfl⟩ := hrel
    by_cases hlt : j < len
    · have hcy := cell_n HR.out j (by rw [rampBy_len]; exact hlt)
      rw [rampBy_get k0 len j hlt] at hcy
      simp only [Option.getD_some] at hcy
      have hcv : IntKind.u8.wrap ((k0 : Int) + (j : Int)) = ((k0 + j : Nat) : Int) % 256 := by rw [IntKind.wrap_u8']; simp
      go_wp2
      go_round
      case rel => exact ⟨j + 1, by omega, by go_num, by go_num⟩
      case measure => simp [intOf]; omega
    · have hjl : j = len := by omega
      subst hjl
      go_wp2
      go_ret
      exact ⟨rfl, rfl⟩

end Go.Proofs.Ytiddopgeomojbaa

namespace Go.Proofs.Ytiddopgeomojbaa
open Go.ChangeShapes Go.WideShapes Go.ChangeAt Go.RowKit
set_option linter.unusedVariables false

theorem Try.info3In : (Try.prog.info? 3).map (fun i => (i.zero, i.size, i.bytes)) = some (some (.int .i64 0), 1, 8) := by kernel_rfl
/-- k0, k0 + 1, .. as the kind holds them -/
def rampIn (k0 len : Nat) : List Int := (List.range len).map fun j => ((k0 + j : Nat) : Int)
theorem rampIn_len (k0 len : Nat) : (rampIn k0 len).length = len := by simp [rampIn]
theorem rampIn_get (k0 len j : Nat) (h : j < len) : (rampIn k0 len)[j]? = some (((k0 + j : Nat) : Int)) := by simp [rampIn, h]
theorem slIn {w : World} {g : Nat} {zs : List Int} (h : RowV w g 3 (Ns .i64 zs)) {len : Nat} (hl : zs.length = len) : ∀ i, i < len → ∃ g', some (⟨g, 0, none⟩ : Addr) = some ⟨g', 0, none⟩ ∧ w.cell? ⟨g', i, none⟩ = some (.int .i64 (zs[i]?.getD 0)) :=
  fun i hi => ⟨g, rfl, cell_n h i (by omega)⟩

set_option maxHeartbeats 400000 in
theorem eqIn (a b : Option Addr) (len ca cb : Nat) (zs : List Int) (w : World) (hlen : len ≤ 1048576)
    (ha : ∀ i, i < len → ∃ g, a = some ⟨g, 0, none⟩ ∧ w.cell? ⟨g, i, none⟩ = some (.int .i64 (zs[i]?.getD 0)))
    (hb : ∀ i, i < len → ∃ g, b = some ⟨g, 0, none⟩ ∧ w.cell? ⟨g, i, none⟩ = some (.int .i64 (zs[i]?.getD 0))) :
    Calls Try.prog 29 #[.slice a len ca, .slice b len cb] w fun e w' => e = .returned (.bool true) ∧ Below w.heap.size w w' := by
  go_enter Try.func29, Try.ntmps29
  go_wp2
  go_loopw [5] (fun i wr => ∃ (k : Nat), k ≤ len ∧ i = .int .i64 k ∧ Below w.heap.size w wr) (fun i _ => len - (intOf i).toNat)
  case atStart => exact ⟨0, Nat.zero_le _, rfl, Below.refl _ _⟩
  case round =>
    obtain ⟨k, hk, rfl, hbel⟩ := hrel
    by_cases hlt : k < len
    · obtain ⟨ga, rfl, hca⟩ := ha k hlt
      obtain ⟨gb, rfl, hcb⟩ := hb k hlt
      have hca' := below_cell hbel hca
      have hcb' := below_cell hbel hcb
      have HB := hid hbel
      clear ha hb hca hcb hbel
      go_wp2
      go_region
      all_goals go_wp2
      go_roundw
      case rel => exact ⟨k + 1, by omega, by go_num, HB.out.drew⟩
      case measure => simp [intOf]; omega
    · go_wp2
      go_ret
      exact ⟨rfl, hbel⟩

set_option maxHeartbeats 400000 in
theorem markIn_nil (k0 : Nat) (w : World) (hk : k0 ≤ 1000000000000) :
    Calls Try.prog 33 #[.slice none 0 0, .int .i64 k0] w fun e w' => e = .returned (.int .i64 k0) ∧ w' = w := by
  go_enter Try.func33, Try.ntmps33
  go_wp2
  refine wp_loop_rounds 1 ?_
  rw [rounds_succ]
  go_wp2
  go_ret
  exact ⟨rfl, rfl⟩

set_option maxHeartbeats 400000 in
theorem heldIn_nil (k0 : Nat) (w : World) (hk : k0 ≤ 1000000000000) :
    Calls Try.prog 35 #[.slice none 0 0, .int .i64 k0] w fun e w' => e = .returned (.int .i64 k0) ∧ w' = w := by
  go_enter Try.func35, Try.ntmps35
  go_wp2
  refine wp_loop_rounds 1 ?_
  rw [rounds_succ]
  go_wp2
  go_ret
  exact ⟨rfl, rfl⟩

set_option maxHeartbeats 400000 in
theorem markIn (g len cap : Nat) (zs : List Int) (k0 : Nat) (w : World) (hl : zs.length = len) (hlen : len ≤ 1048576) (hk : k0 ≤ 1000000000000) (hr : RowV w g 3 (Ns .i64 zs)) :
    Calls Try.prog 33 #[.slice (some ⟨g, 0, none⟩) len cap, .int .i64 k0] w fun e w' => e = .returned (.int .i64 (k0 + len : Nat)) ∧ RowV w' g 3 (Ns .i64 (rampIn k0 len)) ∧ w.grownBy w' (some g) := by
  have HR := hid hr
  have HL := hid hl
  clear hr hl
  go_enter Try.func33, Try.ntmps33
  go_wp2
  go_loopw [1, 5] (fun v i wr => ∃ (j : Nat) (ys : List Int), j ≤ len ∧ i = .int .i64 j ∧ v = .int .i64 (k0 + j : Nat) ∧ Hid (Agree ys (rampIn k0 len) j) ∧ Hid (RowV wr g 3 (Ns .i64 ys)) ∧ Hid (w.grownBy wr (some g))) (fun _ i _ => len - (intOf i).toNat)
  case atStart => exact ⟨0, zs, Nat.zero_le _, rfl, rfl, Agree.zero (by rw [HL.out, rampIn_len]), HR.out, grown_refl w g⟩
  case round =>
    obtain ⟨j, ys, hj, rfl, rfl, hag, hrow, hgr⟩ := hrel
    by_cases hlt : j < len
    · have hyl : ys.length = len := by rw [hag.out.1, rampIn_len]
      have hcy := cell_n hrow.out j (by omega)
      have hfy := hrow.out.free j
      have R1 := hrow.out.set j (by rw [Ns_len]; omega) (.int .i64 (((k0 + j : Nat) : Int)))
      rw [Ns_set] at R1
      have A1 := hag.out.succ (by rw [rampIn_len]; exact hlt) _ (rampIn_get k0 len j hlt)
      have HP := hid (And.intro R1 (And.intro A1 (grown_set hgr.out j (.int .i64 (((k0 + j : Nat) : Int))))))
      clear hyl R1 A1
      generalize ys[j]?.getD 0 = y at hcy
      go_wp2
      go_roundw
      case rel => exact ⟨j + 1, _, by omega, by go_num, by go_num, HP.out.2.1, by first | exact HP.out.1 | (have := HP.out.1; simpa using this), by first | exact HP.out.2.2 | (have := HP.out.2.2; simpa using this)⟩
      case measure => simp [intOf]; omega
    · have hjl : j = len := by omega
      subst hjl
      have HP := hid (And.intro (hag.out.all (by rw [rampIn_len]; exact Nat.le_refl _) ▸ hrow.out) hgr.out)
      go_wp2
      go_ret
      exact ⟨rfl, HP.out⟩

set_option maxHeartbeats 400000 in
theorem heldIn (g len cap : Nat) (k0 : Nat) (w : World) (hlen : len ≤ 1048576) (hk : k0 ≤ 1000000000000) (hr : RowV w g 3 (Ns .i64 (rampIn k0 len))) :
    Calls Try.prog 35 #[.slice (some ⟨g, 0, none⟩) len cap, .int .i64 k0] w fun e w' => e = .returned (.int .i64 (k0 + len : Nat)) ∧ w' = w := by
  have HR := hid hr
  clear hr
  go_enter Try.func35, Try.ntmps35
  go_wp2
  go_loop [1, 5] (fun v i => ∃ (j : Nat), j ≤ len ∧ i = .int .i64 j ∧ v = .int .i64 (k0 + j : Nat)) (fun _ i => len - (intOf i).toNat)
  case atStart => exact ⟨0, Nat.zero_le _, rfl, rfl⟩
  case round =>
    obtain ⟨j, hj, rfl, rfl⟩ := hrel
    by_cases hlt : j < len
    · have hcy := cell_n HR.out j (by rw [rampIn_len]; exact hlt)
      rw [rampIn_get k0 len j hlt] at hcy
      simp only [Option.getD_some] at hcy
      go_wp2
      go_round
      case rel => exact ⟨j + 1, by omega, by go_num, by go_num⟩
      case measure => simp [intOf]; omega
    · have hjl : j = len := by omega
      subst hjl
      go_wp2
      go_ret
      exact ⟨rfl, rfl⟩

end Go.Proofs.Ytiddopgeomojbaa

namespace Go.Proofs.Ytiddopgeomojbaa
open Go.ChangeShapes Go.WideShapes Go.ChangeAt Go.RowKit

theorem wrap_u64x (x : Int) : IntKind.u64.wrap x = x % 18446744073709551616 := by
  simp [IntKind.wrap, IntKind.signed, IntKind.bits]

theorem last_eq (a n : Int) : IntKind.u64.wrap (IntKind.u64.wrap (a + n) - 1) = IntKind.u64.wrap (a + (n - 1)) := by
  rw [wrap_u64x, wrap_u64x, wrap_u64x]; omega

theorem last_in (a n : Int) (ha : 0 ≤ a) (h1 : 1 ≤ n) (h : a + (n - 1) < 4611686018427387904) : IntKind.u64.wrap (a + (n - 1)) = a + (n - 1) := by
  rw [wrap_u64x]; omega

theorem last_out (a n : Int) (ha : 0 ≤ a) (ha' : a ≤ 18446744073709551615) (h1 : 1 ≤ n) (h2 : n ≤ 4194304) (h : 4611686018427387904 ≤ a + (n - 1)) :
   IntKind.u64.wrap (a + (n - 1)) < a ∨ (a ≤ IntKind.u64.wrap (a + (n - 1)) ∧ 4611686018427387904 ≤ IntKind.u64.wrap (a + (n - 1))) := by
  rw [wrap_u64x]; omega

/-- the answer of a refusal -/
def pgNo : Ending := .returned (.tuple #[.int .i64 0, .int .i64 0, .bool false])

set_option maxHeartbeats 400000 in
theorem spec_pg_out (a n : Int) (w : World) (h : n < 1 ∨ 4194304 < n) :
    Calls Try.prog 85 #[.int .u64 a, .int .i64 n] w fun e w' => e = pgNo ∧ w' = w := by
  rcases h with h | h
  · go_enter Try.func85, Try.ntmps85
    go_wp2
    go_ret3
    exact ⟨rfl, rfl⟩
  · have h' : ¬ n < 1 := by omega
    go_enter Try.func85, Try.ntmps85
    go_wp2
    go_ret3
    exact ⟨rfl, rfl⟩

set_option maxHeartbeats 400000 in
theorem impl_pg_out (a n : Int) (w : World) (h : n < 1 ∨ 4194304 < n) :
    Calls Try.prog 72 #[.int .u64 a, .int .i64 n] w fun e w' => e = pgNo ∧ w' = w := by
  rcases h with h | h
  · go_enter Try.func72, Try.ntmps72
    go_wp2
    go_ret3
    exact ⟨rfl, rfl⟩
  · have h' : ¬ n < 1 := by omega
    go_enter Try.func72, Try.ntmps72
    go_wp2
    go_ret3
    exact ⟨rfl, rfl⟩

set_option maxHeartbeats 400000 in
theorem spec_pg_bad (a n L : Int) (w : World) (h1 : 1 ≤ n) (h2 : n ≤ 4194304) (hL : IntKind.u64.wrap (IntKind.u64.wrap (a + n) - 1) = L) (h : L < a ∨ (a ≤ L ∧ 4611686018427387904 ≤ L)) :
    Calls Try.prog 85 #[.int .u64 a, .int .i64 n] w fun e w' => e = pgNo ∧ w' = w := by
  rcases h with h | ⟨h3, h⟩
  all_goals
    go_enter Try.func85, Try.ntmps85
    go_wp2
    go_ret3
    exact ⟨rfl, rfl⟩

set_option maxHeartbeats 400000 in
theorem impl_pg_bad (a n L : Int) (w : World) (h1 : 1 ≤ n) (h2 : n ≤ 4194304) (hL : IntKind.u64.wrap (a + (n - 1)) = L) (h : L < a ∨ (a ≤ L ∧ 4611686018427387904 ≤ L)) :
    Calls Try.prog 72 #[.int .u64 a, .int .i64 n] w fun e w' => e = pgNo ∧ w' = w := by
  rcases h with h | ⟨h3, h⟩
  all_goals
    go_enter Try.func72, Try.ntmps72
    go_wp2
    go_ret3
    exact ⟨rfl, rfl⟩

set_option maxHeartbeats 400000 in
theorem spec_pg_yes (a n : Int) (w : World) (ha : 0 ≤ a) (h1 : 1 ≤ n) (h2 : n ≤ 4194304) (h4 : a + (n - 1) < 4611686018427387904) :
    Calls Try.prog 85 #[.int .u64 a, .int .i64 n] w fun e w' => e = .returned (.tuple #[.int .i64 (a / 1024), .int .i64 ((a + n - 1) / 1024), .bool true]) ∧ w' = w := by
  go_enter Try.func85, Try.ntmps85
  go_wp2
  go_ret3
  exact ⟨rfl, rfl⟩

set_option maxHeartbeats 400000 in
theorem impl_pg_yes (a n : Int) (w : World) (ha : 0 ≤ a) (h1 : 1 ≤ n) (h2 : n ≤ 4194304) (h4 : a + (n - 1) < 4611686018427387904) :
    Calls Try.prog 72 #[.int .u64 a, .int .i64 n] w fun e w' => e = .returned (.tuple #[.int .i64 (a / 1024), .int .i64 ((a + (n - 1)) / 1024), .bool true]) ∧ w' = w := by
  go_enter Try.func72, Try.ntmps72
  go_wp2
  go_ret3
  exact ⟨rfl, rfl⟩

theorem spec_pg_no (a n : Int) (w : World) (ha : 0 ≤ a) (ha' : a ≤ 18446744073709551615) (h : n < 1 ∨ 4194304 < n ∨ 4611686018427387904 ≤ a + (n - 1)) :
    Calls Try.prog 85 #[.int .u64 a, .int .i64 n] w fun e w' => e = pgNo ∧ w' = w := by
  by_cases h1 : n < 1 ∨ 4194304 < n
  · exact spec_pg_out a n w h1
  · exact spec_pg_bad a n _ w (by omega) (by omega) (last_eq a n) (last_out a n ha ha' (by omega) (by omega) (by omega))

theorem impl_pg_no (a n : Int) (w : World) (ha : 0 ≤ a) (ha' : a ≤ 18446744073709551615) (h : n < 1 ∨ 4194304 < n ∨ 4611686018427387904 ≤ a + (n - 1)) :
    Calls Try.prog 72 #[.int .u64 a, .int .i64 n] w fun e w' => e = pgNo ∧ w' = w := by
  by_cases h1 : n < 1 ∨ 4194304 < n
  · exact impl_pg_out a n w h1
  · exact impl_pg_bad a n _ w (by omega) (by omega) rfl (last_out a n ha ha' (by omega) (by omega) (by omega))
end Go.Proofs.Ytiddopgeomojbaa

namespace Go.Proofs.Ytiddopgeomojbaa
open Go.ChangeShapes Go.WideShapes Go.ChangeAt Go.RowKit Go.Maps
set_option linter.unusedVariables false

/-- how a pointer to the head of a block reads: as the block's number -/
def ptrE : Value → Option (DataW Unit × List MemPlace)
  | .pointer (some ⟨b, 0, none⟩) => some (.lit (.int .i64 b), [])
  | .pointer none => some (.nil, [])
  | _ => none
theorem ptrE_some (b : Nat) : ptrE (.pointer (some ⟨b, 0, none⟩)) = some (.lit (.int .i64 b), []) := rfl
theorem ptrE_inv {v : Value} {z : DataW Unit × List MemPlace} (h : ptrE v = some z) : (∃ b : Nat, v = .pointer (some ⟨b, 0, none⟩) ∧ z = (.lit (.int .i64 b), [])) ∨ (v = .pointer none ∧ z = (.nil, [])) := by
  unfold ptrE at h
  split at h
  · left; exact ⟨_, rfl, by simpa using h.symm⟩
  · right; exact ⟨rfl, by simpa using h.symm⟩
  · cases h

/-- what the map holds, as data -/
def asD : Option Nat → DataW Unit
  | some b => .lit (.int .i64 b)
  | none => .nil

/-- how many of the pages are committed -/
def heldN (f : Nat → Option Nat) (first : Nat) : Nat → Nat
  | 0 => 0
  | k + 1 => heldN f first k + (f (first + k)).isSome.toNat
theorem heldN_le (f : Nat → Option Nat) (first : Nat) : ∀ k, heldN f first k ≤ k
  | 0 => Nat.le_refl _
  | k + 1 => by have := heldN_le f first k; have h2 := Bool.toNat_le (f (first + k)).isSome; simp only [heldN]; omega


/-- one entry turned -/
def upd (f : Nat → Option Nat) (k : Nat) (v : Option Nat) : Nat → Option Nat := fun j => if j = k then v else f j
theorem upd_same (f : Nat → Option Nat) (k : Nat) (v : Option Nat) : upd f k v k = v := by simp [upd]
theorem upd_other (f : Nat → Option Nat) (k j : Nat) (v : Option Nat) (h : j ≠ k) : upd f k v j = f j := by simp [upd, h]
theorem heldN_upd_out (f : Nat → Option Nat) (k : Nat) (v : Option Nat) (first : Nat) : ∀ N, k < first ∨ first + N ≤ k → heldN (upd f k v) first N = heldN f first N
  | 0, _ => rfl
  | N + 1, h => by
    simp only [heldN]
    rw [heldN_upd_out f k v first N (by omega), upd_other f k _ v (by omega)]
theorem heldN_upd (f : Nat → Option Nat) (k : Nat) (v : Option Nat) (first : Nat) : ∀ N, first ≤ k → k < first + N → heldN (upd f k v) first N + (f k).isSome.toNat = heldN f first N + v.isSome.toNat
  | 0, h, h' => by omega
  | N + 1, h, h' => by
    simp only [heldN]
    by_cases e : k = first + N
    · subst e
      rw [heldN_upd_out f _ v first N (by omega), upd_same]
      omega
    · have := heldN_upd f k v first N h (by omega)
      rw [upd_other f k (first + N) v (by omega)]
      omega

/-- the space of impl in block S, its map in block M: page k lies in block f k -/
structure Im (S M : Nat) (st n bud : Int) (f : Nat → Option Nat) (W : World) : Prop where
  box : W.heap[S]? = some (.cells #[.int .i32 st, .int .u32 0, .int .i64 n, .int .i64 bud, .map (some M)] 77 (0, 0))
  map : ∃ D : DataW Unit, W.ownsMap Try.prog 3 ptrE M 4096 D ∧ Maps.size D = heldN f 0 4096 ∧ (∀ k : Nat, k < 4611686018427387904 → D.atKey (.int .i64 k) .nil = asD (f k)) ∧ ∀ k : Nat, k < 4611686018427387904 → has D (.int .i64 k) = (f k).isSome

theorem keyed3 : Keyed Try.prog 3 := int_keyed Try.underlying3
theorem zero82 (w : World) : (zeroValue 82).run Try.prog w = .ok (.pointer none) w := by kernel_rfl
theorem key3 (k : Nat) (h : k < 4611686018427387904) : keyOf Try.prog 3 (.int .i64 k) = some (.int .i64 k) := keyOf_int_mk Try.underlying3 (WalkArith.wf_i64 (by omega))

/-- a look-up in the map of pages -/
theorem Im.look {S M : Nat} {st n bud : Int} {f : Nat → Option Nat} {W : World} (h : Im S M st n bud f W) (k : Nat) (hk : k < 4611686018427387904) :
    (Instr.lookup 68 (.map (some M)) (.int .i64 k) false).run Try.prog W = .ok (.pointer ((f k).map fun b => ⟨b, 0, none⟩)) W := by
  obtain ⟨D, hown, _, hat, _⟩ := h.map
  obtain ⟨v, ps, hrun, hv⟩ := hown.lookup keyed3 Try.underlying68 (zero82 W) (show ptrE (.pointer none) = some (.nil, []) from rfl) (key3 k hk)
  rw [hat k hk] at hv
  rw [hrun]
  rcases ptrE_inv hv with ⟨b, rfl, h1⟩ | ⟨rfl, h1⟩
  · cases hf : f k with
    | none => rw [hf] at h1; simp [asD] at h1
    | some b' =>
      rw [hf] at h1
      simp [asD] at h1
      have : b' = b := by omega
      subst this
      rfl
  · cases hf : f k with
    | none => rfl
    | some b' => rw [hf] at h1; simp [asD] at h1

theorem Im.c {S M : Nat} {st n bud : Int} {f : Nat → Option Nat} {W : World} (h : Im S M st n bud f W) :
    W.cell? ⟨S, 0, none⟩ = some (.int .i32 st) ∧ W.cell? ⟨S, 2, none⟩ = some (.int .i64 n) ∧ W.cell? ⟨S, 3, none⟩ = some (.int .i64 bud) ∧ W.cell? ⟨S, 4, none⟩ = some (.map (some M)) := by
  have hb := h.box
  simp [World.cell?, hb]

set_option maxHeartbeats 400000 in
theorem heldOf_any (S M : Nat) (st n bud : Int) (f : Nat → Option Nat) (first count : Nat) (w : World) (h : Im S M st n bud f w) (h1 : first ≤ 4096) (h2 : count ≤ 4096) :
    Calls Try.prog 56 #[.pointer (some ⟨S, 0, none⟩), .int .i64 first, .int .i64 count] w fun e w' => e = .returned (.int .i64 (heldN f first count)) ∧ w' = w := by
  obtain ⟨_, _, _, c4⟩ := h.c
  have HI := hid h
  clear h
  go_enter Try.func56, Try.ntmps56
  go_wp2
  go_loop [7, 8, 10] (fun c _ i => ∃ k : Nat, k ≤ count ∧ i = .int .i64 k ∧ c = .int .i64 (heldN f first k)) (fun _ _ i => count - (intOf i).toNat)
  case atStart => exact ⟨0, Nat.zero_le _, rfl, rfl⟩
  case round =>
    obtain ⟨k, hk, rfl, rfl⟩ := hrel
    by_cases hlt : k < count
    · have hrun := HI.out.look (first + k) (by omega)
      have ec : ((first + k : Nat) : Int) = (first : Int) + (k : Int) := by omega
      rw [ec] at hrun
      clear ec
      have hle := heldN_le f first k
      have HS := hid (show heldN f first (k + 1) = heldN f first k + (f (first + k)).isSome.toNat from rfl)
      generalize heldN f first k = c at *
      cases hf : f (first + k) with
      | none =>
        rw [hf] at hrun HS
        simp only [Option.map_none] at hrun
        clear hf
        go_wp2
        go_round
        case rel => exact ⟨k + 1, by omega, by go_num, by rw [HS.out]; rfl⟩
        case measure => simp [intOf]; omega
      | some b =>
        rw [hf] at hrun HS
        simp only [Option.map_some] at hrun
        clear hf
        go_wp2
        go_round
        case rel => exact ⟨k + 1, by omega, by go_num, by rw [HS.out]; rfl⟩
        case measure => simp [intOf]; omega
    · have hkc : k = count := by omega
      subst hkc
      go_wp2
      go_ret
      exact ⟨rfl, rfl⟩
end Go.Proofs.Ytiddopgeomojbaa

namespace Go.Proofs.Ytiddopgeomojbaa
open Go.ChangeShapes Go.WideShapes Go.ChangeAt Go.RowKit Go.Maps
set_option linter.unusedVariables false

/-- are the pages some of the space's -/
def insideB (n first count : Int) : Bool := decide (1 ≤ count ∧ 0 ≤ first ∧ count ≤ n - first)

set_option maxHeartbeats 400000 in
theorem inside_any (S M : Nat) (st n bud : Int) (f : Nat → Option Nat) (first count : Int) (w : World) (h : Im S M st n bud f w) (hn : 0 ≤ n) (hn' : n ≤ 4096) (hf : first ≤ 9223372036854775807) :
    Calls Try.prog 55 #[.pointer (some ⟨S, 0, none⟩), .int .i64 first, .int .i64 count] w fun e w' => e = .returned (.bool (insideB n first count)) ∧ w' = w := by
  obtain ⟨_, c2, _, _⟩ := h.c
  clear h
  by_cases h1 : 1 ≤ count
  · by_cases h2 : 0 ≤ first
    · by_cases h3 : count ≤ n - first
      · go_enter Try.func55, Try.ntmps55
        go_wp2
        go_ret
        exact ⟨ret_bool (by simp [insideB]; omega), rfl⟩
      · go_enter Try.func55, Try.ntmps55
        go_wp2
        go_ret
        exact ⟨ret_bool (by simp [insideB]; omega), rfl⟩
    · go_enter Try.func55, Try.ntmps55
      go_wp2
      go_ret
      exact ⟨ret_bool (by simp [insideB]; omega), rfl⟩
  · go_enter Try.func55, Try.ntmps55
    go_wp2
    go_ret
    exact ⟨ret_bool (by simp [insideB]; omega), rfl⟩

theorem tight {W : World} {b n : Nat} {D : DataW Unit} {R : Value → Option (DataW Unit × List MemPlace)} (h : W.ownsMap Try.prog 3 R b n D) {n' : Nat} (hn : Maps.size D ≤ n') : W.ownsMap Try.prog 3 R b n' D := by
  obtain ⟨es, clock, hb, F, hs, rfl⟩ := h
  exact ⟨es, clock, hb, F, by simpa [Maps.size, length_sorted] using hn, rfl⟩

theorem turned_other {w w' : World} {M b : Nat} (h : w.mapTurned w' M) (hb : b ≠ M) : w'.heap[b]? = w.heap[b]? := by
  obtain ⟨es, c, es', c', h1, rfl⟩ := h
  exact ChangeMaps.heap_setBlock_other h1 _ hb
theorem Im.ne {S M : Nat} {st n bud : Int} {f : Nat → Option Nat} {W : World} (h : Im S M st n bud f W) : S ≠ M := by
  intro e
  subst e
  obtain ⟨D, ⟨es, c, hb, _⟩, _⟩ := h.map
  rw [h.box] at hb
  cases hb

theorem key_ne {j k : Nat} (h : j ≠ k) : (Lit.int .i64 (j : Int)) ≠ .int .i64 (k : Int) := by
  intro e
  injection e with _ e
  omega

theorem Im.del {S M : Nat} {st n bud : Int} {f : Nat → Option Nat} {W : World} (h : Im S M st n bud f W) (k : Nat) (hk : k < 4096) (ty : TypeId) :
    ∃ W', (Builtin.delete_ #[68, 3] ty #[.map (some M), .int .i64 k]).run Try.prog W = .ok (.tuple #[]) W' ∧ Im S M st n bud (upd f k none) W' ∧ W.mapTurned W' M := by
  obtain ⟨D, hown, hsz, hat, hhas⟩ := h.map
  obtain ⟨W', hrun, hown', ht⟩ := hown.drop keyed3 Try.underlying68 (key3 k (by omega)) ty
  refine ⟨W', hrun, ⟨by rw [turned_other ht h.ne]; exact h.box, D.del (.int .i64 k), hown', ?_, ?_, ?_⟩, ht⟩
  · have e1 := Maps.size_del (k := .int .i64 k) (hown.tidy keyed3)
    have e2 := heldN_upd f k none 0 4096 (by omega) (by omega)
    rw [hhas k (by omega)] at e1
    cases hf : f k <;> rw [hf] at e1 e2 <;> simp at e1 e2 <;> omega
  · intro j hj
    by_cases e : j = k
    · subst e
      rw [Maps.atKey_del_same, upd_same]; rfl
    · rw [Maps.atKey_del_other (key_ne e), upd_other f k j _ e]
      exact hat j hj
  · intro j hj
    by_cases e : j = k
    · subst e
      rw [Maps.has_del_same, upd_same]; rfl
    · rw [Maps.has_del_other (key_ne e), upd_other f k j _ e]
      exact hhas j hj

theorem Im.put {S M : Nat} {st n bud : Int} {f : Nat → Option Nat} {W : World} (h : Im S M st n bud f W) (k b : Nat) (hk : k < 4096) :
    ∃ W', (Instr.mapUpdate 68 (.map (some M)) (.int .i64 k) (.pointer (some ⟨b, 0, none⟩))).run Try.prog W = .ok () W' ∧ Im S M st n bud (upd f k (some b)) W' ∧ W.mapTurned W' M := by
  obtain ⟨D, hown, hsz, hat, hhas⟩ := h.map
  obtain ⟨W', hrun, hown', ht⟩ := hown.store keyed3 Try.underlying68 (by decide) (key3 k (by omega)) (ptrE_some b)
  have hlit : WideAt.IsKeyLit (.int .i64 (k : Int)) := by simp [WideAt.IsKeyLit]
  have e0 : Maps.size (D.put (.int .i64 k) (.lit (.int .i64 b))) = heldN (upd f k (some b)) 0 4096 := by
    have e1 := Maps.size_put (k := .int .i64 k) (hown.tidy keyed3) (.lit (.int .i64 b))
    have e2 := heldN_upd f k (some b) 0 4096 (by omega) (by omega)
    rw [hhas k (by omega)] at e1
    cases hf : f k <;> rw [hf] at e1 e2 <;> simp at e1 e2 <;> omega
  refine ⟨W', hrun, ⟨by rw [turned_other ht h.ne]; exact h.box, _, tight hown' (by rw [e0]; exact heldN_le _ _ _), e0, ?_, ?_⟩, ht⟩
  · intro j hj
    by_cases e : j = k
    · subst e
      rw [Maps.atKey_put_same hown.isMap hlit, upd_same]; rfl
    · rw [Maps.atKey_put_other (key_ne e), upd_other f k j _ e]
      exact hat j hj
  · intro j hj
    by_cases e : j = k
    · subst e
      rw [Maps.has_put_same hown.isMap hlit, upd_same]; rfl
    · rw [Maps.has_put_other (key_ne e), upd_other f k j _ e]
      exact hhas j hj

theorem Im.len {S M : Nat} {st n bud : Int} {f : Nat → Option Nat} {W : World} (h : Im S M st n bud f W) (ty : TypeId) :
    (Builtin.len_ #[68] ty #[.map (some M)]).run Try.prog W = .ok (.int .i64 (heldN f 0 4096)) W := by
  obtain ⟨D, hown, hsz, _⟩ := h.map
  rw [hown.len Try.underlying68 ty, hsz]

section
variable {ops : Array Oper} {rest : List Oper} {o : Oper} {a : Act} {Q : Exit → Act → World → Prop}
theorem wpList_delete_im (w : World) (hg : o.guard = none) (m x : Operand) (hop : o.op = Op.call { callee := Callee.builtin Builtin.delete, args := #[m, x], argTypes := #[68, 3] })
    {S M : Nat} {st n bud : Int} {f : Nat → Option Nat} (h : Im S M st n bud f w) (k : Nat) (hk : k < 4096) (hm : a.eval m = .map (some M)) (hx : a.eval x = .int .i64 k)
    (hK : ∀ w', Im S M st n bud (upd f k none) w' → w.mapTurned w' M → wpList Try.prog ops Q rest (a.put o.dst (.tuple #[])) w') :
    wpList Try.prog ops Q (o :: rest) a w := by
  refine wpList_plain hg fun K' hK' => ?_
  obtain ⟨w', hrun, r1, r2⟩ := h.del k hk o.type
  unfold Oper.wp
  simp [execOp, hop, resolve, invoke, builtin, hm, hx, hrun, Result.andThen]
  exact hK' _ _ (hK w' r1 r2)
theorem wpList_put_im (w : World) (hg : o.guard = none) (m x v : Operand) (hop : o.op = Op.mapUpdate 68 m x v)
    {S M : Nat} {st n bud : Int} {f : Nat → Option Nat} (h : Im S M st n bud f w) (k b : Nat) (hk : k < 4096) (hm : a.eval m = .map (some M)) (hx : a.eval x = .int .i64 k) (hv : a.eval v = .pointer (some ⟨b, 0, none⟩))
    (hK : ∀ w', Im S M st n bud (upd f k (some b)) w' → w.mapTurned w' M → wpList Try.prog ops Q rest (a.put o.dst undef) w') :
    wpList Try.prog ops Q (o :: rest) a w := by
  refine wpList_plain hg fun K' hK' => ?_
  obtain ⟨w', hrun, r1, r2⟩ := h.put k b hk
  unfold Oper.wp
  simp [execOp, hop, hm, hx, hv, hrun, Result.andThen]
  exact hK' _ _ (hK w' r1 r2)
theorem wpList_len_im (w : World) (hg : o.guard = none) (m : Operand) (hop : o.op = Op.call { callee := Callee.builtin Builtin.len, args := #[m], argTypes := #[68] })
    {S M : Nat} {st n bud : Int} {f : Nat → Option Nat} (h : Im S M st n bud f w) (hm : a.eval m = .map (some M))
    (hK : wpList Try.prog ops Q rest (a.put o.dst (.int .i64 (heldN f 0 4096))) w) :
    wpList Try.prog ops Q (o :: rest) a w := by
  refine wpList_plain hg fun K' hK' => ?_
  unfold Oper.wp
  simp [execOp, hop, resolve, invoke, builtin, hm, h.len o.type, Result.andThen]
  exact hK' _ _ hK
end
end Go.Proofs.Ytiddopgeomojbaa

namespace Go.Proofs.Ytiddopgeomojbaa
open Go.ChangeShapes Go.WideShapes Go.ChangeAt Go.RowKit Go.Maps
set_option linter.unusedVariables false

/-- the pages first .. first + k - 1 are let go -/
def without (f : Nat → Option Nat) (first : Nat) : Nat → (Nat → Option Nat)
  | 0 => f
  | k + 1 => upd (without f first k) (first + k) none

theorem turned_refl {S M : Nat} {st n bud : Int} {f : Nat → Option Nat} {W : World} (h : Im S M st n bud f W) : W.mapTurned W M := by
  obtain ⟨D, hown, _⟩ := h.map
  exact hown.turned_refl

set_option maxHeartbeats 400000 in
theorem decommit_no (S M : Nat) (st n bud : Int) (f : Nat → Option Nat) (first count : Int) (w : World) (h : Im S M st n bud f w) (hn : 0 ≤ n) (hn' : n ≤ 4096) (hf : first ≤ 9223372036854775807)
    (hno : insideB n first count = false) :
    Calls Try.prog 39 #[.pointer (some ⟨S, 0, none⟩), .int .i64 first, .int .i64 count] w fun e w' => e = .returned (.int .i64 6) ∧ w' = w := by
  have H1 := hid (inside_any S M st n bud f first count w h hn hn' hf)
  rw [hno] at H1
  clear hno h
  go_enter Try.func39, Try.ntmps39
  go_wp2_with fail
  refine H1.out.mono ?_
  rintro _ _ ⟨rfl, rfl⟩
  go_wp2_with fail
  go_ret
  exact ⟨rfl, rfl⟩

set_option maxHeartbeats 400000 in
theorem decommit_part (S M : Nat) (st n bud : Int) (f : Nat → Option Nat) (first count h0 : Nat) (w : World) (h : Im S M st n bud f w) (hn : 0 ≤ n) (hn' : n ≤ 4096) (hin : insideB n first count = true) (h0e : heldN f first count = h0) (hlt : h0 < count) :
    Calls Try.prog 39 #[.pointer (some ⟨S, 0, none⟩), .int .i64 first, .int .i64 count] w fun e w' => e = .returned (.int .i64 6) ∧ w' = w := by
  have hr : 1 ≤ count ∧ first + count ≤ 4096 := by simp [insideB] at hin; omega
  have H1 := hid (inside_any S M st n bud f first count w h hn hn' (by omega))
  rw [hin] at H1
  have H2 := hid (heldOf_any S M st n bud f first count w h (by omega) (by omega))
  rw [h0e] at H2
  clear hin h0e h
  go_enter Try.func39, Try.ntmps39
  go_wp2_with fail
  refine H1.out.mono ?_
  rintro _ _ ⟨rfl, rfl⟩
  go_wp2_with fail
  refine H2.out.mono ?_
  rintro _ w0 ⟨rfl, rfl⟩
  go_wp2_with fail
  go_ret
  exact ⟨rfl, rfl⟩

set_option maxHeartbeats 400000 in
theorem decommit_yes (S M : Nat) (st n bud : Int) (f : Nat → Option Nat) (first count : Nat) (w : World) (h : Im S M st n bud f w) (hn : 0 ≤ n) (hn' : n ≤ 4096) (hin : insideB n first count = true) (hall : heldN f first count = count) :
    Calls Try.prog 39 #[.pointer (some ⟨S, 0, none⟩), .int .i64 first, .int .i64 count] w fun e w' => e = .returned (.int .i64 0) ∧ Im S M st n bud (without f first count) w' ∧ w.mapTurned w' M := by
  have hr : 1 ≤ count ∧ first + count ≤ 4096 := by simp [insideB] at hin; omega
  have H1 := hid (inside_any S M st n bud f first count w h hn hn' (by omega))
  rw [hin] at H1
  have H2 := hid (heldOf_any S M st n bud f first count w h (by omega) (by omega))
  rw [hall] at H2
  have HI := hid h
  obtain ⟨_, _, _, c4⟩ := h.c
  clear hin hall h
  go_enter Try.func39, Try.ntmps39
  go_wp2_with fail
  refine H1.out.mono ?_
  rintro _ _ ⟨rfl, rfl⟩
  go_wp2_with fail
  refine H2.out.mono ?_
  rintro _ w0 ⟨rfl, rfl⟩
  go_wp2_with fail
  go_loopw [22] (fun i wr => ∃ k : Nat, k ≤ count ∧ i = .int .i64 k ∧ Im S M st n bud (without f first k) wr ∧ w0.mapTurned wr M) (fun i _ => count - (intOf i).toNat)
  case atStart => exact ⟨0, Nat.zero_le _, rfl, HI.out, turned_refl HI.out⟩
  case round =>
    obtain ⟨k, hk, rfl, him, ht⟩ := hrel
    by_cases hlt : k < count
    · obtain ⟨_, _, _, c4⟩ := him.c
      have HJ := hid (And.intro him ht)
      clear him ht
      go_wp2_with (at_delete; refine wpList_delete_im _ rfl _ _ rfl HJ.out.1 (first + k) (by omega) rfl (by go_num) ?_)
      intro w1 him1 ht1
      have HK := hid (And.intro him1 (HJ.out.2.trans ht1))
      clear HJ him1 ht1 c4
      go_wp2_with fail
      go_roundw
      case rel => exact ⟨k + 1, by omega, by go_num, HK.out.1, HK.out.2⟩
      case measure => simp [intOf]; omega
    · have hkc : k = count := by omega
      subst hkc
      have HJ := hid (And.intro him ht)
      clear him ht
      go_wp2_with fail
      go_ret
      exact ⟨rfl, HJ.out⟩

/-- the cells of a page -/
def pageC (l : Bool) (xs : List Int) : Array Value := (Ns .u8 xs ++ [Value.bool l]).toArray
/-- the pages: page k of m lies in block f k -/
structure Pg (f : Nat → Option Nat) (m : Nat → Option (Bool × List Int)) (W : World) : Prop where
  at' : ∀ k, (f k = none ∧ m k = none) ∨ ∃ b l xs, f k = some b ∧ m k = some (l, xs) ∧ xs.length = 1024 ∧ W.heap[b]? = some (.cells (pageC l xs) 85 (0, 0))
  inj : ∀ j k b, f j = some b → f k = some b → j = k
/-- what a call may turn: the space and its pages -/
structure Fr (S M : Nat) (f f' : Nat → Option Nat) (W W' : World) : Prop where
  os : W'.os = W.os
  tape : W'.tape = W.tape
  output : W'.output = W.output
  size : W.heap.size ≤ W'.heap.size
  block : ∀ g, g < W.heap.size → g ≠ S → g ≠ M → (∀ k, f k ≠ some g) → W'.heap[g]? = W.heap[g]?
  made : ∀ k g, f' k = some g → (∃ j, f j = some g) ∨ W.heap.size ≤ g
theorem Fr.refl (S M : Nat) (f : Nat → Option Nat) (W : World) : Fr S M f f W W := ⟨rfl, rfl, rfl, Nat.le_refl _, fun _ _ _ _ _ => rfl, fun k g h => .inl ⟨k, h⟩⟩
theorem Fr.trans {S M : Nat} {f f' f'' : Nat → Option Nat} {W W' W'' : World} (h : Fr S M f f' W W') (h' : Fr S M f' f'' W' W'') : Fr S M f f'' W W'' := by
  refine ⟨h'.os.trans h.os, h'.tape.trans h.tape, h'.output.trans h.output, Nat.le_trans h.size h'.size, ?_, ?_⟩
  · intro g hg h1 h2 h3
    rw [h'.block g (Nat.lt_of_lt_of_le hg h.size) h1 h2 ?_]
    · exact h.block g hg h1 h2 h3
    · intro k e
      rcases h.made k g e with ⟨j, hj⟩ | hj
      · exact h3 j hj
      · omega
  · intro k g e
    rcases h'.made k g e with ⟨j, hj⟩ | hj
    · exact h.made j g hj
    · right; have := h.size; omega
theorem Pg.none_iff {f : Nat → Option Nat} {m : Nat → Option (Bool × List Int)} {W : World} (h : Pg f m W) (k : Nat) : (f k).isSome = (m k).isSome := by
  rcases h.at' k with ⟨h1, h2⟩ | ⟨b, l, xs, h1, h2, _⟩ <;> rw [h1, h2] <;> rfl
theorem Pg.cell {f : Nat → Option Nat} {m : Nat → Option (Bool × List Int)} {W : World} (h : Pg f m W) {k b : Nat} (hf : f k = some b) :
    ∃ l xs, m k = some (l, xs) ∧ xs.length = 1024 ∧ W.heap[b]? = some (.cells (pageC l xs) 85 (0, 0)) := by
  rcases h.at' k with ⟨h1, h2⟩ | ⟨b', l, xs, h1, h2, h3⟩
  · rw [h1] at hf; cases hf
  · rw [h1] at hf; cases hf; exact ⟨l, xs, h2, h3⟩
theorem pageC_lock (l : Bool) (xs : List Int) (h : xs.length = 1024) : (pageC l xs)[1024]? = some (.bool l) := by
  simp [pageC, Ns, h]
theorem pageC_byte (l : Bool) (xs : List Int) (i : Nat) (h : i < xs.length) : (pageC l xs)[i]? = some (.int .u8 (xs[i]?.getD 0)) := by
  simp [pageC, Ns, List.getElem?_append, h]
theorem Pg.lockCell {f : Nat → Option Nat} {m : Nat → Option (Bool × List Int)} {W : World} (h : Pg f m W) {k b : Nat} (hf : f k = some b) {l : Bool} {xs : List Int} (hm : m k = some (l, xs)) :
    W.cell? ⟨b, 1024, none⟩ = some (.bool l) ∧ W.frozen? ⟨b, 1024, none⟩ = false := by
  obtain ⟨l', xs', h1, h2, h3⟩ := h.cell hf
  rw [hm] at h1
  cases h1
  exact ⟨by simp [World.cell?, h3, pageC_lock _ _ h2], by simp [World.frozen?, h3]⟩
end Go.Proofs.Ytiddopgeomojbaa

namespace Go.Proofs.Ytiddopgeomojbaa
open Go.ChangeShapes Go.WideShapes Go.ChangeAt Go.RowKit Go.Maps
set_option linter.unusedVariables false

set_option maxHeartbeats 400000 in
theorem setLock_no (S M : Nat) (st n bud : Int) (f : Nat → Option Nat) (first count : Int) (v : Bool) (w : World) (h : Im S M st n bud f w) (hn : 0 ≤ n) (hn' : n ≤ 4096) (hf : first ≤ 9223372036854775807)
    (hno : insideB n first count = false) :
    Calls Try.prog 40 #[.pointer (some ⟨S, 0, none⟩), .int .i64 first, .int .i64 count, .bool v] w fun e w' => e = .returned (.int .i64 6) ∧ w' = w := by
  have H1 := hid (inside_any S M st n bud f first count w h hn hn' hf)
  rw [hno] at H1
  clear hno h
  go_enter Try.func40, Try.ntmps40
  go_wp2_with fail
  refine H1.out.mono ?_
  rintro _ _ ⟨rfl, rfl⟩
  go_wp2_with fail
  go_ret
  exact ⟨rfl, rfl⟩

set_option maxHeartbeats 400000 in
theorem setLock_part (S M : Nat) (st n bud : Int) (f : Nat → Option Nat) (first count h0 : Nat) (v : Bool) (w : World) (h : Im S M st n bud f w) (hn : 0 ≤ n) (hn' : n ≤ 4096) (hin : insideB n first count = true) (h0e : heldN f first count = h0) (hlt : h0 < count) :
    Calls Try.prog 40 #[.pointer (some ⟨S, 0, none⟩), .int .i64 first, .int .i64 count, .bool v] w fun e w' => e = .returned (.int .i64 6) ∧ w' = w := by
  have hr : 1 ≤ count ∧ first + count ≤ 4096 := by simp [insideB] at hin; omega
  have H1 := hid (inside_any S M st n bud f first count w h hn hn' (by omega))
  rw [hin] at H1
  have H2 := hid (heldOf_any S M st n bud f first count w h (by omega) (by omega))
  rw [h0e] at H2
  clear hin h0e h
  go_enter Try.func40, Try.ntmps40
  go_wp2_with fail
  refine H1.out.mono ?_
  rintro _ _ ⟨rfl, rfl⟩
  go_wp2_with fail
  refine H2.out.mono ?_
  rintro _ w0 ⟨rfl, rfl⟩
  go_wp2_with fail
  go_ret
  exact ⟨rfl, rfl⟩


/-- one page turned -/
def updM (m : Nat → Option (Bool × List Int)) (k : Nat) (v : Option (Bool × List Int)) : Nat → Option (Bool × List Int) := fun j => if j = k then v else m j
theorem updM_same (m : Nat → Option (Bool × List Int)) (k : Nat) (v : Option (Bool × List Int)) : updM m k v k = v := by simp [updM]
theorem updM_other (m : Nat → Option (Bool × List Int)) (k j : Nat) (v : Option (Bool × List Int)) (h : j ≠ k) : updM m k v j = m j := by simp [updM, h]
/-- the pages first .. first + k - 1 are locked, or opened -/
def lockedM (m : Nat → Option (Bool × List Int)) (first : Nat) (v : Bool) : Nat → (Nat → Option (Bool × List Int))
  | 0 => m
  | k + 1 => updM (lockedM m first v k) (first + k) ((lockedM m first v k (first + k)).map fun p => (v, p.2))

theorem Im.setCell {S M : Nat} {st n bud : Int} {f : Nat → Option Nat} {W : World} (h : Im S M st n bud f W) {p : Addr} (h1 : p.block ≠ S) (h2 : p.block ≠ M) (v : Value) : Im S M st n bud f (W.setCell p v) := by
  obtain ⟨D, hown, r⟩ := h.map
  exact ⟨by rw [Below.heap_setCell _ _ _ _ (Ne.symm h1)]; exact h.box, D, hown.setCell (Ne.symm h2) v, r⟩
theorem Pg.apart {S M : Nat} {st n bud : Int} {f : Nat → Option Nat} {m : Nat → Option (Bool × List Int)} {W : World} (h : Pg f m W) (hi : Im S M st n bud f W) {k b : Nat} (hf : f k = some b) : b ≠ S ∧ b ≠ M := by
  obtain ⟨l, xs, _, _, h3⟩ := h.cell hf
  constructor
  · intro e
    subst e
    rw [hi.box] at h3
    simp at h3
  · intro e
    subst e
    obtain ⟨D, ⟨es, c, hb, _⟩, _⟩ := hi.map
    rw [hb] at h3
    cases h3
theorem pageC_setLock (l v : Bool) (xs : List Int) (h : xs.length = 1024) : (pageC l xs).setIfInBounds 1024 (.bool v) = pageC v xs := by
  apply Array.ext_getElem?
  intro i
  rw [Array.getElem?_setIfInBounds]
  by_cases e : 1024 = i
  · subst e
    rw [if_pos rfl, if_pos (by simp [pageC, Ns, h]), pageC_lock _ _ h]
  · rw [if_neg e]
    by_cases hi : i < xs.length
    · rw [pageC_byte _ _ _ hi, pageC_byte _ _ _ hi]
    · rw [Array.getElem?_eq_none (by simp [pageC, Ns]; omega), Array.getElem?_eq_none (by simp [pageC, Ns]; omega)]
theorem pageC_setByte (l : Bool) (xs : List Int) (i : Nat) (x : Int) (h : i < xs.length) : (pageC l xs).setIfInBounds i (.int .u8 x) = pageC l (xs.set i x) := by
  simp [pageC, Ns, List.map_set, h]
theorem heap_set_at {W : World} {b : Nat} {c : Array Value} {t : TypeId} {i : Nat} (h : W.heap[b]? = some (.cells c t (0, 0))) (v : Value) : (W.setCell ⟨b, i, none⟩ v).heap[b]? = some (.cells (c.setIfInBounds i v) t (0, 0)) := by
  simp [World.setCell, Array.getElem?_modify, h]
/-- a page's cells are turned -/
theorem Pg.set {f : Nat → Option Nat} {m : Nat → Option (Bool × List Int)} {W : World} (h : Pg f m W) {k b i : Nat} (hf : f k = some b) {v : Value} {l l' : Bool} {xs xs' : List Int}
    (hm : m k = some (l, xs)) (hx : xs'.length = 1024) (hc : (pageC l xs).setIfInBounds i v = pageC l' xs') : Pg f (updM m k (some (l', xs'))) (W.setCell ⟨b, i, none⟩ v) := by
  refine ⟨?_, h.inj⟩
  intro j
  by_cases e : j = k
  · subst e
    obtain ⟨l2, xs2, h1, h2, h3⟩ := h.cell hf
    rw [hm] at h1
    cases h1
    exact .inr ⟨b, l', xs', hf, updM_same _ _ _, hx, by rw [heap_set_at h3, hc]⟩
  · rw [updM_other m k j _ e]
    rcases h.at' j with h1 | ⟨b2, l2, xs2, h1, h2, h3, h4⟩
    · exact .inl h1
    · refine .inr ⟨b2, l2, xs2, h1, h2, h3, ?_⟩
      rw [Below.heap_setCell _ _ _ _ ?_]
      · exact h4
      · intro e2
        simp at e2
        subst e2
        exact e (h.inj j k _ h1 hf)
theorem Fr.set {S M : Nat} {f : Nat → Option Nat} {W W' : World} (h : Fr S M f f W W') {k b i : Nat} (hf : f k = some b) (v : Value) : Fr S M f f W (W'.setCell ⟨b, i, none⟩ v) := by
  refine ⟨h.os, h.tape, h.output, by simp [World.setCell]; exact h.size, ?_, h.made⟩
  intro g hg h1 h2 h3
  rw [Below.heap_setCell _ _ _ _ ?_]
  · exact h.block g hg h1 h2 h3
  · intro e
    simp at e
    subst e
    exact h3 k hf
theorem heldN_all {f : Nat → Option Nat} {first : Nat} : ∀ {N : Nat}, heldN f first N = N → ∀ k, k < N → ∃ b, f (first + k) = some b
  | 0, _, k, hk => by omega
  | N + 1, h, k, hk => by
    have h1 := heldN_le f first N
    simp only [heldN] at h
    cases hf : f (first + N) with
    | none => rw [hf] at h; simp at h; omega
    | some b =>
      rw [hf] at h
      simp at h
      by_cases e : k = N
      · subst e; exact ⟨b, hf⟩
      · exact heldN_all h k (by omega)

set_option maxHeartbeats 400000 in
theorem setLock_yes (S M : Nat) (st n bud : Int) (f : Nat → Option Nat) (m : Nat → Option (Bool × List Int)) (first count : Nat) (v : Bool) (w : World) (h : Im S M st n bud f w) (hp : Pg f m w) (hn : 0 ≤ n) (hn' : n ≤ 4096) (hin : insideB n first count = true) (hall : heldN f first count = count) :
    Calls Try.prog 40 #[.pointer (some ⟨S, 0, none⟩), .int .i64 first, .int .i64 count, .bool v] w fun e w' => e = .returned (.int .i64 0) ∧ Im S M st n bud f w' ∧ Pg f (lockedM m first v count) w' ∧ Fr S M f f w w' := by
  have hr : 1 ≤ count ∧ first + count ≤ 4096 := by simp [insideB] at hin; omega
  have H1 := hid (inside_any S M st n bud f first count w h hn hn' (by omega))
  rw [hin] at H1
  have H2 := hid (heldOf_any S M st n bud f first count w h (by omega) (by omega))
  rw [hall] at H2
  have HA := hid (heldN_all hall)
  have HI := hid (And.intro h hp)
  obtain ⟨_, _, _, c4⟩ := h.c
  clear hin hall h hp
  go_enter Try.func40, Try.ntmps40
  go_wp2_with fail
  refine H1.out.mono ?_
  rintro _ _ ⟨rfl, rfl⟩
  go_wp2_with fail
  refine H2.out.mono ?_
  rintro _ w0 ⟨rfl, rfl⟩
  go_wp2_with fail
  clear H1 H2
  go_loopw [24] (fun i wr => ∃ k : Nat, k ≤ count ∧ i = .int .i64 k ∧ Im S M st n bud f wr ∧ Pg f (lockedM m first v k) wr ∧ Fr S M f f w0 wr) (fun i _ => count - (intOf i).toNat)
  case atStart => exact ⟨0, Nat.zero_le _, rfl, HI.out.1, HI.out.2, Fr.refl S M f _⟩
  case round =>
    obtain ⟨k, hk, rfl, him, hpg, hfr⟩ := hrel
    by_cases hlt : k < count
    · obtain ⟨_, _, _, c4⟩ := him.c
      obtain ⟨b, hb⟩ := HA.out k hlt
      obtain ⟨l, xs, hm, hx, _⟩ := hpg.cell hb
      obtain ⟨cl, fl⟩ := hpg.lockCell hb hm
      obtain ⟨hbS, hbM⟩ := hpg.apart him hb
      have hrun := him.look (first + k) (by omega)
      rw [hb] at hrun
      simp only [Option.map_some] at hrun
      have ec : ((first + k : Nat) : Int) = (first : Int) + (k : Int) := by omega
      rw [ec] at hrun
      have P1 := hpg.set hb hm hx (pageC_setLock l v xs hx)
      have HJ := hid (And.intro (him.setCell (p := ⟨b, 1024, none⟩) hbS hbM (.bool v)) (And.intro P1 (And.intro hm (hfr.set (i := 1024) hb (.bool v)))))
      clear him hpg hfr ec hbS hbM hm hx hb P1 HI
      go_wp2
      go_roundw
      case rel =>
        refine ⟨k + 1, by omega, by go_num, HJ.out.1, ?_, HJ.out.2.2.2⟩
        simp only [lockedM]
        rw [HJ.out.2.2.1]
        exact HJ.out.2.1
      case measure => simp [intOf]; omega
    · have hkc : k = count := by omega
      subst hkc
      have HJ := hid (And.intro him (And.intro hpg hfr))
      clear him hpg hfr
      go_wp2_with fail
      go_ret
      exact ⟨rfl, HJ.out⟩
end Go.Proofs.Ytiddopgeomojbaa

namespace Go.Proofs.Ytiddopgeomojbaa
open Go.ChangeShapes Go.WideShapes Go.ChangeAt Go.RowKit Go.Maps
set_option linter.unusedVariables false

/-- a page that may be touched -/
def isOpen : Option (Bool × List Int) → Bool
  | some (l, _) => !l
  | none => false
/-- the pages first .. first + k - 1 may be touched -/
def openN (m : Nat → Option (Bool × List Int)) (first : Nat) : Nat → Bool
  | 0 => true
  | k + 1 => openN m first k && isOpen (m (first + k))
/-- the code of an access -/
def accCode (b : Bool) : Int := if b then 0 else 2
theorem openN_false {m : Nat → Option (Bool × List Int)} {first k : Nat} (h : isOpen (m (first + k)) = false) : ∀ N, k < N → openN m first N = false
  | 0, hk => by omega
  | N + 1, hk => by
    simp only [openN]
    by_cases e : k = N
    · subst e; simp [h]
    · rw [openN_false h N (by omega)]; rfl
theorem openN_all {m : Nat → Option (Bool × List Int)} {first : Nat} : ∀ {N : Nat}, openN m first N = true → ∀ k, k < N → isOpen (m (first + k)) = true
  | 0, _, k, hk => by omega
  | N + 1, h, k, hk => by
    simp only [openN, Bool.and_eq_true] at h
    by_cases e : k = N
    · subst e; exact h.2
    · exact openN_all h.1 k (by omega)

set_option maxHeartbeats 400000 in
theorem access_range (S : Nat) (a n : Int) (w : World) (h : n < 0 ∨ 4096 < n) :
    Calls Try.prog 57 #[.pointer (some ⟨S, 0, none⟩), .int .u64 a, .int .i64 n] w fun e w' => e = .returned (.int .i64 6) ∧ w' = w := by
  rcases h with h | h
  · go_enter Try.func57, Try.ntmps57
    go_wp2
    go_ret
    exact ⟨rfl, rfl⟩
  · have h' : ¬ n < 0 := by omega
    go_enter Try.func57, Try.ntmps57
    go_wp2
    go_ret
    exact ⟨rfl, rfl⟩

set_option maxHeartbeats 400000 in
theorem access_zero (S : Nat) (a : Int) (w : World) :
    Calls Try.prog 57 #[.pointer (some ⟨S, 0, none⟩), .int .u64 a, .int .i64 0] w fun e w' => e = .returned (.int .i64 0) ∧ w' = w := by
  go_enter Try.func57, Try.ntmps57
  go_wp2
  go_ret
  exact ⟨rfl, rfl⟩

set_option maxHeartbeats 400000 in
theorem access_far (S : Nat) (a n : Int) (w : World) (ha : 0 ≤ a) (ha' : a ≤ 18446744073709551615) (h1 : 1 ≤ n) (h2 : n ≤ 4096) (h : 4611686018427387904 ≤ a + (n - 1)) :
    Calls Try.prog 57 #[.pointer (some ⟨S, 0, none⟩), .int .u64 a, .int .i64 n] w fun e w' => e = .returned (.int .i64 2) ∧ w' = w := by
  have H1 := hid (impl_pg_no a n w ha ha' (.inr (.inr h)))
  clear h
  go_enter Try.func57, Try.ntmps57
  go_wp2_with fail
  refine H1.out.mono ?_
  rintro _ _ ⟨rfl, rfl⟩
  unfold pgNo
  go_wp2_with fail
  go_ret
  exact ⟨rfl, rfl⟩

set_option maxRecDepth 4000 in
set_option maxHeartbeats 400000 in
theorem access_near (S M : Nat) (st nn bud : Int) (f : Nat → Option Nat) (m : Nat → Option (Bool × List Int)) (a n p q : Nat) (w : World) (hi : Im S M st nn bud f w) (hp : Pg f m w) (h1 : 1 ≤ n) (h2 : n ≤ 4096) (h : a + (n - 1) < 4611686018427387904)
    (hpe : p = a / 1024) (hqe : q = (a + (n - 1)) / 1024) :
    Calls Try.prog 57 #[.pointer (some ⟨S, 0, none⟩), .int .u64 a, .int .i64 n] w fun e w' => e = .returned (.int .i64 (accCode (openN m p (q + 1 - p)))) ∧ w' = w := by
  have H1 := hid (impl_pg_yes a n w (by omega) (by omega) (by omega) (by omega))
  have e1 : (a : Int) / 1024 = (p : Int) := by omega
  have e2 : ((a : Int) + ((n : Int) - 1)) / 1024 = (q : Int) := by omega
  rw [e1, e2] at H1
  have hpq : p ≤ q := by omega
  have hq : q < 4503599627370496 := by omega
  have HI := hid (And.intro hi hp)
  obtain ⟨_, _, _, c4⟩ := hi.c
  clear e1 e2 hpe hqe hi hp h
  go_enter Try.func57, Try.ntmps57
  go_wp2_with fail
  refine H1.out.mono ?_
  rintro _ w0 ⟨rfl, rfl⟩
  go_wp2_with fail
  clear H1
  go_loop [10, 11] (fun i _ => ∃ j : Nat, j ≤ q + 1 - p ∧ i = .int .i64 ((p : Int) + (j : Int)) ∧ openN m p j = true) (fun i _ => q + 1 - (intOf i).toNat)
  case atStart => exact ⟨0, Nat.zero_le _, by go_num, rfl⟩
  case round =>
    obtain ⟨j, hj, rfl, hop⟩ := hrel
    by_cases hlt : j < q + 1 - p
    · have hrun := HI.out.1.look (p + j) (by omega)
      have ec : ((p + j : Nat) : Int) = (p : Int) + (j : Int) := by omega
      rw [ec] at hrun
      clear ec
      rcases HI.out.2.at' (p + j) with ⟨hf, hm⟩ | ⟨b, l, xs, hf, hm, _⟩
      · rw [hf] at hrun
        simp only [Option.map_none] at hrun
        have HO := hid (openN_false (m := m) (first := p) (k := j) (by rw [hm]; rfl) (q + 1 - p) hlt)
        clear hf hm hop
        go_wp2
        go_ret
        exact ⟨ret_int (by rw [HO.out]; rfl), rfl⟩
      · rw [hf] at hrun
        simp only [Option.map_some] at hrun
        obtain ⟨cl, _⟩ := HI.out.2.lockCell hf hm
        cases l with
        | true =>
          have HO := hid (openN_false (m := m) (first := p) (k := j) (by rw [hm]; rfl) (q + 1 - p) hlt)
          clear hf hm hop
          go_wp2
          go_ret
          exact ⟨ret_int (by rw [HO.out]; rfl), rfl⟩
        | false =>
          have HO := hid (show openN m p (j + 1) = true by simp only [openN]; rw [hop, hm]; rfl)
          clear hf hm hop
          go_wp2
          go_round
          case rel => exact ⟨j + 1, by omega, by go_num, HO.out⟩
          case measure => simp [intOf]; omega
    · have hje : j = q + 1 - p := by omega
      have HO := hid (hje ▸ hop)
      clear hop hje
      go_wp2
      go_ret
      exact ⟨ret_int (by rw [HO.out]; rfl), rfl⟩
end Go.Proofs.Ytiddopgeomojbaa

namespace Go.Proofs.Ytiddopgeomojbaa
open Go.ChangeShapes Go.WideShapes Go.ChangeAt Go.RowKit Go.Maps
set_option linter.unusedVariables false


theorem Im.drew {S M : Nat} {st n bud : Int} {f : Nat → Option Nat} {W : World} (h : Im S M st n bud f W) : Im S M st n bud f W.drew := ⟨h.box, h.map⟩

/-- an empty page -/
def page0 : Array Value := pageC false (List.replicate 1024 0)
theorem build85 (w : World) : (Instr.build 85 #[]).run Try.prog w = .ok (.agg page0) w := by kernel_rfl
theorem box85 (w : World) : (Instr.box 85 (.agg page0)).run Try.prog w = .ok (.pointer (some ⟨w.heap.size, 0, none⟩)) (w.alloc (.cells page0 85 (0, 0))) := by kernel_rfl
section
variable {ops : Array Oper} {rest : List Oper} {o : Oper} {a : Act} {Q : Exit → Act → World → Prop}
theorem wpList_build_page (w : World) (hg : o.guard = none) (hop : o.op = Op.build 85 #[])
    (hK : ∀ v, Hid (v = .agg page0) → wpList Try.prog ops Q rest (a.put o.dst v) w) :
    wpList Try.prog ops Q (o :: rest) a w := by
  refine wpList_plain hg fun K' hK' => ?_
  unfold Oper.wp
  simp [execOp, hop, build85 w, Result.andThen]
  exact hK' _ _ (hK _ (hid rfl))
theorem wpList_box_page (w : World) (hg : o.guard = none) (x : Operand) (hop : o.op = Op.box 85 x) (v : Value) (hx : a.eval x = v) (hv : Hid (v = .agg page0))
    (hK : ∀ w', Hid (w' = w.alloc (.cells page0 85 (0, 0))) → wpList Try.prog ops Q rest (a.put o.dst (.pointer (some ⟨w.heap.size, 0, none⟩))) w') :
    wpList Try.prog ops Q (o :: rest) a w := by
  refine wpList_plain hg fun K' hK' => ?_
  unfold Oper.wp
  simp [execOp, hop, hx, hv.out, box85 w, Result.andThen]
  exact hK' _ _ (hK _ (hid rfl))
end

theorem Im.alloc {S M : Nat} {st n bud : Int} {f : Nat → Option Nat} {W : World} (h : Im S M st n bud f W) (o : Obj) : Im S M st n bud f (W.alloc o) := by
  obtain ⟨D, hown, r⟩ := h.map
  exact ⟨by rw [(World.grownBy_alloc W o none).block S (lt_of_block h.box) (by simp)]; exact h.box, D, hown.alloc o, r⟩
theorem Pg.drew {f : Nat → Option Nat} {m : Nat → Option (Bool × List Int)} {W : World} (h : Pg f m W) : Pg f m W.drew := ⟨h.at', h.inj⟩
theorem Fr.drew {S M : Nat} {f f' : Nat → Option Nat} {W W' : World} (h : Fr S M f f' W W') : Fr S M f f' W W'.drew := ⟨h.os, h.tape, h.output, h.size, h.block, h.made⟩
/-- new pages -/
def freshM (m : Nat → Option (Bool × List Int)) (first : Nat) : Nat → (Nat → Option (Bool × List Int))
  | 0 => m
  | k + 1 => updM (freshM m first k) (first + k) (some (false, List.replicate 1024 0))
theorem Pg.made {S M : Nat} {st n bud : Int} {f : Nat → Option Nat} {m : Nat → Option (Bool × List Int)} {W W1 W2 : World} (h : Pg f m W) (hi : Im S M st n bud f W) (k : Nat) (e1 : W1 = W.alloc (.cells page0 85 (0, 0))) (ht : W1.mapTurned W2 M) :
    Pg (upd f k (some W.heap.size)) (updM m k (some (false, List.replicate 1024 0))) W2 := by
  subst e1
  have hM : M < W.heap.size := by obtain ⟨D, hown, _⟩ := hi.map; exact hown.lt
  have hnew : ∀ j b, f j = some b → b < W.heap.size := by
    intro j b e
    obtain ⟨l, xs, _, _, h3⟩ := h.cell e
    exact lt_of_block h3
  constructor
  · intro j
    by_cases e : j = k
    · subst e
      refine .inr ⟨W.heap.size, false, List.replicate 1024 0, upd_same _ _ _, updM_same _ _ _, List.length_replicate, ?_⟩
      rw [turned_other ht (by omega)]
      exact (MapKept.heap_alloc W _).1
    · rw [updM_other m k j _ e, upd_other f k j _ e]
      rcases h.at' j with h1 | ⟨b2, l2, xs2, h1, h2, h3, h4⟩
      · exact .inl h1
      · refine .inr ⟨b2, l2, xs2, h1, h2, h3, ?_⟩
        rw [turned_other ht (h.apart hi h1).2, (World.grownBy_alloc W _ none).block b2 (lt_of_block h4) (by simp)]
        exact h4
  · intro i j b ei ej
    by_cases e : i = k
    · subst e
      rw [upd_same] at ei
      cases ei
      by_cases e2 : j = i
      · exact e2.symm
      · rw [upd_other f i j _ e2] at ej
        have := hnew j _ ej
        omega
    · rw [upd_other f k i _ e] at ei
      by_cases e2 : j = k
      · subst e2
        rw [upd_same] at ej
        cases ej
        have := hnew i _ ei
        omega
      · rw [upd_other f k j _ e2] at ej
        exact h.inj i j b ei ej
theorem Fr.turned {S M : Nat} {f f' : Nat → Option Nat} {W W1 W2 : World} (h : Fr S M f f' W W1) (ht : W1.mapTurned W2 M) : Fr S M f f' W W2 := by
  have hg := ht.grown
  refine ⟨hg.os.trans h.os, hg.tape.trans h.tape, hg.output.trans h.output, Nat.le_trans h.size hg.size, ?_, h.made⟩
  intro g h0 h1 h2 h3
  rw [turned_other ht h2]
  exact h.block g h0 h1 h2 h3
theorem Fr.fresh {S M : Nat} {f f' : Nat → Option Nat} {W W1 W2 W3 : World} (h : Fr S M f f' W W1) (k : Nat) (e1 : W2 = W1.alloc (.cells page0 85 (0, 0))) (ht : W2.mapTurned W3 M) : Fr S M f (upd f' k (some W1.heap.size)) W W3 := by
  subst e1
  refine Fr.turned ?_ ht
  have hg := World.grownBy_alloc W1 (.cells page0 85 (0, 0)) none
  refine ⟨hg.os.trans h.os, hg.tape.trans h.tape, hg.output.trans h.output, Nat.le_trans h.size hg.size, ?_, ?_⟩
  · intro g h0 h1 h2 h3
    rw [hg.block g (Nat.lt_of_lt_of_le h0 h.size) (by simp)]
    exact h.block g h0 h1 h2 h3
  · intro j g e
    by_cases ej : j = k
    · subst ej
      rw [upd_same] at e
      cases e
      exact .inr h.size
    · rw [upd_other f' k j _ ej] at e
      exact h.made j g e


set_option maxHeartbeats 400000 in
theorem commit_no (S M : Nat) (st n bud : Int) (f : Nat → Option Nat) (first count : Int) (w : World) (h : Im S M st n bud f w) (hn : 0 ≤ n) (hn' : n ≤ 4096) (hf : first ≤ 9223372036854775807)
    (hno : insideB n first count = false) :
    Calls Try.prog 38 #[.pointer (some ⟨S, 0, none⟩), .int .i64 first, .int .i64 count] w fun e w' => e = .returned (.int .i64 6) ∧ w' = w := by
  have H1 := hid (inside_any S M st n bud f first count w h hn hn' hf)
  rw [hno] at H1
  clear hno h
  go_enter Try.func38, Try.ntmps38
  go_wp2_with fail
  refine H1.out.mono ?_
  rintro _ _ ⟨rfl, rfl⟩
  go_wp2_with fail
  go_ret
  exact ⟨rfl, rfl⟩

set_option maxHeartbeats 400000 in
theorem commit_part (S M : Nat) (st n bud : Int) (f : Nat → Option Nat) (first count h0 : Nat) (w : World) (h : Im S M st n bud f w) (hn : 0 ≤ n) (hn' : n ≤ 4096) (hin : insideB n first count = true) (h0e : heldN f first count = h0) (hlt : 0 < h0) :
    Calls Try.prog 38 #[.pointer (some ⟨S, 0, none⟩), .int .i64 first, .int .i64 count] w fun e w' => e = .returned (.int .i64 6) ∧ w' = w := by
  have hr : 1 ≤ count ∧ first + count ≤ 4096 := by simp [insideB] at hin; omega
  have H1 := hid (inside_any S M st n bud f first count w h hn hn' (by omega))
  rw [hin] at H1
  have H2 := hid (heldOf_any S M st n bud f first count w h (by omega) (by omega))
  rw [h0e] at H2
  clear hin h0e h
  go_enter Try.func38, Try.ntmps38
  go_wp2_with fail
  refine H1.out.mono ?_
  rintro _ _ ⟨rfl, rfl⟩
  go_wp2_with fail
  refine H2.out.mono ?_
  rintro _ w0 ⟨rfl, rfl⟩
  go_wp2_with fail
  go_ret
  exact ⟨rfl, rfl⟩

set_option maxHeartbeats 400000 in
theorem commit_full (S M : Nat) (st n bud : Int) (f : Nat → Option Nat) (first count h0 : Nat) (w : World) (h : Im S M st n bud f w) (hn : 0 ≤ n) (hn' : n ≤ 4096) (hin : insideB n first count = true) (hz : heldN f first count = 0) (h0e : heldN f 0 4096 = h0) (hlt : bud < h0 + count) :
    Calls Try.prog 38 #[.pointer (some ⟨S, 0, none⟩), .int .i64 first, .int .i64 count] w fun e w' => e = .returned (.int .i64 1) ∧ w' = w.drew := by
  have hr : 1 ≤ count ∧ first + count ≤ 4096 := by simp [insideB] at hin; omega
  have H1 := hid (inside_any S M st n bud f first count w h hn hn' (by omega))
  rw [hin] at H1
  have H2 := hid (heldOf_any S M st n bud f first count w h (by omega) (by omega))
  rw [hz] at H2
  have hle : h0 ≤ 4096 := h0e ▸ heldN_le f 0 4096
  obtain ⟨_, _, c3, c4⟩ := h.c
  have HI := hid h
  have HE := hid h0e
  clear hin h0e h hz
  go_enter Try.func38, Try.ntmps38
  go_wp2_with fail
  refine H1.out.mono ?_
  rintro _ _ ⟨rfl, rfl⟩
  go_wp2_with fail
  refine H2.out.mono ?_
  rintro _ w0 ⟨rfl, rfl⟩
  have hlen := HI.out.len 3
  have hlen' := HI.out.drew.len 3
  rw [HE.out] at hlen hlen'
  go_wp2_with fail
  go_region
  go_wp2
  go_ret
  exact ⟨rfl, rfl⟩

set_option maxHeartbeats 400000 in
theorem commit_yes (S M : Nat) (st n bud : Int) (f : Nat → Option Nat) (m : Nat → Option (Bool × List Int)) (first count h0 : Nat) (w : World) (h : Im S M st n bud f w) (hp : Pg f m w) (hn : 0 ≤ n) (hn' : n ≤ 4096) (hin : insideB n first count = true) (hz : heldN f first count = 0) (h0e : heldN f 0 4096 = h0) (hle' : h0 + count ≤ bud) :
    Calls Try.prog 38 #[.pointer (some ⟨S, 0, none⟩), .int .i64 first, .int .i64 count] w fun e w' => e = .returned (.int .i64 0) ∧ ∃ f', Im S M st n bud f' w' ∧ Pg f' (freshM m first count) w' ∧ Fr S M f f' w w' := by
  have hr : 1 ≤ count ∧ first + count ≤ 4096 := by simp [insideB] at hin; omega
  have H1 := hid (inside_any S M st n bud f first count w h hn hn' (by omega))
  rw [hin] at H1
  have H2 := hid (heldOf_any S M st n bud f first count w h (by omega) (by omega))
  rw [hz] at H2
  have hle : h0 ≤ 4096 := h0e ▸ heldN_le f 0 4096
  obtain ⟨_, _, c3, c4⟩ := h.c
  have HI := hid h
  have HP := hid hp
  have HE := hid h0e
  clear hin h0e h hz hp
  go_enter Try.func38, Try.ntmps38
  go_wp2_with fail
  refine H1.out.mono ?_
  rintro _ _ ⟨rfl, rfl⟩
  go_wp2_with fail
  refine H2.out.mono ?_
  rintro _ w0 ⟨rfl, rfl⟩
  have hlen := HI.out.len 3
  have hlen' := HI.out.drew.len 3
  rw [HE.out] at hlen hlen'
  go_wp2_with fail
  go_region
  clear hlen hlen' H1 H2
  go_wp2_with fail
  go_loopw [33] (fun i wr => ∃ k : Nat, k ≤ count ∧ i = .int .i64 k ∧ ∃ f', Im S M st n bud f' wr ∧ Pg f' (freshM m first k) wr ∧ Fr S M f f' w0 wr) (fun i _ => count - (intOf i).toNat)
  case atStart => exact ⟨0, Nat.zero_le _, rfl, f, HI.out.drew, HP.out.drew, (Fr.refl S M f _).drew⟩
  case round =>
    obtain ⟨k, hk, rfl, f', him, hpg, hfr⟩ := hrel
    by_cases hlt : k < count
    · obtain ⟨_, _, _, c4⟩ := him.c
      have HJ := hid (And.intro him (And.intro hpg hfr))
      have HA := hid (him.alloc (.cells page0 85 (0, 0)))
      clear him hpg hfr HI HP
      go_wp2_with (refine wpList_build_page _ rfl rfl ?_)
      intro v0 hv0
      go_wp2_with (refine wpList_box_page _ rfl _ rfl _ rfl hv0 ?_)
      intro w1 hw1
      rw [← hw1.out] at HA
      go_wp2_with (refine wpList_put_im _ rfl _ _ _ rfl HA.out (first + k) _ (by omega) rfl (by go_num) rfl ?_)
      intro w2 him2 ht2
      have HK := hid (And.intro him2 (And.intro (HJ.out.2.1.made HJ.out.1 (first + k) hw1.out ht2) (HJ.out.2.2.fresh (first + k) hw1.out ht2)))
      clear HJ HA him2 ht2 hw1 hv0 c4
      go_wp2_with fail
      go_roundw
      case rel => exact ⟨k + 1, by omega, by go_num, _, HK.out.1, HK.out.2.1, HK.out.2.2⟩
      case measure => simp [intOf]; omega
    · have hkc : k = count := by omega
      subst hkc
      have HJ := hid (And.intro him (And.intro hpg hfr))
      clear him hpg hfr
      go_wp2_with fail
      go_ret
      exact ⟨rfl, f', HJ.out⟩
end Go.Proofs.Ytiddopgeomojbaa
