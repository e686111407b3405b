import Derived.Test.YtcefihmnnndleaaDoorHrD
import Derived.OpenShut
namespace Go.Proofs.YtcefihmnnndleaaDoor
open Go.ChangeShapes Go.WideShapes Go.ChangeAt Go.RowKit
set_option linter.unusedVariables false
set_option maxRecDepth 20000
set_option linter.unusedSimpArgs false

theorem bytes_of : ∀ (zs : List Int), (∀ n ∈ zs, 0 ≤ n ∧ n ≤ 255) → ∃ l : List UInt8, Ns .u8 zs = bv l ∧ l.length = zs.length
  | [], _ => ⟨[], rfl, rfl⟩
  | z :: r, h => by
    obtain ⟨l, h1, h2⟩ := bytes_of r (fun n hn => h n (List.mem_cons_of_mem _ hn))
    have hz := h z (by simp)
    refine ⟨UInt8.ofNat z.toNat :: l, ?_, by simp [h2]⟩
    have e : (((UInt8.ofNat z.toNat).toNat : Nat) : Int) = z := by
      rw [UInt8.toNat_ofNat']
      rw [Nat.mod_eq_of_lt (by omega)]
      omega
    simp only [Ns, bv, List.map_cons] at h1 ⊢
    rw [e, h1]
/-- the package's variables -/
structure Gl (a0 a1 : Addr) (mx : Int) (W : World) : Prop where
  g0 : W.cell? ⟨0, 0, none⟩ = some (.iface 141 (.pointer (some a0)))
  g1 : W.cell? ⟨1, 0, none⟩ = some (.iface 141 (.pointer (some a1)))
  g2 : W.cell? ⟨2, 0, none⟩ = some (.int .i64 mx)
theorem Gl.below {a0 a1 : Addr} {mx : Int} {W W' : World} (h : Gl a0 a1 mx W) (hb : Below W.heap.size W W') : Gl a0 a1 mx W' := ⟨below_cell hb h.g0, below_cell hb h.g1, below_cell hb h.g2⟩
def ReadP (s : RdS) (W : World) (e : Ending) (w' : World) : Prop := ∃ dv ov bd ps, e = .returned (.tuple #[.agg (cfC s.cf dv).toArray, ov, bd]) ∧ Res W.heap.size w' s dv ov bd ps ∧ Below W.heap.size W w'
theorem spec_any (g n : Nat) (l : List UInt8) (W : World) (hl : l.length = n) (hn : n ≤ 1048576) (hr : RowV W g 5 (bv l)) : Calls Tryd.prog 4 #[.slice (some ⟨g, 0, none⟩) n n] W (ReadP (readM l) W) := by
  by_cases h : 20000 < n
  · exact sp_read_no g n n l W hl h hn
  · exact sp_read_yes g n n l W hl h hr
theorem impl_any (g n : Nat) (l : List UInt8) (a0 a1 : Addr) (mx : Int) (W : World) (hl : l.length = n) (hn : n ≤ 1048576) (hr : RowV W g 5 (bv l)) (hg : Gl a0 a1 mx W) : Calls Tryd.prog 6 #[.slice (some ⟨g, 0, none⟩) n n] W (ReadP (readM l) W) := by
  by_cases h : 20000 < n
  · exact im_read_no g n n l a0 W hl h hn hr hg.g0
  · exact im_read_yes g n n l a0 a1 mx W hl h hr hg.g0 hg.g1 hg.g2
/-- what reads as s -/
structure Rr (W : World) (s : RdS) (d o b : Value) : Prop where
  d : Zs W d s.cf.draws
  o : Os W o s.ops
  b : Zs W b s.bad
theorem Rr.below {W W' : World} {s : RdS} {d o b : Value} (h : Rr W s d o b) (hb : Below W.heap.size W W') : Rr W' s d o b := ⟨h.d.below hb, h.o.below hb, h.b.below hb⟩
theorem Res.rr {B : Nat} {W : World} {s : RdS} {d o b : Value} {ps : List Pv} (h : Res B W s d o b ps) : Rr W s d o b := ⟨zs_own h.dt, h.eq ▸ os_own h.op h.dd, zs_own h.bdo⟩
theorem zs_sl {W : World} {u : Value} {os : List Int} (h : Zs W u os) : ∃ a m c, u = .slice a m c := by obtain ⟨a, c, e, _⟩ := h; exact ⟨_, _, _, e⟩
theorem os_sl {W : World} {u : Value} {os : List OpS} (h : Os W u os) : ∃ a m c, u = .slice a m c := by obtain ⟨a, c, e, _⟩ := h; exact ⟨_, _, _, e⟩
theorem eqZ (u1 u2 : Value) (os : List Int) (W : World) (h1 : Zs W u1 os) (h2 : Zs W u2 os) (ho : os.length ≤ 1048576) : Calls Tryd.prog 9 #[u1, u2] W fun e w' => e = .returned (.bool true) ∧ Below W.heap.size W w' := by
  obtain ⟨a, ca, rfl, h3⟩ := h1
  obtain ⟨b, cb, rfl, h4⟩ := h2
  exact eqIn a b os.length ca cb os W ho h3 h4
theorem own_keep {W W' : World} {base : Nat} {e : TypeId} {size : Nat} {v : Value} {n : Nat} {xs : List Value} (h : W.ownsRow base e size v n xs) (hk : ∀ (g : Nat) (c : Array Value), v.ownBlock = some g → W.heap[g]? = some (.cells c e (0, 0)) → W'.heap[g]? = W.heap[g]?) : W'.ownsRow base e size v n xs := by
  refine ⟨h.1, ?_⟩
  rcases h.2 with hn | ⟨g, cap, cur, rfl, hb, hgg, rest⟩
  · exact .inl hn
  · exact .inr ⟨g, cap, cur, rfl, hb, (hk g cur rfl hgg).trans hgg, rest⟩
theorem own_ap {W : World} {b1 b2 : Nat} {e1 e2 : TypeId} {s1 s2 : Nat} {v1 v2 : Value} {n1 n2 : Nat} {x1 x2 : List Value} (h1 : W.ownsRow b1 e1 s1 v1 n1 x1) (h2 : W.ownsRow b2 e2 s2 v2 n2 x2) (hne : e1 ≠ e2) {g : Nat} (e : v1.ownBlock = some g) : v2.ownBlock ≠ some g := fun e' => by
  obtain ⟨c, hc⟩ := own_obj h1 e
  obtain ⟨c', hc'⟩ := own_obj h2 e'
  rw [hc] at hc'
  simp at hc'
  exact hne hc'.2
/-- the operations and the numbers of the unclear lines, in memory of their own -/
structure Ow2 (B : Nat) (W : World) (s : RdS) (o b : Value) (ps : List Pv) : Prop where
  op : W.ownsRow B 45 6 o ps.length (flatP ps)
  dd : ∀ p ∈ ps, W.ownsRow B 5 1 p.2 p.1.data.length (dv8 p.1.data)
  bdo : W.ownsRow B 3 1 b s.bad.length (iv s.bad)
theorem Res.ow2 {B : Nat} {W W' : World} {s : RdS} {d o b : Value} {ps : List Pv} (h : Res B W s d o b ps) (g : W.grownBy W' d.ownBlock) : Ow2 B W' s o b ps :=
  ⟨own_keep h.op (fun r c hr hc => g.block r (lt_blk hc) (fun e => own_ap h.dt h.op (by decide) e.symm hr)), fun p hp => own_keep (h.dd p hp) (fun r c hr hc => g.block r (lt_blk hc) (fun e => own_ap h.dt (h.dd p hp) (by decide) e.symm hr)), own_keep h.bdo (fun r c hr hc => g.block r (lt_blk hc) (fun e => h.ap r e.symm hr))⟩
theorem Res.grownR {B : Nat} {W W' : World} {s : RdS} {d o b : Value} {ps : List Pv} (h : Res B W s d o b ps) {G : Nat} (g : W.grownBy W' (some G)) (hG : G < B) : Res B W' s d o b ps :=
  ⟨own_off h.dt g (fun r hr e => by have := (h.dt.lt r hr).1; omega), own_off h.op g (fun r hr e => by have := (h.op.lt r hr).1; omega), h.eq, fun p hp => own_off (h.dd p hp) g (fun r hr e => by have := ((h.dd p hp).lt r hr).1; omega), own_off h.bdo g (fun r hr e => by have := (h.bdo.lt r hr).1; omega), h.ap, h.pw⟩
theorem Oz.typ {k n : Nat} {v : Value} {W : World} (h : Oz k n v W) {r : Nat} (hr : v.ownBlock = some r) : ∃ c, W.heap[r]? = some (.cells c 3 (0, 0)) := by
  rcases h with ⟨rfl, _⟩ | ⟨g, cap, rfl, c, h1, h2⟩
  · cases hr
  · cases hr; exact ⟨c, h1⟩
/-- the operations are marked -/
theorem Ow2.step {B k n : Nat} {W W' : World} {s : RdS} {d o b : Value} {ps : List Pv} (h : Ow2 B W s o b ps) (hz : Oz k n d W) (g : Bt (fun r => o.ownBlock = some r ∨ ∃ x ∈ ps, x.2.ownBlock = some r) W W') : Oz k n d W' ∧ W'.ownsRow B 3 1 b s.bad.length (iv s.bad) := by
  refine ⟨hz.bt g (fun r hr hs => ?_), own_keep h.bdo (fun r c hr hc => g.block r (lt_blk hc) (fun hs => ?_))⟩
  · obtain ⟨c, hc⟩ := hz.typ hr
    rcases hs with e | ⟨x, hx, e⟩
    · obtain ⟨c', hc'⟩ := own_obj h.op e
      rw [hc] at hc'; simp at hc'
    · obtain ⟨c', hc'⟩ := own_obj (h.dd x hx) e
      rw [hc] at hc'; simp at hc'
  · rcases hs with e | ⟨x, hx, e⟩
    · exact own_ap h.op h.bdo (by decide) e hr
    · exact own_ap (h.dd x hx) h.bdo (by decide) e hr
/-- the numbers of the unclear lines are marked -/
theorem Av.step {B k0 : Nat} {l : List Pv} {v b : Value} {W W' : World} {n : Nat} {xs : List Value} (h : Av k0 l v W) (hv : ∀ g, v.ownBlock = some g → g < W.heap.size ∧ b.ownBlock ≠ some g) (hb : W.ownsRow B 3 1 b n xs) (g : W.grownBy W' b.ownBlock) : Av k0 l v W' := by
  rcases h with h | ⟨gg, cap, e, h1⟩
  · exact .inl h
  · have h2 := hv gg (by rw [e]; rfl)
    refine .inr ⟨gg, cap, e, h1.keep (g.block gg h2.1 (fun e2 => h2.2 e2.symm)) (fun x hx r hr hl => g.block r hl (fun e2 => ?_))⟩
    obtain ⟨i, hi⟩ := List.getElem?_of_mem hx
    obtain ⟨c, hc⟩ := (h1.don i x hi).2.typ hr
    obtain ⟨c', hc'⟩ := own_obj hb e2.symm
    rw [hc] at hc'; simp at hc'
theorem bl_up {a b : Nat} {x W W' : World} (h : Below a x W) (k : Below b W W') (hab : a ≤ b) : Below a x W' :=
  ⟨k.os.trans h.os, k.tape.trans h.tape, k.output.trans h.output, Nat.le_trans h.size k.size, fun g hg => (k.block g (by omega)).trans (h.block g hg)⟩
theorem gr_below {N : Nat} {W W' : World} {r : Option Nat} (g : W.grownBy W' r) (hr : ∀ k, r = some k → N ≤ k) (hN : N ≤ W.heap.size) : Below N W W' := ⟨g.os, g.tape, g.output, g.size, fun k hk => g.block k (by omega) (fun e => by have := hr k e.symm; omega)⟩
theorem bt_below {N : Nat} {W W' : World} {S : Nat → Prop} (g : Bt S W W') (hr : ∀ k, S k → N ≤ k) (hN : N ≤ W.heap.size) : Below N W W' := ⟨g.os, g.tape, g.output, g.size, fun k hk => g.block k (by omega) (fun e => by have := hr k e; omega)⟩
end Go.Proofs.YtcefihmnnndleaaDoor
