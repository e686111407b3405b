import Derived.Below
import Derived.BigGuardIn
import Derived.BigQuiet
import Derived.BigRegionIn
import Derived.Conc.MuLone
import Derived.Deep.AppendLies
import Derived.Deep.CutBlock
import Derived.Deep.DeepCutAuto
import Derived.Deep.LoopGhost
import Derived.Deep.OwnRows
import Derived.Deep.QuietTactic
import Derived.Deep.RegionWith
import Derived.KernelRfl
import Derived.Laws.Bits64b
import Derived.Laws.CopyOwn
import Derived.Laws.Rows
import Derived.Laws.Tables
import Derived.Lib.SmallJoins
import Derived.LoopIn
import Derived.LoopNIn
import Derived.Maps.AppendAt
import Derived.Maps.OwnOps
import Derived.Maps.OwnSet
import Derived.OpenShut
import Derived.OrdersHeld
import Derived.OwnWalkIn
import Derived.ProofKit
import Derived.RangeFuncBound
import Derived.RangeFuncCalls
import Derived.RangeFuncLeaves
import Derived.RangeFuncNested
import Derived.Shelf.Abstract
import Derived.Shelf.Bits.Mul64
import Derived.Shelf.RegionOpen
import Derived.TacticsInMore
import Derived.Test.YtacccpkmgkojiaaGreatDoorRRProg
import Derived.WalkKit
import Derived.WalkLawsBesides
import Derived.Test.YtacccpkmgkojiaaGreatDoorRRM00
import Derived.Test.YtacccpkmgkojiaaGreatDoorRRM01
import Derived.Test.YtacccpkmgkojiaaGreatDoorRRM02
import Derived.Test.YtacccpkmgkojiaaGreatDoorRRM06
import Derived.Test.YtacccpkmgkojiaaGreatDoorRRM08
import Derived.Test.YtacccpkmgkojiaaGreatDoorRRM09
import Derived.Test.YtacccpkmgkojiaaGreatDoorRRM10
namespace Go.Proofs.YtacccpkmgkojiaaGreatDoorRR
set_option linter.unusedVariables false
set_option linter.unusedSimpArgs false
set_option maxRecDepth 20000
set_option maxHeartbeats 8000000
open Go.RowKit
structure Oin where
 o:Op6
 d:Option Addr
 dc:Nat
def opC6 (q:Oin):List Value:=[Vi q.o.kd,Vi q.o.ref,Vu (q.o.p:Nat),Vu (q.o.a:Nat),Vu (q.o.b:Nat),.slice q.d q.o.ys.length q.dc]
structure Ois (w:World) (A:Option Addr) (ops:List Oin):Prop where
 at_:∀ k q,ops[k]?=some q→∃ G,A=some ⟨G,0,none⟩∧G < w.heap.size∧∀ j u,(opC6 q)[j]?=some u→w.cell? ⟨G,k*6+j,none⟩=some u
 wf:∀ q∈ops,q.o.p < 18446744073709551616∧q.o.a < 18446744073709551616∧q.o.b < 18446744073709551616
 dat:∀ q∈ops,∀ i,i < q.o.ys.length→∃ x,q.d=some x∧w.cell? (x.add i)=some (.int .u8 (q.o.ys[i]?.getD 0))∧(x.add i).block < w.heap.size
theorem old_cell {w W:World} (b:Below w.heap.size w W) {x:Addr} {u:Value} (h:w.cell? x=some u):W.cell? x=some u:=below_cell b h
end Go.Proofs.YtacccpkmgkojiaaGreatDoorRR
namespace Go.Proofs.YtacccpkmgkojiaaGreatDoorRR
set_option linter.unusedVariables false
set_option linter.unusedSimpArgs false
set_option maxRecDepth 20000
set_option maxHeartbeats 8000000
open Go.RowKit Go.Shelf Go.Maps
structure Od6 (B : Nat) (q : Oin) (W : World) : Prop where
  p : q.o.p < 18446744073709551616
  a : q.o.a < 18446744073709551616
  b : q.o.b < 18446744073709551616
  d : W.ownsRow B 5 1 (.slice q.d q.o.ys.length q.dc) q.o.ys.length (Ns .u8 q.o.ys)
structure Ob6 (w0 : World) (a : Option Addr) (len cap R : Nat) (b0 : World) (X Y : Nat) (q : Oin) (W : World) : Prop where
  rd : Rd w0 a len cap R b0 W
  rn : R < b0.heap.size
  x : W.heap[X]? = some (.cells (opC6 q).toArray 42 (0, 0))
  xn : b0.heap.size ≤ X
  y : W.heap[Y]? = some (.cells #[.int .i64 0, .int .i64 0, .int .u64 0, .int .u64 0, .int .u64 0, .slice none 0 0] 42 (0, 0))
  yn : b0.heap.size ≤ Y
  xy : X ≠ Y
  od : Od6 b0.heap.size q W
theorem own_neT {W : World} {b : Nat} {e t : TypeId} {sz : Nat} {v : Value} {n : Nat} {xs : List Value} (h : W.ownsRow b e sz v n xs) {X : Nat} {cs : Array Value} {f : Nat × Nat} (hx : W.heap[X]? = some (.cells cs t f)) (hne : e ≠ t) : v.ownBlock ≠ some X := fun e' => by
  rcases h.2 with ⟨h1, _⟩ | ⟨g, cap, cur, h1, h2, h3, _⟩
  · rw [h1] at e'; cases e'
  · rw [h1] at e'
    have : g = X := by simpa [Value.ownBlock] using e'
    subst this
    rw [hx] at h3
    simp at h3
    exact hne h3.2.1.symm
theorem Od6.kept {B : Nat} {q : Oin} {W W' : World} (h : Od6 B q W) {r : Nat} (g : W.grownBy W' (some r)) (hr : (Value.slice q.d q.o.ys.length q.dc).ownBlock ≠ some r) : Od6 B q W' := ⟨h.p, h.a, h.b, h.d.kept g (.inr hr)⟩
theorem Ob6.upd {w0 : World} {a : Option Addr} {len cap R : Nat} {b0 W : World} {X Y : Nat} {q : Oin} (h : Ob6 w0 a len cap R b0 X Y q W) (i : Nat) (v : Value) (q' : Oin) (ho : opC6 q' = (opC6 q).set i v) (hd : Od6 b0.heap.size q' W) : Ob6 w0 a len cap R b0 X Y q' (W.setCell ⟨X, i, none⟩ v) := by
  have hR := h.rn
  have hg : W.grownBy (W.setCell ⟨X, i, none⟩ v) (some X) := grown_set (grown_refl W X) i v
  have hx := h.xn
  refine ⟨h.rd.app hg (fun r e => by cases e; omega), hR, ?_, h.xn, ?_, h.yn, h.xy, hd.kept hg (own_neT hd.d h.x (by decide))⟩
  · rw [ho]
    simp [World.setCell, Array.getElem?_modify, h.x]
  · rw [hg.block Y (lt_blk h.y) (fun e => by cases e; exact h.xy rfl)]
    exact h.y
theorem Ob6.next {w0 : World} {a : Option Addr} {len cap R : Nat} {b0 W W' : World} {X Y : Nat} {q : Oin} (h : Ob6 w0 a len cap R b0 X Y q W) (rd : Rd w0 a len cap R W W') : Ob6 w0 a len cap R b0 X Y q W' := by
  have hR := h.rn
  have hx := h.xn
  have hy := h.yn
  refine ⟨h.rd.of rd, hR, ?_, h.xn, ?_, h.yn, h.xy, h.od.kept rd.g (fun e => by have := (h.od.d.lt R e).1; omega)⟩
  · rw [rd.g.block X (lt_blk h.x) (fun e => by cases e; omega)]; exact h.x
  · rw [rd.g.block Y (lt_blk h.y) (fun e => by cases e; omega)]; exact h.y
theorem Ob6.below {w0 : World} {a : Option Addr} {len cap R : Nat} {b0 W W' : World} {X Y : Nat} {q : Oin} (h : Ob6 w0 a len cap R b0 X Y q W) (hb : Below W.heap.size W W') : Ob6 w0 a len cap R b0 X Y q W' := h.next (h.rd.at.below hb)
theorem Ob6.drew {w0 : World} {a : Option Addr} {len cap R : Nat} {b0 W : World} {X Y : Nat} {q : Oin} (h : Ob6 w0 a len cap R b0 X Y q W) : Ob6 w0 a len cap R b0 X Y q W.drew := h.below (Below.refl _ _).drew
theorem Ob6.cells {w0 : World} {a : Option Addr} {len cap R : Nat} {b0 W : World} {X Y : Nat} {q : Oin} (h : Ob6 w0 a len cap R b0 X Y q W) : W.cell? ⟨X, 0, none⟩ = some (.int .i64 q.o.kd) ∧ W.cell? ⟨X, 1, none⟩ = some (.int .i64 q.o.ref) ∧ W.cell? ⟨X, 2, none⟩ = some (.int .u64 (q.o.p : Nat)) ∧ W.cell? ⟨X, 3, none⟩ = some (.int .u64 (q.o.a : Nat)) ∧ W.cell? ⟨X, 4, none⟩ = some (.int .u64 (q.o.b : Nat)) ∧ W.cell? ⟨X, 5, none⟩ = some (.slice q.d q.o.ys.length q.dc) := by
  have := h.x
  simp [World.cell?, this, opC6]
theorem Ob6.fr {w0 : World} {a : Option Addr} {len cap R : Nat} {b0 W : World} {X Y : Nat} {q : Oin} (h : Ob6 w0 a len cap R b0 X Y q W) (i : Nat) : W.frozen? ⟨X, i, none⟩ = false := by simp [World.frozen?, h.x]
theorem Ob6.setKd {w0 : World} {a : Option Addr} {len cap R : Nat} {b0 W : World} {X Y : Nat} {q : Oin} (h : Ob6 w0 a len cap R b0 X Y q W) (x : Int) : Ob6 w0 a len cap R b0 X Y { q with o := { q.o with kd := x } } (W.setCell ⟨X, 0, none⟩ (.int .i64 x)) := h.upd 0 _ _ rfl ⟨h.od.p, h.od.a, h.od.b, h.od.d⟩
theorem Ob6.setRef {w0 : World} {a : Option Addr} {len cap R : Nat} {b0 W : World} {X Y : Nat} {q : Oin} (h : Ob6 w0 a len cap R b0 X Y q W) (x : Int) : Ob6 w0 a len cap R b0 X Y { q with o := { q.o with ref := x } } (W.setCell ⟨X, 1, none⟩ (.int .i64 x)) := h.upd 1 _ _ rfl ⟨h.od.p, h.od.a, h.od.b, h.od.d⟩
theorem Ob6.setP {w0 : World} {a : Option Addr} {len cap R : Nat} {b0 W : World} {X Y : Nat} {q : Oin} (h : Ob6 w0 a len cap R b0 X Y q W) (x : Int) (h0 : 0 ≤ x) (h1 : x ≤ 18446744073709551615) : Ob6 w0 a len cap R b0 X Y { q with o := { q.o with p := x.toNat } } (W.setCell ⟨X, 2, none⟩ (.int .u64 x)) := by
  obtain ⟨n, rfl⟩ := Int.eq_ofNat_of_zero_le h0
  exact h.upd 2 _ _ rfl ⟨by show n < _; omega, h.od.a, h.od.b, h.od.d⟩
theorem Ob6.setA {w0 : World} {a : Option Addr} {len cap R : Nat} {b0 W : World} {X Y : Nat} {q : Oin} (h : Ob6 w0 a len cap R b0 X Y q W) (x : Int) (h0 : 0 ≤ x) (h1 : x ≤ 18446744073709551615) : Ob6 w0 a len cap R b0 X Y { q with o := { q.o with a := x.toNat } } (W.setCell ⟨X, 3, none⟩ (.int .u64 x)) := by
  obtain ⟨n, rfl⟩ := Int.eq_ofNat_of_zero_le h0
  exact h.upd 3 _ _ rfl ⟨h.od.p, by show n < _; omega, h.od.b, h.od.d⟩
theorem Ob6.setB {w0 : World} {a : Option Addr} {len cap R : Nat} {b0 W : World} {X Y : Nat} {q : Oin} (h : Ob6 w0 a len cap R b0 X Y q W) (x : Int) (h0 : 0 ≤ x) (h1 : x ≤ 18446744073709551615) : Ob6 w0 a len cap R b0 X Y { q with o := { q.o with b := x.toNat } } (W.setCell ⟨X, 4, none⟩ (.int .u64 x)) := by
  obtain ⟨n, rfl⟩ := Int.eq_ofNat_of_zero_le h0
  exact h.upd 4 _ _ rfl ⟨h.od.p, h.od.a, by show n < _; omega, h.od.d⟩
theorem Ob6.setD {w0 : World} {a : Option Addr} {len cap R : Nat} {b0 W : World} {X Y : Nat} {q : Oin} (h : Ob6 w0 a len cap R b0 X Y q W) (d : Option Addr) (dc : Nat) (ys : List Int) (hd : W.ownsRow b0.heap.size 5 1 (.slice d ys.length dc) ys.length (Ns .u8 ys)) : Ob6 w0 a len cap R b0 X Y ⟨{ q.o with ys := ys }, d, dc⟩ (W.setCell ⟨X, 5, none⟩ (.slice d ys.length dc)) := h.upd 5 _ _ rfl ⟨h.od.p, h.od.a, h.od.b, hd⟩
theorem Ob6.row {w0 : World} {a : Option Addr} {len cap R : Nat} {b0 W : World} {X Y : Nat} {q : Oin} (h : Ob6 w0 a len cap R b0 X Y q W) (kd x y : Int) (h0 : 0 ≤ x) (h1 : x ≤ 18446744073709551615) (h2 : 0 ≤ y) (h3 : y ≤ 18446744073709551615) : Ob6 w0 a len cap R b0 X Y ⟨⟨kd, 0, 0, x.toNat, y.toNat, []⟩, none, 0⟩ (W.setRow X #[.int .i64 kd, .int .i64 0, .int .u64 0, .int .u64 x, .int .u64 y, .slice none 0 0]) := by
  obtain ⟨n, rfl⟩ := Int.eq_ofNat_of_zero_le h0
  obtain ⟨m, rfl⟩ := Int.eq_ofNat_of_zero_le h2
  have hR := h.rn
  have hx := h.xn
  have hg : W.grownBy (W.setRow X #[.int .i64 kd, .int .i64 0, .int .u64 0, .int .u64 (n : Int), .int .u64 (m : Int), .slice none 0 0]) (some X) := grown_setRow W X _
  refine ⟨h.rd.app hg (fun r e => by cases e; omega), hR, ?_, h.xn, ?_, h.yn, h.xy, ⟨by show 0 < _; omega, by show n < _; omega, by show m < _; omega, ⟨rfl, .inl ⟨rfl, rfl⟩⟩⟩⟩
  · exact setRow_at h.x _
  · rw [hg.block Y (lt_blk h.y) (fun e => by cases e; exact h.xy rfl)]
    exact h.y
end Go.Proofs.YtacccpkmgkojiaaGreatDoorRR
namespace Go.Proofs.YtacccpkmgkojiaaGreatDoorRR
set_option linter.unusedVariables false
set_option linter.unusedSimpArgs false
set_option maxRecDepth 20000
set_option maxHeartbeats 8000000
open Go.RowKit Go.Shelf Go.Maps
def blkOf (n : Nat) : Code → Option Code
  | .block k c => if k = n then some (.block k c) else blkOf n c
  | .seq a b => match blkOf n a with
    | some c => some c
    | none => blkOf n b
  | .scope c => blkOf n c
  | .loop c => blkOf n c
  | .cond _ a b => match blkOf n a with
    | some c => some c
    | none => blkOf n b
  | _ => none
theorem own_lenD {W : World} {b : Nat} {e : TypeId} {sz : Nat} {d : Option Addr} {l c : Nat} {n : Nat} {xs : List Value} (h : W.ownsRow b e sz (.slice d l c) n xs) : l = n := by
  rcases h.2 with ⟨h2, h3⟩ | ⟨g, cap, cur, h1, _⟩
  · simp at h2; omega
  · simp at h1; omega
theorem own_downD {W : World} {b b' : Nat} {e : TypeId} {sz : Nat} {v : Value} {n : Nat} {xs : List Value} (hb : b' ≤ b) (h : W.ownsRow b e sz v n xs) : W.ownsRow b' e sz v n xs := by
  refine ⟨h.1, ?_⟩
  rcases h.2 with h2 | ⟨g, cap, cur, h1, h2, h3⟩
  · exact .inl h2
  · exact .inr ⟨g, cap, cur, h1, Nat.le_trans hb h2, h3⟩
def B0 (w0 : World) (a : Option Addr) (len cap R : Nat) (gv : Nat) (tt : Bool) (W : World) (X Y k : Nat) (Pm : Int → Prop) : Prop := ∀ (m : Int) (K : Act → World → Prop) (Q : Exit → Act → World → Prop) (q : Oin) (w : World) (u9 u10 u11 u12 u13 u14 u15 u16 u17 u18 u19 u20 u21 u22 u23 u24 u25 u26 u27 u28 u29 u32 u33 u34 u35 u36 u37 u38 u39 u40 u41 u42 u43 u44 u45 u46 u47 u48 u49 u50 u51 u52 u53 u54 u55 u56 u57 u58 u59 u60 u61 u62 u63 u64 u65 u66 u67 u68 u69 u70 u71 u72 u73 u74 u75 u76 u77 u78 u79 u80 u81 u82 u83 u84 u85 u86 u87 u88 u89 u90 u91 u92 u93 u94 u95 u96 u97 u98 u99 u100 u101 u102 u103 u104 u105 u106 u107 u108 u109 u110 u111 u112 u113 u114 u115 u116 u117 u118 u119 u120 u121 u122 u123 u124 u125 u126 u127 u128 u129 u130 u131 u132 u133 u134 u135 u136 u137 u138 u139 u140 u141 u142 u143 u144 u145 u146 u147 u148 : Value), Pm m → Hid (Ob6 w0 a len cap R W X Y q w) →
  (∀ (v9 v10 v11 v12 v13 v14 v15 v16 v17 v18 v19 v20 v21 v22 v23 v24 v25 v26 v27 v28 v29 v32 v33 v34 v35 v36 v37 v38 v39 v40 v41 v42 v43 v44 v45 v46 v47 v48 v49 v50 v51 v52 v53 v54 v55 v56 v57 v58 v59 v60 v61 v62 v63 v64 v65 v66 v67 v68 v69 v70 v71 v72 v73 v74 v75 v76 v77 v78 v79 v80 v81 v82 v83 v84 v85 v86 v87 v88 v89 v90 v91 v92 v93 v94 v95 v96 v97 v98 v99 v100 v101 v102 v103 v104 v105 v106 v107 v108 v109 v110 v111 v112 v113 v114 v115 v116 v117 v118 v119 v120 v121 v122 v123 v124 v125 v126 v127 v128 v129 v130 v131 v132 v133 v134 v135 v136 v137 v138 v139 v140 v141 v142 v143 v144 v145 v146 v147 v148 : Value) (q' : Oin) (w' : World), Hid (Ob6 w0 a len cap R W X Y q' w') → K ⟨#[.pointer (some ⟨R, 0, none⟩), .int .i64 (gv : Nat), .bool tt, undef, undef, undef, .pointer (some ⟨Y, 0, none⟩), .int .i64 (k : Nat), .pointer (some ⟨X, 0, none⟩), v9, v10, v11, v12, v13, v14, v15, v16, v17, v18, v19, v20, v21, v22, v23, v24, v25, v26, v27, v28, v29, .int .i64 (k : Nat), .int .i64 m, v32, v33, v34, v35, v36, v37, v38, v39, v40, v41, v42, v43, v44, v45, v46, v47, v48, v49, v50, v51, v52, v53, v54, v55, v56, v57, v58, v59, v60, v61, v62, v63, v64, v65, v66, v67, v68, v69, v70, v71, v72, v73, v74, v75, v76, v77, v78, v79, v80, v81, v82, v83, v84, v85, v86, v87, v88, v89, v90, v91, v92, v93, v94, v95, v96, v97, v98, v99, v100, v101, v102, v103, v104, v105, v106, v107, v108, v109, v110, v111, v112, v113, v114, v115, v116, v117, v118, v119, v120, v121, v122, v123, v124, v125, v126, v127, v128, v129, v130, v131, v132, v133, v134, v135, v136, v137, v138, v139, v140, v141, v142, v143, v144, v145, v146, v147, v148], []⟩ w') → Code.wp Tryz.prog ((Tryz.f34.body.bind (blkOf 0)).getD .skip) (Exit.then K Q) ⟨#[.pointer (some ⟨R, 0, none⟩), .int .i64 (gv : Nat), .bool tt, undef, undef, undef, .pointer (some ⟨Y, 0, none⟩), .int .i64 (k : Nat), .pointer (some ⟨X, 0, none⟩), u9, u10, u11, u12, u13, u14, u15, u16, u17, u18, u19, u20, u21, u22, u23, u24, u25, u26, u27, u28, u29, .int .i64 (k : Nat), .int .i64 m, u32, u33, u34, u35, u36, u37, u38, u39, u40, u41, u42, u43, u44, u45, u46, u47, u48, u49, u50, u51, u52, u53, u54, u55, u56, u57, u58, u59, u60, u61, u62, u63, u64, u65, u66, u67, u68, u69, u70, u71, u72, u73, u74, u75, u76, u77, u78, u79, u80, u81, u82, u83, u84, u85, u86, u87, u88, u89, u90, u91, u92, u93, u94, u95, u96, u97, u98, u99, u100, u101, u102, u103, u104, u105, u106, u107, u108, u109, u110, u111, u112, u113, u114, u115, u116, u117, u118, u119, u120, u121, u122, u123, u124, u125, u126, u127, u128, u129, u130, u131, u132, u133, u134, u135, u136, u137, u138, u139, u140, u141, u142, u143, u144, u145, u146, u147, u148], []⟩ w
end Go.Proofs.YtacccpkmgkojiaaGreatDoorRR
namespace Go.Proofs.YtacccpkmgkojiaaGreatDoorRR
set_option linter.unusedVariables false
set_option linter.unusedSimpArgs false
set_option maxRecDepth 20000
set_option maxHeartbeats 8000000
open Go.RowKit Go.Shelf Go.Maps
structure Cd where
  mi : Int
  fi : Int
  la : Int
  bu : Int
  ky : Int
  ds : List Int
  da : Option Addr
  dc : Nat
def cdC (c : Cd) : List Value := [.int .i64 c.mi, .int .i64 c.fi, .int .i64 c.la, .int .i64 c.bu, .int .u64 c.ky, .slice c.da c.ds.length c.dc]
structure Ok4 (B : Nat) (c : Cd) (W : World) : Prop where
  k0 : 0 ≤ c.ky
  k1 : c.ky ≤ 18446744073709551615
  dw : ∀ x ∈ c.ds, -40 ≤ x ∧ x ≤ 215
  d : W.ownsRow B 3 1 (.slice c.da c.ds.length c.dc) c.ds.length (Ns .i64 c.ds)
structure Ch (w0 : World) (a : Option Addr) (len cap R : Nat) (b0 : World) (X Y : Nat) (c : Cd) (W : World) : Prop where
  rd : Rd w0 a len cap R b0 W
  rn : R < b0.heap.size
  x : W.heap[X]? = some (.cells (cdC c).toArray 26 (0, 0))
  xn : b0.heap.size ≤ X
  y : W.heap[Y]? = some (.cells #[.int .i64 0, .int .i64 0, .int .i64 0, .int .i64 0, .int .u64 0, .slice none 0 0] 26 (0, 0))
  yn : b0.heap.size ≤ Y
  xy : X ≠ Y
  od : Ok4 b0.heap.size c W
theorem Ok4.kept {B : Nat} {c : Cd} {W W' : World} (h : Ok4 B c W) {r : Nat} (g : W.grownBy W' (some r)) (hr : (Value.slice c.da c.ds.length c.dc).ownBlock ≠ some r) : Ok4 B c W' := ⟨h.k0, h.k1, h.dw, h.d.kept g (.inr hr)⟩
theorem Ch.upd {w0 : World} {a : Option Addr} {len cap R : Nat} {b0 W : World} {X Y : Nat} {c : Cd} (h : Ch w0 a len cap R b0 X Y c W) (i : Nat) (v : Value) (c' : Cd) (ho : cdC c' = (cdC c).set i v) (hd : Ok4 b0.heap.size c' W) : Ch w0 a len cap R b0 X Y c' (W.setCell ⟨X, i, none⟩ v) := by
  have hR := h.rn
  have hg : W.grownBy (W.setCell ⟨X, i, none⟩ v) (some X) := grown_set (grown_refl W X) i v
  have hx := h.xn
  refine ⟨h.rd.app hg (fun r e => by cases e; omega), hR, ?_, h.xn, ?_, h.yn, h.xy, hd.kept hg (own_neT hd.d h.x (by decide))⟩
  · rw [ho]
    simp [World.setCell, Array.getElem?_modify, h.x]
  · rw [hg.block Y (lt_blk h.y) (fun e => by cases e; exact h.xy rfl)]
    exact h.y
theorem Ch.next {w0 : World} {a : Option Addr} {len cap R : Nat} {b0 W : World} {X Y : Nat} {c : Cd} (h : Ch w0 a len cap R b0 X Y c W) {W' : World} (rd : Rd w0 a len cap R W W') : Ch w0 a len cap R b0 X Y c W' := by
  have hR := h.rn
  have hx := h.xn
  have hy := h.yn
  refine ⟨h.rd.of rd, hR, ?_, h.xn, ?_, h.yn, h.xy, h.od.kept rd.g (fun e => by have := (h.od.d.lt R e).1; omega)⟩
  · rw [rd.g.block X (lt_blk h.x) (fun e => by cases e; omega)]; exact h.x
  · rw [rd.g.block Y (lt_blk h.y) (fun e => by cases e; omega)]; exact h.y
theorem Ch.below {w0 : World} {a : Option Addr} {len cap R : Nat} {b0 W : World} {X Y : Nat} {c : Cd} (h : Ch w0 a len cap R b0 X Y c W) {W' : World} (hb : Below W.heap.size W W') : Ch w0 a len cap R b0 X Y c W' := h.next (h.rd.at.below hb)
theorem Ch.drew {w0 : World} {a : Option Addr} {len cap R : Nat} {b0 W : World} {X Y : Nat} {c : Cd} (h : Ch w0 a len cap R b0 X Y c W) : Ch w0 a len cap R b0 X Y c W.drew := h.below (Below.refl _ _).drew
theorem Ch.cells {w0 : World} {a : Option Addr} {len cap R : Nat} {b0 W : World} {X Y : Nat} {c : Cd} (h : Ch w0 a len cap R b0 X Y c W) : W.cell? ⟨X, 0, none⟩ = some (.int .i64 c.mi) ∧ W.cell? ⟨X, 1, none⟩ = some (.int .i64 c.fi) ∧ W.cell? ⟨X, 2, none⟩ = some (.int .i64 c.la) ∧ W.cell? ⟨X, 3, none⟩ = some (.int .i64 c.bu) ∧ W.cell? ⟨X, 4, none⟩ = some (.int .u64 c.ky) ∧ W.cell? ⟨X, 5, none⟩ = some (.slice c.da c.ds.length c.dc) := by
  have := h.x
  simp [World.cell?, this, cdC]
theorem Ch.fr {w0 : World} {a : Option Addr} {len cap R : Nat} {b0 W : World} {X Y : Nat} {c : Cd} (h : Ch w0 a len cap R b0 X Y c W) (i : Nat) : W.frozen? ⟨X, i, none⟩ = false := by simp [World.frozen?, h.x]
theorem Ch.setMi {w0 : World} {a : Option Addr} {len cap R : Nat} {b0 W : World} {X Y : Nat} {c : Cd} (h : Ch w0 a len cap R b0 X Y c W) (x : Int) : Ch w0 a len cap R b0 X Y { c with mi := x } (W.setCell ⟨X, 0, none⟩ (.int .i64 x)) := h.upd 0 _ _ rfl ⟨h.od.k0, h.od.k1, h.od.dw, h.od.d⟩
theorem Ch.setFi {w0 : World} {a : Option Addr} {len cap R : Nat} {b0 W : World} {X Y : Nat} {c : Cd} (h : Ch w0 a len cap R b0 X Y c W) (x : Int) : Ch w0 a len cap R b0 X Y { c with fi := x } (W.setCell ⟨X, 1, none⟩ (.int .i64 x)) := h.upd 1 _ _ rfl ⟨h.od.k0, h.od.k1, h.od.dw, h.od.d⟩
theorem Ch.setLa {w0 : World} {a : Option Addr} {len cap R : Nat} {b0 W : World} {X Y : Nat} {c : Cd} (h : Ch w0 a len cap R b0 X Y c W) (x : Int) : Ch w0 a len cap R b0 X Y { c with la := x } (W.setCell ⟨X, 2, none⟩ (.int .i64 x)) := h.upd 2 _ _ rfl ⟨h.od.k0, h.od.k1, h.od.dw, h.od.d⟩
theorem Ch.setBu {w0 : World} {a : Option Addr} {len cap R : Nat} {b0 W : World} {X Y : Nat} {c : Cd} (h : Ch w0 a len cap R b0 X Y c W) (x : Int) : Ch w0 a len cap R b0 X Y { c with bu := x } (W.setCell ⟨X, 3, none⟩ (.int .i64 x)) := h.upd 3 _ _ rfl ⟨h.od.k0, h.od.k1, h.od.dw, h.od.d⟩
theorem wrap64D (x : Int) (h1 : -9223372036854775808 ≤ x) (h2 : x ≤ 9223372036854775807) : IntKind.i64.wrap x = x := by
  show (if (true && decide ((9223372036854775808 : Int) ≤ x % 18446744073709551616)) = true then x % 18446744073709551616 - 18446744073709551616 else x % 18446744073709551616) = x
  by_cases h : (9223372036854775808 : Int) ≤ x % 18446744073709551616
  · rw [if_pos (by simp [h])]; omega
  · rw [if_neg (by simp [h])]; omega
theorem wp_region_drewD {P : Program} {ops : Array Oper} {Q : Exit → Act → World → Prop} {id : Nat} {a : Act} {w : World} (hm : P.follows .mixedOrders = true)
    (h : wpAny P .any ops Q ops.size (Array.replicate ops.size false) a w.drew) : (Code.region id ops true).wp P Q a w := wp_region_any hm h
theorem info3D : (Tryz.prog.info? 3).map (fun i => (i.zero, i.size, i.bytes)) = some (some (.int .i64 0), 1, 8) := by kernel_rfl
theorem wpo_appD (t : TypeId) {o : Oper} {a : Act} {W W' : World} {K : Act → World → Prop} {Q : Exit → Act → World → Prop} (s x : Operand) {v v2 v' : Value} (hop : o.op = .call { callee := .builtin .append, args := #[s, x], argTypes := #[t, t] }) (ht : o.type = t) (hs : a.eval s = v) (hx : a.eval x = v2)
    (hr : (Builtin.append_ #[t, t] t #[v, v2]).run Tryz.prog W = .ok v' W') (hK : K (a.put o.dst v') W') : Oper.wp Tryz.prog o a W K Q := by
  unfold Oper.wp
  simp [execOp, hop, ht, resolve, invoke, builtin, hs, hx, hr, Result.andThen]
  exact hK
theorem own_lenE {W : World} {b : Nat} {e : TypeId} {sz : Nat} {d : Option Addr} {l c : Nat} {n : Nat} {xs : List Value} (h : W.ownsRow b e sz (.slice d l c) n xs) : l = n := by
  rcases h.2 with ⟨h2, h3⟩ | ⟨g, cap, cur, h1, _⟩
  · simp at h2; omega
  · simp at h1; omega
theorem Ch.app {w0 : World} {a : Option Addr} {len cap R : Nat} {b0 W : World} {X Y : Nat} {c : Cd} (h : Ch w0 a len cap R b0 X Y c W) (hl : c.ds.length ≤ 1000) (d : Int) (hd : -40 ≤ d ∧ d ≤ 215) : ∃ da' dc' w',
    (Builtin.append_ #[24, 24] 24 #[.slice c.da c.ds.length c.dc, .slice (some ⟨W.heap.size, 0, none⟩) 1 1]).run Tryz.prog (W.alloc (.cells #[.int .i64 d] 3)) = .ok (.slice da' (c.ds.length + 1) dc') w' ∧
    w'.frozen? ⟨X, 5, none⟩ = false ∧ w'.cell? ⟨X, 5, none⟩ = some (.slice c.da c.ds.length c.dc) ∧ Ch w0 a len cap R b0 X Y { c with ds := c.ds ++ [d], da := da', dc := dc' } (w'.setCell ⟨X, 5, none⟩ (.slice da' (c.ds.length + 1) dc')) := by
  obtain ⟨i0, hi0, hz0, hz1, hz2⟩ := info_parts info3D
  have bA := (Below.refl W.heap.size W).alloc (Nat.le_refl _) (.cells #[.int .i64 d] 3)
  have h1 := h.below bA
  have hs := h1.rd.g.size
  obtain ⟨v', w', e1, e2, e3, _⟩ := run_append_own_at (P := Tryz.prog) (w := W.alloc (.cells #[.int .i64 d] 3)) b0.heap.size 24 24 3 i0 _ 1 8 Tryz.underlying24 hi0 hz0 hz1 hz2 rfl (by omega) _ _ _ h1.od.d ⟨W.heap.size, 0, none⟩ 1 1 [.int .i64 d] rfl (one_new _ _ _ _ rfl) (by intro u hu; simp at hu; subst hu; rfl) (by unfold maxLen; omega) (by omega) hs
  obtain ⟨da', l', dc', rfl⟩ := own_slD e2
  obtain rfl := own_lenE e2
  have hR := h.rn
  have hx := h.xn
  have hb : ∀ r, (Value.slice c.da c.ds.length c.dc).ownBlock = some r → b0.heap.size ≤ r ∧ R < r := fun r e => by have := (h.od.d.lt r e).1; omega
  have hX : (Value.slice c.da c.ds.length c.dc).ownBlock ≠ some X := own_neT h.od.d h.x (by decide)
  have hY : (Value.slice c.da c.ds.length c.dc).ownBlock ≠ some Y := own_neT h.od.d h.y (by decide)
  have x9 : w'.heap[X]? = some (.cells (cdC c).toArray 26 (0, 0)) := by rw [e3.block X (lt_blk h1.x) (fun e => hX e.symm)]; exact h1.x
  have y9 : w'.heap[Y]? = some (.cells #[.int .i64 0, .int .i64 0, .int .i64 0, .int .i64 0, .int .u64 0, .slice none 0 0] 26 (0, 0)) := by rw [e3.block Y (lt_blk h1.y) (fun e => hY e.symm)]; exact h1.y
  have rd9 := h1.rd.app e3 hb
  have hg : w'.grownBy (w'.setCell ⟨X, 5, none⟩ (.slice da' (c.ds.length + 1) dc')) (some X) := grown_set (grown_refl w' X) 5 _
  have o9 : w'.ownsRow b0.heap.size 3 1 (.slice da' (c.ds.length + 1) dc') (c.ds ++ [d]).length (Ns .i64 (c.ds ++ [d])) := by simpa [Ns] using e2
  refine ⟨da', dc', w', e1, by simp [World.frozen?, x9], by simp [World.cell?, x9, cdC], ⟨rd9.app hg (fun r e => by cases e; omega), hR, ?_, h.xn, ?_, h.yn, h.xy, ⟨h.od.k0, h.od.k1, ?_, ?_⟩⟩⟩
  · simp [World.setCell, Array.getElem?_modify, x9, cdC]
  · rw [hg.block Y (lt_blk y9) (fun e => by cases e; exact h.xy rfl)]; exact y9
  · intro x hx'
    rcases List.mem_append.1 hx' with hx' | hx'
    · exact h.od.dw x hx'
    · obtain rfl := List.mem_singleton.1 hx'; exact hd
  · have : (Value.slice da' (c.ds ++ [d]).length dc') = .slice da' (c.ds.length + 1) dc' := by simp
    show World.ownsRow _ _ _ _ (Value.slice da' (c.ds ++ [d]).length dc') _ _
    rw [this]
    exact o9.kept hg (.inr (own_neT o9 x9 (by decide)))
end Go.Proofs.YtacccpkmgkojiaaGreatDoorRR
namespace Go.Proofs.YtacccpkmgkojiaaGreatDoorRR
set_option linter.unusedVariables false
set_option linter.unusedSimpArgs false
set_option maxRecDepth 20000
set_option maxHeartbeats 8000000
open Go.RowKit Go.Shelf Go.Maps
theorem heap_any (w0 : World) (a : Option Addr) (len cap : Nat) (zs : List Int) (h0 : IsRow .u8 w0 a len cap zs) (hlen : len ≤ 1048576) (R : Nat) (W : World) (hR : Rd w0 a len cap R W W) :
    Calls Tryz.prog 32 #[.pointer (some ⟨R, 0, none⟩)] W fun e W' => ∃ c : Cd, e = .returned (.agg (cdC c).toArray) ∧ c.ds.length ≤ 60 ∧ Ok4 W.heap.size c W' ∧ Rd w0 a len cap R W W' := by
  have N := hid (fun V (hV : Rd w0 a len cap R V V) => next_any w0 a len cap zs h0 hlen R V V hV)
  have WD := hid (fun V (hV : Rd w0 a len cap R V V) => wide_any w0 a len cap zs h0 hlen R V V hV)
  have AP := hid sp_ArenaPages
  have RN := hid hR.lt
  have R1 := hid (hR.below ((Below.refl _ _).alloc (Nat.le_refl _) (.cells #[.int .i64 0, .int .i64 0, .int .i64 0, .int .i64 0, .int .u64 0, .slice none 0 0] 26)))
  have Y1 := hid (al_last W (.cells #[.int .i64 0, .int .i64 0, .int .i64 0, .int .i64 0, .int .u64 0, .slice none 0 0] 26))
  clear h0 hR
  go_enter Tryz.func32, Tryz.ntmps32
  go_wp2_with fail
  generalize W.alloc (.cells #[.int .i64 0, .int .i64 0, .int .i64 0, .int .i64 0, .int .u64 0, .slice none 0 0] 26) = V1 at R1 Y1 ⊢
  refine (N.out _ R1.out.at).mono ?_
  rintro e V2 ⟨⟨k, hk, rfl⟩, r2⟩
  have R2 := hid (R1.out.of r2)
  have Y2 := hid ((r2.g.block _ (lt_blk Y1.out) (fun e => by cases e; have := RN.out; omega)).trans Y1.out)
  clear r2 R1 Y1
  go_wp2_with fail
  refine (N.out _ R2.out.at).mono ?_
  rintro e V3 ⟨⟨b9, hb9, rfl⟩, r2⟩
  have R3 := hid (R2.out.of r2)
  have Y3 := hid ((r2.g.block _ (lt_blk Y2.out) (fun e => by cases e; have := RN.out; omega)).trans Y2.out)
  clear r2 R2 Y2
  go_wp2_with fail
  refine (WD.out _ R3.out.at).mono ?_
  rintro e V4 ⟨⟨ky, hk0, hk1, rfl⟩, r2⟩
  have R4 := hid (R3.out.of r2)
  have Y4 := hid ((r2.g.block _ (lt_blk Y3.out) (fun e => by cases e; have := RN.out; omega)).trans Y3.out)
  clear r2 R3 Y3
  have O0 := hid (show Ch w0 a len cap R W V4.heap.size W.heap.size ⟨(k : Int) % 4, (k : Int) / 4 % 5 + 1, (k : Int) / 20 % 3 + 1, (b9 : Nat), ky, [], none, 0⟩ (V4.alloc (.cells #[.int .i64 ((k : Int) % 4), .int .i64 ((k : Int) / 4 % 5 + 1), .int .i64 ((k : Int) / 20 % 3 + 1), .int .i64 (b9 : Nat), .int .u64 ky, .slice none 0 0] 26)) from by
    have b := (Below.refl V4.heap.size V4).alloc (Nat.le_refl _) (.cells #[.int .i64 ((k : Int) % 4), .int .i64 ((k : Int) / 4 % 5 + 1), .int .i64 ((k : Int) / 20 % 3 + 1), .int .i64 (b9 : Nat), .int .u64 ky, .slice none 0 0] 26)
    have hl := lt_blk Y4.out
    exact ⟨R4.out.below b, RN.out, al_last V4 _, R4.out.g.size, by rw [b.block _ hl]; exact Y4.out, Nat.le_refl _, by omega, ⟨hk0, hk1, fun x hx => (by cases hx), ⟨rfl, .inl ⟨rfl, rfl⟩⟩⟩⟩)
  clear R4 Y4
  go_upto_block 0 with fail
  generalize V4.alloc (.cells #[.int .i64 ((k : Int) % 4), .int .i64 ((k : Int) / 4 % 5 + 1), .int .i64 ((k : Int) / 20 % 3 + 1), .int .i64 (b9 : Nat), .int .u64 ky, .slice none 0 0] 26) = V5 at O0 ⊢
  generalize V4.heap.size = X at O0 ⊢
  generalize hYY : W.heap.size = Y at O0 ⊢
  obtain ⟨c0, hc0, O1⟩ : ∃ c : Cd, c.ds = [] ∧ Hid (Ch w0 a len cap R W X Y c V5) := ⟨_, rfl, O0⟩
  clear O0
  go_cut [25] (fun _ w' => ∃ c, c.ds = [] ∧ Hid (Ch w0 a len cap R W X Y c w'))
  case first =>
    cases g0 : ((k : Int) == 255)
    case true =>
      go_wp2_with fail
      refine (N.out _ O1.out.rd.at).mono ?_
      rintro e V9 ⟨⟨c9, hc9, rfl⟩, r⟩
      have O9 := hid (O1.out.next r)
      clear r O1
      obtain ⟨z0, z1, z2, z3, z4, z5⟩ := O9.out.cells
      have zf := O9.out.fr 0
      go_wp2
      go_meet
      case rel => (refine ⟨_, ?_, hid (O9.out.setMi _)⟩; exact hc0)
    cases g1 : ((k : Int) == 254)
    case true =>
      go_wp2_with fail
      refine (N.out _ O1.out.rd.at).mono ?_
      rintro e V9 ⟨⟨c9, hc9, rfl⟩, r⟩
      have O9 := hid (O1.out.next r)
      clear r O1
      obtain ⟨z0, z1, z2, z3, z4, z5⟩ := O9.out.cells
      have zf := O9.out.fr 1
      go_wp2
      go_meet
      case rel => (refine ⟨_, ?_, hid (O9.out.setFi _)⟩; exact hc0)
    cases g2 : ((k : Int) == 253)
    case true =>
      go_wp2_with fail
      refine (N.out _ O1.out.rd.at).mono ?_
      rintro e V9 ⟨⟨c9, hc9, rfl⟩, r⟩
      have O9 := hid (O1.out.next r)
      clear r O1
      obtain ⟨z0, z1, z2, z3, z4, z5⟩ := O9.out.cells
      have zf := O9.out.fr 2
      go_wp2
      go_meet
      case rel => (refine ⟨_, ?_, hid (O9.out.setLa _)⟩; exact hc0)
    cases g3 : ((k : Int) == 252)
    case true =>
      go_wp2_with fail
      refine (AP.out _).mono ?_
      rintro e V8 ⟨rfl, b⟩
      have O8 := hid (O1.out.below b)
      clear b O1
      go_wp2_with fail
      refine (N.out _ O8.out.rd.at).mono ?_
      rintro e V9 ⟨⟨c9, hc9, rfl⟩, r⟩
      have O9 := hid (O8.out.next r)
      clear r O8
      obtain ⟨z0, z1, z2, z3, z4, z5⟩ := O9.out.cells
      have zf := O9.out.fr 3
      go_wp2
      go_meet
      case rel => (refine ⟨_, ?_, hid (O9.out.setBu _)⟩; exact hc0)
    go_wp2
    go_meet
    case rel => exact ⟨c0, hc0, O1⟩
  case rest =>
    clear O1 hc0 c0
    obtain ⟨c0, hc0, O1⟩ := hcut
    go_upto_if 56 with fail
    go_cut [56] (fun _ w' => ∃ c, c.ds = [] ∧ Hid (Ch w0 a len cap R W X Y c w'))
    case first =>
      cases g9 : ((k : Int) % 3 == 0)
      case true =>
        obtain ⟨z0, z1, z2, z3, z4, z5⟩ := O1.out.cells
        have zf := O1.out.fr 3
        go_wp2
        go_meet
        case rel => (refine ⟨_, ?_, hid (O1.out.setBu _)⟩; exact hc0)
      go_wp2
      go_meet
      case rel => exact ⟨c0, hc0, O1⟩
    case rest =>
      clear O1 hc0 c0
      obtain ⟨c0, hc0, O1⟩ := hcut
      go_wp2_with fail
      refine (N.out _ O1.out.rd.at).mono ?_
      rintro e V6 ⟨⟨c6, hc6, rfl⟩, r⟩
      have O6 := hid (O1.out.next r)
      clear r O1
      obtain ⟨n, hn, en⟩ : ∃ n : Nat, n < 60 ∧ (c6 : Int) % 60 = (n : Int) := ⟨c6 % 60, by omega, by omega⟩
      go_wp2
      rw [en]
      clear en
      go_loopw [6] (fun i wr => ∃ (j : Nat) (c : Cd), j ≤ n ∧ i = .int .i64 j ∧ c.ds.length = j ∧ Hid (Ch w0 a len cap R W X Y c wr)) (fun i _ => n - (intOf i).toNat)
      case atStart => exact ⟨0, c0, Nat.zero_le _, rfl, by rw [hc0]; rfl, O6⟩
      case round =>
        obtain ⟨j, c, hj, rfl, hcl, HC⟩ := hrel
        clear O6
        by_cases hlt : j < n
        · go_wp2
          have HL := hid hcl
          clear hcl
          obtain ⟨z0, z1, z2, z3, z4, z5⟩ := HC.out.drew.cells
          have M := hid HC.out.drew
          refine wp_region_drewD (by kernel_rfl) ?_
          generalize wr.drew = V0 at M z0 z1 z2 z3 z4 z5 ⊢
          simp only [List.size_toArray, List.length_cons, List.length_nil, Nat.reduceAdd, Array.replicate_succ, Array.replicate_zero, List.push_toArray, List.nil_append, List.cons_append]
          refine wpAny_put (i := 0) (d := 70) (v := .pointer (some ⟨X, 5, none⟩)) rfl (by kernel_rfl) (by kernel_rfl) (by kernel_rfl) (by kernel_rfl) (fun _ _ _ h => h) (Or.inl ⟨by kernel_rfl, fun _ => by kernel_rfl⟩) ?_
          simp only [List.setIfInBounds_toArray, List.set_cons_zero, List.set_cons_succ]
          refine wpAny_put (i := 2) (d := 72) (v := .pointer (some ⟨R, 0, none⟩)) rfl (by kernel_rfl) (by kernel_rfl) (by kernel_rfl) (by kernel_rfl) (fun _ _ _ h => h) (Or.inl ⟨by kernel_rfl, fun _ => by kernel_rfl⟩) ?_
          simp only [List.setIfInBounds_toArray, List.set_cons_zero, List.set_cons_succ]
          refine wpAny_ready (rs := [1, 3]) (by kernel_rfl) (by simp) ?_
          refine AllReady.cons rfl (fun K hK => ?_) (AllReady.cons rfl (fun K hK => ?_) AllReady.nil)
          · go_simp
            refine hK _ _ ?_
            clear hK K
            simp only [List.setIfInBounds_toArray, List.set_cons_zero, List.set_cons_succ]
            refine wpAny_one (r := 3) (by kernel_rfl) ?_
            refine wpOp_do rfl (by kernel_rfl) (fun K hK => ?_)
            go_simp
            refine (N.out _ M.out.rd.at).mono ?_
            rintro e V6 ⟨⟨cq, hcq, rfl⟩, r⟩
            have Oq := hid (M.out.next r)
            obtain ⟨y0, y1, y2, y3, y4, y5⟩ := Oq.out.cells
            obtain ⟨da', dc', w', happ, f5, x5, ch⟩ := Oq.out.app (by have := HL.out; omega) ((cq : Int) - 40) (by omega)
            have HA := hid ch
            clear r ch M z0 z1 z2 z3 z4 z5
            refine hK.out _ _ ?_
            clear hK K
            simp only [List.setIfInBounds_toArray, List.set_cons_zero, List.set_cons_succ]
            refine wpAny_put (i := 4) (d := 74) (v := .int .i64 ((cq : Int) - 40)) rfl (by kernel_rfl) (by kernel_rfl) (by kernel_rfl) (by kernel_rfl) (fun _ _ _ h => h) (Or.inl ⟨by kernel_rfl, fun _ => by first | (go_simp; done) | (go_simp; exact wrap64D _ (by omega) (by omega))⟩) ?_
            simp only [List.setIfInBounds_toArray, List.set_cons_zero, List.set_cons_succ]
            refine wpAny_one (r := 5) (by kernel_rfl) ?_
            refine wpOp_do rfl (by kernel_rfl) (fun K hK => ?_)
            go_simp
            refine hK.out _ _ ?_
            clear hK K
            simp only [List.setIfInBounds_toArray, List.set_cons_zero, List.set_cons_succ]
            refine wpAny_one (r := 6) (by kernel_rfl) ?_
            refine wpOp_do rfl (by kernel_rfl) (fun K hK => ?_)
            refine wpo_appD 24 (.tmp 71) (.tmp 75) (by kernel_rfl) (by kernel_rfl) (by kernel_rfl) (by kernel_rfl) happ ?_
            refine hK.out _ _ ?_
            clear hK K
            simp only [List.setIfInBounds_toArray, List.set_cons_zero, List.set_cons_succ]
            refine wpAny_put (i := 7) (d := 77) (v := .pointer (some ⟨X, 5, none⟩)) rfl (by kernel_rfl) (by kernel_rfl) (by kernel_rfl) (by kernel_rfl) (fun _ _ _ h => h) (Or.inl ⟨by kernel_rfl, fun _ => by kernel_rfl⟩) ?_
            simp only [List.setIfInBounds_toArray, List.set_cons_zero, List.set_cons_succ]
            refine wpAny_one (r := 8) (by kernel_rfl) ?_
            refine wpOp_do rfl (by kernel_rfl) (fun K hK => ?_)
            go_simp
            refine hK.out _ _ ?_
            clear hK K
            simp only [List.setIfInBounds_toArray, List.set_cons_zero, List.set_cons_succ]
            refine wpAny_done (by kernel_rfl) ?_ _
            go_wp2
            go_roundw
            case rel => exact ⟨j + 1, { c with ds := c.ds ++ [(cq : Int) - 40], da := da', dc := dc' }, by omega, by go_num, by simp [HL.out], HA⟩
            case measure => simp [intOf]; omega
          · skip
            go_simp
            refine (N.out _ M.out.rd.at).mono ?_
            rintro e V6 ⟨⟨cq, hcq, rfl⟩, r⟩
            have Oq := hid (M.out.next r)
            obtain ⟨y0, y1, y2, y3, y4, y5⟩ := Oq.out.cells
            obtain ⟨da', dc', w', happ, f5, x5, ch⟩ := Oq.out.app (by have := HL.out; omega) ((cq : Int) - 40) (by omega)
            have HA := hid ch
            clear r ch M z0 z1 z2 z3 z4 z5
            refine hK _ _ ?_
            clear hK K
            simp only [List.setIfInBounds_toArray, List.set_cons_zero, List.set_cons_succ]
            refine wpAny_put (i := 4) (d := 74) (v := .int .i64 ((cq : Int) - 40)) rfl (by kernel_rfl) (by kernel_rfl) (by kernel_rfl) (by kernel_rfl) (fun _ _ _ h => h) (Or.inl ⟨by kernel_rfl, fun _ => by first | (go_simp; done) | (go_simp; exact wrap64D _ (by omega) (by omega))⟩) ?_
            simp only [List.setIfInBounds_toArray, List.set_cons_zero, List.set_cons_succ]
            refine wpAny_ready (rs := [1, 5]) (by kernel_rfl) (by simp) ?_
            refine AllReady.cons rfl (fun K hK => ?_) (AllReady.cons rfl (fun K hK => ?_) AllReady.nil)
            · go_simp
              refine hK _ _ ?_
              clear hK K
              simp only [List.setIfInBounds_toArray, List.set_cons_zero, List.set_cons_succ]
              refine wpAny_one (r := 5) (by kernel_rfl) ?_
              refine wpOp_do rfl (by kernel_rfl) (fun K hK => ?_)
              go_simp
              refine hK.out _ _ ?_
              clear hK K
              simp only [List.setIfInBounds_toArray, List.set_cons_zero, List.set_cons_succ]
              refine wpAny_one (r := 6) (by kernel_rfl) ?_
              refine wpOp_do rfl (by kernel_rfl) (fun K hK => ?_)
              refine wpo_appD 24 (.tmp 71) (.tmp 75) (by kernel_rfl) (by kernel_rfl) (by kernel_rfl) (by kernel_rfl) happ ?_
              refine hK.out _ _ ?_
              clear hK K
              simp only [List.setIfInBounds_toArray, List.set_cons_zero, List.set_cons_succ]
              refine wpAny_put (i := 7) (d := 77) (v := .pointer (some ⟨X, 5, none⟩)) rfl (by kernel_rfl) (by kernel_rfl) (by kernel_rfl) (by kernel_rfl) (fun _ _ _ h => h) (Or.inl ⟨by kernel_rfl, fun _ => by kernel_rfl⟩) ?_
              simp only [List.setIfInBounds_toArray, List.set_cons_zero, List.set_cons_succ]
              refine wpAny_one (r := 8) (by kernel_rfl) ?_
              refine wpOp_do rfl (by kernel_rfl) (fun K hK => ?_)
              go_simp
              refine hK.out _ _ ?_
              clear hK K
              simp only [List.setIfInBounds_toArray, List.set_cons_zero, List.set_cons_succ]
              refine wpAny_done (by kernel_rfl) ?_ _
              go_wp2
              go_roundw
              case rel => exact ⟨j + 1, { c with ds := c.ds ++ [(cq : Int) - 40], da := da', dc := dc' }, by omega, by go_num, by simp [HL.out], HA⟩
              case measure => simp [intOf]; omega
            · go_simp
              have y5b := below_cell ((Below.refl V6.heap.size V6).alloc (Nat.le_refl _) (.cells #[.int .i64 ((cq : Int) - 40)] 3)) y5
              refine hK _ _ ?_
              clear hK K
              simp only [List.setIfInBounds_toArray, List.set_cons_zero, List.set_cons_succ]
              refine wpAny_one (r := 1) (by kernel_rfl) ?_
              refine wpOp_do rfl (by kernel_rfl) (fun K hK => ?_)
              go_simp
              refine hK.out _ _ ?_
              clear hK K
              simp only [List.setIfInBounds_toArray, List.set_cons_zero, List.set_cons_succ]
              refine wpAny_one (r := 6) (by kernel_rfl) ?_
              refine wpOp_do rfl (by kernel_rfl) (fun K hK => ?_)
              refine wpo_appD 24 (.tmp 71) (.tmp 75) (by kernel_rfl) (by kernel_rfl) (by kernel_rfl) (by kernel_rfl) happ ?_
              refine hK.out _ _ ?_
              clear hK K
              simp only [List.setIfInBounds_toArray, List.set_cons_zero, List.set_cons_succ]
              refine wpAny_put (i := 7) (d := 77) (v := .pointer (some ⟨X, 5, none⟩)) rfl (by kernel_rfl) (by kernel_rfl) (by kernel_rfl) (by kernel_rfl) (fun _ _ _ h => h) (Or.inl ⟨by kernel_rfl, fun _ => by kernel_rfl⟩) ?_
              simp only [List.setIfInBounds_toArray, List.set_cons_zero, List.set_cons_succ]
              refine wpAny_one (r := 8) (by kernel_rfl) ?_
              refine wpOp_do rfl (by kernel_rfl) (fun K hK => ?_)
              go_simp
              refine hK.out _ _ ?_
              clear hK K
              simp only [List.setIfInBounds_toArray, List.set_cons_zero, List.set_cons_succ]
              refine wpAny_done (by kernel_rfl) ?_ _
              go_wp2
              go_roundw
              case rel => exact ⟨j + 1, { c with ds := c.ds ++ [(cq : Int) - 40], da := da', dc := dc' }, by omega, by go_num, by simp [HL.out], HA⟩
              case measure => simp [intOf]; omega
        · have : j = n := by omega
          subst this
          have HL := hid hcl
          clear hcl
          go_wp2_with (first | (refine wpList_load_row rfl 26 _ rfl _ rfl _ _ _ _ HC.out.x Tryz.underlying26 rfl (by kernel_rfl) ?_) | (refine wpList_store_row rfl 26 _ _ rfl _ _ rfl rfl 26 _ HC.out.y (by kernel_rfl) rfl (by simp [cdC, Value.oneCell']) ?_))
          refine bodyPost_ret (results_cell_row (by rfl) _ _ Y 26 _ (0, 0) _ (by rfl) (setRow_at HC.out.y _) Tryz.underlying26 rfl (by kernel_rfl)) (by rfl) ?_
          have g := grown_setRow wr Y (cdC c).toArray
          have hy := HC.out.yn
          have hr := HC.out.rn
          have od := HC.out.od.kept g (own_neT HC.out.od.d HC.out.y (by decide))
          exact ⟨c, rfl, by have := HL.out; omega, od, HC.out.rd.app g (fun r e => by cases e; omega)⟩
end Go.Proofs.YtacccpkmgkojiaaGreatDoorRR
namespace Go.Proofs.YtacccpkmgkojiaaGreatDoorRR
set_option linter.unusedVariables false
set_option linter.unusedSimpArgs false
set_option maxRecDepth 20000
set_option maxHeartbeats 8000000
open Go.RowKit Go.Shelf Go.Maps
def flatO6 (ops : List Oin) : List Value := ops.flatMap opC6
structure D6 (w : World) (a : Option Addr) (len cap R C Y : Nat) (c : Cd) (v : Value) (ops : List Oin) (W : World) : Prop where
  rd : Rd w a len cap R w W
  c1 : R < C
  y1 : w.heap.size ≤ Y
  yr : Y < R
  cb : W.heap[C]? = some (.cells (cdC c).toArray 26 (0, 0))
  yb : W.heap[Y]? = some (.cells #[.int .i64 0, .int .i64 0, .int .i64 0, .int .i64 0, .int .u64 0, .slice none 0 0] 26 (0, 0))
  ok : Ok4 (R + 1) c W
  row : W.ownsRow (R + 1) 42 6 v ops.length (flatO6 ops)
  dat : ∀ q ∈ ops, Od6 (R + 1) q W
theorem D6.next {w : World} {a : Option Addr} {len cap R C Y : Nat} {c : Cd} {v : Value} {ops : List Oin} {W : World} (h : D6 w a len cap R C Y c v ops W) {W' : World} (rd : Rd w a len cap R W W') : D6 w a len cap R C Y c v ops W' := by
  have h1 := h.c1
  have h2 := h.yr
  refine ⟨h.rd.of rd, h1, h.y1, h2, ?_, ?_, h.ok.kept rd.g (fun e => by have := (h.ok.d.lt R e).1; omega), h.row.kept rd.g (.inr fun e => by have := (h.row.lt R e).1; omega), fun q hq => (h.dat q hq).kept rd.g (fun e => by have := ((h.dat q hq).d.lt R e).1; omega)⟩
  · rw [rd.g.block C (lt_blk h.cb) (fun e => by cases e; omega)]; exact h.cb
  · rw [rd.g.block Y (lt_blk h.yb) (fun e => by cases e; omega)]; exact h.yb
theorem D6.below {w : World} {a : Option Addr} {len cap R C Y : Nat} {c : Cd} {v : Value} {ops : List Oin} {W : World} (h : D6 w a len cap R C Y c v ops W) {W' : World} (hb : Below W.heap.size W W') : D6 w a len cap R C Y c v ops W' := h.next (h.rd.at.below hb)
theorem own_ap6 {W : World} {b1 b2 : Nat} {e1 e2 : TypeId} {s1 s2 : Nat} {v1 v2 : Value} {n1 n2 : Nat} {x1 x2 : List Value} (h1 : W.ownsRow b1 e1 s1 v1 n1 x1) (h2 : W.ownsRow b2 e2 s2 v2 n2 x2) (hne : e1 ≠ e2) : v1.ownBlock = none ∨ v1.ownBlock ≠ v2.ownBlock := by
  by_cases e : v1.ownBlock = none
  · exact .inl e
  · refine .inr fun e' => ?_
    obtain ⟨g, hg⟩ := Option.ne_none_iff_exists'.1 e
    obtain ⟨c, hc⟩ : ∃ c, W.heap[g]? = some (.cells c e1 (0, 0)) := by
      rcases h1.2 with ⟨h3, _⟩ | ⟨g', cap, cur, h3, _, h4, _⟩
      · rw [h3] at hg; cases hg
      · rw [h3] at hg
        have : g' = g := by simpa [Value.ownBlock] using hg
        subst this
        exact ⟨_, h4⟩
    exact own_neT h2 hc (Ne.symm hne) (e'.symm.trans hg)
theorem infoOp6 : (Tryz.prog.info? 42).map (fun i => (i.zero, i.size, i.bytes)) = some (some (.agg #[.int .i64 0, .int .i64 0, .int .u64 0, .int .u64 0, .int .u64 0, .slice none 0 0]), 6, 64) := by kernel_rfl
theorem wpList_appT (t : TypeId) {ops : Array Oper} {rest : List Oper} {o : Oper} {a : Act} {w : World} {Q : Exit → Act → World → Prop} (hgd : o.guard = none) (s x : Operand)
    (ho : o.op = .call { callee := .builtin .append, args := #[s, x], argTypes := #[t, t] }) (ht : o.type = t) {v v2 v' : Value} {w' : World} (hs : a.eval s = v) (hx : a.eval x = v2)
    (hr : (Builtin.append_ #[t, t] t #[v, v2]).run Tryz.prog w = .ok v' w') (h : wpList Tryz.prog ops Q rest (a.put o.dst v') w') : wpList Tryz.prog ops Q (o :: rest) a w := by
  refine wpList_plain hgd fun K hK => ?_
  unfold Oper.wp
  simp [execOp, ho, ht, resolve, invoke, builtin, hs, hx, hr, Result.andThen]
  exact hK _ _ h
theorem results_cell_tmp {fn : Func} {p q : Tmp} {ty : TypeId} (h : fn.results = #[.cell p ty, .tmp q]) (tmps : Array Value) (w : World) (g : Nat) (cs : Array Value)
    (hp : tmps.getD p undef = .pointer (some ⟨g, 0, none⟩)) (hl : (loadVar ty ⟨g, 0, none⟩).run Tryz.prog w = .ok (.agg cs) w) :
    (results fn tmps).run Tryz.prog w = .ok (.tuple #[.agg cs, tmps.getD q undef]) w := by
  have hp' : tmps[p]?.getD undef = .pointer (some ⟨g, 0, none⟩) := by simpa using hp
  simp [results, h, hp', asAddr, hl, Result.andThen]
theorem flatO6_snoc (ops : List Oin) (q : Oin) : flatO6 (ops ++ [q]) = flatO6 ops ++ opC6 q := by simp [flatO6]
theorem row_new6 (W : World) (xs : List Value) (t : TypeId) : ∀ j u, xs[j]? = some u → (W.alloc (.cells xs.toArray t)).cell? ((⟨W.heap.size, 0, none⟩ : Addr).add j) = some u := by
  intro j u h
  have hadd : (⟨W.heap.size, 0, none⟩ : Addr).add j = ⟨W.heap.size, j, none⟩ := by unfold Addr.add; split <;> simp_all
  rw [hadd, cell_of_row _ _ j _ _ _ (al_last W (.cells xs.toArray t)), ← h]
  simp
theorem D6.app {w : World} {a : Option Addr} {len cap R C Y : Nat} {c : Cd} {v : Value} {ops : List Oin} {W : World} (h : D6 w a len cap R C Y c v ops W) (hl : ops.length ≤ 1000) (q : Oin) (od : Od6 (R + 1) q W) : ∃ v' w',
    (Builtin.append_ #[27, 27] 27 #[v, .slice (some ⟨W.heap.size, 0, none⟩) 1 1]).run Tryz.prog (W.alloc (.cells (opC6 q).toArray 42)) = .ok v' w' ∧ D6 w a len cap R C Y c v' (ops ++ [q]) w' := by
  obtain ⟨i0, hi0, hz0, hz1, hz2⟩ := info_parts infoOp6
  have bA := (Below.refl W.heap.size W).alloc (Nat.le_refl _) (.cells (opC6 q).toArray 42)
  have h1 := h.below bA
  have hR : R + 1 ≤ (W.alloc (.cells (opC6 q).toArray 42)).heap.size := by have := h1.rd.lt; omega
  obtain ⟨v', w', e1, e2, e3, _⟩ := run_append_own_at (P := Tryz.prog) (w := W.alloc (.cells (opC6 q).toArray 42)) (R + 1) 27 27 42 i0 _ 6 64 Tryz.underlying27 hi0 hz0 hz1 hz2 rfl (by omega) _ _ _ h1.row ⟨W.heap.size, 0, none⟩ 1 1 (opC6 q) rfl (row_new6 _ _ _) (by intro u hu; simp [opC6] at hu; rcases hu with rfl | rfl | rfl | rfl | rfl | rfl <;> rfl) (by unfold maxLen; omega) (by omega) hR
  have hc := h.c1
  have hyr := h.yr
  have hb : ∀ r, v.ownBlock = some r → w.heap.size ≤ r ∧ R < r := fun r e => by have := (h.row.lt r e).1; have := h.y1; omega
  have odA : Od6 (R + 1) q (W.alloc (.cells (opC6 q).toArray 42)) := ⟨od.p, od.a, od.b, od.d.alloc _⟩
  refine ⟨v', w', e1, ⟨h1.rd.app e3 hb, h.c1, h.y1, h.yr, ?_, ?_, ⟨h.ok.k0, h.ok.k1, h.ok.dw, h1.ok.d.kept e3 (own_ap6 h1.ok.d h1.row (by decide))⟩, by rw [List.length_append, flatO6_snoc]; exact e2, fun x hx => ?_⟩⟩
  · rw [e3.block C (lt_blk h1.cb) (fun e => own_neT h1.row h1.cb (by decide) e.symm)]; exact h1.cb
  · rw [e3.block Y (lt_blk h1.yb) (fun e => own_neT h1.row h1.yb (by decide) e.symm)]; exact h1.yb
  · have key : ∀ x, Od6 (R + 1) x (W.alloc (.cells (opC6 q).toArray 42)) → Od6 (R + 1) x w' := fun x hx => ⟨hx.p, hx.a, hx.b, hx.d.kept e3 (own_ap6 hx.d h1.row (by decide))⟩
    rcases List.mem_append.1 hx with hx | hx
    · exact key x (h1.dat x hx)
    · obtain rfl := List.mem_singleton.1 hx
      exact key _ odA
end Go.Proofs.YtacccpkmgkojiaaGreatDoorRR
