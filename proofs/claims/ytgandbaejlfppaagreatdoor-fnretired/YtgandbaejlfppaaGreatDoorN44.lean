import Derived.Shelf.SlSortCmp.NoneTotal
import Derived.Test.YtgandbaejlfppaaGreatDoorN38
import Derived.Test.YtgandbaejlfppaaGreatDoorN42
namespace Go.Proofs.YtgandbaejlfppaaGreatDoor
set_option linter.unusedVariables false
set_option linter.unusedSimpArgs false
set_option maxRecDepth 20000
set_option maxHeartbeats 8000000
open Go.RowKit Go.Maps
def wC9 (cf:Cf) (h:Hs) (c:Nat) (p:Nat×Nat):List Value:=[Vl p.1 (h.mx c).length (h.mx c).length,Vl p.2 (h.ff c).length (h.ff c).length,Vi (cf.fifo:Nat)]
def flatW9 (cf:Cf) (h:Hs) (ws:List (Nat×Nat)):List Value:=ws.zipIdx.flatMap fun x=>wC9 cf h x.2 x.1
theorem flatW9_snoc (cf:Cf) (h:Hs) (ws:List (Nat×Nat)) (p:Nat×Nat):flatW9 cf h (ws++[p])=flatW9 cf h ws++wC9 cf h ws.length p:=by
 unfold flatW9;rw [List.zipIdx_append,List.flatMap_append];simp
theorem info104:(Tryz.prog.info? 88).map (fun i=>(i.zero,i.size,i.bytes))=some (some (.agg #[Vn,Vn,Vi 0]),3,56):=by kernel_rfl
theorem app_104 (W:World) (B:Nat) (v:Value) (n:Nat) (xs:List Value) (a b c:Value) (g cp:Nat) (hown:W.ownsRow B 88 3 v n xs) (hg:W.heap[g]?=some (.cells #[a,b,c] 88 (0,0))) (h1:a.oneCell'=true) (h2:b.oneCell'=true) (h3:c.oneCell'=true) (hl:n≤1000) (hB:B≤W.heap.size) :
  ∃ v' w',(Builtin.append_ #[33,33] 33 #[v,Vl g 1 cp]).run Tryz.prog W=.ok v' w'∧w'.ownsRow B 88 3 v' (n+1) (xs++[a,b,c])∧W.grownBy w' v.ownBlock:=by
 obtain⟨i0,hi0,hz0,hz1,hz2⟩:=info_parts info104;have hnw:∀ j u,[a,b,c][j]?=some u→W.cell? ((⟨g,0,none⟩:Addr).add j)=some u:=fun j u hj=>by
  rw [Addr.add_mid,Nat.zero_add,cell_of_row _ _ j _ _ _ hg];simpa using hj
 have ho:∀ u∈[a,b,c],u.oneCell'=true:=fun u hu=>by
  simp only [List.mem_cons,List.not_mem_nil,or_false] at hu
  rcases hu with rfl|rfl|rfl
  ·exact h1
  ·exact h2
  exact h3
 obtain⟨v',w',e1,e2,e3,_⟩:=run_append_own (P:=Tryz.prog) W B 33 33 88 i0 _ 3 56 Tryz.underlying33 hi0 hz0 hz1 hz2 rfl (by omega) v _ _ hown ⟨g,0,none⟩ 1 cp [a,b,c] rfl hnw ho (by unfold maxLen;omega) (by omega) hB;exact⟨v',w',e1,e2,e3⟩
def SortedC:Prop:=∀ (X:Nat) (va:Option Addr) (vn vc:Nat) (l:List Nat) (W:World) (base:Nat),W.heap[X]?=some (.cells #[.slice va vn vc] 35 (0,0))→W.ownsRow base 23 1 (.slice va vn vc) l.length (Us l)→l.length≤1000 →
 Calls Tryz.prog 46 #[.func (.func 86) #[] #[Vp X 0]] W fun e W'=>∃ v l',e=.returned v∧l'.Perm l∧l'.Pairwise (fun a b=>a≤b)∧W'.ownsRow W.heap.size 23 1 v l.length (Us l')∧Below W.heap.size W W'
theorem im_values (va:Option Addr) (vn vc:Nat) (W:World):Calls Tryz.prog 47 #[.slice va vn vc] W fun e W'=>e=.returned (.func (.func 86) #[] #[Vp W.heap.size 0])∧W'=W.alloc (.cells #[.slice va vn vc] 35):=by
 go_enter Tryz.func47,Tryz.ntmps47;go_wp2;go_ret;exact⟨rfl,rfl⟩
structure Wt9 (cf:Cf) (h:Hs) (base:Nat) (vo:Value) (ws:List (Nat×Nat)) (vw:Value) (W:World):Prop where
 row:W.ownsRow base 88 3 vw ws.length (flatW9 cf h ws)
 at_:∀ c p,ws[c]?=some p→RowV W p.1 3 (Ns .i64 (h.mx c))∧RowV W p.2 3 (Ns .i64 (h.ff c))∧base≤p.1∧p.1 < p.2
 ord:ws.Pairwise fun p q=>p.2 < q.1
 vo:∀ g,vo.ownBlock=some g→∀ p∈ws,g < p.1
theorem Wt9.ky {S:TypeId→Prop} {cf:Cf} {h:Hs} {base:Nat} {vo:Value} {ws:List (Nat×Nat)} {vw:Value} {W W':World} (w:Wt9 cf h base vo ws vw W) (k:Ky S W W') (h1:¬S 88) (h2:¬S 3):Wt9 cf h base vo ws vw W' :=
 ⟨own_ky w.row k h1,fun c p hp=>⟨row_ky (w.at_ c p hp).1 k h2,row_ky (w.at_ c p hp).2.1 k h2,(w.at_ c p hp).2.2⟩,w.ord,w.vo⟩
theorem Wt9.below {cf:Cf} {h:Hs} {base:Nat} {vo:Value} {ws:List (Nat×Nat)} {vw:Value} {W W':World} (w:Wt9 cf h base vo ws vw W) (b:Below W.heap.size W W'):Wt9 cf h base vo ws vw W':=w.ky (Ky.below b:Ky (fun _=>False) W W') (fun e=>e) (fun e=>e)
theorem Wt9.add {cf:Cf} {h:Hs} {base:Nat} {vo:Value} {ws:List (Nat×Nat)} {vw:Value} {V U:World} (w:Wt9 cf h base vo ws vw V) (hB:base≤V.heap.size) (hvo:∀ g,vo.ownBlock=some g→g < V.heap.size) (b:Below V.heap.size V U) {g1 g2:Nat} (r1:RowV U g1 3 (Ns .i64 (h.mx ws.length))) (r2:RowV U g2 3 (Ns .i64 (h.ff ws.length))) (hg1:V.heap.size≤g1) (hg2:g1 < g2) (hl:ws.length≤12) :
  ∃ v' U',(Builtin.append_ #[33,33] 33 #[vw,Vl U.heap.size 1 1]).run Tryz.prog (U.alloc (.cells #[Vl g1 (h.mx ws.length).length (h.mx ws.length).length,Vl g2 (h.ff ws.length).length (h.ff ws.length).length,Vi (cf.fifo:Nat)] 88))=.ok v' U'∧Wt9 cf h base vo (ws++[(g1,g2)]) v' U'∧Ky (· = 88) V U'∧Below base V U':=by
 have bA:Below U.heap.size U (U.alloc (.cells #[Vl g1 (h.mx ws.length).length (h.mx ws.length).length,Vl g2 (h.ff ws.length).length (h.ff ws.length).length,Vi (cf.fifo:Nat)] 88)):=(Below.refl _ _).alloc (Nat.le_refl _) _;have wA:=(w.below b).below bA;have hBA:base≤(U.alloc (.cells #[Vl g1 (h.mx ws.length).length (h.mx ws.length).length,Vl g2 (h.ff ws.length).length (h.ff ws.length).length,Vi (cf.fifo:Nat)] 88)).heap.size:=Nat.le_trans (Nat.le_trans hB b.size) bA.size;obtain⟨v',U',e1,e2,e3⟩:=app_104 _ base vw ws.length (flatW9 cf h ws) _ _ _ U.heap.size 1 wA.row (al_last U _) rfl rfl rfl (by omega) hBA;have kU:Ky (· = 88) _ U':=Ky.grownO (fun P hP=>by obtain ⟨_,c,hc⟩:=own_lt wA.row hP;exact⟨c,88,_,hc,rfl⟩) e3;refine⟨v',U',e1,⟨?_,fun c p hp=>?_,?_,fun g hg p hp=>?_⟩,((Ky.below b).trans (Ky.below bA)).trans kU,((b.mono hB).trans (bA.mono (Nat.le_trans hB b.size))).grown e3 hBA (fun P hP=>(own_lt wA.row hP).1)⟩
 ·rw [flatW9_snoc,List.length_append];exact e2
 ·by_cases hc:c < ws.length
  ·rw [List.getElem?_append_left hc] at hp;have:=wA.at_ c p hp;exact⟨row_ky this.1 kU (by decide),row_ky this.2.1 kU (by decide),this.2.2⟩
  have hc2:c=ws.length:=by have:=(List.getElem?_eq_some_iff.1 hp).1;simp at this;omega
  subst hc2;simp at hp;subst hp;exact⟨row_ky (row_ky r1 (Ky.below bA:Ky (fun _=>False) _ _) (fun e=>e)) kU (by decide),row_ky (row_ky r2 (Ky.below bA:Ky (fun _=>False) _ _) (fun e=>e)) kU (by decide),Nat.le_trans hB hg1,hg2⟩
 ·rw [List.pairwise_append];refine⟨w.ord,List.pairwise_singleton _ _,fun p hp q hq=>?_⟩;have:=List.mem_singleton.1 hq;subst this;obtain⟨c,hc⟩:=List.getElem?_of_mem hp;have:=(w.at_ c p hc).2.1.lt;show p.2 < g1;omega
 rcases List.mem_append.1 hp with hp|hp
 ·exact w.vo g hg p hp
 have:=List.mem_singleton.1 hp;subst this;have:=hvo g hg;show g < g1;omega
def Told9 (B:Nat) (y:Ly) (cf:Cf) (h:Hs) (V:World) (m:Array Value) (V':World):Prop:=∃ vo vs vw vr vl ve ws rs es,m=#[Vi (cntM h.m 283),vo,vs,vw,vr,vl,ve,Vi (h.used:Nat)] ∧
 V'.ownsRow V.heap.size 3 1 vo (opensM h.m 283).length (Ns .i64 (opensM h.m 283))∧V'.ownsRow V.heap.size 53 5 vs (I1 h 12).length (flatI h (I1 h 12))∧(ws.length=12∧Wt9 cf h V.heap.size vo ws vw V') ∧
 (rs.Perm h.rg∧rs.Pairwise (fun a b=>a.base≤b.base)∧V'.ownsRow V.heap.size 160 5 vr rs.length (flatT rs))∧V'.ownsRow V.heap.size 23 1 vl h.row.length (Us h.row) ∧
 (es.Perm h.rel∧es.Pairwise (fun a b=>a≤b)∧V'.ownsRow V.heap.size 23 1 ve h.rel.length (Us es))∧∀ g,vl.ownBlock=some g→ve.ownBlock≠some g
end Go.Proofs.YtgandbaejlfppaaGreatDoor
namespace Go.Proofs
open Go.Shelf Go.RowKit Go.Lib Go.Sort
shelf_lay_g SlLaysF0.n6 Slsf 6 at Tryz 80 as Tryz.sortR
end Go.Proofs
namespace Go.Proofs.YtgandbaejlfppaaGreatDoor
open Go.Shelf Go.RowKit Go.Lib Go.Sort
set_option linter.unusedVariables false
set_option linter.unusedSimpArgs false
set_option maxRecDepth 20000

instance : Inhabited Rg9 := ⟨⟨0, 0, 0, 0, 0⟩⟩
def cmpR (x y : Rg9) : Int := Lib.compareInt (x.base : Nat) (y.base : Nat)
theorem ltR (x y : Rg9) : ltOf cmpR x y = decide (x.base < y.base) := by
  unfold ltOf cmpR Lib.compareInt
  by_cases h1 : x.base < y.base
  · simp [h1]
  · by_cases h2 : y.base < x.base <;> simp [h1, h2]
theorem swoR : SWO (ltOf cmpR) where
  irrefl x := by rw [ltR]; simp
  trans x y z h1 h2 := by rw [ltR] at *; simp at *; omega
  ntrans x y z h1 h2 := by rw [ltR] at *; simp at *; omega
set_option maxHeartbeats 1000000 in
set_option maxHeartbeats 1000000 in
theorem im_compare (x y : Nat) (W : World) : Calls Tryz.prog 82 #[.int .u64 (x : Nat), .int .u64 (y : Nat)] W fun e W' => e = .returned (.int .i64 (Lib.compareInt (x : Nat) (y : Nat))) ∧ W' = W := by
  have HN := hid im_isNaN
  unfold Lib.compareInt
  by_cases h1 : (x : Int) < (y : Int)
  · rw [if_pos h1]
    go_enter Tryz.func82, Tryz.ntmps82
    go_wp2_with fail
    refine (HN.out _ _).mono ?_
    rintro e W' ⟨rfl, rfl⟩
    go_wp2_with fail
    refine (HN.out _ _).mono ?_
    rintro e W' ⟨rfl, rfl⟩
    go_wp2
    go_ret
    exact ⟨rfl, rfl⟩
  · rw [if_neg h1]
    have d1 : decide ((x : Int) < (y : Int)) = false := decide_eq_false h1
    by_cases h2 : (y : Int) < (x : Int)
    · rw [if_pos h2]
      go_enter Tryz.func82, Tryz.ntmps82
      go_wp2_with fail
      refine (HN.out _ _).mono ?_
      rintro e W' ⟨rfl, rfl⟩
      go_wp2_with fail
      refine (HN.out _ _).mono ?_
      rintro e W' ⟨rfl, rfl⟩
      go_wp2
      go_ret
      exact ⟨rfl, rfl⟩
    · rw [if_neg h2]
      have d2 : decide ((y : Int) < (x : Int)) = false := decide_eq_false h2
      go_enter Tryz.func82, Tryz.ntmps82
      go_wp2_with fail
      refine (HN.out _ _).mono ?_
      rintro e W' ⟨rfl, rfl⟩
      go_wp2_with fail
      refine (HN.out _ _).mono ?_
      rintro e W' ⟨rfl, rfl⟩
      go_wp2
      go_ret
      exact ⟨rfl, rfl⟩
set_option maxHeartbeats 1000000 in
theorem im_cmpR (x y : Rg9) (W : World) : Calls Tryz.prog 81 #[.agg (tC x).toArray, .agg (tC y).toArray] W fun e w' => e = .returned (.int .i64 (cmpR x y)) ∧ ∃ q os', w' = grow (W.drewN q) os' := by
  have CM := hid (fun V => im_compare x.base y.base V)
  unfold cmpR
  generalize Lib.compareInt (x.base : Nat) (y.base : Nat) = r at *
  unfold tC
  go_enter Tryz.func81, Tryz.ntmps81
  go_wp2_with fail
  refine (CM.out _).mono ?_
  rintro e W' ⟨rfl, rfl⟩
  go_wp2
  go_ret
  exact ⟨rfl, 0, _, by rw [alloc_eq_grow, alloc_eq_grow, grow_grow]; rfl⟩
theorem cmpLaysR (blk off size : Nat) (w : World) : CmpLays Tryz.prog 81 #[] tC 5 cmpR blk off size w :=
  fun _ _ _ _ x y => im_cmpR x y _
theorem holdsR {w : World} {g : Nat} {cur : Array Value} {rs : List Rg9} (hb : w.heap[g]? = some (.cells cur 160 (0, 0))) (ht : cur.toList.take (rs.length * 5) = flatT rs) : HoldsK tC 5 w g 0 rs.toArray := by
  intro j hj
  have hj' : j < rs.length * 5 := by simpa using hj
  refine ⟨?_, by simp [World.frozen?, hb]⟩
  have hq : j / 5 < rs.length := by omega
  have h1 : (flatT rs)[j / 5 * 5 + j % 5]? = (tC rs[j / 5])[j % 5]? := flat_at tC 5 (fun _ => rfl) rs (j / 5) _ (List.getElem?_eq_getElem hq) (j % 5) (by omega)
  rw [show j / 5 * 5 + j % 5 = j by omega, ← ht, List.getElem?_take_of_lt hj', Array.getElem?_toList] at h1
  rw [Nat.zero_add, cell_of_row _ _ _ _ _ _ hb, h1, id, get_flatK _ _ _ _ (by simpa using hj')]
  have h3 : j % 5 < (tC rs[j / 5]).length := by show j % 5 < 5; omega
  rw [List.getElem?_eq_getElem h3]
  congr 1
  rw [getElem!_pos rs.toArray (j / 5) (by simpa using hq)]
  simp [h3]
theorem heap_sortedR {w : World} {g n : Nat} {os : Array Obj} {cur : Array Value} {e : TypeId} {fr : Nat × Nat} (d : Array Rg9) (hb : w.heap[g]? = some (.cells cur e fr)) :
    (sortWorldK tC 5 w g 0 n d os).heap[g]? = some (.cells (putCells id 0 (flatK tC 5 d) cur) e fr) := by
  have hg : g < w.heap.size := (Array.getElem?_eq_some_iff.1 hb).1
  unfold sortWorldK putRowK
  rw [heap_grow_old _ _ (by simpa using hg)]
  simp [putRow, mapBlock, Sort.ahead, Array.getElem?_modify, hb, onCells]
theorem grownBy_sortedR {w : World} {g n : Nat} {os : Array Obj} (d : Array Rg9) : w.grownBy (sortWorldK tC 5 w g 0 n d os) (some g) := by
  unfold sortWorldK putRowK
  refine ⟨rfl, rfl, rfl, by simp, fun k hk hne => ?_⟩
  rw [heap_grow_old _ _ (by simpa using hk)]
  have : g ≠ k := fun e => hne (by rw [e])
  simp [putRow, mapBlock, Sort.ahead, Array.getElem?_modify, this]
theorem flatT_len : ∀ rs : List Rg9, (flatT rs).length = rs.length * 5
  | [] => rfl
  | r :: rs => by
    have := flatT_len rs
    unfold flatT at this ⊢
    rw [List.flatMap_cons, List.length_append, this]
    simp [tC]
    omega
theorem take_putR (cur : Array Value) (rs : List Rg9) (h : rs.length * 5 ≤ cur.size) : (putCells id 0 (flatK tC 5 rs.toArray) cur).toList.take (rs.length * 5) = flatT rs := by
  have hl : (flatT rs).length = rs.length * 5 := flatT_len rs
  apply List.ext_getElem?
  intro j
  by_cases hj : j < rs.length * 5
  · rw [List.getElem?_take_of_lt hj, Array.getElem?_toList]
    have hq : j / 5 < rs.length := by omega
    have h1 : (flatT rs)[j / 5 * 5 + j % 5]? = (tC rs[j / 5])[j % 5]? := flat_at tC 5 (fun _ => rfl) rs (j / 5) _ (List.getElem?_eq_getElem hq) (j % 5) (by omega)
    rw [show j / 5 * 5 + j % 5 = j by omega] at h1
    rw [h1]
    have h3 : j % 5 < (tC rs[j / 5]).length := by show j % 5 < 5; omega
    rw [List.getElem?_eq_getElem h3]
    have h4 := get_flatK tC 5 rs.toArray j (by simpa using hj)
    rw [getElem!_pos rs.toArray (j / 5) (by simpa using hq)] at h4
    simp only [List.getElem_toArray] at h4
    rw [getElem!_pos _ j (by simpa using hj), getElem!_pos _ (j % 5) h3] at h4
    simp [putCells, hj, show j < cur.size by omega]
    exact h4
  · rw [List.getElem?_take_eq_none (by omega), List.getElem?_eq_none (by omega)]
theorem perm_of_in {d d' : Array Rg9} (h : PermIn 0 d.size d d') : d'.toList.Perm d.toList := by
  have h1 := h.2.2
  rw [← h.1] at h1
  simp only [Array.extract_size] at h1
  rw [h.1] at h1
  simpa using h1
end Go.Proofs.YtgandbaejlfppaaGreatDoor
namespace Go.Proofs.YtgandbaejlfppaaGreatDoor
set_option linter.unusedVariables false
set_option linter.unusedSimpArgs false
set_option maxRecDepth 20000
set_option maxHeartbeats 8000000
open Go.RowKit Go.Maps
theorem im_rev (G N c a b:Nat) (d:Array Nat) (V0 V:World) (A:Au G N c V0 d V) (hab:a < b) (hb:b≤N) (hN:N≤100000) :
  Calls Tryz.prog 161 #[Vl G N c,Vi a,Vi b] V fun e V'=>e=.returned (.tuple #[])∧Au G N c V0 (Sort.reverseRange d a b) V':=by
 obtain⟨D0,hD⟩:∃ D0,Sort.reverseRange d a b=D0:=⟨_,rfl⟩;rw [hD];obtain⟨b1,hb1⟩:∃ b1,b - 1=b1:=⟨_,rfl⟩;have hbz:(b:Int) - 1=(b1:Int):=by omega
 have HD:=hid (show Sort.reverseLoop a b1 d=D0 by rw [←hb1];exact hD);have HA:=hid A;clear hD A;go_enter Tryz.func161,Tryz.ntmps161;go_wp2_with fail;go_loopw [6,7] (fun s6 s7 wr=>∃ (i j:Nat) (d:Array Nat),i≤N∧j < N∧s6=Vi i∧s7=Vi j∧Hid (Sort.reverseLoop i j d=D0)∧Hid (Au G N c V0 d wr)) (fun s6 _ _=>N+1 - (intOf s6).toNat)
 case atStart=>exact ⟨a,b1,d,by omega,by omega,rfl,rfl,HD,HA⟩
 case round =>
  clear HD HA;obtain⟨i,j,d,hi,hj,rfl,rfl,HD,HA⟩:=hrel
  by_cases hlt:i < j
  ·have hz:(i:Int) < (j:Int):=by omega
   have hiN:(i:Int) < (N:Int):=by omega
   have hjN:(j:Int) < (N:Int):=by omega
   have HD2:=hid (show Sort.reverseLoop (i+1) (j - 1) (Sort.swp d i j)=D0 by have:=HD.out;rw [Sort.reverseLoop,if_pos hlt] at this;exact this);have xa:=HA.out.cell (show i < N by omega);have xp:=HA.out.cell (show j < N by omega);have f1:=HA.out.fz i;obtain⟨u9,y0⟩:=HA.out.sw1 (show i < N by omega) (show j < N by omega);have f0:=(HA.out.set (show i < N by omega) d[j]!).fz j;have A2:=hid (HA.out.swap (show i < N by omega) (show j < N by omega)).drew;clear HD HA;go_upto_region 3 with fail
   go_region;clear xa xp f1 y0 f0;go_wp2;go_roundw
   case rel=>exact ⟨i+1,j - 1,_,by omega,by omega,by go_num,by congr 1;omega,HD2,A2⟩
   case measure=>(simp [intOf];try omega)
  have hz:¬((i:Int) < (j:Int)):=by omega
  have HE:=hid (show d=D0 by have:=HD.out;rw [Sort.reverseLoop,if_neg hlt] at this;exact this);go_wp2
  go_end0
  exact⟨rfl,by rw [←HE.out];exact HA.out⟩
theorem Au.ky {G N c:Nat} {V0 V V':World} {d:Array Nat} {P:TypeId→Prop} (h:Au G N c V0 d V) (k:Ky P V V') (h2:¬P 23) (b:Below G V V'):Au G N c V0 d V':=⟨h.sz,own_ky h.row k h2,h.bel.trans b⟩
theorem Au.box {G N c S:Nat} {V0 V:World} {d:Array Nat} (h:Au G N c V0 d V) {t:TypeId} {cs:Array Value} (hS:V.heap[S]?=some (.cells cs t (0,0))) (ht:t≠23) (hG:G < S) (v:Value):Au G N c V0 d (V.setCell ⟨S,0,none⟩ v):=by
 have g:=grown_set (grown_refl V S) 0 v;exact h.ky (Ky.grown (S:=(· = t)) hS rfl g) (fun e=>ht e.symm) ((Below.refl _ _).setCell (Nat.le_of_lt hG) _)
theorem box_set {V:World} {S:Nat} {t:TypeId} {v0:Value} (h:V.heap[S]?=some (.cells #[v0] t (0,0))) (v:Value):(V.setCell ⟨S,0,none⟩ v).heap[S]?=some (.cells #[v] t (0,0)):=by
 simp [World.setCell,Array.getElem?_modify,h]
theorem im_order2 (G N c a b S s : Nat) (d : Array Nat) (V0 V : World) (A : Au G N c V0 d V) (ha : a < N) (hb : b < N) (hN : N ≤ 100000) (hG : G < S) (hS : V.heap[S]? = some (.cells #[.int .i64 (s : Nat)] 3 (0, 0))) (hs : s ≤ 100) :
    Calls Tryz.prog 193 #[.slice (some ⟨G, 0, none⟩) N c, .int .i64 a, .int .i64 b, .pointer (some ⟨S, 0, none⟩)] V fun e V' => e = .returned (.tuple #[.int .i64 ((Sort.order2 ltN d a b s).1 : Nat), .int .i64 ((Sort.order2 ltN d a b s).2.1 : Nat)]) ∧ V'.heap[S]? = some (.cells #[.int .i64 ((Sort.order2 ltN d a b s).2.2 : Nat)] 3 (0, 0)) ∧ Au G N c V0 d V' := by
  unfold Sort.order2
  have haN : (a : Int) < (N : Int) := by omega
  have hbN : (b : Int) < (N : Int) := by omega
  have xa := A.cell ha
  have xb := A.cell hb
  by_cases hl : ltN d[b]! d[a]! = true
  · rw [if_pos hl]
    simp only []
    obtain ⟨s1, hs1⟩ : ∃ s1, s + 1 = s1 := ⟨_, rfl⟩
    rw [hs1]
    have HA := hid A
    have HS := hid hS
    clear A hS
    go_enter Tryz.func193, Tryz.ntmps193
    go_upto_region 1 with fail
    go_quiet (first | (go_at_call 163; exact Calls.quiet_of_same (im_lessT hl _)))
    have A1 := hid (HA.out.drewN nq)
    have S1 := hid (show (V.drewN nq).heap[S]? = some (.cells #[.int .i64 (s : Nat)] 3 (0, 0)) from HS.out)
    clear HA HS xa xb
    generalize V.drewN nq = w1 at A1 S1 ⊢
    have c1 : w1.cell? ⟨S, 0, none⟩ = some (.int .i64 (s : Nat)) := by rw [cell_of_row _ _ _ _ _ _ S1.out]; rfl
    have f1 : w1.frozen? ⟨S, 0, none⟩ = false := by simp [World.frozen?, S1.out]
    have A2 := hid (A1.out.box S1.out (by decide) hG (.int .i64 (s1 : Nat)))
    have S2 := hid (box_set S1.out (.int .i64 (s1 : Nat)))
    have hsz : (s : Int) + 1 = (s1 : Int) := by omega
    clear A1 S1
    go_wp2
    refine bodyPost_ret (results_pair rfl _ _) rfl ?_
    exact ⟨rfl, S2.out, A2.out⟩
  · rw [if_neg hl]
    have hl : ltN d[b]! d[a]! = false := by simpa using hl
    have HA := hid A
    have HS := hid hS
    clear A hS
    go_enter Tryz.func193, Tryz.ntmps193
    go_upto_region 1 with fail
    go_quiet (first | (go_at_call 163; exact Calls.quiet_of_same (im_lessF hl _)))
    have A1 := hid (HA.out.drewN nq)
    have S1 := hid (show (V.drewN nq).heap[S]? = some (.cells #[.int .i64 (s : Nat)] 3 (0, 0)) from HS.out)
    clear HA HS xa xb
    generalize V.drewN nq = w1 at A1 S1 ⊢
    go_wp2
    refine bodyPost_ret (results_pair rfl _ _) rfl ?_
    exact ⟨rfl, S1.out, A1.out⟩
end Go.Proofs.YtgandbaejlfppaaGreatDoor
namespace Go.Proofs.YtgandbaejlfppaaGreatDoor
set_option linter.unusedVariables false
set_option linter.unusedSimpArgs false
set_option maxRecDepth 20000
set_option maxHeartbeats 8000000
open Go.RowKit Go.Maps
theorem order2_lt {d:Array Nat} {a b s N:Nat} (ha:a < N) (hb:b < N):(Sort.order2 ltN d a b s).1 < N∧(Sort.order2 ltN d a b s).2.1 < N:=by
 rcases Sort.order2_mem ltN d a b s with ⟨h1,h2⟩|⟨h1,h2⟩ <;> (rw [h1,h2];exact⟨by assumption,by assumption⟩)
theorem im_median (G N cp a b e S s:Nat) (d:Array Nat) (V0 V:World) (A:Au G N cp V0 d V) (ha:a < N) (hb:b < N) (he:e < N) (hN:N≤100000) (hG:G < S) (hS:V.heap[S]?=some (.cells #[Vi (s:Nat)] 3 (0,0))) (hs:s≤90) :
  Calls Tryz.prog 188 #[Vl G N cp,Vi a,Vi b,Vi e,Vp S 0] V fun r V'=>r=.returned (Vi ((Sort.median ltN d a b e s).1:Nat))∧V'.heap[S]?=some (.cells #[Vi ((Sort.median ltN d a b e s).2:Nat)] 3 (0,0))∧Au G N cp V0 d V':=by
 have C1:=hid (im_order2 G N cp a b S s d V0 V A ha hb hN hG hS (by omega));have l1:=order2_lt (d:=d) (s:=s) ha hb;have n1:=Sort.order2_count ltN d a b s;obtain⟨M,hM⟩:∃ M,Sort.median ltN d a b e s=M:=⟨_,rfl⟩;rw [hM];have HM:Hid (((Sort.order2 ltN d (Sort.order2 ltN d a b s).1 (Sort.order2 ltN d (Sort.order2 ltN d a b s).2.1 e (Sort.order2 ltN d a b s).2.2).1 (Sort.order2 ltN d (Sort.order2 ltN d a b s).2.1 e (Sort.order2 ltN d a b s).2.2).2.2).2.1,(Sort.order2 ltN d (Sort.order2 ltN d a b s).1 (Sort.order2 ltN d (Sort.order2 ltN d a b s).2.1 e (Sort.order2 ltN d a b s).2.2).1 (Sort.order2 ltN d (Sort.order2 ltN d a b s).2.1 e (Sort.order2 ltN d a b s).2.2).2.2).2.2)=M):=hM;generalize Sort.order2 ltN d a b s=r1 at C1 l1 n1 HM;obtain⟨x1,y1,s1⟩:=r1;simp only [] at C1 l1 n1 HM;have l2:=order2_lt (d:=d) (s:=s1) l1.2 he;have n2:=Sort.order2_count ltN d y1 e s1;have C2:=hid (fun V9 (A9:Au G N cp V0 d V9) (S9:V9.heap[S]?=some (.cells #[Vi (s1:Nat)] 3 (0,0)))=>im_order2 G N cp y1 e S s1 d V0 V9 A9 l1.2 he hN hG S9 (by omega));generalize Sort.order2 ltN d y1 e s1=r2 at C2 l2 n2 HM;obtain⟨x2,y2,s2⟩:=r2;simp only [] at C2 l2 n2 HM;have l3:=order2_lt (d:=d) (s:=s2) l1.1 l2.1;have C3:=hid (fun V9 (A9:Au G N cp V0 d V9) (S9:V9.heap[S]?=some (.cells #[Vi (s2:Nat)] 3 (0,0)))=>im_order2 G N cp x1 x2 S s2 d V0 V9 A9 l1.1 l2.1 hN hG S9 (by omega));generalize Sort.order2 ltN d x1 x2 s2=r3 at C3 l3 HM;obtain⟨x3,y3,s3⟩:=r3;simp only [] at C3 l3 HM;obtain rfl:=HM.out;clear A hS hM HM;go_enter Tryz.func188,Tryz.ntmps188;go_wp2_with fail;refine (C1.out).mono ?_;rintro r w1 ⟨rfl,S1,A1⟩;have H1:=hid (And.intro A1 S1);clear A1 S1;go_wp2_with fail;refine (C2.out w1 H1.out.1 H1.out.2).mono ?_;rintro r w2 ⟨rfl,S2,A2⟩;have H2:=hid (And.intro A2 S2);clear A2 S2;go_wp2_with fail;refine (C3.out w2 H2.out.1 H2.out.2).mono ?_;rintro r w3 ⟨rfl,S3,A3⟩;have H3:=hid (And.intro A3 S3);clear A3 S3;go_wp2;go_ret;exact⟨rfl,H3.out.2,H3.out.1⟩
theorem im_medAdj (G N cp a S s:Nat) (d:Array Nat) (V0 V:World) (A:Au G N cp V0 d V) (ha0:1≤a) (ha:a+1 < N) (hN:N≤100000) (hG:G < S) (hS:V.heap[S]?=some (.cells #[Vi (s:Nat)] 3 (0,0))) (hs:s≤90) :
  Calls Tryz.prog 187 #[Vl G N cp,Vi a,Vp S 0] V fun r V'=>r=.returned (Vi ((Sort.medianAdjacent ltN d a s).1:Nat))∧V'.heap[S]?=some (.cells #[Vi ((Sort.medianAdjacent ltN d a s).2:Nat)] 3 (0,0))∧Au G N cp V0 d V':=by
 unfold Sort.medianAdjacent;have C1:=hid (im_median G N cp (a - 1) a (a+1) S s d V0 V A (by omega) (by omega) ha hN hG hS hs);generalize Sort.median ltN d (a - 1) a (a+1) s=M at C1;obtain⟨p,hp⟩:∃ p,a - 1=p:=⟨_,rfl⟩;obtain⟨q,hq⟩:∃ q,a+1=q:=⟨_,rfl⟩;rw [hp,hq] at C1;have hpz:(a:Int) - 1=(p:Int):=by omega
 have hqz:(a:Int)+1=(q:Int):=by omega
 have hq1:q≤100000:=by omega
 clear A hS hp hq;go_enter Tryz.func187,Tryz.ntmps187;go_wp2_with fail;refine (C1.out).mono ?_;rintro r w1 ⟨rfl,S1,A1⟩;have H1:=hid (And.intro A1 S1);clear A1 S1;go_wp2;go_ret;exact⟨rfl,H1.out.2,H1.out.1⟩
end Go.Proofs.YtgandbaejlfppaaGreatDoor
namespace Go.Proofs.YtgandbaejlfppaaGreatDoor
set_option linter.unusedVariables false
set_option linter.unusedSimpArgs false
set_option maxRecDepth 20000
set_option maxHeartbeats 8000000
open Go.RowKit Go.Maps
def hcN:Sort.Hint→Nat
 | .unknown=>0
 | .increasing=>1
 | .decreasing=>2
theorem im_pivot (G N cp a b:Nat) (d:Array Nat) (V0 V:World) (A:Au G N cp V0 d V) (hab:a+12 < b) (hb:b≤N) (hN:N≤100000) :
  Calls Tryz.prog 160 #[Vl G N cp,Vi a,Vi b] V fun r V'=>r=.returned (.tuple #[Vi ((Sort.choosePivot ltN d a b).1:Nat),Vi ((hcN (Sort.choosePivot ltN d a b).2:Nat):Int)])∧Au G N cp V0 d V':=by
 obtain⟨l,hl⟩:∃ l,b - a=l:=⟨_,rfl⟩;obtain⟨q4,hq4⟩:∃ q4,l/4=q4:=⟨_,rfl⟩;obtain⟨i,hi⟩:∃ i,a+q4*1=i:=⟨_,rfl⟩;obtain⟨j,hj⟩:∃ j,a+q4*2=j:=⟨_,rfl⟩;obtain⟨k,hk⟩:∃ k,a+q4*3=k:=⟨_,rfl⟩;obtain⟨R,hR⟩:∃ R:Nat×Nat,(if l≥50 then Sort.median ltN d (Sort.medianAdjacent ltN d i 0).1 (Sort.medianAdjacent ltN d j (Sort.medianAdjacent ltN d i 0).2).1 (Sort.medianAdjacent ltN d k (Sort.medianAdjacent ltN d j (Sort.medianAdjacent ltN d i 0).2).2).1 (Sort.medianAdjacent ltN d k (Sort.medianAdjacent ltN d j (Sort.medianAdjacent ltN d i 0).2).2).2 else Sort.median ltN d i j k 0)=R:=⟨_,rfl⟩;have hC:Sort.choosePivot ltN d a b=(R.1,if R.2=0 then .increasing else if R.2=12 then .decreasing else .unknown):=by
  unfold Sort.choosePivot;simp only [hl,hq4,hi,hj,hk];rw [if_pos (show l≥8 by omega),hR]
 rw [hC];simp only [];obtain⟨Hn,hHn⟩:∃ Hn,hcN (if R.2=0 then Sort.Hint.increasing else if R.2=12 then .decreasing else .unknown)=Hn:=⟨_,rfl⟩;rw [hHn];have HH:=hid hHn;clear hHn;have hlz:(b:Int) - (a:Int)=(l:Int):=by omega
 have h4z:(l:Int).tdiv 4=(q4:Int):=by rw [Int.tdiv_eq_ediv_of_nonneg (by omega)];omega
 have h4y:(l:Int)/4=(q4:Int):=by omega
 have hiz:(a:Int)+(q4:Int)=(i:Int):=by omega
 have hjz:(a:Int)+(q4:Int)*2=(j:Int):=by omega
 have hkz:(a:Int)+(q4:Int)*3=(k:Int):=by omega
 have h8:(8:Int)≤(l:Int):=by omega
 have bA:Below V.heap.size V (V.alloc (.cells #[Vi 0] 3)):=(Below.refl _ _).alloc (Nat.le_refl _) _;have HA:=hid (A.below bA);have HS:=hid (show (V.alloc (.cells #[Vi 0] 3)).heap[V.heap.size]?=some (.cells #[Vi ((0:Nat):Int)] 3 (0,0)) from al_last V _);have hG:=A.lt;have hl1:i+1 < N∧j+1 < N∧k+1 < N∧1≤i∧1≤j∧1≤k∧j < b∧i < b∧k < b:=by omega
 clear A bA hC hl hq4 hi hj hk
 by_cases h50:l≥50
 ·rw [if_pos h50] at hR;have h50z:(50:Int)≤(l:Int):=by omega
  have C1:=hid (fun V9 (A9:Au G N cp V0 d V9) S (hGS:G < S) (S9:V9.heap[S]?=some (.cells #[Vi ((0:Nat):Int)] 3 (0,0)))=>im_medAdj G N cp i S 0 d V0 V9 A9 (by omega) (by omega) hN hGS S9 (by omega));have m1:=Sort.medianAdjacent_mem ltN d i 0;have n1:=Sort.medianAdjacent_count ltN d i 0;generalize Sort.medianAdjacent ltN d i 0=r1 at C1 m1 n1 hR;obtain⟨x1,s1⟩:=r1;simp only [] at C1 m1 n1 hR;have C2:=hid (fun V9 (A9:Au G N cp V0 d V9) S (hGS:G < S) (S9:V9.heap[S]?=some (.cells #[Vi (s1:Nat)] 3 (0,0)))=>im_medAdj G N cp j S s1 d V0 V9 A9 (by omega) (by omega) hN hGS S9 (by omega));have m2:=Sort.medianAdjacent_mem ltN d j s1;have n2:=Sort.medianAdjacent_count ltN d j s1;generalize Sort.medianAdjacent ltN d j s1=r2 at C2 m2 n2 hR;obtain⟨x2,s2⟩:=r2;simp only [] at C2 m2 n2 hR;have C3:=hid (fun V9 (A9:Au G N cp V0 d V9) S (hGS:G < S) (S9:V9.heap[S]?=some (.cells #[Vi (s2:Nat)] 3 (0,0)))=>im_medAdj G N cp k S s2 d V0 V9 A9 (by omega) (by omega) hN hGS S9 (by omega));have m3:=Sort.medianAdjacent_mem ltN d k s2;have n3:=Sort.medianAdjacent_count ltN d k s2;generalize Sort.medianAdjacent ltN d k s2=r3 at C3 m3 n3 hR;obtain⟨x3,s3⟩:=r3;simp only [] at C3 m3 n3 hR;have C4:=hid (fun V9 (A9:Au G N cp V0 d V9) S (hGS:G < S) (S9:V9.heap[S]?=some (.cells #[Vi (s3:Nat)] 3 (0,0)))=>im_median G N cp x1 x2 x3 S s3 d V0 V9 A9 (by omega) (by omega) (by omega) hN hGS S9 (by omega));rw [hR] at C4;clear m1 m2 m3 n1 n2 n3 hR;go_enter Tryz.func160,Tryz.ntmps160;go_wp2_with fail;generalize V.alloc _=W1 at HA HS ⊢;obtain⟨S,hS⟩:∃ S,V.heap.size=S:=⟨_,rfl⟩;rw [hS] at HS hG ⊢;refine (C1.out _ HA.out _ hG HS.out).mono ?_;rintro r w1 ⟨rfl,S1,A1⟩;have H1:=hid (And.intro A1 S1);clear A1 S1 HA HS C1;go_wp2_with fail;refine (C2.out _ H1.out.1 _ hG H1.out.2).mono ?_;rintro r w2 ⟨rfl,S1,A1⟩;have H2:=hid (And.intro A1 S1);clear A1 S1 H1 C2;go_wp2_with fail;refine (C3.out _ H2.out.1 _ hG H2.out.2).mono ?_;rintro r w3 ⟨rfl,S1,A1⟩;have H3:=hid (And.intro A1 S1);clear A1 S1 H2 C3;go_wp2_with fail;refine (C4.out _ H3.out.1 _ hG H3.out.2).mono ?_;rintro r w4 ⟨rfl,S1,A1⟩;have H4:=hid A1;have c4:w4.cell? ⟨S,0,none⟩=some (Vi (R.2:Nat)):=by rw [cell_of_row _ _ _ _ _ _ S1];rfl
  clear A1 S1 H3 C4
  by_cases e0:R.2=0
  ·rw [e0] at c4;obtain rfl:Hn=1:=by rw [←HH.out,if_pos e0];rfl
   go_wp2;refine bodyPost_ret (results_pair rfl _ _) rfl ?_;exact⟨rfl,H4.out⟩
  have e0z:¬((R.2:Int)=0):=by omega
  by_cases e1:R.2=12
  ·rw [e1] at c4;obtain rfl:Hn=2:=by rw [←HH.out,if_neg e0,if_pos e1];rfl
   go_wp2;refine bodyPost_ret (results_pair rfl _ _) rfl ?_;exact⟨rfl,H4.out⟩
  have e1z:¬((R.2:Int)=12):=by omega
  obtain rfl:Hn=0:=by rw [←HH.out,if_neg e0,if_neg e1];rfl
  go_wp2;refine bodyPost_ret (results_pair rfl _ _) rfl ?_;exact⟨rfl,H4.out⟩
 rw [if_neg h50] at hR;have h50z:¬((50:Int)≤(l:Int)):=by omega
 have C4:=hid (fun V9 (A9:Au G N cp V0 d V9) S (hGS:G < S) (S9:V9.heap[S]?=some (.cells #[Vi ((0:Nat):Int)] 3 (0,0)))=>im_median G N cp i j k S 0 d V0 V9 A9 (by omega) (by omega) (by omega) hN hGS S9 (by omega));rw [hR] at C4;clear hR;go_enter Tryz.func160,Tryz.ntmps160;go_wp2_with fail;generalize V.alloc _=W1 at HA HS ⊢;obtain⟨S,hS⟩:∃ S,V.heap.size=S:=⟨_,rfl⟩;rw [hS] at HS hG ⊢;refine (C4.out _ HA.out _ hG HS.out).mono ?_;rintro r w4 ⟨rfl,S1,A1⟩;have H4:=hid A1;have c4:w4.cell? ⟨S,0,none⟩=some (Vi (R.2:Nat)):=by rw [cell_of_row _ _ _ _ _ _ S1];rfl
 clear A1 S1 HA HS C4
 by_cases e0:R.2=0
 ·rw [e0] at c4;obtain rfl:Hn=1:=by rw [←HH.out,if_pos e0];rfl
  go_wp2;refine bodyPost_ret (results_pair rfl _ _) rfl ?_;exact⟨rfl,H4.out⟩
 have e0z:¬((R.2:Int)=0):=by omega
 by_cases e1:R.2=12
 ·rw [e1] at c4;obtain rfl:Hn=2:=by rw [←HH.out,if_neg e0,if_pos e1];rfl
  go_wp2;refine bodyPost_ret (results_pair rfl _ _) rfl ?_;exact⟨rfl,H4.out⟩
 have e1z:¬((R.2:Int)=12):=by omega
 obtain rfl:Hn=0:=by rw [←HH.out,if_neg e0,if_neg e1];rfl
 go_wp2;refine bodyPost_ret (results_pair rfl _ _) rfl ?_;exact⟨rfl,H4.out⟩
end Go.Proofs.YtgandbaejlfppaaGreatDoor
namespace Go.Proofs.YtgandbaejlfppaaGreatDoor
set_option linter.unusedVariables false
set_option linter.unusedSimpArgs false
set_option maxRecDepth 20000
set_option maxHeartbeats 8000000
open Go.RowKit Go.Maps
theorem im_xor (rb X:Nat) (hX:X < 18446744073709551616) (w:World) (hc:w.cell? ⟨rb,0,none⟩=some (Vu X)) (hf:w.frozen? ⟨rb,0,none⟩=false) :
  Calls Tryz.prog 179 #[Vp rb 0] w fun e w'=>e=.returned (Vu (Sort.xorNextN X:Nat))∧w'=(w.setCell ⟨rb,0,none⟩ (Vu (Sort.xorNextN X:Nat))).drewN 3:=AnyF.xorshift_Next { Tryz.sortR with } rb 0 X hX w hc hf
theorem im_npow (n:Nat) (hn:n < 4611686018427387904) (w:World) :
  Calls Tryz.prog 178 #[Vi n] w fun e w'=>e=.returned (Vu ((1 <<< Sort.bitsLen n:Nat):Int))∧w'=w:=AnyF.nextPowerOfTwo { Tryz.sortR with } n hn w
def brk (a l M:Nat):Nat→Nat→UInt64×Array Nat→UInt64×Array Nat
 | 0,_,st=>st
 | n+1,idx,st=>brk a l M n (idx+1) (Sort.breakStep a l M st idx)
theorem im_break (G N cp a b:Nat) (d:Array Nat) (V0 V:World) (A:Au G N cp V0 d V) (hab:a+12 < b) (hb:b≤N) (hN:N≤100000) :
  Calls Tryz.prog 159 #[Vl G N cp,Vi a,Vi b] V fun r V'=>r=.returned (.tuple #[])∧Au G N cp V0 (Sort.breakPatterns d a b) V':=by
 obtain⟨l,hl⟩:∃ l,b - a=l:=⟨_,rfl⟩;obtain⟨M,hM⟩:∃ M,1 <<< Sort.bitsLen l=M:=⟨_,rfl⟩;obtain⟨q4,hq4⟩:∃ q4,l/4=q4:=⟨_,rfl⟩;obtain⟨x0,hx0⟩:∃ x0,a+q4*2 - 1=x0:=⟨_,rfl⟩;obtain⟨D0,hD⟩:∃ D0,Sort.breakPatterns d a b=D0:=⟨_,rfl⟩;rw [hD];have hD2:(brk a l M 3 x0 (UInt64.ofNat l,d)).2=D0:=by
  rw [←hD];unfold Sort.breakPatterns;simp only [hl,hM,hq4,hx0];rw [if_pos (show l≥8 by omega)];rfl
 have hMl:1≤M∧M≤2*l:=by
  rw [←hM,Nat.one_shiftLeft];exact⟨Nat.one_le_two_pow,Sort.two_pow_bitsLen_le (by omega)⟩
 have NP:=hid (fun w=>im_npow l (by omega) w);rw [hM] at NP;obtain⟨M1,hM1⟩:∃ M1,M - 1=M1:=⟨_,rfl⟩;have hM1z:(M:Int) - 1=(M1:Int):=by omega
 have hlz:(b:Int) - (a:Int)=(l:Int):=by omega
 have h4z:(l:Int).tdiv 4=(q4:Int):=by rw [Int.tdiv_eq_ediv_of_nonneg (by omega)];omega
 have h4y:(l:Int)/4=(q4:Int):=by omega
 obtain⟨x1,hx1⟩:∃ x1,a+q4*2=x1:=⟨_,rfl⟩;obtain⟨x2,hx2⟩:∃ x2,a+q4*2+1=x2:=⟨_,rfl⟩;have hx1z:(a:Int)+(q4:Int)*2=(x1:Int):=by omega
 have hx0z:(x1:Int) - 1=(x0:Int):=by omega
 have hx2z:(x1:Int)+1=(x2:Int):=by omega
 have h8:(8:Int)≤(l:Int):=by omega
 have bA:Below V.heap.size V (V.alloc (.cells #[Vu (l:Nat)] 235)):=(Below.refl _ _).alloc (Nat.le_refl _) _;have HA:=hid (A.below bA);have HS:=hid (al_last V (.cells #[Vu (l:Nat)] 235));have hG:=A.lt;have hr:x0+2=x2∧x2 < b∧x2 < N∧M1 < 200000∧l≤N∧a≤x0:=by omega
 have HM1:=hid hM1;have hD3:=hid hD2;have hab2:a+l≤N:=by omega
 clear A bA hl hM hq4 hx0 hD hD2 hx1 hx2 hM1;go_enter Tryz.func159,Tryz.ntmps159;go_wp2_with fail;generalize V.alloc _=W1 at HA HS ⊢;obtain⟨S,hS⟩:∃ S,V.heap.size=S:=⟨_,rfl⟩;rw [hS] at HS hG ⊢;refine (NP.out _).mono ?_;rintro r w1 ⟨rfl,rfl⟩;go_wp2_with fail;go_loopw [9] (fun s9 wr=>∃ (t:Nat) (idx:Nat) (r:UInt64) (d:Array Nat),t≤3∧x0+t=idx∧s9=Vi idx∧Hid ((brk a l M (3 - t) idx (r,d)).2=D0)∧Hid (wr.heap[S]?=some (.cells #[Vu (r.toNat:Nat)] 235 (0,0)))∧Hid (Au G N cp V0 d wr)) (fun s9 _=>x0+4 - (intOf s9).toNat)
 case atStart=>exact ⟨0,x0,_,d,by omega,rfl,rfl,hD3,hid (by rw [UInt64.toNat_ofNat_of_lt' (show l < 2 ^ 64 by omega)];exact HS.out),HA⟩
 case round =>
  clear hD3 HS HA;obtain⟨t,idx,r,d,ht,hidx,rfl,HD,HS,HA⟩:=hrel
  by_cases hlt:t < 3
  ·have hiz:(idx:Int)≤(x2:Int):=by omega
   obtain⟨k,hk⟩:∃ k,3 - t=k+1:=⟨2 - t,by omega⟩;have HD2:=hid (show (brk a l M k (idx+1) (Sort.breakStep a l M (r,d) idx)).2=D0 by have:=HD.out;rw [hk] at this;exact this);have XR:=hid (fun w hc hf=>im_xor S r.toNat r.toNat_lt w hc hf);rw [←Sort.xorNext_toNat] at XR;obtain⟨r2,hr2⟩:∃ r2,Sort.xorNext r=r2:=⟨_,rfl⟩;obtain⟨Y,hY⟩:∃ Y,r2.toNat=Y:=⟨_,rfl⟩;rw [hr2,hY] at XR;have hYl:Y < 18446744073709551616:=by rw [←hY];exact r2.toNat_lt
   obtain⟨o,ho⟩:∃ o,Y &&& M1=o:=⟨_,rfl⟩;have hoz:bits .and .u64 (Y:Int) (M1:Int)=(o:Int):=by rw [bits_and_u64_nat _ _ hYl (by omega),ho]
   have hol:o≤M1:=by rw [←ho];exact Nat.and_le_right
   have c1:wr.cell? ⟨S,0,none⟩=some (Vu (r.toNat:Nat)):=by rw [cell_of_row _ _ _ _ _ _ HS.out];rfl
   have f1:wr.frozen? ⟨S,0,none⟩=false:=by simp [World.frozen?,HS.out]
   have A1:=hid ((HA.out.box HS.out (by decide) hG (Vu (Y:Nat))).drewN 3);have S1:=hid (show ((wr.setCell ⟨S,0,none⟩ (Vu (Y:Nat))).drewN 3).heap[S]?=some (.cells #[Vu (r2.toNat:Nat)] 235 (0,0)) by rw [hY];exact box_set HS.out _);obtain⟨o2,ho2⟩:∃ o2,(if o≥l then o - l else o)=o2:=⟨_,rfl⟩;have HD3:=hid (show (brk a l M k (idx+1) (r2,Sort.swp d idx (a+o2))).2=D0 by
    have:=HD2.out;unfold Sort.breakStep at this;simp only [hr2,hY,HM1.out,ho,ho2] at this;exact this)
   have CX:=hid (XR.out wr c1 f1);have hidN:(idx:Int) < (N:Int):=by omega
   have ho2l:o2 < l∧o≤M1:=by rw [←ho2];split <;> omega
   obtain⟨p,hp⟩:∃ p,a+o2=p:=⟨_,rfl⟩;rw [hp] at HD3;have hpz:(a:Int)+(o2:Int)=(p:Int):=by omega
   have hpN:(p:Int) < (N:Int):=by omega
   clear HD HD2 XR hr2 hY ho HA HS;go_wp2_with fail;refine (CX.out).mono ?_;rintro e w1 ⟨rfl,hw1⟩;rw [←hw1] at A1 S1;clear CX hw1 c1 f1;have sw:∀ (A:Au G N cp V0 d w1),True:=fun _=>trivial
   have xa:=A1.out.cell (show idx < N by omega);have xp:=A1.out.cell (show p < N by omega);have f1:=A1.out.fz idx;obtain⟨u9,y0⟩:=A1.out.sw1 (show idx < N by omega) (show p < N by omega);have f0:=(A1.out.set (show idx < N by omega) d[p]!).fz p;have A2:=hid (A1.out.swap (show idx < N by omega) (show p < N by omega)).drew;have S2:=hid (show (((w1.setCell ⟨G,idx,none⟩ (Vu ((d[p]! : Nat):Int))).setCell ⟨G,p,none⟩ (Vu ((d[idx]! : Nat):Int))).drew).heap[S]?=some (.cells #[Vu (r2.toNat:Nat)] 235 (0,0)) by
    show ((w1.setCell ⟨G,idx,none⟩ (Vu ((d[p]! : Nat):Int))).setCell ⟨G,p,none⟩ (Vu ((d[idx]! : Nat):Int))).heap[S]?=_;rw [Below.heap_setCell _ _ _ _ (show S≠G by omega),Below.heap_setCell _ _ _ _ (show S≠G by omega)];exact S1.out)
   clear A1 S1 sw
   by_cases hge:o≥l
   ·rw [if_pos hge] at ho2;have hgz:(l:Int)≤(o:Int):=by omega
    have ho2z:(o:Int) - (l:Int)=(o2:Int):=by omega
    go_upto_region 10 with fail
    go_region;clear xa xp f1 y0 f0;go_wp2;go_roundw
    case rel=>exact ⟨t+1,idx+1,r2,_,by omega,by omega,by go_num,hid (by rw [show 3 - (t+1)=k by omega];exact HD3.out),S2,A2⟩
    case measure=>(simp [intOf];try omega)
   rw [if_neg hge] at ho2;subst ho2;have hgz:¬((l:Int)≤(o:Int)):=by omega
   go_upto_region 10 with fail
   go_region;clear xa xp f1 y0 f0;go_wp2;go_roundw
   case rel=>exact ⟨t+1,idx+1,r2,_,by omega,by omega,by go_num,hid (by rw [show 3 - (t+1)=k by omega];exact HD3.out),S2,A2⟩
   case measure=>(simp [intOf];try omega)
  obtain rfl:t=3:=by omega
  have hiz:¬((idx:Int)≤(x2:Int)):=by omega
  have HE:=hid (show d=D0 from HD.out);clear HD;go_wp2
  go_end0
  exact⟨rfl,by rw [←HE.out];exact HA.out⟩
end Go.Proofs.YtgandbaejlfppaaGreatDoor
namespace Go.Proofs.YtgandbaejlfppaaGreatDoor
set_option linter.unusedVariables false
set_option linter.unusedSimpArgs false
set_option maxRecDepth 20000
set_option maxHeartbeats 8000000
open Go.Shelf Go.RowKit Go.Lib Go.Sort
theorem sortsR:SortsR:=by
 intro v rs W base h hle
 rcases h.2 with ⟨rfl,h0⟩|⟨g,cap,cur,rfl,hg,hb,h1,h2,h3,h4⟩
 ·have e0:rs=[]:=List.eq_nil_of_length_eq_zero h0;subst e0;have hcon:=AnyF.slices_SortFunc_none Tryz.sortR none 0 (.func (.func 81) #[] #[]) W;change Calls Tryz.prog 80 _ _ _ at hcon;refine hcon.mono ?_;rintro e w' ⟨rfl,rfl⟩;exact⟨rfl,[],List.Perm.refl _,List.Pairwise.nil,h,⟨rfl,rfl,rfl,Nat.le_refl _,fun _ _ _=>rfl⟩⟩
 have eg:∀ args w,(callFunc 81 args).run Tryz.prog w=.ok (.enter 81 args) w:=enters_of Tryz.func81 (by kernel_rfl) rfl;have hcon:=AnyQ.slices_SortFunc Tryz.sortR 5 Tryz.isAgg160 Tryz.sizeOf160 tC (fun _=>rfl) (fun x v hv=>by simp [tC] at hv;rcases hv with rfl|rfl|rfl|rfl|rfl <;> rfl) cmpR swoR 81 #[] g 0 cap rs.toArray W eg (cmpLaysR g 0 rs.toArray.size W) (holdsR hb h4) (lt_blk hb) (by simp;omega);change Calls Tryz.prog 80 _ _ _ at hcon;simp only [List.size_toArray] at hcon;refine hcon.mono ?_;rintro e w' ⟨rfl,d',n,os,hp,hs,rfl⟩;have hpm:d'.toList.Perm rs:=by have:=perm_of_in (d:=rs.toArray) (by simpa using hp);simpa using this
 have hl:d'.toList.length=rs.length:=hpm.length_eq;refine⟨rfl,d'.toList,hpm,?_,⟨by rw [flatT_len,hl],.inr ⟨g,cap,_,rfl,hg,heap_sortedR d' hb,h1,h2,by simp [putCells,h3],?_⟩⟩,grownBy_sortedR d'⟩
 ·rw [List.pairwise_iff_getElem];intro i j hi hj hij;have:=hs i j (Nat.zero_le _) hij (by omega);rw [ltR,getElem!_pos d' i (by simpa using hi),getElem!_pos d' j (by simpa using hj)] at this;simp at this;simpa using this
 have:=take_putR cur d'.toList (by rw [hl];omega);rw [hl] at this;simpa using this
end Go.Proofs.YtgandbaejlfppaaGreatDoor
