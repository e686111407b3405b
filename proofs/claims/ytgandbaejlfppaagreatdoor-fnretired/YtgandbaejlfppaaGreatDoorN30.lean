import Derived.Maps.RangeWalk
import Derived.Test.YtgandbaejlfppaaGreatDoorN20
import Derived.Test.YtgandbaejlfppaaGreatDoorN29
import Derived.Test.YtgandbaejlfppaaGreatDoorN28
import Derived.Test.YtgandbaejlfppaaGreatDoorN17
import Derived.Test.YtgandbaejlfppaaGreatDoorM13
namespace Go.Proofs.YtgandbaejlfppaaGreatDoor
set_option linter.unusedVariables false
set_option linter.unusedSimpArgs false
set_option maxRecDepth 20000
set_option maxHeartbeats 8000000
open Go.ChangeShapes Go.WideShapes Go.ChangeAt Go.RowKit
theorem empty_in (m:Nat) (lim:Int) (w:World) (hm:m≤16) :
  Calls Tryz.prog 28 #[Vi m,Vi lim] w fun e w'=>∃ g,e=.returned (.agg #[Vl g m m,Vn,Vi lim])∧RowV w' g 3 (Ns .i64 (List.replicate m (-1)))∧w.heap.size≤g∧Below w.heap.size w w':=by
 have RP:=hid (fun W q (hr:RowV W q 3 (Ns .i64 [-1]))=>repeat_in q m W hm hr);have AA:=al_two w (.cells #[Vn,Vn,Vi 0] 88) (.cells #[Vi (-1)] 3);have q1:=hid (show RowV ((w.alloc (.cells #[Vn,Vn,Vi 0] 88)).alloc (.cells #[Vi (-1)] 3)) (w.heap.size+1) 3 (Ns .i64 [-1]) from rowOf AA.2.1);have X1:=hid AA.1;have B1:=hid AA.2.2;clear AA hm;go_enter Tryz.func28,Tryz.ntmps28;go_wp2_with fail;refine (RP.out _ _ q1.out).mono ?_;rintro e w2 ⟨g,rfl,r2,l2',b2⟩;have x2:=below_at X1.out b2;have R2:=hid r2;have L2:=hid (show w.heap.size+1 < g by have:=q1.out.lt;omega);have B2:=hid (bl_trans B1.out b2);clear r2 l2' b2 RP q1 X1 B1;have c0:w2.cell? ⟨w.heap.size,0,none⟩=some (Vn):=by rw [cell_of_row _ _ _ _ _ _ x2];rfl
 have c1:w2.cell? ⟨w.heap.size,1,none⟩=some (Vn):=by rw [cell_of_row _ _ _ _ _ _ x2];rfl
 have c2:w2.cell? ⟨w.heap.size,2,none⟩=some (Vi 0):=by rw [cell_of_row _ _ _ _ _ _ x2];rfl
 have f0:w2.frozen? ⟨w.heap.size,0,none⟩=false:=frozen_of_row _ _ _ _ _ x2;have f1:w2.frozen? ⟨w.heap.size,1,none⟩=false:=frozen_of_row _ _ _ _ _ x2;have f2:w2.frozen? ⟨w.heap.size,2,none⟩=false:=frozen_of_row _ _ _ _ _ x2;have X2:=hid x2;clear x2;go_wp2;refine bodyPost_ret (results_cell_row (by rfl) _ _ w.heap.size 88 _ (0,0) _ (by rfl) (set3 X2.out _ _ _) Tryz.underlying88 rfl (by kernel_rfl)) (by rfl) ?_;refine⟨g,rfl,((R2.out.other (p:=⟨_,_,none⟩) ?_ _).other (p:=⟨_,_,none⟩) ?_ _).other (p:=⟨_,_,none⟩) ?_ _,by have:=L2.out;omega,((B2.out.setCell (p:=⟨_,_,none⟩) (Nat.le_refl _) _).setCell (p:=⟨_,_,none⟩) (Nat.le_refl _) _).setCell (p:=⟨_,_,none⟩) (Nat.le_refl _) _⟩
 all_goals (have:=L2.out;dsimp only;omega)
end Go.Proofs.YtgandbaejlfppaaGreatDoor
namespace Go.Proofs.YtgandbaejlfppaaGreatDoor
set_option linter.unusedVariables false
set_option linter.unusedSimpArgs false
set_option maxRecDepth 20000
set_option maxHeartbeats 8000000
open Go.RowKit Go.Maps
theorem mk52 (n:Nat) (h:n≤1048576) (w:World):(Instr.makeSlice 22 (Vi (n:Int)) (Vi (n:Int))).run Tryz.prog w=.ok (Vl w.heap.size n n) (w.alloc (.cells (madeCells #[Value.int .u8 0] n) 5)) :=
 run_make_row' 22 5 (.int .u8 0) 1 Tryz.underlying22 (by kernel_rfl) rfl .i64 .i64 n (by omega) (by omega) w
theorem made_row (n:Nat) (w:World):RowV (w.alloc (.cells (madeCells #[Value.int .u8 0] n) 5)) w.heap.size 5 (Ns .u8 (List.replicate n 0)):=by
 rw [made_bytes];exact⟨_,al_last w _,by simp,fun i hi=>by simp⟩
theorem Hp.setQ {B:Nat} {y:Ly} {d:Dy} {cf:Cf} {h:Hs} {W W':World} (hp:Hp B y d cf h W) {c:Nat} (hc:c < 12) {mix fifo:List Int} (q:Qr W' (y.qm c) (y.qr c) (y.qg c) (y.qq c) cf.fifo mix fifo) (b:But (Qs (y.qr c) (y.qg c) (y.qq c)) W W') :
  Hp B y d cf { h with mx:=updL h.mx c mix,ff:=updL h.ff c fifo } W'∧Bi B W W':=by
 have q0:=hp.wt c hc;have bq:=hp.ap.bq c hc;have t3:∃ x,W.heap[y.qr c]?=some (.cells x 3 (0,0)):=by obtain ⟨x,h1,_⟩:=q0.mx.2;exact⟨x,h1⟩
 have t3':∃ x,W.heap[y.qq c]?=some (.cells x 3 (0,0)):=by obtain ⟨ps,o,hh,_,⟨x,h1,_⟩,_⟩:=q0.qu;exact⟨x,h1⟩
 have t179:∃ x,W.heap[y.qg c]?=some (.cells x 126 (0,0)):=by obtain ⟨ps,o,hh,h1,_⟩:=q0.qu;exact⟨_,h1⟩
 obtain⟨x1,t3⟩:=t3;obtain⟨x2,t3'⟩:=t3';obtain⟨x3,t179⟩:=t179;have nt:∀ g cc t f,W.heap[g]?=some (.cells cc t f)→¬(t=3∨t=126)→¬Qs (y.qr c) (y.qg c) (y.qq c) g:=fun g cc t f hg ht hS=>by
  rcases hS with e|e|e
  ·rw [e,t3] at hg;cases hg;exact ht (.inl rfl)
  ·rw [e,t179] at hg;cases hg;exact ht (.inr rfl)
  rw [e,t3'] at hg;cases hg;exact ht (.inl rfl)
 have nm:∀ g es c2,W.heap[g]?=some (.map es c2)→¬Qs (y.qr c) (y.qg c) (y.qq c) g:=fun g es c2 hg hS=>by
  rcases hS with e|e|e
  ·rw [e,t3] at hg;cases hg
  ·rw [e,t179] at hg;cases hg
  rw [e,t3'] at hg;cases hg
 have k:Ky (fun t=>t=3∨t=126) W W':=⟨b.os,b.tape,b.output,b.size,fun g cc t f hg ht=>by rw [b.block g (lt_blk hg) (nt g cc t f hg ht)];exact hg⟩;have bl:Below B W W':=⟨b.os,b.tape,b.output,b.size,fun g hg=>b.block g (Nat.lt_of_lt_of_le hg hp.bW) (fun hS=>by rcases hS with e|e|e <;> omega)⟩;have hM:W'.heap[y.M]?=W.heap[y.M]?:=by
  obtain⟨D,⟨es,c2,h2,_⟩,_⟩:=hp.sp.map;exact b.block _ (lt_blk h2) (nm _ _ _ h2)
 have hR:W'.heap[y.R]?=W.heap[y.R]?:=by
  obtain⟨es,c2,h2⟩:=hp.mp.typ;exact b.block _ (lt_blk h2) (nm _ _ _ h2)
 refine⟨⟨hp.ap,Nat.le_trans hp.bW bl.size,hp.box.ky k (by decide),hp.ds.belowB bl hp.ap.da,hp.sp.ky k (by decide) hM,hp.pg.ky k (by decide),hp.bf,
 fun c s hc hs=>k.cells _ _ _ _ (hp.sl c s hc hs) (by decide),fun c s hc hs=>row_ky (hp.rw c s hc hs) k (by decide),fun c' s' j' hc' hs' hj'=>k.cells _ _ _ _ (hp.sm c' s' j' hc' hs' hj') (by decide),
 fun c' hc'=>?_,hp.mp.same hR,hp.lo,fun r hr=>by obtain ⟨g,h1,h2,h3⟩:=hp.lb r hr;exact⟨g,h1,h2,k.cells _ _ _ _ h3 (by decide)⟩,hp.li,hp.ro.ky k (by decide),own_ky hp.rl k (by decide),hp.rr,hp.tb.belowB bl hp.ap.b0⟩,bl,k.more (fun t e=>by rcases e with rfl|rfl <;> (unfold hI;decide))⟩
 by_cases e:c'=c
 ·subst e;show Qr W' _ _ _ _ _ (updL h.mx c' mix c') (updL h.ff c' fifo c');rw [updL_same,updL_same];exact q
 show Qr W' _ _ _ _ _ (updL h.mx c mix c') (updL h.ff c fifo c');rw [updL_ne _ _ e,updL_ne _ _ e];have q1:=hp.wt c' hc';obtain⟨i1,i2,i3,i4⟩:=hp.ap.iq c c' hc hc' (fun e2=>e e2.symm);obtain⟨j1,j2,j3,j4⟩:=hp.ap.iq c' c hc' hc e;obtain⟨ps,o,hh,g1,⟨x,g2,_⟩,_⟩:=q1.qu;refine q1.but b (nt _ _ _ _ q1.mx.1 (by decide)) ?_ ?_ ?_
 ·intro hS
  rcases hS with e|e|e
  ·exact i1 e.symm
  ·obtain⟨xx,h1,_⟩:=q1.mx.2;rw [e,t179] at h1;cases h1
  exact j2 e
 ·intro hS
  rcases hS with e|e|e
  ·rw [e,t3] at g1;cases g1
  ·exact i4 e.symm
  rw [e,t3'] at g1;cases g1
 intro hS
 rcases hS with e|e|e
 ·exact i2 e.symm
 ·rw [e,t179] at g2;cases g2
 exact i3 e.symm
theorem box_q (cf:Cf) (y:Ly) (d:Dy) (u c k:Nat) (hc:c < 12) (hk:k < 3):boxF cf y d u (79+c*3+k)=qcV cf y c k:=by
 unfold boxF;rw [if_neg (by omega),if_neg (by omega),if_pos (by omega)];have e1:(79+c*3+k - 79)/3=c:=by omega
 have e2:(79+c*3+k - 79) % 3=k:=by omega
 rw [e1,e2]
theorem Hp.qAt {B:Nat} {y:Ly} {d:Dy} {cf:Cf} {h:Hs} {W:World} (hp:Hp B y d cf h W) (c:Nat) (hc:c < 12):W.cell? ⟨y.P,79+c*3+2,none⟩=some (if cf.mix=0 then .iface 65 (Vp (y.qg c) 0) else .iface 64 (Vp (y.qm c) 0)):=by
 refine hp.cell _ (by omega) _ ?_;rw [box_q cf y d h.used c 2 hc (by omega)];rfl
def PuR (B:Nat) (y:Ly) (d:Dy) (cf:Cf) (h:Hs) (c:Nat) (x dd:Int) (W:World) (e:Ending) (W':World):Prop:=e=.returned (Vi (wpM cf.fifo (h.mx c) (h.ff c) x dd).2.2)∧Hp B y d cf { h with mx:=updL h.mx c (wpM cf.fifo (h.mx c) (h.ff c) x dd).1,ff:=updL h.ff c (wpM cf.fifo (h.mx c) (h.ff c) x dd).2.1 } W'∧Bi B W W'
theorem im_push0 (B:Nat) (y:Ly) (d:Dy) (cf:Cf) (h:Hs) (c:Nat) (x dd:Int) (W:World) (hp:Hp B y d cf h W) (hml:(h.mx c).length=cf.mix) (dk:Dok cf) (hc:c < 12) (h0:cf.mix=0) :
  Calls Tryz.prog 211 #[Vp (y.qg c) 0,Vi x,Vi dd] W (PuR B y d cf h c x dd W):=by
 refine (epushL _ _ _ _ _ _ _ x dd W (hp.wt c hc) (by have:=dk.fifo;omega) (by rw [hml];exact h0)).mono ?_;rintro e W' ⟨z,rfl,rfl,q,b⟩;exact⟨rfl,hp.setQ hc q b⟩
theorem im_push1 (B:Nat) (y:Ly) (d:Dy) (cf:Cf) (h:Hs) (c:Nat) (x dd:Int) (W:World) (hp:Hp B y d cf h W) (hml:(h.mx c).length=cf.mix) (dk:Dok cf) (hc:c < 12) (h0:cf.mix≠0) :
  Calls Tryz.prog 209 #[Vp (y.qm c) 0,Vi x,Vi dd] W (PuR B y d cf h c x dd W):=by
 refine (mpush _ _ _ _ _ _ _ x dd W (hp.wt c hc) (fun e=>h0 (by rw [←hml,e];rfl)) (by rw [hml];have:=dk.mix;omega) (by have:=dk.fifo;omega)).mono ?_;rintro e W' ⟨z,rfl,rfl,q,b⟩;exact⟨rfl,hp.setQ hc q b⟩
end Go.Proofs.YtgandbaejlfppaaGreatDoor
namespace Go.Proofs.YtgandbaejlfppaaGreatDoor
set_option linter.unusedVariables false
set_option linter.unusedSimpArgs false
set_option maxRecDepth 20000
set_option maxHeartbeats 8000000
open Go.RowKit
theorem own_fz {W:World} {B:Nat} {e:TypeId} {sz:Nat} {G n cap:Nat} {xs:List Value} (h:W.ownsRow B e sz (Vl G n cap) n xs) (i:Nat):W.frozen? ⟨G,i,none⟩=false:=by
 rcases h.2 with ⟨e,_⟩|⟨g,cap',cur,e,h1,h2,h3,h4,h5,h6⟩
 ·simp at e
 simp at e;obtain⟨rfl,rfl⟩:=e;simp [World.frozen?,h2]
theorem Us_at {l:List Nat} {i x:Nat} (h:l[i]?=some x):(Us l)[i]?=some (Vu (x:Nat)):=by simp [Us,h]
theorem Us_set (l:List Nat) (i x:Nat):(Us l).set i (Vu (x:Nat))=Us (l.set i x):=by simp [Us,List.map_set]
end Go.Proofs.YtgandbaejlfppaaGreatDoor
namespace Go.Proofs.YtgandbaejlfppaaGreatDoor
set_option linter.unusedVariables false
set_option linter.unusedSimpArgs false
set_option maxRecDepth 20000
set_option maxHeartbeats 8000000
open Go.RowKit Go.Shelf Go.Maps
theorem b0_10 (w0 : World) (a : Option Addr) (len cap : Nat) (zs : List Int) (h0 : IsRow .u8 w0 a len cap zs) (hlen : len ≤ 1048576) (R gv : Nat) (tt : Bool) (W : World) (X Y k : Nat) : B0 w0 a len cap R gv tt W X Y k (fun m => m = 15) := by
  intro m K Q q w u9 u10 u11 u12 u13 u14 u15 u16 u17 u18 u19 u20 u21 u22 u23 u24 u25 u26 u27 u28 u29 u32 u33 u34 u35 u36 u37 u38 u39 u40 u41 u42 u43 u44 u45 u46 u47 u48 u49 u50 u51 u52 u53 u54 u55 u56 u57 u58 u59 u60 u61 u62 u63 u64 u65 u66 u67 u68 u69 u70 u71 u72 u73 u74 u75 u76 u77 u78 u79 u80 u81 u82 u83 u84 u85 u86 u87 u88 u89 u90 u91 u92 u93 u94 u95 u96 u97 u98 u99 u100 u101 u102 u103 u104 u105 u106 u107 u108 u109 u110 u111 u112 u113 u114 u115 u116 u117 u118 u119 u120 u121 u122 u123 u124 u125 u126 u127 u128 u129 u130 u131 u132 u133 u134 u135 u136 u137 u138 u139 u140 u141 u142 u143 u144 u145 u146 u147 u148 hm O3 HK0
  have N := hid (fun V (hV : Rd w0 a len cap R V V) => next_any w0 a len cap zs h0 hlen R V V hV)
  have WD := hid (fun V (hV : Rd w0 a len cap R V V) => wide_any w0 a len cap zs h0 hlen R V V hV)
  have RQ := hid (fun V (hV : Rd w0 a len cap R V V) => request_any w0 a len cap zs h0 hlen R V V hV)
  have BY := hid (fun n (hn : n ≤ 10000) V (hV : Rd w0 a len cap R V V) => bytes_any w0 a len cap zs h0 hlen R n hn V V hV)
  have US := hid sp_Usable
  have HU := hid u64_in
  clear h0
  have HK := hid HK0
  clear HK0
  conv => arg 2; whnf
  obtain rfl := hm
  obtain ⟨z0, z1, z2, z3, z4, z5⟩ := O3.out.cells
  have zf := O3.out.fr 0
  go_wp2_with fail
  have O10 := hid (O3.out.setKd 6)
  clear O3 z0 z1 z2 z3 z4 z5 zf
  refine (N.out _ O10.out.rd.at).mono ?_
  rintro e V11 ⟨⟨c11, hc11, rfl⟩, r⟩
  have O11 := hid (O10.out.next r)
  clear r O10
  obtain ⟨n, hn, en⟩ : ∃ n : Nat, n ≤ 24 ∧ (c11 : Int) % 24 + 1 = (n : Int) := ⟨c11 % 24 + 1, by omega, by omega⟩
  go_wp2_with fail
  refine (BY.out n (by omega) _ O11.out.rd.at).mono ?_
  rintro e V12 ⟨v, ys, rfl, hys, ho, r⟩
  obtain ⟨va, vb, vc, rfl⟩ := own_slD ho
  have hvb := own_lenD ho
  subst hys
  obtain rfl := hvb
  have hbb := own_downD O11.out.rd.g.size ho
  have O12 := hid (O11.out.next r)
  have HB := hid hbb
  clear r ho hbb en O11
  obtain ⟨z0, z1, z2, z3, z4, z5⟩ := O12.out.cells
  have zf := O12.out.fr 5
  go_wp2_with fail
  have O13 := hid (O12.out.setD va vc ys HB.out)
  clear O12 z0 z1 z2 z3 z4 z5 zf
  refine (N.out _ O13.out.rd.at).mono ?_
  rintro e V14 ⟨⟨c14, hc14, rfl⟩, r⟩
  have O14 := hid (O13.out.next r)
  clear r O13
  obtain ⟨z0, z1, z2, z3, z4, z5⟩ := O14.out.cells
  have zf := O14.out.fr 2
  have Ox := hid (O14.out.setP ((c14 : Int) % 20) (by omega) (by omega))
  by_cases h200 : 200 ≤ k
  · go_wp2_with fail
    clear z0 z1 z2 z3 z4 z5 zf
    refine (N.out _ Ox.out.rd.at).mono ?_
    rintro e V15 ⟨⟨c15, hc15, rfl⟩, r⟩
    have O15 := hid (Ox.out.next r)
    clear r Ox
    have hu := us_le ((c15 : Int) % 12)
    go_wp2_with fail
    refine (US.out _ _).mono ?_
    rintro e V16 ⟨rfl, b⟩
    have O16 := hid (O15.out.below b)
    clear b O15
    generalize us ((c15 : Int) % 12) = u at hu ⊢
    go_wp2_with fail
    refine (N.out _ O16.out.rd.at).mono ?_
    rintro e V17 ⟨⟨c17, hc17, rfl⟩, r⟩
    have O17 := hid (O16.out.next r)
    clear r O16
    obtain ⟨z0, z1, z2, z3, z4, z5⟩ := O17.out.cells
    have zf := O17.out.fr 2
    go_wp2
    apply HK.out
    exact hid (O17.out.setP _ (by first | omega | exact (HU.out _).1 | (simp; done)) (by first | omega | exact (HU.out _).2 | (simp; done)))
  · go_wp2
    apply HK.out
    exact Ox
end Go.Proofs.YtgandbaejlfppaaGreatDoor
namespace Go.Proofs.YtgandbaejlfppaaGreatDoor
set_option linter.unusedVariables false
set_option linter.unusedSimpArgs false
set_option maxRecDepth 20000
set_option maxHeartbeats 8000000
open Go.RowKit Go.Shelf Go.Maps
theorem op_any (w0 : World) (a : Option Addr) (len cap : Nat) (zs : List Int) (h0 : IsRow .u8 w0 a len cap zs) (hlen : len ≤ 1048576) (R : Nat) (gv : Nat) (hgv : gv ≤ 400) (tt : Bool) (W : World) (hR : Rd w0 a len cap R W W) :
    Calls Tryz.prog 24 #[.pointer (some ⟨R, 0, none⟩), .int .i64 gv, .bool tt] W fun e W' => ∃ q : Oin, e = .returned (.agg (opC6 q).toArray) ∧ Od6 W.heap.size q W' ∧ Rd w0 a len cap R W W' := by
  have N := hid (fun V (hV : Rd w0 a len cap R V V) => next_any w0 a len cap zs h0 hlen R V V hV)
  have WD := hid (fun V (hV : Rd w0 a len cap R V V) => wide_any w0 a len cap zs h0 hlen R V V hV)
  have RQ := hid (fun V (hV : Rd w0 a len cap R V V) => request_any w0 a len cap zs h0 hlen R V V hV)
  have AD := hid (fun V (hV : Rd w0 a len cap R V V) => address_any w0 a len cap zs h0 hlen R V V hV)
  have BY := hid (fun n (hn : n ≤ 10000) V (hV : Rd w0 a len cap R V V) => bytes_any w0 a len cap zs h0 hlen R n hn V V hV)
  have US := hid sp_Usable
  have HU := hid u64_in
  have RN := hid hR.lt
  have R1 := hid (hR.below ((Below.refl _ _).alloc (Nat.le_refl _) (.cells #[.int .i64 0, .int .i64 0, .int .u64 0, .int .u64 0, .int .u64 0, .slice none 0 0] 42)))
  have Y1 := hid (al_last W (.cells #[.int .i64 0, .int .i64 0, .int .u64 0, .int .u64 0, .int .u64 0, .slice none 0 0] 42))
  have IR := hid h0
  clear h0 hR
  go_enter Tryz.func24, Tryz.ntmps24
  go_wp2_with fail
  generalize W.alloc (.cells #[.int .i64 0, .int .i64 0, .int .u64 0, .int .u64 0, .int .u64 0, .slice none 0 0] 42) = V1 at R1 Y1 ⊢
  refine (N.out _ R1.out.at).mono ?_
  rintro e V2 ⟨⟨k, hk, rfl⟩, r2⟩
  have R2 := hid (R1.out.of r2)
  have Y2 := hid ((r2.g.block _ (lt_blk Y1.out) (fun e => by cases e; have := RN.out; omega)).trans Y1.out)
  clear r2 R1 Y1
  have O2 := hid (show Ob6 w0 a len cap R W V2.heap.size W.heap.size ⟨⟨0, 0, 0, 0, 0, []⟩, none, 0⟩ (V2.alloc (.cells #[.int .i64 0, .int .i64 0, .int .u64 0, .int .u64 0, .int .u64 0, .slice none 0 0] 42)) from by
    have b := (Below.refl V2.heap.size V2).alloc (Nat.le_refl _) (.cells #[.int .i64 0, .int .i64 0, .int .u64 0, .int .u64 0, .int .u64 0, .slice none 0 0] 42)
    have hl := lt_blk Y2.out
    exact ⟨R2.out.below b, RN.out, al_last V2 _, R2.out.g.size, by rw [b.block _ hl]; exact Y2.out, Nat.le_refl _, by omega, ⟨by decide, by decide, by decide, ⟨rfl, .inl ⟨rfl, rfl⟩⟩⟩⟩)
  clear R2 Y2
  go_upto_if 13 with fail
  generalize (V2.alloc (.cells #[.int .i64 0, .int .i64 0, .int .u64 0, .int .u64 0, .int .u64 0, .slice none 0 0] 42)) = V3 at O2 ⊢
  generalize V2.heap.size = X at O2 ⊢
  generalize hYY : W.heap.size = Y at O2 ⊢
  go_cut [13] (fun _ w' => ∃ q, Hid (Ob6 w0 a len cap R W X Y q w'))
  case first =>
    by_cases hg : 0 < gv
    · have hg0 : ((gv : Int) == 0) = false := by simp; omega
      go_wp2_with fail
      refine (N.out _ O2.out.rd.at).mono ?_
      rintro e V3 ⟨⟨c3, hc3, rfl⟩, r⟩
      have O3 := hid (O2.out.next r)
      clear r O2
      have Ox := hid (O3.out.setRef (wrap64 ((gv : Int) - (c3 : Int) % (gv : Int))))
      obtain ⟨z0, z1, z2, z3, z4, z5⟩ := O3.out.cells
      have zf := O3.out.fr 1
      cases h3 : ((k : Int) % 3 == 0)
      · go_wp2
        go_meet
        case rel => exact ⟨_, Ox⟩
      · go_wp2_with fail
        clear z0 z1 z2 z3 z4 z5 zf
        refine (N.out _ Ox.out.rd.at).mono ?_
        rintro e V4 ⟨⟨c4, hc4, rfl⟩, r⟩
        have O4 := hid (Ox.out.next r)
        clear r Ox
        obtain ⟨z0, z1, z2, z3, z4, z5⟩ := O4.out.cells
        have zf := O4.out.fr 1
        go_wp2
        go_meet
        case rel => exact ⟨_, hid (O4.out.setRef _)⟩
    · go_wp2
      go_meet
      case rel => exact ⟨_, O2⟩
  case rest =>
    obtain ⟨q, O3⟩ := hcut
    clear O2
    go_upto_block 0 with fail
    generalize hm0 : (k : Int) % 16 = m
    have hb : B0 w0 a len cap R gv tt W X Y k (fun m => 0 ≤ m ∧ m < 16) := fun m K Q q w => by
      intro u9 u10 u11 u12 u13 u14 u15 u16 u17 u18 u19 u20 u21 u22 u23 u24 u25 u26 u27 u28 u29 u32 u33 u34 u35 u36 u37 u38 u39 u40 u41 u42 u43 u44 u45 u46 u47 u48 u49 u50 u51 u52 u53 u54 u55 u56 u57 u58 u59 u60 u61 u62 u63 u64 u65 u66 u67 u68 u69 u70 u71 u72 u73 u74 u75 u76 u77 u78 u79 u80 u81 u82 u83 u84 u85 u86 u87 u88 u89 u90 u91 u92 u93 u94 u95 u96 u97 u98 u99 u100 u101 u102 u103 u104 u105 u106 u107 u108 u109 u110 u111 u112 u113 u114 u115 u116 u117 u118 u119 u120 u121 u122 u123 u124 u125 u126 u127 u128 u129 u130 u131 u132 u133 u134 u135 u136 u137 u138 u139 u140 u141 u142 u143 u144 u145 u146 u147 u148 hm
      have hc : (m = 0) ∨ (m = 1) ∨ (m = 2) ∨ (m = 3) ∨ (m = 4) ∨ (m = 5 ∨ m = 6) ∨ (m = 7 ∨ m = 8 ∨ m = 9 ∨ m = 10 ∨ m = 11) ∨ (m = 12) ∨ (m = 13) ∨ (m = 14) ∨ (m = 15) := by omega
      rcases hc with hc | hc | hc | hc | hc | hc | hc | hc | hc | hc | hc
      · exact b0_0 w0 a len cap zs IR.out hlen R gv tt W X Y k m K Q q w _ _ _ _ _ _ _ _ _ _ _ _ _ _ _ _ _ _ _ _ _ _ _ _ _ _ _ _ _ _ _ _ _ _ _ _ _ _ _ _ _ _ _ _ _ _ _ _ _ _ _ _ _ _ _ _ _ _ _ _ _ _ _ _ _ _ _ _ _ _ _ _ _ _ _ _ _ _ _ _ _ _ _ _ _ _ _ _ _ _ _ _ _ _ _ _ _ _ _ _ _ _ _ _ _ _ _ _ _ _ _ _ _ _ _ _ _ _ _ _ _ _ _ _ _ _ _ _ _ _ _ _ _ _ _ _ _ _ hc
      · exact b0_1 w0 a len cap zs IR.out hlen R gv tt W X Y k m K Q q w _ _ _ _ _ _ _ _ _ _ _ _ _ _ _ _ _ _ _ _ _ _ _ _ _ _ _ _ _ _ _ _ _ _ _ _ _ _ _ _ _ _ _ _ _ _ _ _ _ _ _ _ _ _ _ _ _ _ _ _ _ _ _ _ _ _ _ _ _ _ _ _ _ _ _ _ _ _ _ _ _ _ _ _ _ _ _ _ _ _ _ _ _ _ _ _ _ _ _ _ _ _ _ _ _ _ _ _ _ _ _ _ _ _ _ _ _ _ _ _ _ _ _ _ _ _ _ _ _ _ _ _ _ _ _ _ _ _ hc
      · exact b0_2 w0 a len cap zs IR.out hlen R gv tt W X Y k m K Q q w _ _ _ _ _ _ _ _ _ _ _ _ _ _ _ _ _ _ _ _ _ _ _ _ _ _ _ _ _ _ _ _ _ _ _ _ _ _ _ _ _ _ _ _ _ _ _ _ _ _ _ _ _ _ _ _ _ _ _ _ _ _ _ _ _ _ _ _ _ _ _ _ _ _ _ _ _ _ _ _ _ _ _ _ _ _ _ _ _ _ _ _ _ _ _ _ _ _ _ _ _ _ _ _ _ _ _ _ _ _ _ _ _ _ _ _ _ _ _ _ _ _ _ _ _ _ _ _ _ _ _ _ _ _ _ _ _ _ hc
      · exact b0_3 w0 a len cap zs IR.out hlen R gv tt W X Y k m K Q q w _ _ _ _ _ _ _ _ _ _ _ _ _ _ _ _ _ _ _ _ _ _ _ _ _ _ _ _ _ _ _ _ _ _ _ _ _ _ _ _ _ _ _ _ _ _ _ _ _ _ _ _ _ _ _ _ _ _ _ _ _ _ _ _ _ _ _ _ _ _ _ _ _ _ _ _ _ _ _ _ _ _ _ _ _ _ _ _ _ _ _ _ _ _ _ _ _ _ _ _ _ _ _ _ _ _ _ _ _ _ _ _ _ _ _ _ _ _ _ _ _ _ _ _ _ _ _ _ _ _ _ _ _ _ _ _ _ _ hc
      · exact b0_4 w0 a len cap zs IR.out hlen R gv tt W X Y k m K Q q w _ _ _ _ _ _ _ _ _ _ _ _ _ _ _ _ _ _ _ _ _ _ _ _ _ _ _ _ _ _ _ _ _ _ _ _ _ _ _ _ _ _ _ _ _ _ _ _ _ _ _ _ _ _ _ _ _ _ _ _ _ _ _ _ _ _ _ _ _ _ _ _ _ _ _ _ _ _ _ _ _ _ _ _ _ _ _ _ _ _ _ _ _ _ _ _ _ _ _ _ _ _ _ _ _ _ _ _ _ _ _ _ _ _ _ _ _ _ _ _ _ _ _ _ _ _ _ _ _ _ _ _ _ _ _ _ _ _ hc
      · exact b0_5 w0 a len cap zs IR.out hlen R gv tt W X Y k m K Q q w _ _ _ _ _ _ _ _ _ _ _ _ _ _ _ _ _ _ _ _ _ _ _ _ _ _ _ _ _ _ _ _ _ _ _ _ _ _ _ _ _ _ _ _ _ _ _ _ _ _ _ _ _ _ _ _ _ _ _ _ _ _ _ _ _ _ _ _ _ _ _ _ _ _ _ _ _ _ _ _ _ _ _ _ _ _ _ _ _ _ _ _ _ _ _ _ _ _ _ _ _ _ _ _ _ _ _ _ _ _ _ _ _ _ _ _ _ _ _ _ _ _ _ _ _ _ _ _ _ _ _ _ _ _ _ _ _ _ hc
      · exact b0_6 w0 a len cap zs IR.out hlen R gv tt W X Y k m K Q q w _ _ _ _ _ _ _ _ _ _ _ _ _ _ _ _ _ _ _ _ _ _ _ _ _ _ _ _ _ _ _ _ _ _ _ _ _ _ _ _ _ _ _ _ _ _ _ _ _ _ _ _ _ _ _ _ _ _ _ _ _ _ _ _ _ _ _ _ _ _ _ _ _ _ _ _ _ _ _ _ _ _ _ _ _ _ _ _ _ _ _ _ _ _ _ _ _ _ _ _ _ _ _ _ _ _ _ _ _ _ _ _ _ _ _ _ _ _ _ _ _ _ _ _ _ _ _ _ _ _ _ _ _ _ _ _ _ _ hc
      · exact b0_7 w0 a len cap zs IR.out hlen R gv tt W X Y k m K Q q w _ _ _ _ _ _ _ _ _ _ _ _ _ _ _ _ _ _ _ _ _ _ _ _ _ _ _ _ _ _ _ _ _ _ _ _ _ _ _ _ _ _ _ _ _ _ _ _ _ _ _ _ _ _ _ _ _ _ _ _ _ _ _ _ _ _ _ _ _ _ _ _ _ _ _ _ _ _ _ _ _ _ _ _ _ _ _ _ _ _ _ _ _ _ _ _ _ _ _ _ _ _ _ _ _ _ _ _ _ _ _ _ _ _ _ _ _ _ _ _ _ _ _ _ _ _ _ _ _ _ _ _ _ _ _ _ _ _ hc
      · exact b0_8 w0 a len cap zs IR.out hlen R gv tt W X Y k m K Q q w _ _ _ _ _ _ _ _ _ _ _ _ _ _ _ _ _ _ _ _ _ _ _ _ _ _ _ _ _ _ _ _ _ _ _ _ _ _ _ _ _ _ _ _ _ _ _ _ _ _ _ _ _ _ _ _ _ _ _ _ _ _ _ _ _ _ _ _ _ _ _ _ _ _ _ _ _ _ _ _ _ _ _ _ _ _ _ _ _ _ _ _ _ _ _ _ _ _ _ _ _ _ _ _ _ _ _ _ _ _ _ _ _ _ _ _ _ _ _ _ _ _ _ _ _ _ _ _ _ _ _ _ _ _ _ _ _ _ hc
      · exact b0_9 w0 a len cap zs IR.out hlen R gv tt W X Y k m K Q q w _ _ _ _ _ _ _ _ _ _ _ _ _ _ _ _ _ _ _ _ _ _ _ _ _ _ _ _ _ _ _ _ _ _ _ _ _ _ _ _ _ _ _ _ _ _ _ _ _ _ _ _ _ _ _ _ _ _ _ _ _ _ _ _ _ _ _ _ _ _ _ _ _ _ _ _ _ _ _ _ _ _ _ _ _ _ _ _ _ _ _ _ _ _ _ _ _ _ _ _ _ _ _ _ _ _ _ _ _ _ _ _ _ _ _ _ _ _ _ _ _ _ _ _ _ _ _ _ _ _ _ _ _ _ _ _ _ _ hc
      · exact b0_10 w0 a len cap zs IR.out hlen R gv tt W X Y k m K Q q w _ _ _ _ _ _ _ _ _ _ _ _ _ _ _ _ _ _ _ _ _ _ _ _ _ _ _ _ _ _ _ _ _ _ _ _ _ _ _ _ _ _ _ _ _ _ _ _ _ _ _ _ _ _ _ _ _ _ _ _ _ _ _ _ _ _ _ _ _ _ _ _ _ _ _ _ _ _ _ _ _ _ _ _ _ _ _ _ _ _ _ _ _ _ _ _ _ _ _ _ _ _ _ _ _ _ _ _ _ _ _ _ _ _ _ _ _ _ _ _ _ _ _ _ _ _ _ _ _ _ _ _ _ _ _ _ _ _ hc
    have H0 : (0 : Int) ≤ m ∧ m < 16 := by omega
    clear hm0
    refine hb m _ _ q _ _ _ _ _ _ _ _ _ _ _ _ _ _ _ _ _ _ _ _ _ _ _ _ _ _ _ _ _ _ _ _ _ _ _ _ _ _ _ _ _ _ _ _ _ _ _ _ _ _ _ _ _ _ _ _ _ _ _ _ _ _ _ _ _ _ _ _ _ _ _ _ _ _ _ _ _ _ _ _ _ _ _ _ _ _ _ _ _ _ _ _ _ _ _ _ _ _ _ _ _ _ _ _ _ _ _ _ _ _ _ _ _ _ _ _ _ _ _ _ _ _ _ _ _ _ _ _ _ _ _ _ _ _ _ _ _ _ _ H0 O3 ?_
    clear hb
    intro v9 v10 v11 v12 v13 v14 v15 v16 v17 v18 v19 v20 v21 v22 v23 v24 v25 v26 v27 v28 v29 v32 v33 v34 v35 v36 v37 v38 v39 v40 v41 v42 v43 v44 v45 v46 v47 v48 v49 v50 v51 v52 v53 v54 v55 v56 v57 v58 v59 v60 v61 v62 v63 v64 v65 v66 v67 v68 v69 v70 v71 v72 v73 v74 v75 v76 v77 v78 v79 v80 v81 v82 v83 v84 v85 v86 v87 v88 v89 v90 v91 v92 v93 v94 v95 v96 v97 v98 v99 v100 v101 v102 v103 v104 v105 v106 v107 v108 v109 v110 v111 v112 v113 v114 v115 v116 v117 v118 v119 v120 v121 v122 v123 v124 v125 v126 v127 v128 v129 v130 v131 v132 v133 v134 v135 v136 v137 v138 v139 v140 v141 v142 v143 v144 v145 v146 v147 v148 q2 w2 Oz
    clear O3
    go_upto_block 1 with fail
    go_cut [116] (fun _ w' => ∃ q, Hid (Ob6 w0 a len cap R W X Y q w'))
    case first =>
      have hm : k = 255 ∨ k = 254 ∨ k = 253 ∨ k = 252 ∨ k = 251 ∨ k < 251 := by omega
      rcases hm with rfl | rfl | rfl | rfl | rfl | hlt
      · skip
        obtain ⟨z0, z1, z2, z3, z4, z5⟩ := Oz.out.cells
        have zf := Oz.out.fr 2
        go_wp2_with fail
        go_region_with (first | (go_at_call 23; refine (N.out _ Oz.out.drew.rd.at).mono ?_; rintro e Vq ⟨⟨cq, hcq, rfl⟩, r⟩; have Oq := hid (Oz.out.drew.next r); obtain ⟨y0, y1, y2, y3, y4, y5⟩ := Oq.out.cells; have yf := Oq.out.fr 2; clear r))
        all_goals (go_wp2; go_meet; case rel => exact ⟨_, hid (Oq.out.setP _ (by first | omega | exact (HU.out _).1 | (simp; done)) (by first | omega | exact (HU.out _).2 | (simp; done)))⟩)
      · skip
        obtain ⟨z0, z1, z2, z3, z4, z5⟩ := Oz.out.cells
        have zf := Oz.out.fr 1
        go_wp2_with fail
        have O5 := hid (Oz.out.setRef 0)
        clear Oz z0 z1 z2 z3 z4 z5 zf
        refine (AD.out _ O5.out.rd.at).mono ?_
        rintro e V6 ⟨⟨c6, hx6, hy6, rfl⟩, r⟩
        have O6 := hid (O5.out.next r)
        clear r O5
        obtain ⟨z0, z1, z2, z3, z4, z5⟩ := O6.out.cells
        have zf := O6.out.fr 2
        go_wp2
        go_meet
        case rel => exact ⟨_, hid (O6.out.setP _ (by first | omega | exact (HU.out _).1 | (simp; done)) (by first | omega | exact (HU.out _).2 | (simp; done)))⟩
      · skip
        obtain ⟨z0, z1, z2, z3, z4, z5⟩ := Oz.out.cells
        have zf := Oz.out.fr 0
        go_wp2
        go_meet
        case rel => exact ⟨_, hid (Oz.out.setKd 7)⟩
      · skip
        obtain ⟨z0, z1, z2, z3, z4, z5⟩ := Oz.out.cells
        have zf := Oz.out.fr 1
        go_wp2
        go_meet
        case rel => exact ⟨_, hid (Oz.out.setRef _)⟩
      · go_wp2_with fail
        refine (N.out _ Oz.out.rd.at).mono ?_
        rintro e V7 ⟨⟨c7, hc7, rfl⟩, r⟩
        have O7 := hid (Oz.out.next r)
        clear r Oz
        obtain ⟨z0, z1, z2, z3, z4, z5⟩ := O7.out.cells
        have zf := O7.out.fr 3
        go_wp2
        go_meet
        case rel => exact ⟨_, hid (O7.out.setA _ (by first | omega | exact (HU.out _).1 | (simp; done)) (by first | omega | exact (HU.out _).2 | (simp; done)))⟩
      · have g1 : ((k : Int) == 255) = false := by simp; omega
        have g2 : ((k : Int) == 254) = false := by simp; omega
        have g3 : ((k : Int) == 253) = false := by simp; omega
        have g4 : ((k : Int) == 252) = false := by simp; omega
        have g5 : ((k : Int) == 251) = false := by simp; omega
        go_wp2
        go_meet
        case rel => exact ⟨_, Oz⟩
    case rest =>
      obtain ⟨q3, Of⟩ := hcut
      clear Oz
      go_wp2_with (first | (refine wpList_load_row rfl 42 _ rfl _ rfl _ _ _ _ Of.out.x Tryz.underlying42 rfl (by kernel_rfl) ?_) | (refine wpList_store_row rfl 42 _ _ rfl _ _ rfl rfl 42 _ Of.out.y (by kernel_rfl) rfl (by simp [opC6, Value.oneCell']) ?_))
      refine bodyPost_ret (results_cell_row (by rfl) _ _ Y 42 _ (0, 0) _ (by rfl) (setRow_at Of.out.y _) Tryz.underlying42 rfl (by kernel_rfl)) (by rfl) ?_
      have g := grown_setRow wc Y (opC6 q3).toArray
      have hy := Of.out.yn
      have hr := Of.out.rn
      have od := Of.out.od.kept g (own_neT Of.out.od.d Of.out.y (by decide))
      exact ⟨q3, rfl, od, Of.out.rd.app g (fun r e => by cases e; omega)⟩
end Go.Proofs.YtgandbaejlfppaaGreatDoor
