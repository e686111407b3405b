import Derived.Test.YtgandbaejlfppaaGreatDoorM10
import Derived.Test.YtgandbaejlfppaaGreatDoorM11
namespace Go.Proofs.YtgandbaejlfppaaGreatDoor
set_option linter.unusedVariables false
set_option linter.unusedSimpArgs false
set_option maxRecDepth 20000
set_option maxHeartbeats 8000000
open Go.ChangeShapes Go.WideShapes Go.ChangeAt Go.RowKit
structure Hit (p c s:Int):Prop where
 c0:0≤c
 c1:c < 12
 s0:0≤s
 s1:s < 6
 lo:rs c+s*(pg c+1)≤p
 hi:p≤rs c+s*(pg c+1)+pg c
theorem rsN_step (k:Nat) (h:k < 12):rsN (k+1)=rsN k+6*(pg k+1):=by
 simp only [rsN];rw [rp_in ⟨by omega,by omega⟩]
theorem rsN_mono (a:Nat):∀ d,rsN a≤rsN (a+d)
 | 0=>Int.le_refl _
 | d+1=>by
  have h1:=rsN_mono a d
  have h2:=rp_le ((a+d:Nat):Int)
  have e:rsN (a+(d+1))=rsN (a+d)+rp ((a+d:Nat):Int):=rfl
  omega
theorem Hit.c_le {p c s c' s':Int} (h:Hit p c s) (h':Hit p c' s'):c≤c':=by
 apply Int.not_lt.1;intro hlt;obtain⟨a,rfl⟩:=Int.eq_ofNat_of_zero_le h.c0;obtain⟨b,rfl⟩:=Int.eq_ofNat_of_zero_le h'.c0;have e1:rs (a:Int)=rsN a:=by rw [rs_in ⟨h.c0,h.c1⟩];rfl
 have e2:rs (b:Int)=rsN b:=by rw [rs_in ⟨h'.c0,h'.c1⟩];rfl
 have hm:=rsN_mono (b+1) (a - (b+1));have e3:b+1+(a - (b+1))=a:=by omega
 rw [e3,rsN_step b (by have:=h'.c1;omega)] at hm;have q1:=h.lo;have q2:=h'.hi;rw [e1] at q1;rw [e2] at q2;have hp:=pg_in (c:=(b:Int)) ⟨h'.c0,h'.c1⟩;have hpa:=pg_in (c:=(a:Int)) ⟨h.c0,h.c1⟩;have hs1:=h'.s1;have hs0:=h.s0;generalize pg (b:Int)=x at *;generalize pg (a:Int)=y at *;have m1:0≤s*(y+1):=Int.mul_nonneg hs0 (by omega);have m2:s'*(x+1)≤5*(x+1):=Int.mul_le_mul_of_nonneg_right (by omega) (by omega);omega
theorem Hit.one {p c s c' s':Int} (h:Hit p c s) (h':Hit p c' s'):c=c'∧s=s':=by
 have e:c=c':=Int.le_antisymm (h.c_le h') (h'.c_le h);subst e;refine⟨rfl,?_⟩;have hp:=pg_in (c:=c) ⟨h.c0,h.c1⟩;have a1:=h.lo;have a2:=h.hi;have b1:=h'.lo;have b2:=h'.hi;have:pg c=1∨pg c=2∨pg c=3∨pg c=4:=by omega
 rcases this with e|e|e|e <;> rw [e] at a1 a2 b1 b2 <;> omega
inductive Dec:Int→Value→Prop
 | out (a:Int) (h:289792≤a):Dec a (pl 0 0 0 0 0 0)
 | large (a:Int) (h0:191488≤a) (h1:a < 289792):Dec a (pl 4 0 0 0 (a/1024 - 187) (a % 1024))
 | zero (a:Int) (h0:0≤a) (h1:a < 1024):Dec a (pl 1 0 0 0 0 0)
 | slab (a c s:Int) (h0:1024≤a) (h1:a < 191488) (h:Hit (a/1024) c s):Dec a (plO c s (a - (rs c+s*(pg c+1))*1024))
theorem Dec.one {a:Int} {v v':Value} (h:Dec a v) (h':Dec a v'):v=v':=by
 cases h <;> cases h' <;> first|rfl|omega|skip
 rename_i c s h0 h1 h2 c' s' h3 h4 h5
 obtain⟨rfl,rfl⟩:=h2.one h5;rfl
end Go.Proofs.YtgandbaejlfppaaGreatDoor
namespace Go.Proofs.YtgandbaejlfppaaGreatDoor
set_option linter.unusedVariables false
set_option linter.unusedSimpArgs false
set_option maxRecDepth 20000
set_option maxHeartbeats 8000000
open Go.ChangeShapes Go.WideShapes Go.ChangeAt Go.RowKit
theorem row_set {v:World} {g:Nat} {old:Array Value} {t:TypeId} (h:v.heap[g]?=some (.cells old t (0,0))) (cs:Array Value):(v.setRow g cs).heap[g]?=some (.cells cs t (0,0)):=by
 simp [World.setRow,Array.getElem?_modify,h]
theorem plO_agg (c s o:Int):∃ cs:Array Value,plO c s o=.agg cs∧cs.size=6∧cs.all (·.oneCell')=true:=by
 unfold plO
 split
 ·exact⟨_,rfl,rfl,by simp [Value.oneCell']⟩
 split
 ·exact⟨_,rfl,rfl,by simp [Value.oneCell']⟩
 exact⟨_,rfl,rfl,by simp [Value.oneCell']⟩
theorem im_Decode (a:Int) (ha0:0≤a) (ha1:a≤18446744073709551615) (w:World) (ht:Tb w) :
  Calls Tryz.prog 12 #[Vu a] w fun e w'=>(∃ v,Dec a v∧e=.returned v)∧Below w.heap.size w w':=by
 have R1:=hidR (Rt.first w);have T1:=hidR (ht.below R1.out.bel);have IA:=hidR im_ArenaPages;have IS:=hidR im_regionStarts;have IP:=hidR im_placeInRegion;clear ht;unfold z6 at *;go_enter Tryz.func12,Tryz.ntmps12;go_wp2_with fail;generalize w.alloc (Obj.cells #[Value.int IntKind.i64 0,Value.int IntKind.i64 0,Value.int IntKind.i64 0,Value.int IntKind.i64 0,Value.int IntKind.i64 0,Value.int IntKind.i64 0] 50)=v at R1 T1 ⊢;generalize w.heap.size=g at R1 ⊢;refine (IA.out _ T1.out).mono ?_;rintro e w2 ⟨rfl,b2⟩;have R2:=hidR (R1.out.below b2);have T2:=hidR (T1.out.below b2);clear b2 R1 T1
 by_cases h1:289792≤a
 ·have RD:=hidR R2.out.done;have RR:=hidR R2.out.row;have RB:=hidR R2.out.blk;clear R2;go_wp2_with (refine wpList_store_row rfl 50 _ _ rfl g _ rfl rfl 50 z6 RB.out (by kernel_rfl) rfl (by simp [Value.oneCell']) ?_);refine bodyPost_ret (results_cell_row (by rfl) _ _ g 50 _ (0,0) _ (by rfl) (RR.out _) Tryz.underlying50 rfl (by kernel_rfl)) (by rfl) ?_;exact⟨⟨_,.out a h1,rfl⟩,RD.out _⟩
 by_cases h2:a < 1024
 ·have RD:=hidR R2.out.done;have RR:=hidR R2.out.row;have RB:=hidR R2.out.blk;clear R2;have t2:a/1024 < 1:=by omega
  go_wp2_with (refine wpList_store_row rfl 50 _ _ rfl g _ rfl rfl 50 z6 RB.out (by kernel_rfl) rfl (by simp [Value.oneCell']) ?_);refine bodyPost_ret (results_cell_row (by rfl) _ _ g 50 _ (0,0) _ (by rfl) (RR.out _) Tryz.underlying50 rfl (by kernel_rfl)) (by rfl) ?_;exact⟨⟨_,.zero a ha0 h2,rfl⟩,RD.out _⟩
 have t2:1≤a/1024:=by omega
 go_wp2_with fail;refine (IS.out _ T2.out).mono ?_;rintro e w3 ⟨rfl,b3⟩;have R3:=hidR (R2.out.below b3);have T3:=hidR (T2.out.below b3);clear b3 R2 T2;have B4:Below w3.heap.size w3 ((w3.alloc (.cells zeroA 77)).setRow w3.heap.size (stA 12)):=Below.setRow ((Below.refl _ _).alloc (Nat.le_refl _) _) (Nat.le_refl _) _;have R4:=hidR (R3.out.below B4);have T4:=hidR (T3.out.below B4);have A3:=hidR (al_lastR w3 (.cells zeroA 77));have C4:Hid (∀ k:Nat,k < 13→((w3.alloc (.cells zeroA 77)).setRow w3.heap.size (stA 12)).cell? ⟨w3.heap.size,k,none⟩=some (Vi (rsN k))):=hidR (fun k hk=>by
  have h:=stA_get 12 k hk;rw [if_pos (by omega)] at h;have e:=row_set A3.out (stA 12);simp only [World.cell?,e];exact h)
 have hall:=hidR (show (stA 12).all (·.oneCell')=true by kernel_rfl);have hsz:=hidR (show zeroA.size=(stA 12).size by rw [stA_size];rfl);clear B4 R3 T3;generalize stA 12=A at C4 R4 T4 hall hsz ⊢;unfold zeroA at *
 by_cases h3:191488≤a
 ·have t3:187≤a/1024:=by omega
  go_wp2_with (first|(refine wpList_store_row rfl 77 _ _ rfl _ _ rfl rfl 77 _ A3.out (by kernel_rfl) hsz.out hall.out ?_;generalize World.setRow _ _ _=W4 at C4 R4 T4 ⊢;have c12:=C4.out 12 (by omega);rw [rsN_12] at c12)|(refine wpList_store_row rfl 50 _ _ rfl g _ rfl rfl 50 z6 R4.out.blk (by kernel_rfl) rfl (by simp [Value.oneCell']) ?_));refine bodyPost_ret (results_cell_row (by rfl) _ _ g 50 _ (0,0) _ (by rfl) (R4.out.row _) Tryz.underlying50 rfl (by kernel_rfl)) (by rfl) ?_;exact⟨⟨_,.large a h3 (by omega),rfl⟩,R4.out.done _⟩
 have t3:a/1024 < 187:=by omega
 go_wp2_with (first|(refine wpList_store_row rfl 77 _ _ rfl _ _ rfl rfl 77 _ A3.out (by kernel_rfl) hsz.out hall.out ?_;generalize World.setRow _ _ _=W4 at C4 R4 T4 ⊢;have c12:=C4.out 12 (by omega);rw [rsN_12] at c12)|(refine wpList_store_row rfl 50 _ _ rfl g _ rfl rfl 50 z6 R4.out.blk (by kernel_rfl) rfl (by simp [Value.oneCell']) ?_));have e1:decide (289792≤a)=false:=decide_eq_false (by omega);have e2:decide (a/1024 < 1)=false:=decide_eq_false (by omega);have e3:decide (187≤a/1024)=false:=decide_eq_false (by omega);simp only [e1,e2,e3];clear e1 e2 e3 hall hsz A3
 go_loop [6] (fun c=>∃ k:Nat,k < 12∧c=Vi k∧rsN k≤a/1024) (fun c=>12 - (intOf c).toNat)
 case atStart=>exact ⟨0,by omega,rfl,by simp only [rsN];omega⟩
 case round =>
  obtain⟨k,hk,rfl,hrk⟩:=hrel;have ck:=C4.out (k+1) (by omega);have ck0:=C4.out k (by omega);have hn1:=rsN_le k;have hst:=rsN_step k hk;have hpk:=pg_in (c:=(k:Int)) ⟨by omega,by omega⟩
  by_cases hgo:rsN (k+1)≤a/1024
  ·have hk1:k+1 < 12:=by
    apply Nat.lt_of_le_of_ne (by omega);intro e;rw [e,rsN_12] at hgo;omega
   have HG:=hidR hgo;generalize rsN (k+1)=r1 at ck hgo hst;clear hst;go_wp2
   go_round
   case rel=>exact ⟨k+1,hk1,by go_num,HG.out⟩
   case measure=>simp [intOf];omega
  have hb0:0≤(a/1024 - rsN k)*1024+a % 1024:=by omega
  have hb1:(a/1024 - rsN k)*1024+a % 1024 < 6*((pg (k:Int)+1)*1024):=by omega
  have IPk:=hidR (IP.out (k:Int) _ W4 T4.out ⟨by omega,by omega⟩ hb0 hb1);have HD:Hid (Dec a (plO (k:Int) (((a/1024 - rsN k)*1024+a % 1024)/((pg (k:Int)+1)*1024)) (((a/1024 - rsN k)*1024+a % 1024) % ((pg (k:Int)+1)*1024)))):=hidR (by
   have ers:rs (k:Int)=rsN k:=by rw [rs_in ⟨by omega,by omega⟩];rfl
   have key:Hit (a/1024) (k:Int) (((a/1024 - rsN k)*1024+a % 1024)/((pg (k:Int)+1)*1024))∧((a/1024 - rsN k)*1024+a % 1024) % ((pg (k:Int)+1)*1024)=a - (rs (k:Int)+(((a/1024 - rsN k)*1024+a % 1024)/((pg (k:Int)+1)*1024))*(pg (k:Int)+1))*1024:=by
    rw [ers];have:pg (k:Int)=1∨pg (k:Int)=2∨pg (k:Int)=3∨pg (k:Int)=4:=by omega
    generalize rsN (k+1)=r1 at *;clear IPk IP IA IS C4 R4 T4 ck ck0
    rcases this with e|e|e|e <;> rw [e] at hst hb1 ⊢<;> refine ⟨⟨by omega,by omega,by omega,by omega,by rw [ers,e];omega,by rw [ers,e];omega⟩,by omega⟩
   rw [key.2];exact .slab a _ _ (by omega) (by omega) key.1)
  obtain⟨cs,ecs,hcs,hone⟩:=plO_agg (k:Int) (((a/1024 - rsN k)*1024+a % 1024)/((pg (k:Int)+1)*1024)) (((a/1024 - rsN k)*1024+a % 1024) % ((pg (k:Int)+1)*1024));rw [ecs] at IPk HD;have hgo':a/1024 < rsN (k+1):=by omega
  generalize rsN (k+1)=r1 at ck hgo' hst;generalize rsN k=r0 at *;clear hst hgo;go_wp2_with fail;refine (IPk.out).mono ?_;rintro e w5 ⟨rfl,b5⟩;have R5:=hidR (R4.out.below b5);have hcz:=hidR (show z6.size=cs.size by rw [hcs];rfl);have hci:=hidR (show (Tryz.prog.info? 50).map (·.size)=some cs.size by rw [hcs];kernel_rfl);have HO:=hidR hone;clear b5 R4 T4 C4 ck ck0 c12 hcs hone;go_wp2_with (refine wpList_store_row rfl 50 _ _ rfl g cs rfl rfl 50 z6 R5.out.blk hci.out hcz.out HO.out ?_);refine bodyPost_ret (results_cell_row (by rfl) _ _ g 50 cs (0,0) _ (by rfl) (R5.out.row _) Tryz.underlying50 rfl hci.out) (by rfl) ?_;exact⟨⟨_,HD.out,rfl⟩,R5.out.done _⟩
end Go.Proofs.YtgandbaejlfppaaGreatDoor
namespace Go.Proofs.YtgandbaejlfppaaGreatDoor
set_option linter.unusedVariables false
set_option linter.unusedSimpArgs false
set_option maxRecDepth 20000
set_option maxHeartbeats 8000000
open Go.RowKit
structure Oin where
 o:Op6
 d:Option Addr
 dc:Nat
def opC6 (q:Oin):List Value:=[Vi q.o.kd,Vi q.o.ref,Vu (q.o.p:Nat),Vu (q.o.a:Nat),Vu (q.o.b:Nat),.slice q.d q.o.ys.length q.dc]
structure Ois (w:World) (A:Option Addr) (ops:List Oin):Prop where
 at_:∀ k q,ops[k]?=some q→∃ G,A=some ⟨G,0,none⟩∧G < w.heap.size∧∀ j u,(opC6 q)[j]?=some u→w.cell? ⟨G,k*6+j,none⟩=some u
 wf:∀ q∈ops,q.o.p < 18446744073709551616∧q.o.a < 18446744073709551616∧q.o.b < 18446744073709551616
 dat:∀ q∈ops,∀ i,i < q.o.ys.length→∃ x,q.d=some x∧w.cell? (x.add i)=some (.int .u8 (q.o.ys[i]?.getD 0))∧(x.add i).block < w.heap.size
theorem old_cell {w W:World} (b:Below w.heap.size w W) {x:Addr} {u:Value} (h:w.cell? x=some u):W.cell? x=some u:=below_cell b h
end Go.Proofs.YtgandbaejlfppaaGreatDoor
namespace Go.Proofs.YtgandbaejlfppaaGreatDoor
set_option linter.unusedVariables false
set_option linter.unusedSimpArgs false
set_option maxRecDepth 20000
set_option maxHeartbeats 8000000
open Go.RowKit Go.Shelf Go.Maps
structure Od6 (B : Nat) (q : Oin) (W : World) : Prop where
  p : q.o.p < 18446744073709551616
  a : q.o.a < 18446744073709551616
  b : q.o.b < 18446744073709551616
  d : W.ownsRow B 5 1 (.slice q.d q.o.ys.length q.dc) q.o.ys.length (Ns .u8 q.o.ys)
structure Ob6 (w0 : World) (a : Option Addr) (len cap R : Nat) (b0 : World) (X Y : Nat) (q : Oin) (W : World) : Prop where
  rd : Rd w0 a len cap R b0 W
  rn : R < b0.heap.size
  x : W.heap[X]? = some (.cells (opC6 q).toArray 42 (0, 0))
  xn : b0.heap.size ≤ X
  y : W.heap[Y]? = some (.cells #[.int .i64 0, .int .i64 0, .int .u64 0, .int .u64 0, .int .u64 0, .slice none 0 0] 42 (0, 0))
  yn : b0.heap.size ≤ Y
  xy : X ≠ Y
  od : Od6 b0.heap.size q W
theorem own_neT {W : World} {b : Nat} {e t : TypeId} {sz : Nat} {v : Value} {n : Nat} {xs : List Value} (h : W.ownsRow b e sz v n xs) {X : Nat} {cs : Array Value} {f : Nat × Nat} (hx : W.heap[X]? = some (.cells cs t f)) (hne : e ≠ t) : v.ownBlock ≠ some X := fun e' => by
  rcases h.2 with ⟨h1, _⟩ | ⟨g, cap, cur, h1, h2, h3, _⟩
  · rw [h1] at e'; cases e'
  · rw [h1] at e'
    have : g = X := by simpa [Value.ownBlock] using e'
    subst this
    rw [hx] at h3
    simp at h3
    exact hne h3.2.1.symm
theorem Od6.kept {B : Nat} {q : Oin} {W W' : World} (h : Od6 B q W) {r : Nat} (g : W.grownBy W' (some r)) (hr : (Value.slice q.d q.o.ys.length q.dc).ownBlock ≠ some r) : Od6 B q W' := ⟨h.p, h.a, h.b, h.d.kept g (.inr hr)⟩
theorem Ob6.upd {w0 : World} {a : Option Addr} {len cap R : Nat} {b0 W : World} {X Y : Nat} {q : Oin} (h : Ob6 w0 a len cap R b0 X Y q W) (i : Nat) (v : Value) (q' : Oin) (ho : opC6 q' = (opC6 q).set i v) (hd : Od6 b0.heap.size q' W) : Ob6 w0 a len cap R b0 X Y q' (W.setCell ⟨X, i, none⟩ v) := by
  have hR := h.rn
  have hg : W.grownBy (W.setCell ⟨X, i, none⟩ v) (some X) := grown_set (grown_refl W X) i v
  have hx := h.xn
  refine ⟨h.rd.app hg (fun r e => by cases e; omega), hR, ?_, h.xn, ?_, h.yn, h.xy, hd.kept hg (own_neT hd.d h.x (by decide))⟩
  · rw [ho]
    simp [World.setCell, Array.getElem?_modify, h.x]
  · rw [hg.block Y (lt_blk h.y) (fun e => by cases e; exact h.xy rfl)]
    exact h.y
theorem Ob6.next {w0 : World} {a : Option Addr} {len cap R : Nat} {b0 W W' : World} {X Y : Nat} {q : Oin} (h : Ob6 w0 a len cap R b0 X Y q W) (rd : Rd w0 a len cap R W W') : Ob6 w0 a len cap R b0 X Y q W' := by
  have hR := h.rn
  have hx := h.xn
  have hy := h.yn
  refine ⟨h.rd.of rd, hR, ?_, h.xn, ?_, h.yn, h.xy, h.od.kept rd.g (fun e => by have := (h.od.d.lt R e).1; omega)⟩
  · rw [rd.g.block X (lt_blk h.x) (fun e => by cases e; omega)]; exact h.x
  · rw [rd.g.block Y (lt_blk h.y) (fun e => by cases e; omega)]; exact h.y
theorem Ob6.below {w0 : World} {a : Option Addr} {len cap R : Nat} {b0 W W' : World} {X Y : Nat} {q : Oin} (h : Ob6 w0 a len cap R b0 X Y q W) (hb : Below W.heap.size W W') : Ob6 w0 a len cap R b0 X Y q W' := h.next (h.rd.at.below hb)
theorem Ob6.drew {w0 : World} {a : Option Addr} {len cap R : Nat} {b0 W : World} {X Y : Nat} {q : Oin} (h : Ob6 w0 a len cap R b0 X Y q W) : Ob6 w0 a len cap R b0 X Y q W.drew := h.below (Below.refl _ _).drew
theorem Ob6.cells {w0 : World} {a : Option Addr} {len cap R : Nat} {b0 W : World} {X Y : Nat} {q : Oin} (h : Ob6 w0 a len cap R b0 X Y q W) : W.cell? ⟨X, 0, none⟩ = some (.int .i64 q.o.kd) ∧ W.cell? ⟨X, 1, none⟩ = some (.int .i64 q.o.ref) ∧ W.cell? ⟨X, 2, none⟩ = some (.int .u64 (q.o.p : Nat)) ∧ W.cell? ⟨X, 3, none⟩ = some (.int .u64 (q.o.a : Nat)) ∧ W.cell? ⟨X, 4, none⟩ = some (.int .u64 (q.o.b : Nat)) ∧ W.cell? ⟨X, 5, none⟩ = some (.slice q.d q.o.ys.length q.dc) := by
  have := h.x
  simp [World.cell?, this, opC6]
theorem Ob6.fr {w0 : World} {a : Option Addr} {len cap R : Nat} {b0 W : World} {X Y : Nat} {q : Oin} (h : Ob6 w0 a len cap R b0 X Y q W) (i : Nat) : W.frozen? ⟨X, i, none⟩ = false := by simp [World.frozen?, h.x]
theorem Ob6.setKd {w0 : World} {a : Option Addr} {len cap R : Nat} {b0 W : World} {X Y : Nat} {q : Oin} (h : Ob6 w0 a len cap R b0 X Y q W) (x : Int) : Ob6 w0 a len cap R b0 X Y { q with o := { q.o with kd := x } } (W.setCell ⟨X, 0, none⟩ (.int .i64 x)) := h.upd 0 _ _ rfl ⟨h.od.p, h.od.a, h.od.b, h.od.d⟩
theorem Ob6.setRef {w0 : World} {a : Option Addr} {len cap R : Nat} {b0 W : World} {X Y : Nat} {q : Oin} (h : Ob6 w0 a len cap R b0 X Y q W) (x : Int) : Ob6 w0 a len cap R b0 X Y { q with o := { q.o with ref := x } } (W.setCell ⟨X, 1, none⟩ (.int .i64 x)) := h.upd 1 _ _ rfl ⟨h.od.p, h.od.a, h.od.b, h.od.d⟩
theorem Ob6.setP {w0 : World} {a : Option Addr} {len cap R : Nat} {b0 W : World} {X Y : Nat} {q : Oin} (h : Ob6 w0 a len cap R b0 X Y q W) (x : Int) (h0 : 0 ≤ x) (h1 : x ≤ 18446744073709551615) : Ob6 w0 a len cap R b0 X Y { q with o := { q.o with p := x.toNat } } (W.setCell ⟨X, 2, none⟩ (.int .u64 x)) := by
  obtain ⟨n, rfl⟩ := Int.eq_ofNat_of_zero_le h0
  exact h.upd 2 _ _ rfl ⟨by show n < _; omega, h.od.a, h.od.b, h.od.d⟩
theorem Ob6.setA {w0 : World} {a : Option Addr} {len cap R : Nat} {b0 W : World} {X Y : Nat} {q : Oin} (h : Ob6 w0 a len cap R b0 X Y q W) (x : Int) (h0 : 0 ≤ x) (h1 : x ≤ 18446744073709551615) : Ob6 w0 a len cap R b0 X Y { q with o := { q.o with a := x.toNat } } (W.setCell ⟨X, 3, none⟩ (.int .u64 x)) := by
  obtain ⟨n, rfl⟩ := Int.eq_ofNat_of_zero_le h0
  exact h.upd 3 _ _ rfl ⟨h.od.p, by show n < _; omega, h.od.b, h.od.d⟩
theorem Ob6.setB {w0 : World} {a : Option Addr} {len cap R : Nat} {b0 W : World} {X Y : Nat} {q : Oin} (h : Ob6 w0 a len cap R b0 X Y q W) (x : Int) (h0 : 0 ≤ x) (h1 : x ≤ 18446744073709551615) : Ob6 w0 a len cap R b0 X Y { q with o := { q.o with b := x.toNat } } (W.setCell ⟨X, 4, none⟩ (.int .u64 x)) := by
  obtain ⟨n, rfl⟩ := Int.eq_ofNat_of_zero_le h0
  exact h.upd 4 _ _ rfl ⟨h.od.p, h.od.a, by show n < _; omega, h.od.d⟩
theorem Ob6.setD {w0 : World} {a : Option Addr} {len cap R : Nat} {b0 W : World} {X Y : Nat} {q : Oin} (h : Ob6 w0 a len cap R b0 X Y q W) (d : Option Addr) (dc : Nat) (ys : List Int) (hd : W.ownsRow b0.heap.size 5 1 (.slice d ys.length dc) ys.length (Ns .u8 ys)) : Ob6 w0 a len cap R b0 X Y ⟨{ q.o with ys := ys }, d, dc⟩ (W.setCell ⟨X, 5, none⟩ (.slice d ys.length dc)) := h.upd 5 _ _ rfl ⟨h.od.p, h.od.a, h.od.b, hd⟩
theorem Ob6.row {w0 : World} {a : Option Addr} {len cap R : Nat} {b0 W : World} {X Y : Nat} {q : Oin} (h : Ob6 w0 a len cap R b0 X Y q W) (kd x y : Int) (h0 : 0 ≤ x) (h1 : x ≤ 18446744073709551615) (h2 : 0 ≤ y) (h3 : y ≤ 18446744073709551615) : Ob6 w0 a len cap R b0 X Y ⟨⟨kd, 0, 0, x.toNat, y.toNat, []⟩, none, 0⟩ (W.setRow X #[.int .i64 kd, .int .i64 0, .int .u64 0, .int .u64 x, .int .u64 y, .slice none 0 0]) := by
  obtain ⟨n, rfl⟩ := Int.eq_ofNat_of_zero_le h0
  obtain ⟨m, rfl⟩ := Int.eq_ofNat_of_zero_le h2
  have hR := h.rn
  have hx := h.xn
  have hg : W.grownBy (W.setRow X #[.int .i64 kd, .int .i64 0, .int .u64 0, .int .u64 (n : Int), .int .u64 (m : Int), .slice none 0 0]) (some X) := grown_setRow W X _
  refine ⟨h.rd.app hg (fun r e => by cases e; omega), hR, ?_, h.xn, ?_, h.yn, h.xy, ⟨by show 0 < _; omega, by show n < _; omega, by show m < _; omega, ⟨rfl, .inl ⟨rfl, rfl⟩⟩⟩⟩
  · exact setRow_at h.x _
  · rw [hg.block Y (lt_blk h.y) (fun e => by cases e; exact h.xy rfl)]
    exact h.y
end Go.Proofs.YtgandbaejlfppaaGreatDoor
namespace Go.Proofs.YtgandbaejlfppaaGreatDoor
set_option linter.unusedVariables false
set_option linter.unusedSimpArgs false
set_option maxRecDepth 20000
set_option maxHeartbeats 8000000
open Go.RowKit Go.Shelf Go.Maps
structure Cd where
  mi : Int
  fi : Int
  la : Int
  bu : Int
  ky : Int
  ds : List Int
  da : Option Addr
  dc : Nat
def cdC (c : Cd) : List Value := [.int .i64 c.mi, .int .i64 c.fi, .int .i64 c.la, .int .i64 c.bu, .int .u64 c.ky, .slice c.da c.ds.length c.dc]
structure Ok4 (B : Nat) (c : Cd) (W : World) : Prop where
  k0 : 0 ≤ c.ky
  k1 : c.ky ≤ 18446744073709551615
  dw : ∀ x ∈ c.ds, -40 ≤ x ∧ x ≤ 215
  d : W.ownsRow B 3 1 (.slice c.da c.ds.length c.dc) c.ds.length (Ns .i64 c.ds)
structure Ch (w0 : World) (a : Option Addr) (len cap R : Nat) (b0 : World) (X Y : Nat) (c : Cd) (W : World) : Prop where
  rd : Rd w0 a len cap R b0 W
  rn : R < b0.heap.size
  x : W.heap[X]? = some (.cells (cdC c).toArray 26 (0, 0))
  xn : b0.heap.size ≤ X
  y : W.heap[Y]? = some (.cells #[.int .i64 0, .int .i64 0, .int .i64 0, .int .i64 0, .int .u64 0, .slice none 0 0] 26 (0, 0))
  yn : b0.heap.size ≤ Y
  xy : X ≠ Y
  od : Ok4 b0.heap.size c W
theorem Ok4.kept {B : Nat} {c : Cd} {W W' : World} (h : Ok4 B c W) {r : Nat} (g : W.grownBy W' (some r)) (hr : (Value.slice c.da c.ds.length c.dc).ownBlock ≠ some r) : Ok4 B c W' := ⟨h.k0, h.k1, h.dw, h.d.kept g (.inr hr)⟩
theorem Ch.upd {w0 : World} {a : Option Addr} {len cap R : Nat} {b0 W : World} {X Y : Nat} {c : Cd} (h : Ch w0 a len cap R b0 X Y c W) (i : Nat) (v : Value) (c' : Cd) (ho : cdC c' = (cdC c).set i v) (hd : Ok4 b0.heap.size c' W) : Ch w0 a len cap R b0 X Y c' (W.setCell ⟨X, i, none⟩ v) := by
  have hR := h.rn
  have hg : W.grownBy (W.setCell ⟨X, i, none⟩ v) (some X) := grown_set (grown_refl W X) i v
  have hx := h.xn
  refine ⟨h.rd.app hg (fun r e => by cases e; omega), hR, ?_, h.xn, ?_, h.yn, h.xy, hd.kept hg (own_neT hd.d h.x (by decide))⟩
  · rw [ho]
    simp [World.setCell, Array.getElem?_modify, h.x]
  · rw [hg.block Y (lt_blk h.y) (fun e => by cases e; exact h.xy rfl)]
    exact h.y
theorem Ch.next {w0 : World} {a : Option Addr} {len cap R : Nat} {b0 W : World} {X Y : Nat} {c : Cd} (h : Ch w0 a len cap R b0 X Y c W) {W' : World} (rd : Rd w0 a len cap R W W') : Ch w0 a len cap R b0 X Y c W' := by
  have hR := h.rn
  have hx := h.xn
  have hy := h.yn
  refine ⟨h.rd.of rd, hR, ?_, h.xn, ?_, h.yn, h.xy, h.od.kept rd.g (fun e => by have := (h.od.d.lt R e).1; omega)⟩
  · rw [rd.g.block X (lt_blk h.x) (fun e => by cases e; omega)]; exact h.x
  · rw [rd.g.block Y (lt_blk h.y) (fun e => by cases e; omega)]; exact h.y
theorem Ch.below {w0 : World} {a : Option Addr} {len cap R : Nat} {b0 W : World} {X Y : Nat} {c : Cd} (h : Ch w0 a len cap R b0 X Y c W) {W' : World} (hb : Below W.heap.size W W') : Ch w0 a len cap R b0 X Y c W' := h.next (h.rd.at.below hb)
theorem Ch.drew {w0 : World} {a : Option Addr} {len cap R : Nat} {b0 W : World} {X Y : Nat} {c : Cd} (h : Ch w0 a len cap R b0 X Y c W) : Ch w0 a len cap R b0 X Y c W.drew := h.below (Below.refl _ _).drew
theorem Ch.cells {w0 : World} {a : Option Addr} {len cap R : Nat} {b0 W : World} {X Y : Nat} {c : Cd} (h : Ch w0 a len cap R b0 X Y c W) : W.cell? ⟨X, 0, none⟩ = some (.int .i64 c.mi) ∧ W.cell? ⟨X, 1, none⟩ = some (.int .i64 c.fi) ∧ W.cell? ⟨X, 2, none⟩ = some (.int .i64 c.la) ∧ W.cell? ⟨X, 3, none⟩ = some (.int .i64 c.bu) ∧ W.cell? ⟨X, 4, none⟩ = some (.int .u64 c.ky) ∧ W.cell? ⟨X, 5, none⟩ = some (.slice c.da c.ds.length c.dc) := by
  have := h.x
  simp [World.cell?, this, cdC]
theorem Ch.fr {w0 : World} {a : Option Addr} {len cap R : Nat} {b0 W : World} {X Y : Nat} {c : Cd} (h : Ch w0 a len cap R b0 X Y c W) (i : Nat) : W.frozen? ⟨X, i, none⟩ = false := by simp [World.frozen?, h.x]
theorem Ch.setMi {w0 : World} {a : Option Addr} {len cap R : Nat} {b0 W : World} {X Y : Nat} {c : Cd} (h : Ch w0 a len cap R b0 X Y c W) (x : Int) : Ch w0 a len cap R b0 X Y { c with mi := x } (W.setCell ⟨X, 0, none⟩ (.int .i64 x)) := h.upd 0 _ _ rfl ⟨h.od.k0, h.od.k1, h.od.dw, h.od.d⟩
theorem Ch.setFi {w0 : World} {a : Option Addr} {len cap R : Nat} {b0 W : World} {X Y : Nat} {c : Cd} (h : Ch w0 a len cap R b0 X Y c W) (x : Int) : Ch w0 a len cap R b0 X Y { c with fi := x } (W.setCell ⟨X, 1, none⟩ (.int .i64 x)) := h.upd 1 _ _ rfl ⟨h.od.k0, h.od.k1, h.od.dw, h.od.d⟩
theorem Ch.setLa {w0 : World} {a : Option Addr} {len cap R : Nat} {b0 W : World} {X Y : Nat} {c : Cd} (h : Ch w0 a len cap R b0 X Y c W) (x : Int) : Ch w0 a len cap R b0 X Y { c with la := x } (W.setCell ⟨X, 2, none⟩ (.int .i64 x)) := h.upd 2 _ _ rfl ⟨h.od.k0, h.od.k1, h.od.dw, h.od.d⟩
theorem Ch.setBu {w0 : World} {a : Option Addr} {len cap R : Nat} {b0 W : World} {X Y : Nat} {c : Cd} (h : Ch w0 a len cap R b0 X Y c W) (x : Int) : Ch w0 a len cap R b0 X Y { c with bu := x } (W.setCell ⟨X, 3, none⟩ (.int .i64 x)) := h.upd 3 _ _ rfl ⟨h.od.k0, h.od.k1, h.od.dw, h.od.d⟩
theorem wrap64D (x : Int) (h1 : -9223372036854775808 ≤ x) (h2 : x ≤ 9223372036854775807) : IntKind.i64.wrap x = x := by
  show (if (true && decide ((9223372036854775808 : Int) ≤ x % 18446744073709551616)) = true then x % 18446744073709551616 - 18446744073709551616 else x % 18446744073709551616) = x
  by_cases h : (9223372036854775808 : Int) ≤ x % 18446744073709551616
  · rw [if_pos (by simp [h])]; omega
  · rw [if_neg (by simp [h])]; omega
theorem wp_region_drewD {P : Program} {ops : Array Oper} {Q : Exit → Act → World → Prop} {id : Nat} {a : Act} {w : World} (hm : P.follows .mixedOrders = true)
    (h : wpAny P .any ops Q ops.size (Array.replicate ops.size false) a w.drew) : (Code.region id ops true).wp P Q a w := wp_region_any hm h
theorem info3D : (Tryz.prog.info? 3).map (fun i => (i.zero, i.size, i.bytes)) = some (some (.int .i64 0), 1, 8) := by kernel_rfl
theorem wpo_appD (t : TypeId) {o : Oper} {a : Act} {W W' : World} {K : Act → World → Prop} {Q : Exit → Act → World → Prop} (s x : Operand) {v v2 v' : Value} (hop : o.op = .call { callee := .builtin .append, args := #[s, x], argTypes := #[t, t] }) (ht : o.type = t) (hs : a.eval s = v) (hx : a.eval x = v2)
    (hr : (Builtin.append_ #[t, t] t #[v, v2]).run Tryz.prog W = .ok v' W') (hK : K (a.put o.dst v') W') : Oper.wp Tryz.prog o a W K Q := by
  unfold Oper.wp
  simp [execOp, hop, ht, resolve, invoke, builtin, hs, hx, hr, Result.andThen]
  exact hK
theorem own_lenE {W : World} {b : Nat} {e : TypeId} {sz : Nat} {d : Option Addr} {l c : Nat} {n : Nat} {xs : List Value} (h : W.ownsRow b e sz (.slice d l c) n xs) : l = n := by
  rcases h.2 with ⟨h2, h3⟩ | ⟨g, cap, cur, h1, _⟩
  · simp at h2; omega
  · simp at h1; omega
theorem Ch.app {w0 : World} {a : Option Addr} {len cap R : Nat} {b0 W : World} {X Y : Nat} {c : Cd} (h : Ch w0 a len cap R b0 X Y c W) (hl : c.ds.length ≤ 1000) (d : Int) (hd : -40 ≤ d ∧ d ≤ 215) : ∃ da' dc' w',
    (Builtin.append_ #[24, 24] 24 #[.slice c.da c.ds.length c.dc, .slice (some ⟨W.heap.size, 0, none⟩) 1 1]).run Tryz.prog (W.alloc (.cells #[.int .i64 d] 3)) = .ok (.slice da' (c.ds.length + 1) dc') w' ∧
    w'.frozen? ⟨X, 5, none⟩ = false ∧ w'.cell? ⟨X, 5, none⟩ = some (.slice c.da c.ds.length c.dc) ∧ Ch w0 a len cap R b0 X Y { c with ds := c.ds ++ [d], da := da', dc := dc' } (w'.setCell ⟨X, 5, none⟩ (.slice da' (c.ds.length + 1) dc')) := by
  obtain ⟨i0, hi0, hz0, hz1, hz2⟩ := info_parts info3D
  have bA := (Below.refl W.heap.size W).alloc (Nat.le_refl _) (.cells #[.int .i64 d] 3)
  have h1 := h.below bA
  have hs := h1.rd.g.size
  obtain ⟨v', w', e1, e2, e3, _⟩ := run_append_own_at (P := Tryz.prog) (w := W.alloc (.cells #[.int .i64 d] 3)) b0.heap.size 24 24 3 i0 _ 1 8 Tryz.underlying24 hi0 hz0 hz1 hz2 rfl (by omega) _ _ _ h1.od.d ⟨W.heap.size, 0, none⟩ 1 1 [.int .i64 d] rfl (one_new _ _ _ _ rfl) (by intro u hu; simp at hu; subst hu; rfl) (by unfold maxLen; omega) (by omega) hs
  obtain ⟨da', l', dc', rfl⟩ := own_slD e2
  obtain rfl := own_lenE e2
  have hR := h.rn
  have hx := h.xn
  have hb : ∀ r, (Value.slice c.da c.ds.length c.dc).ownBlock = some r → b0.heap.size ≤ r ∧ R < r := fun r e => by have := (h.od.d.lt r e).1; omega
  have hX : (Value.slice c.da c.ds.length c.dc).ownBlock ≠ some X := own_neT h.od.d h.x (by decide)
  have hY : (Value.slice c.da c.ds.length c.dc).ownBlock ≠ some Y := own_neT h.od.d h.y (by decide)
  have x9 : w'.heap[X]? = some (.cells (cdC c).toArray 26 (0, 0)) := by rw [e3.block X (lt_blk h1.x) (fun e => hX e.symm)]; exact h1.x
  have y9 : w'.heap[Y]? = some (.cells #[.int .i64 0, .int .i64 0, .int .i64 0, .int .i64 0, .int .u64 0, .slice none 0 0] 26 (0, 0)) := by rw [e3.block Y (lt_blk h1.y) (fun e => hY e.symm)]; exact h1.y
  have rd9 := h1.rd.app e3 hb
  have hg : w'.grownBy (w'.setCell ⟨X, 5, none⟩ (.slice da' (c.ds.length + 1) dc')) (some X) := grown_set (grown_refl w' X) 5 _
  have o9 : w'.ownsRow b0.heap.size 3 1 (.slice da' (c.ds.length + 1) dc') (c.ds ++ [d]).length (Ns .i64 (c.ds ++ [d])) := by simpa [Ns] using e2
  refine ⟨da', dc', w', e1, by simp [World.frozen?, x9], by simp [World.cell?, x9, cdC], ⟨rd9.app hg (fun r e => by cases e; omega), hR, ?_, h.xn, ?_, h.yn, h.xy, ⟨h.od.k0, h.od.k1, ?_, ?_⟩⟩⟩
  · simp [World.setCell, Array.getElem?_modify, x9, cdC]
  · rw [hg.block Y (lt_blk y9) (fun e => by cases e; exact h.xy rfl)]; exact y9
  · intro x hx'
    rcases List.mem_append.1 hx' with hx' | hx'
    · exact h.od.dw x hx'
    · obtain rfl := List.mem_singleton.1 hx'; exact hd
  · have : (Value.slice da' (c.ds ++ [d]).length dc') = .slice da' (c.ds.length + 1) dc' := by simp
    show World.ownsRow _ _ _ _ (Value.slice da' (c.ds ++ [d]).length dc') _ _
    rw [this]
    exact o9.kept hg (.inr (own_neT o9 x9 (by decide)))
end Go.Proofs.YtgandbaejlfppaaGreatDoor
