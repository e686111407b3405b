import Derived.Test.YtgandbaejlfppaaGreatDoorM01
namespace Go.Proofs.YtgandbaejlfppaaGreatDoor
set_option linter.unusedVariables false
set_option linter.unusedSimpArgs false
set_option maxRecDepth 20000
set_option maxHeartbeats 8000000
open Go.ChangeShapes Go.WideShapes Go.ChangeAt Go.RowKit
theorem Tryz.info5By:(Tryz.prog.info? 5).map (fun i=>(i.zero,i.size,i.bytes))=some (some (.int .u8 0),1,1):=by kernel_rfl
end Go.Proofs.YtgandbaejlfppaaGreatDoor
namespace Go.Proofs.YtgandbaejlfppaaGreatDoor
set_option linter.unusedVariables false
set_option linter.unusedSimpArgs false
set_option maxRecDepth 20000
set_option maxHeartbeats 8000000
open Go.RowKit Go.Shelf
attribute [local go_sem] Oper.semAt_some
def goneM (m:Nat→Option (Bool×List Int)) (first:Nat):Nat→(Nat→Option (Bool×List Int))
 | 0=>m
 | k+1=>updM (goneM m first k) (first+k) none
theorem Pg.drop {f:Nat→Option Nat} {m:Nat→Option (Bool×List Int)} {W:World} (h:Pg f m W) (k:Nat):Pg (upd f k none) (updM m k none) W:=by
 constructor
 ·intro j
  by_cases e:j=k
  ·subst e;exact .inl ⟨upd_same _ _ _,updM_same _ _ _⟩
  rw [updM_other m k j _ e,upd_other f k j _ e];exact h.at' j
 intro i j b ei ej
 by_cases e:i=k
 ·subst e;rw [upd_same] at ei;cases ei
 by_cases e2:j=k
 ·subst e2;rw [upd_same] at ej;cases ej
 rw [upd_other f k i _ e] at ei;rw [upd_other f k j _ e2] at ej;exact h.inj i j b ei ej
theorem Pg.without {f:Nat→Option Nat} {m:Nat→Option (Bool×List Int)} {W:World} (h:Pg f m W) (first:Nat):∀ k,Pg (without f first k) (goneM m first k) W
 | 0=>h
 | k+1=>(Pg.without h first k).drop (first+k)
theorem Pg.turned {f:Nat→Option Nat} {m:Nat→Option (Bool×List Int)} {W W':World} {M:Nat} (h:Pg f m W) (hM:∀ k b,f k=some b→b≠M) (ht:W.mapTurned W' M):Pg f m W':=by
 refine⟨?_,h.inj⟩;intro j
 rcases h.at' j with h1|⟨b,l,xs,h1,h2,h3,h4⟩
 ·exact .inl h1
 exact .inr ⟨b,l,xs,h1,h2,h3,by rw [turned_other ht (hM j b h1)];exact h4⟩
theorem without_some {f:Nat→Option Nat} {first:Nat} : ∀ {k j b:Nat},without f first k j=some b→f j=some b
 | 0,_,_,h=>h
 | k+1,j,b,h=>by
  simp only [without] at h
  by_cases e:j=first+k
  ·subst e;rw [upd_same] at h;cases h
  rw [upd_other _ _ _ _ e] at h
  exact without_some h
theorem Fr.without {S M:Nat} {f:Nat→Option Nat} {W W':World} (first k:Nat) (ht:W.mapTurned W' M):Fr S M f (without f first k) W W':=by
 have h:=(Fr.refl S M f W).turned ht;exact⟨h.os,h.tape,h.output,h.size,h.block,fun j g e=>.inl ⟨j,without_some e⟩⟩
theorem decommit_all (S M:Nat) (st n bud:Int) (f:Nat→Option Nat) (m:Nat→Option (Bool×List Int)) (first count:Nat) (w:World) (h:Im S M st n bud f w) (hp:Pg f m w) (hn:0≤n) (hn':n≤4096) (hin:insideB n first count=true) (hall:heldN f first count=count) :
  Calls Tryz.prog 126 #[Vp S 0,Vi first,Vi count] w fun e w'=>e=.returned (Vi 0)∧∃ f',Im S M st n bud f' w'∧Pg f' (goneM m first count) w'∧Fr S M f f' w w':=by
 refine (decommit_yes S M st n bud f first count w h hn hn' hin hall).mono ?_;rintro e w' ⟨rfl,h1,h2⟩;exact⟨rfl,_,h1,(hp.without first count).turned (fun k b e=>(hp.apart h (without_some e)).2) h2,Fr.without first count h2⟩
end Go.Proofs.YtgandbaejlfppaaGreatDoor
namespace Go.Proofs.YtgandbaejlfppaaGreatDoor
set_option linter.unusedVariables false
set_option linter.unusedSimpArgs false
set_option maxRecDepth 20000
set_option maxHeartbeats 8000000
open Go.RowKit Go.Shelf
def reachN (m:Nat→Option (Bool×List Int)) (a:Nat):Nat→Bool
 | 0=>true
 | k+1=>reachN m a k && isOpen (m ((a+k)/1024))
theorem reachN_all {m:Nat→Option (Bool×List Int)} {a:Nat} : ∀ {N:Nat},reachN m a N=true→∀ k,k < N→isOpen (m ((a+k)/1024))=true
 | 0,_,k,hk=>by omega
 | N+1,h,k,hk=>by
  simp only [reachN,Bool.and_eq_true] at h
  by_cases e:k=N
  ·subst e;exact h.2
  exact reachN_all h.1 k (by omega)
theorem reachN_of {m:Nat→Option (Bool×List Int)} {a:Nat} : ∀ {N:Nat},(∀ k,k < N→isOpen (m ((a+k)/1024))=true)→reachN m a N=true
 | 0,_=>rfl
 | N+1,h=>by
  simp only [reachN]
  rw [reachN_of (fun k hk=>h k (by omega)),h N (by omega)]
  rfl
theorem openN_of {m:Nat→Option (Bool×List Int)} {p:Nat} : ∀ {N:Nat},(∀ k,k < N→isOpen (m (p+k))=true)→openN m p N=true
 | 0,_=>rfl
 | N+1,h=>by
  simp only [openN]
  rw [openN_of (fun k hk=>h k (by omega)),h N (by omega)]
  rfl
theorem reach_open (m:Nat→Option (Bool×List Int)) (a n:Nat) (hn:1≤n):openN m (a/1024) ((a+(n - 1))/1024+1 - a/1024)=reachN m a n:=by
 cases hr:reachN m a n
 ·cases ho:openN m (a/1024) ((a+(n - 1))/1024+1 - a/1024)
  ·rfl
  exfalso;have:reachN m a n=true:=reachN_of (fun k hk=>by
   have h1:=openN_all ho ((a+k)/1024 - a/1024) (by omega)
   rwa [show a/1024+((a+k)/1024 - a/1024)=(a+k)/1024 by omega] at h1)
  rw [hr] at this
  cases this
 refine openN_of (fun k hk=>?_)
 by_cases e:k=0
 ·have h1:=reachN_all hr 0 (by omega);subst e;simpa using h1
 have h1:=reachN_all hr ((a/1024+k)*1024 - a) (by omega)
 rwa [show (a+((a/1024+k)*1024 - a))/1024=a/1024+k by omega] at h1
end Go.Proofs.YtgandbaejlfppaaGreatDoor
namespace Go.Proofs.YtgandbaejlfppaaGreatDoor
set_option linter.unusedVariables false
set_option linter.unusedSimpArgs false
set_option maxRecDepth 20000
set_option maxHeartbeats 8000000
open Go.RowKit Go.Shelf
theorem own_type {W:World} {base:Nat} {e:TypeId} {size:Nat} {v:Value} {n:Nat} {xs:List Value} (h:W.ownsRow base e size v n xs) {g:Nat} (hg:v.ownBlock=some g):∃ c,W.heap[g]?=some (.cells c e (0,0)):=by
 rcases h.2 with ⟨rfl,_⟩|⟨g',cap,cur,rfl,hb,hgg,_⟩
 ·cases hg
 cases hg;exact⟨_,hgg⟩
end Go.Proofs.YtgandbaejlfppaaGreatDoor
namespace Go.Proofs.YtgandbaejlfppaaGreatDoor
set_option linter.unusedVariables false
set_option linter.unusedSimpArgs false
set_option maxRecDepth 20000
set_option maxHeartbeats 8000000
open Go.ChangeShapes Go.WideShapes Go.ChangeAt Go.RowKit
def cx (a b:Int):Int:=IntKind.u64.wrap (bits BinOp.xor IntKind.u64 a b*11400714819323198485)
theorem cx_bounds (a b:Int):0≤cx a b∧cx a b < 18446744073709551616:=by
 unfold cx;simp only [IntKind.wrap,IntKind.signed,IntKind.bits];constructor <;> simp <;> omega
def cb (x:Int) (k:Nat):Int:=if x/2 ^ (8*k) % 256 < 1 then 1 else x/2 ^ (8*k) % 256
def cRow (x:Int):List Int:=(List.range 8).map fun j=>if j=0 then 0 else cb x j
theorem cRow_len (x:Int):(cRow x).length=8:=by simp [cRow]
theorem cRow_get (x:Int) (k:Nat) (h1:1≤k) (h:k < 8):(cRow x)[k]?=some (cb x k):=by
 simp [cRow,h,show k≠0 by omega]
theorem cRow_zero (x:Int):(cRow x)[0]?=some 0:=by simp [cRow]
theorem cRow_take (x:Int) (k:Nat) (h1:1≤k) (h:k < 8):(cRow x).take (k+1)=(cRow x).take k++[cb x k]:=by
 rw [List.take_add_one,cRow_get x k h1 h];rfl
theorem cb_ge (x:Int) (k:Nat):1≤cb x k∧cb x k < 256:=by
 unfold cb;generalize x/2 ^ (8*k)=y
 split <;> omega
theorem impl_any (a b:Int) (w:World) (wa:0≤a) (wb:a < 18446744073709551616) (xa:0≤b) (xb:b < 18446744073709551616) :
  Calls Tryz.prog 71 #[Vu a,Vu b] w fun e w'=>e=.returned (Vl w.heap.size 8 8)∧RowV w' w.heap.size 5 (Ns .u8 (cRow (cx a b)))∧Below w.heap.size w w':=by
 obtain⟨i0,hi,hz0,hz1,hz2⟩:=info_parts Tryz.info5By;obtain⟨hx1,hx2⟩:=cx_bounds a b;unfold cx at hx1 hx2 ⊢;go_enter Tryz.func71,Tryz.ntmps71;go_wp2_with (at_make;refine wpList_make_full _ rfl _ _ 22 rfl w.heap.size 5 i0 (.int .u8 0) 1 Tryz.underlying22 hi hz0 hz1 .i64 .i64 _ _ 8 rfl rfl rfl rfl ?c1 ?c2 ?c3 ?_)
 case c1=>rw [hz2];omega
 case c2=>unfold maxLen;omega
 case c3=>exact Nat.le_refl _
 intro w1 hown hgrow;have hR:RowV w1 w.heap.size 5 (Ns .u8 (List.replicate 8 0)):=by
  have:=RowV.ofOwns hown;simpa [Ns,toList_madeCells_one,Value.cells] using this
 have hB:Below w.heap.size w w1:=(Below.refl _ w).grown hgrow (Nat.le_refl _) (by simp);clear hown hgrow;go_wp2;generalize hxx:IntKind.u64.wrap (bits BinOp.xor IntKind.u64 a b*11400714819323198485)=x at *;have HX:=hid hxx;clear hxx;go_loopw [7] (fun i wr=>∃ (k:Nat) (ys:List Int),1≤k∧k≤8∧i=Vi k∧Agree ys (cRow x) k∧RowV wr w.heap.size 5 (Ns .u8 ys)∧Below w.heap.size w wr) (fun i _=>8 - (intOf i).toNat)
 case atStart=>exact ⟨1,_,by omega,by omega,rfl,⟨by simp [cRow_len],fun j hj=>by rw [show j=0 by omega,cRow_zero];rfl⟩,hR,hB⟩
 case round =>
  obtain⟨k,ys,hk1,hk,rfl,hag,hrow,hbel⟩:=hrel;have hyl:ys.length=8:=by rw [hag.1,cRow_len]
  by_cases hlt:k < 8
  ·have hcy:=cell_n hrow k (by omega);have hfy:=hrow.free k;have R1:=hrow.set k (by rw [Ns_len,hyl];omega) (.int .u8 (cb x k));rw [Ns_set] at R1;have A1:=hag.succ (by rw [cRow_len];omega) _ (cRow_get x k hk1 hlt);have B1:=hbel.setCell (p:=⟨w.heap.size,k,none⟩) (Nat.le_refl _) (.int .u8 (cb x k));have HR:=hid (And.intro R1 (And.intro A1 B1));clear R1 A1 B1 hrow hbel hag hR hB hyl;generalize ys[k]?.getD 0=y at hcy;unfold cb at HR;go_wp2;go_roundw
   case rel=>exact ⟨k+1,_,by omega,by omega,by go_num,HR.out.2.1,HR.out.1,HR.out.2.2⟩
   case measure=>simp [intOf];omega
  have HR:=hid (And.intro (hag.all (by rw [cRow_len];omega)▸hrow) hbel);clear hrow hbel hag hR hB hyl;go_wp2;go_ret;rw [HX.out];exact⟨rfl,HR.out⟩
theorem one_newC (W:World) (x:Value) (t:TypeId) (b:Nat) (hb:W.heap.size=b):∀ j u,[x][j]?=some u→(W.alloc (.cells #[x] t)).cell? ((⟨b,0,none⟩:Addr).add j)=some u:=by
 subst hb;intro j u h
 cases j with
 | zero =>
  simp at h;subst h;rw [show (⟨W.heap.size,0,none⟩:Addr).add 0=⟨W.heap.size,0,none⟩ from rfl,World.cell?_alloc_at _ _ _ _ rfl];rfl
 | succ j=>simp at h
theorem own_baseC {A:World} {base:Nat} {e:TypeId} {v:Value} {n:Nat} {xs:List Value} (h:A.ownsRow base e 1 v n xs):∀ r,v.ownBlock=some r→base≤r:=by
 intro r e
 rcases h.2 with ⟨rfl,_⟩|⟨g,cap,cur,rfl,hg,hb,_⟩
 ·cases e
 cases e
 exact hg
theorem owns_one (w:World) (t:TypeId) (x:Value):(w.alloc (.cells #[x] t)).ownsRow w.heap.size t 1 (Vl w.heap.size 1 1) 1 [x]:=by
 refine⟨rfl,.inr ⟨w.heap.size,1,#[x],rfl,Nat.le_refl _,?_,?_⟩⟩
 ·show (w.heap.push (.cells #[x] t))[w.heap.size]?=_;simp
 refine⟨Nat.le_refl _,by unfold maxLen;omega,rfl,rfl⟩
theorem spec_any (a b:Int) (w:World) (wa:0≤a) (wb:a < 18446744073709551616) (xa:0≤b) (xb:b < 18446744073709551616) :
  Calls Tryz.prog 10 #[Vu a,Vu b] w fun e w'=>∃ v,e=.returned v∧w'.ownsRow w.heap.size 5 1 v 8 (Ns .u8 (cRow (cx a b)))∧Below w.heap.size w w':=by
 obtain⟨i0,hi,hz0,hz1,hz2⟩:=info_parts Tryz.info5By;obtain⟨hx1,hx2⟩:=cx_bounds a b;unfold cx at hx1 hx2 ⊢;have HO:=hid (owns_one w 5 (.int .u8 0));have HB:=hid ((Below.refl w.heap.size w).alloc (Nat.le_refl _) (.cells #[.int .u8 0] 5));go_enter Tryz.func10,Tryz.ntmps10;go_wp2;generalize hxx:IntKind.u64.wrap (bits BinOp.xor IntKind.u64 a b*11400714819323198485)=x at *;have HX:=hid hxx;clear hxx;go_loopw [6,7,8] (fun v i _ wr=>∃ k:Nat,1≤k∧k≤8∧i=Vi k∧Hid (wr.ownsRow w.heap.size 5 1 v k (Ns .u8 ((cRow x).take k)))∧Hid (Below w.heap.size w wr)) (fun _ i _ _=>8 - (intOf i).toNat)
 case atStart=>exact ⟨1,by omega,by omega,rfl,HO,HB⟩
 case round =>
  obtain⟨k,hk1,hk,rfl,hrow,hbel⟩:=hrel;clear HO HB
  by_cases hlt:k < 8
  ·have HO:=hid (cRow_take x k hk1 hlt);have HC:=hid (show cb x k=if x/2 ^ (8*k) % 256 < 1 then 1 else x/2 ^ (8*k) % 256 from rfl)
   by_cases hb:x/2 ^ (8*k) % 256=0
   ·have HC:=hid (show cb x k=1 by rw [HC.out,if_pos (by omega)]);have HR2:=hid (hrow.out.alloc (.cells #[.int .u8 1] 5));have HB2:=hid (hbel.out.alloc hbel.out.size (.cells #[.int .u8 1] 5));go_wp2_with (at_builtin;refine wpList_append_own _ rfl _ _ 22 rfl w.heap.size 5 i0 (.int .u8 0) 1 1 Tryz.underlying22 hi hz0 hz1 hz2 rfl (by omega) _ _ _ rfl HR2.out _ 1 1 [.int .u8 1] rfl rfl ?hc ?h1c ?b1 ?b2 ?b3 ?_)
    case hc=>exact one_newC _ _ _ _ (by simp)
    case h1c=>intro u hu;simp at hu;subst hu;rfl
    case b1=>unfold maxLen;omega
    case b2=>omega
    case b3=>exact HB2.out.size
    intro v1 w1 ho1 hg1 _;have HN:=hid (And.intro ho1 (HB2.out.grown hg1 HB2.out.size (own_baseC HR2.out)));clear ho1 hg1;go_wp2;go_roundw
    case rel=>exact ⟨k+1,by omega,by omega,by go_num,hid (by rw [HO.out,HC.out];simpa [Ns] using HN.out.1),hid HN.out.2⟩
    case measure=>simp [intOf];omega
   have hb1:0≤x/2 ^ (8*k) % 256:=by omega
   have hb2:x/2 ^ (8*k) % 256 < 256:=by omega
   have HC:=hid (show cb x k=x/2 ^ (8*k) % 256 by rw [HC.out,if_neg (by omega)]);have HR2:=hid (hrow.out.alloc (.cells #[.int .u8 (x/2 ^ (8*k) % 256)] 5));have HB2:=hid (hbel.out.alloc hbel.out.size (.cells #[.int .u8 (x/2 ^ (8*k) % 256)] 5));go_wp2_with (at_builtin;refine wpList_append_own _ rfl _ _ 22 rfl w.heap.size 5 i0 (.int .u8 0) 1 1 Tryz.underlying22 hi hz0 hz1 hz2 rfl (by omega) _ _ _ rfl HR2.out _ 1 1 [.int .u8 (x/2 ^ (8*k) % 256)] rfl rfl ?hc ?h1c ?b1 ?b2 ?b3 ?_)
   case hc=>exact one_newC _ _ _ _ (by simp)
   case h1c=>intro u hu;simp at hu;subst hu;rfl
   case b1=>unfold maxLen;omega
   case b2=>omega
   case b3=>exact HB2.out.size
   intro v1 w1 ho1 hg1 _;have HN:=hid (And.intro ho1 (HB2.out.grown hg1 HB2.out.size (own_baseC HR2.out)));clear ho1 hg1;go_wp2;go_roundw
   case rel=>exact ⟨k+1,by omega,by omega,by go_num,hid (by rw [HO.out,HC.out];simpa [Ns] using HN.out.1),hid HN.out.2⟩
   case measure=>simp [intOf];omega
  have hkc:k=8:=by omega
  subst hkc;have HR:=hid (show wr.ownsRow w.heap.size 5 1 u6 8 (Ns .u8 (cRow x)) by
   have:=hrow.out
   rwa [List.take_of_length_le (by rw [cRow_len];exact Nat.le_refl _)] at this)
  clear hrow;go_wp2;go_ret;rw [HX.out];exact⟨_,rfl,HR.out,hbel.out⟩
end Go.Proofs.YtgandbaejlfppaaGreatDoor
