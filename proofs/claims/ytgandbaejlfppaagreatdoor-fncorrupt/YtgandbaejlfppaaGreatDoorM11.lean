import Derived.Test.YtgandbaejlfppaaGreatDoorM07
import Derived.Test.YtgandbaejlfppaaGreatDoorM09
namespace Go.Proofs.YtgandbaejlfppaaGreatDoor
set_option linter.unusedVariables false
set_option linter.unusedSimpArgs false
set_option maxRecDepth 20000
set_option maxHeartbeats 8000000
open Go.RowKit Go.Shelf
def opensM (m:Nat→Option (Bool×List Int)):Nat→List Int
 | 0=>[]
 | k+1=>if isOpen (m k) then opensM m k++[(k:Int)] else opensM m k
theorem Tryz.info3Op:(Tryz.prog.info? 3).map (fun i=>(i.zero,i.size,i.bytes))=some (some (Vi 0),1,8):=by kernel_rfl
theorem one_new (W:World) (x:Value) (t:TypeId) (b:Nat) (hb:W.heap.size=b):∀ j u,[x][j]?=some u→(W.alloc (.cells #[x] t)).cell? ((⟨b,0,none⟩:Addr).add j)=some u:=by
 subst hb;intro j u h
 cases j with
 | zero =>
  simp at h;subst h;rw [show (⟨W.heap.size,0,none⟩:Addr).add 0=⟨W.heap.size,0,none⟩ from rfl,World.cell?_alloc_at _ _ _ _ rfl];rfl
 | succ j=>simp at h
theorem own_base {A:World} {base:Nat} {e:TypeId} {v:Value} {n:Nat} {xs:List Value} (h:A.ownsRow base e 1 v n xs):∀ r,v.ownBlock=some r→base≤r:=by
 intro r e
 rcases h.2 with ⟨rfl,_⟩|⟨g,cap,cur,rfl,hg,hb,_⟩
 ·cases e
 cases e
 exact hg
end Go.Proofs.YtgandbaejlfppaaGreatDoor
namespace Go.Proofs.YtgandbaejlfppaaGreatDoor
set_option linter.unusedVariables false
set_option linter.unusedSimpArgs false
set_option maxRecDepth 20000
set_option maxHeartbeats 8000000
open Go.ChangeShapes Go.WideShapes Go.ChangeAt Go.RowKit
def pl (k c s t p o:Int):Value:=.agg #[Vi k,Vi c,Vi s,Vi t,Vi p,Vi o]
def z6:Array Value:=#[Vi 0,Vi 0,Vi 0,Vi 0,Vi 0,Vi 0]
structure Rt (w:World) (g:Nat) (v:World):Prop where
 blk:v.heap[g]?=some (.cells z6 50 (0,0))
 bel:Below w.heap.size w v
 new:w.heap.size≤g
theorem Rt.first (w:World):Rt w w.heap.size (w.alloc (.cells z6 50)):=⟨al_lastR _ _,(Below.refl _ _).alloc (Nat.le_refl _) _,Nat.le_refl _⟩
theorem Rt.below {w v v':World} {g:Nat} (h:Rt w g v) (hb:Below v.heap.size v v'):Rt w g v':=by
 have hl:g < v.heap.size:=by
  by_cases hl:g < v.heap.size
  ·exact hl
  have:v.heap[g]?=none:=Array.getElem?_eq_none (by omega);have h1:=h.blk;rw [this] at h1;cases h1
 exact⟨by rw [hb.block g hl];exact h.blk,bl_transR h.bel hb,h.new⟩
theorem Rt.drew {w v:World} {g:Nat} (h:Rt w g v):Rt w g v.drew:=h.below (Below.refl _ _).drew
theorem Tb.drew {w:World} (h:Tb w):Tb w.drew:=⟨h.row⟩
theorem Rt.row {w v:World} {g:Nat} (h:Rt w g v) (cs:Array Value):(v.setRow g cs).heap[g]?=some (.cells cs 50 (0,0)):=by
 simp [World.setRow,Array.getElem?_modify,h.blk]
theorem Rt.done {w v:World} {g:Nat} (h:Rt w g v) (cs:Array Value):Below w.heap.size w (v.setRow g cs):=Below.setRow h.bel h.new cs
theorem Rt.six {w v:World} {g:Nat} (h:Rt w g v) (x0 x1 x2 x3 x4 x5:Value) :
  ((((((v.setCell ⟨g,0,none⟩ x0).setCell ⟨g,1,none⟩ x1).setCell ⟨g,2,none⟩ x2).setCell ⟨g,3,none⟩ x3).setCell ⟨g,4,none⟩ x4).setCell ⟨g,5,none⟩ x5).drew.heap[g]?=some (.cells #[x0,x1,x2,x3,x4,x5] 50 (0,0)) ∧
  Below w.heap.size w ((((((v.setCell ⟨g,0,none⟩ x0).setCell ⟨g,1,none⟩ x1).setCell ⟨g,2,none⟩ x2).setCell ⟨g,3,none⟩ x3).setCell ⟨g,4,none⟩ x4).setCell ⟨g,5,none⟩ x5).drew:=by
 refine⟨?_,((((((h.bel.setCell h.new _).setCell h.new _).setCell h.new _).setCell h.new _).setCell h.new _).setCell h.new _).drew⟩;simp [World.drew,World.setCell,Array.getElem?_modify,h.blk,z6]
def plO (c s o:Int):Value :=
 if pg c*1024≤o then pl 1 c s 0 0 0
 else if sl c*sz c≤o then pl 2 c s 0 0 (o - sl c*sz c)
 else pl 3 c s (o/sz c) 0 (o % sz c)
theorem im_placeInRegion (c b:Int) (w:World) (ht:Tb w) (h:0≤c∧c < 12) (h0:0≤b) (h1:b < 6*((pg c+1)*1024)) :
  Calls Tryz.prog 21 #[Vi c,Vi b] w fun e w'=>e=.returned (plO c (b/((pg c+1)*1024)) (b % ((pg c+1)*1024)))∧Below w.heap.size w w':=by
 have R1:=hidR (Rt.first w);have T1:=hidR (ht.below R1.out.bel);have HX:=hidR (im_slabExtent c);have HG:=hidR (im_SlabPages c);have HZ:=hidR (im_SlotSize c);have HL:=hidR (im_SlabSlots c);have hs:=sz_in h;have hp:=pg_in h;have hl:=sl_in h;have hq:0≤b/((pg c+1)*1024)∧b/((pg c+1)*1024)≤6:=by
  have:pg c=1∨pg c=2∨pg c=3∨pg c=4:=by omega
  rcases this with e|e|e|e <;> rw [e] at h1 ⊢<;> omega
 have hr:0≤b % ((pg c+1)*1024)∧b % ((pg c+1)*1024) < (pg c+1)*1024:=by
  have:pg c=1∨pg c=2∨pg c=3∨pg c=4:=by omega
  rcases this with e|e|e|e <;> rw [e] <;> omega
 have hb:b < 30720:=by omega
 unfold plO;clear ht;have hm:0≤sl c*sz c∧sl c*sz c≤pg c*1024:=⟨Int.mul_nonneg (by omega) (by omega),hl.2.2.2⟩;have hl':4≤sl c∧sl c≤64:=⟨hl.1,hl.2.1⟩;clear hl h1;generalize sz c=s at *;generalize sl c=l at *;generalize pg c=p at *;unfold z6 at *;go_enter Tryz.func21,Tryz.ntmps21;go_wp2_with fail;generalize w.alloc (Obj.cells #[Value.int IntKind.i64 0,Value.int IntKind.i64 0,Value.int IntKind.i64 0,Value.int IntKind.i64 0,Value.int IntKind.i64 0,Value.int IntKind.i64 0] 50)=v at R1 T1 ⊢;generalize w.heap.size=g at R1 ⊢;refine (HX.out _ T1.out).mono ?_;rintro e w' ⟨rfl,rfl⟩;go_wp2_with fail;go_region;have R2:=hidR R1.out.drew;have T2:=hidR T1.out.drew;clear R1 T1;generalize w'.drew=v2 at R2 T2 ⊢;go_wp2_with fail;refine (HG.out _ T2.out).mono ?_;rintro e w' ⟨rfl,rfl⟩;have RD:=hidR R2.out.done;have RR:=hidR R2.out.row;have RB:=hidR R2.out.blk;have R6:=hidR R2.out.six;clear R2
 by_cases t1:p*1024≤b % ((p+1)*1024)
 ·go_wp2_with (refine wpList_store_row rfl 50 _ _ rfl g _ rfl rfl 50 z6 RB.out (by kernel_rfl) rfl (by simp [Value.oneCell']) ?_);refine bodyPost_ret (results_cell_row (by rfl) _ _ g 50 _ (0,0) _ (by rfl) (RR.out _) Tryz.underlying50 rfl (by kernel_rfl)) (by rfl) ?_;exact⟨rfl,RD.out _⟩
 have t1':b % ((p+1)*1024) < p*1024:=by omega
 go_wp2_with fail;refine (HZ.out _ T2.out).mono ?_;rintro e w' ⟨rfl,rfl⟩;go_wp2_with fail;refine (HL.out _ T2.out).mono ?_;rintro e w' ⟨rfl,rfl⟩
 by_cases t2:l*s≤b % ((p+1)*1024)
 ·go_wp2_with (refine wpList_store_row rfl 50 _ _ rfl g _ rfl rfl 50 z6 RB.out (by kernel_rfl) rfl (by simp [Value.oneCell']) ?_);refine bodyPost_ret (results_cell_row (by rfl) _ _ g 50 _ (0,0) _ (by rfl) (RR.out _) Tryz.underlying50 rfl (by kernel_rfl)) (by rfl) ?_;exact⟨rfl,RD.out _⟩
 have t2':b % ((p+1)*1024) < l*s:=by omega
 have hd:0≤b % ((p+1)*1024)/s∧b % ((p+1)*1024)/s≤4096:=⟨Int.ediv_nonneg hr.1 (by omega),Int.le_trans (Int.ediv_le_self _ hr.1) (by omega)⟩;have he:0≤b % ((p+1)*1024) % s∧b % ((p+1)*1024) % s < s:=⟨Int.emod_nonneg _ (by omega),Int.emod_lt_of_pos _ (by omega)⟩;have cc:∀ i,i < 6→w'.cell? ⟨g,i,none⟩=some (Vi 0):=fun i hi=>by
  have:i=0∨i=1∨i=2∨i=3∨i=4∨i=5:=by omega
  rcases this with rfl|rfl|rfl|rfl|rfl|rfl <;> simp [World.cell?,RB.out,z6]
 have ff:∀ i,w'.frozen? ⟨g,i,none⟩=false:=fun i=>by simp [World.frozen?,RB.out]
 have c0:=cc 0 (by omega);have c1:=cc 1 (by omega);have c2:=cc 2 (by omega);have c3:=cc 3 (by omega);have c4:=cc 4 (by omega);have c5:=cc 5 (by omega);have f0:=ff 0;have f1:=ff 1;have f2:=ff 2;have f3:=ff 3;have f4:=ff 4;have f5:=ff 5;clear cc ff;go_wp2;go_region;go_wp2;refine bodyPost_ret (results_cell_row (by rfl) _ _ g 50 _ (0,0) _ (by rfl) (R6.out _ _ _ _ _ _).1 Tryz.underlying50 rfl (by kernel_rfl)) (by rfl) ?_;exact⟨rfl,(R6.out _ _ _ _ _ _).2⟩
end Go.Proofs.YtgandbaejlfppaaGreatDoor
namespace Go.Proofs.YtgandbaejlfppaaGreatDoor
set_option linter.unusedVariables false
set_option linter.unusedSimpArgs false
set_option maxRecDepth 20000
set_option maxHeartbeats 8000000
open Go.ChangeShapes Go.WideShapes Go.ChangeAt Go.RowKit
theorem sp_Usable (c:Int) (w:World) :
  Calls Tryz.prog 7 #[Vi c] w fun e w'=>e=.returned (Vi (us c))∧Below w.heap.size w w':=by
 have HI:=hidR (sp_SlotSize c)
 by_cases h:0≤c∧c < 12
 ·have hs:=sz_in h;rw [us_in h];generalize sz c=s at HI hs ⊢;clear h;go_enter Tryz.func7,Tryz.ntmps7;go_wp2_with fail;refine (HI.out _).mono ?_;rintro e w1 ⟨rfl,b1⟩;go_wp2_with fail;refine (HI.out _).mono ?_;rintro e w2 ⟨rfl,b2⟩;go_wp2;go_ret;exact⟨rfl,bl_transR b1 b2⟩
 rw [us_out h];rw [sz_out h] at HI;clear h;go_enter Tryz.func7,Tryz.ntmps7;go_wp2_with fail;refine (HI.out _).mono ?_;rintro e w1 ⟨rfl,b1⟩;go_wp2;go_ret;exact⟨rfl,b1⟩
theorem im_Usable (c:Int) (w:World) (ht:Tb w) :
  Calls Tryz.prog 123 #[Vi c] w fun e w'=>e=.returned (Vi (us c))∧w'=w:=by
 have HI:=hidR (im_SlotSize c w ht)
 by_cases h:0≤c∧c < 12
 ·have hs:=sz_in h;rw [us_in h];have HC:=hidR (im_isClass_yes _ w h);generalize sz c=s at HI hs ⊢;clear ht h;go_enter Tryz.func123,Tryz.ntmps123;go_wp2_with fail;refine (HC.out).mono ?_;rintro e w' ⟨rfl,rfl⟩;go_wp2_with fail;refine (HI.out).mono ?_;rintro e w' ⟨rfl,rfl⟩;go_wp2;go_ret;exact⟨rfl,rfl⟩
 rw [us_out h];have HC:=hidR (im_isClass_no _ w h);clear ht h;go_enter Tryz.func123,Tryz.ntmps123;go_wp2_with fail;refine (HC.out).mono ?_;rintro e w' ⟨rfl,rfl⟩;go_wp2;go_ret;exact⟨rfl,rfl⟩
theorem ret_intE {k:IntKind} {a b:Int} (h:a=b):Ending.returned (.int k a)=.returned (.int k b):=by rw [h]
def coFrom (r:Int):Nat→Nat→Int
 | k,0 => -1
 | k,n+1=>if r≤us k then (k:Int) else coFrom r (k+1) n
def co (r:Int):Int:=coFrom r 0 12
theorem us_le (c:Int):0≤us c∧us c≤1016:=by
 by_cases h:0≤c∧c < 12
 ·have:=sz_in h;rw [us_in h];omega
 rw [us_out h];omega
theorem coFrom_big (r:Int) (h:1016 < r):∀ n k,coFrom r k n = -1
 | 0,k=>rfl
 | n+1,k=>by
  have:=us_le k
  simp only [coFrom,if_neg (show ¬r≤us (k:Int) by omega)]
  exact coFrom_big r h n (k+1)
theorem sp_ClassOf (r:Int) (h0:0≤r) (h1:r≤18446744073709551615) (w:World) :
  Calls Tryz.prog 6 #[Vu r] w fun e w'=>e=.returned (Vi (co r))∧Below w.heap.size w w':=by
 have HU:=hidR sp_Usable;go_enter Tryz.func6,Tryz.ntmps6;go_wp2;go_loopw [3] (fun c wr=>∃ k:Nat,k≤12∧c=Vi k∧co r=coFrom r k (12 - k)∧Below w.heap.size w wr) (fun c _=>12 - (intOf c).toNat)
 case atStart=>exact ⟨0,by omega,rfl,rfl,Below.refl _ _⟩
 case round =>
  obtain⟨k,hk,rfl,he,hb⟩:=hrel
  by_cases hlt:k < 12
  ·have e1:12 - k=(11 - k)+1:=by omega
   rw [e1,coFrom] at he;have hu:=us_le (k:Int);have HB:=hidR hb;clear hb e1;go_wp2_with fail;refine (HU.out _ _).mono ?_;rintro e w1 ⟨rfl,b1⟩;generalize us (k:Int)=u at he hu ⊢
   by_cases hr:r≤u
   ·rw [if_pos hr] at he;have HE:=hidR he;clear he;go_wp2;go_ret;exact⟨ret_intE HE.out.symm,bl_transR HB.out b1⟩
   rw [if_neg hr] at he;have HE:=hidR he;clear he;go_wp2;go_roundw
   case rel=>exact ⟨k+1,by omega,by go_num,by rw [HE.out];congr 1;omega,bl_transR HB.out b1⟩
   case measure=>simp [intOf];omega
  obtain rfl:k=12:=by omega
  have HE:=hidR he;clear he;go_wp2;go_ret;exact⟨ret_intE HE.out.symm,hb⟩
theorem us_get {k:Nat} (h:k < 12):us (k:Int)=szs.getD k 0 - 8:=by
 rw [us_in ⟨by omega,by omega⟩,sz_nat h]
theorem im_ClassOf_big (r:Int) (h:1016 < r) (w:World) :
  Calls Tryz.prog 92 #[Vu r] w fun e w'=>e=.returned (Vi (co r))∧w'=w:=by
 rw [show co r = -1 from coFrom_big r h 12 0];go_enter Tryz.func92,Tryz.ntmps92;go_wp2;go_ret;exact⟨rfl,rfl⟩
theorem run_index12 (w:World) (A:Array Value) (k:Nat) (v:Value) (hk:k < 12) (h:A[k]?=some v):(Instr.index 168 (.agg A) (Vi k)).run Tryz.prog w=.ok v w:=by
 simp [Instr.index,run_underlying Tryz.underlying168,asIntOf,hk,go_sem,h]
theorem im_ClassOf_small (r:Int) (h0:0≤r) (h:r≤1016) (w:World) (ht:Tb w) :
  Calls Tryz.prog 92 #[Vu r] w fun e w'=>e=.returned (Vi (co r))∧w'=w:=by
 obtain⟨t,fr,hb⟩:=ht.row;go_enter Tryz.func92,Tryz.ntmps92;go_wp2_with (refine wpList_load_row rfl 168 _ rfl 0 rfl t _ fr _ hb Tryz.underlying168 rfl (by kernel_rfl) ?_)
 go_loop [8] (fun i=>∃ k:Nat,k≤12∧i=Vi k∧co r=coFrom r k (12 - k)) (fun i=>12 - (intOf i).toNat)
 case atStart=>exact ⟨0,by omega,rfl,rfl⟩
 case round =>
  obtain⟨k,hk,rfl,he⟩:=hrel
  by_cases hlt:k < 12
  ·have e1:12 - k=(11 - k)+1:=by omega
   rw [e1,coFrom,us_get hlt] at he;have hg:(List.map (fun z=>Value.int IntKind.i64 z) szs).toArray[k]?=some (Vi (szs.getD k 0)):=by
    have hk':k < szs.length:=hlt;simp [List.getElem?_eq_getElem hk']
   have hu:=sz_in (c:=(k:Int)) ⟨by omega,by omega⟩;rw [sz_nat hlt] at hu;clear hb ht e1;generalize szs.getD k 0=u at he hu hg;generalize (List.map (fun z=>Value.int IntKind.i64 z) szs).toArray=A at hg ⊢;have hx:=run_index12 w A k _ hlt hg;clear hg
   by_cases hr:r+8≤u
   ·rw [if_pos (by omega)] at he;have HE:=hidR he;clear he;go_wp2;go_ret;exact⟨ret_intE HE.out.symm,rfl⟩
   rw [if_neg (by omega)] at he;have HE:=hidR he;clear he;go_wp2
   go_round
   case rel=>exact ⟨k+1,by omega,by go_num,by rw [HE.out];congr 1;omega⟩
   case measure=>simp [intOf];omega
  obtain rfl:k=12:=by omega
  have HE:=hidR he;clear he;go_wp2;go_ret;exact⟨ret_intE HE.out.symm,rfl⟩
theorem im_ClassOf (r:Int) (h0:0≤r) (w:World) (ht:Tb w) :
  Calls Tryz.prog 92 #[Vu r] w fun e w'=>e=.returned (Vi (co r))∧w'=w:=by
 by_cases h:1016 < r
 ·exact im_ClassOf_big r h w
 exact im_ClassOf_small r h0 (by omega) w ht
end Go.Proofs.YtgandbaejlfppaaGreatDoor
namespace Go.Proofs.YtgandbaejlfppaaGreatDoor
set_option linter.unusedVariables false
set_option linter.unusedSimpArgs false
set_option maxRecDepth 20000
set_option maxHeartbeats 8000000
open Go.RowKit Go.Shelf Go.Maps
theorem own_slD {W : World} {base : Nat} {e : TypeId} {size : Nat} {v : Value} {n : Nat} {xs : List Value} (h : W.ownsRow base e size v n xs) : ∃ a b c, v = .slice a b c := by
  rcases h.2 with ⟨rfl, _⟩ | ⟨g, cap, cur, rfl, _⟩ <;> exact ⟨_, _, _, rfl⟩
theorem bytes_any (w0 : World) (a : Option Addr) (len cap : Nat) (zs : List Int) (h0 : IsRow .u8 w0 a len cap zs) (hlen : len ≤ 1048576) (R n : Nat) (hn : n ≤ 10000) (b0 W : World) (hR : Rd w0 a len cap R b0 W) :
    Calls Tryz.prog 56 #[.pointer (some ⟨R, 0, none⟩), .int .i64 n] W fun e W' => ∃ v ys, e = .returned v ∧ ys.length = n ∧ W'.ownsRow W.heap.size 5 1 v n (Ns .u8 ys) ∧ Rd w0 a len cap R b0 W' := by
  obtain ⟨i0, hi0, hz0, hz1, hz2⟩ := info_parts Tryz.info5By
  have HN := hid (fun V (hV : Rd w0 a len cap R V V) => next_any w0 a len cap zs h0 hlen R V V hV)
  have HR := hid hR.at
  have HO' := hid (fun V (hV : Rd w0 a len cap R W V) => hR.of hV)
  have HL := hid hR.lt
  clear h0 hR
  go_enter Tryz.func56, Tryz.ntmps56
  go_wp2
  go_loopw [5, 6] (fun v i wr => ∃ (k : Nat) (ys : List Int), k ≤ n ∧ i = .int .i64 k ∧ ys.length = k ∧ Hid (wr.ownsRow W.heap.size 5 1 v k (Ns .u8 ys)) ∧ Hid (Rd w0 a len cap R W wr)) (fun _ i _ => n - (intOf i).toNat)
  case atStart => exact ⟨0, [], Nat.zero_le _, rfl, rfl, hid ⟨rfl, .inl ⟨rfl, rfl⟩⟩, HR⟩
  case round =>
    obtain ⟨k, ys, hk, rfl, hy, HO, HD⟩ := hrel
    clear HR
    obtain ⟨va, vb, vc, rfl⟩ : ∃ a b c, u5 = .slice a b c := own_slD HO.out
    have HY := hid hy
    clear hy
    by_cases hlt : k < n
    · go_wp2_with fail
      refine (HN.out _ HD.out.at).mono ?_
      rintro e w1 ⟨⟨c, hc, rfl⟩, rd⟩
      have hg := rd.g
      have hne : ∀ {v : Value} {xs : List Value} {j : Nat}, wr.ownsRow W.heap.size 5 1 v j xs → v.ownBlock ≠ some R := fun ho e => by have := (ho.lt R e).1; have := HL.out; omega
      have O1 := hid (HO.out.kept hg (.inr (hne HO.out)))
      have D1 := hid (HD.out.of rd)
      clear rd hg hne HO HD
      have O8 := hid (O1.out.alloc (.cells #[.int .u8 (c : Int)] 5))
      go_wp2_with (at_builtin; refine wpList_append_own _ rfl _ _ 22 rfl W.heap.size 5 i0 (.int .u8 0) 1 1 Tryz.underlying22 hi0 hz0 hz1 hz2 rfl (by omega) _ _ _ rfl O8.out _ 1 1 [.int .u8 (c : Int)] rfl rfl ?hc ?h1c ?b1 ?b2 ?b3 ?_)
      case hc => exact one_new _ _ _ _ (by simp)
      case h1c => intro x hx; simp at hx; subst hx; rfl
      case b1 => unfold maxLen; omega
      case b2 => omega
      case b3 => have := D1.out.g.size; simp; omega
      intro v1 w9 ho9 hg9 _
      have ob := own_base O8.out
      have D9 := hid (show Rd w0 a len cap R W w9 from by
        have D8 := D1.out.below ((Below.refl _ _).alloc (Nat.le_refl _) (.cells #[.int .u8 (c : Int)] 5))
        exact D8.app hg9 fun r hr => by have := ob _ hr; have := HL.out; omega)
      have O9 := hid (show w9.ownsRow W.heap.size 5 1 v1 (k + 1) (Ns .u8 (ys ++ [(c : Int)])) by simpa [Ns] using ho9)
      clear ho9 hg9 ob O8 O1 D1
      go_wp2
      go_roundw
      case rel => exact ⟨k + 1, ys ++ [(c : Int)], by omega, by go_num, by simp [HY.out], O9, D9⟩
      case measure => simp [intOf]; omega
    · have : k = n := by omega
      subst this
      go_wp2
      go_ret
      exact ⟨_, ys, rfl, HY.out, HO.out, HO'.out _ HD.out⟩
end Go.Proofs.YtgandbaejlfppaaGreatDoor
