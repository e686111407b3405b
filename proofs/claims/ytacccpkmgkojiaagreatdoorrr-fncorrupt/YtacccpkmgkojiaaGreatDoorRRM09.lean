import Derived.Below
import Derived.BigGuardIn
import Derived.BigQuiet
import Derived.Deep.CutBlock
import Derived.Deep.DeepCutAuto
import Derived.Deep.LoopGhost
import Derived.Deep.OwnRows
import Derived.Deep.QuietTactic
import Derived.Deep.RegionWith
import Derived.KernelRfl
import Derived.Laws.Bits64b
import Derived.Laws.Rows
import Derived.Laws.Tables
import Derived.LoopIn
import Derived.LoopNIn
import Derived.Maps.OwnOps
import Derived.Maps.OwnSet
import Derived.OpenShut
import Derived.OrdersHeld
import Derived.OwnWalkIn
import Derived.ProofKit
import Derived.RangeFuncBound
import Derived.RangeFuncCalls
import Derived.RangeFuncLeaves
import Derived.RangeFuncNested
import Derived.Shelf.Abstract
import Derived.Shelf.Bits.Mul64
import Derived.Shelf.RegionOpen
import Derived.TacticsInMore
import Derived.Test.YtacccpkmgkojiaaGreatDoorRRProg
import Derived.WalkKit
import Derived.WalkLawsBesides
import Derived.Test.YtacccpkmgkojiaaGreatDoorRRM00
import Derived.Test.YtacccpkmgkojiaaGreatDoorRRM01
import Derived.Test.YtacccpkmgkojiaaGreatDoorRRM02
import Derived.Test.YtacccpkmgkojiaaGreatDoorRRM08
namespace Go.Proofs.YtacccpkmgkojiaaGreatDoorRR
set_option linter.unusedVariables false
set_option linter.unusedSimpArgs false
set_option maxRecDepth 20000
set_option maxHeartbeats 8000000
open Go.ChangeShapes Go.WideShapes Go.ChangeAt Go.RowKit
def stA (k:Nat):Array Value:=((List.range 13).map fun j=>Value.int .i64 (if j≤k then rsN j else 0)).toArray
theorem stA_size (k:Nat):(stA k).size=13:=by simp [stA]
theorem stA_get (k j:Nat) (h:j < 13):(stA k)[j]?=some (Vi (if j≤k then rsN j else 0)):=by
 simp [stA,h]
theorem stA_set (k:Nat):(stA k).setIfInBounds (k+1) (Vi (rsN (k+1)))=stA (k+1):=by
 apply Array.ext
 ·simp [stA]
 intro i h1 h2;have hi:i < 13:=by simpa [stA] using h2
 rw [Array.getElem_setIfInBounds (by simpa [stA] using h2)];simp only [stA,List.getElem_toArray,List.getElem_map,List.getElem_range]
 by_cases hne:k+1=i
 ·subst hne;simp
 have e:(i≤k)↔(i≤k+1):=by omega
 simp [e,hne]
theorem stA_0:stA 0=#[Value.int IntKind.i64 1,Value.int IntKind.i64 0,Value.int IntKind.i64 0,Value.int IntKind.i64 0,Value.int IntKind.i64 0,Value.int IntKind.i64 0,Value.int IntKind.i64 0,Value.int IntKind.i64 0,Value.int IntKind.i64 0,Value.int IntKind.i64 0,Value.int IntKind.i64 0,Value.int IntKind.i64 0,Value.int IntKind.i64 0]:=by kernel_rfl
def zeroA:Array Value:=#[Value.int IntKind.i64 0,Value.int IntKind.i64 0,Value.int IntKind.i64 0,Value.int IntKind.i64 0,Value.int IntKind.i64 0,Value.int IntKind.i64 0,Value.int IntKind.i64 0,Value.int IntKind.i64 0,Value.int IntKind.i64 0,Value.int IntKind.i64 0,Value.int IntKind.i64 0,Value.int IntKind.i64 0,Value.int IntKind.i64 0]
theorem al_lastR (w:World) (o:Obj):(w.alloc o).heap[w.heap.size]?=some o:=(MapKept.heap_alloc w o).1
theorem al_oldR (w:World) (o:Obj) (k:Nat) (h:k < w.heap.size):(w.alloc o).heap[k]?=w.heap[k]?:=(MapKept.heap_alloc w o).2 k h
theorem al_sizeR (w:World) (o:Obj):(w.alloc o).heap.size=w.heap.size+1:=by
 have e:(w.alloc o).heap=w.heap.push o:=rfl;rw [e,Array.size_push]
theorem Below.setRow {B:Nat} {a w:World} (h:Below B a w) {g:Nat} (hg:B≤g) (cs:Array Value):Below B a (w.setRow g cs):=by
 refine h.trans ⟨rfl,rfl,rfl,by simp [World.setRow],fun k hk=>?_⟩;have:g≠k:=by omega
 simp [World.setRow,Array.getElem?_modify,this]
theorem im_regionStarts (w:World) (ht:Tb w) :
  Calls Tryz.prog 46 #[] w fun e w'=>e=.returned (.agg (stA 12))∧Below w.heap.size w w':=by
 have HP:Hid (∀ (c:Int) w,Tb w→_):=fun c w h=>im_RegionPages c w h
 have HT:=hidR ht;clear ht;go_enter Tryz.func46,Tryz.ntmps46;go_wp2;go_loopw [4] (fun i wr=>∃ k:Nat,k≤12∧i=Vi k∧Hid (wr.heap[w.heap.size]?=some (.cells zeroA 101 (0,0))∧wr.heap[w.heap.size+1]?=some (.cells (stA k) 101 (0,0))∧Below w.heap.size w wr)) (fun i _=>12 - (intOf i).toNat)
 case atStart =>
  refine⟨0,by omega,rfl,?_,?_,?_⟩
  ·rw [al_oldR _ _ _ (by rw [al_sizeR];omega)];exact al_lastR _ _
  ·rw [stA_0,←al_sizeR w];exact al_lastR _ _
  exact ((Below.refl _ _).alloc (Nat.le_refl _) _).alloc (by rw [al_sizeR];omega) _
 case round =>
  obtain⟨k,hk,rfl,HH⟩:=hrel
  by_cases hlt:k < 12
  ·have hn:=rsN_le k;have hr:=rp_le (k:Int);have c1:wr.cell? ⟨w.heap.size+1,k,none⟩=some (Vi (rsN k)):=by
    simp [World.cell?,HH.out.2.1,stA_get k k (by omega)]
   have c2:wr.cell? ⟨w.heap.size+1,k+1,none⟩=some (Vi 0):=by
    simp [World.cell?,HH.out.2.1,stA_get k (k+1) (by omega)];intro h;omega
   have f2:wr.frozen? ⟨w.heap.size+1,k+1,none⟩=false:=by
    simp [World.frozen?,HH.out.2.1]
   have HC:Hid (∀ W:World,W.heap=wr.heap→Calls Tryz.prog 85 #[Vi (k:Int)] W fun e w'=>e=.returned (Vi (rp (k:Int)))∧w'=W):=fun W hW=>HP.out _ W (by
    obtain⟨t,fr,h⟩:=(HT.out.below HH.out.2.2).row;exact⟨t,fr,by rw [hW];exact h⟩)
   have HN:=hidR (show rsN (k+1)=rsN k+rp (k:Int) from rfl);generalize rsN k=a at hn c1 HN;generalize rp (k:Int)=b at hr HC HN;go_wp2
   go_region_with (go_at_call 85;refine (HC.out _ ?_).mono ?_;exact rfl;rintro e w' ⟨rfl,rfl⟩)
   all_goals
    go_wp2
    go_roundw
    case rel =>
     refine⟨k+1,by omega,by go_num,?_,?_,?_⟩
     ·have h1:=HH.out.1;simp [World.setCell,Array.getElem?_modify,World.drew,h1]
     ·have h2:=HH.out.2.1;rw [←stA_set,HN.out];simp [World.setCell,Array.getElem?_modify,World.drew,h2]
     exact HH.out.2.2.drew.setCell (p:=⟨w.heap.size+1,k+1,none⟩) (by simp) _
    case measure=>simp [intOf];omega
  obtain rfl:k=12:=by omega
  have h1:=hidR HH.out.1;have h2:=hidR HH.out.2.1;have HB:=hidR (Below.setRow HH.out.2.2 (Nat.le_refl _) (stA 12));have HR:Hid ((wr.setRow w.heap.size (stA 12)).heap[w.heap.size]?=some (.cells (stA 12) 101 (0,0))):=by
   have:=h1.out;exact hidR (by simp [World.setRow,Array.getElem?_modify,this])
  have hall:=hidR (show (stA 12).all (·.oneCell')=true by kernel_rfl);go_wp2_with (first|refine wpList_load_row rfl 101 _ rfl _ rfl _ _ _ _ h2.out Tryz.underlying101 rfl (by kernel_rfl) ?_|refine wpList_store_row rfl 101 _ _ rfl _ _ rfl rfl _ _ h1.out (by kernel_rfl) (by rw [stA_size];rfl) hall.out ?_);refine bodyPost_ret (results_cell_row (by rfl) _ _ w.heap.size 101 (stA 12) (0,0) _ (by rfl) HR.out Tryz.underlying101 rfl (by kernel_rfl)) (by rfl) ?_;exact⟨rfl,HB.out⟩
end Go.Proofs.YtacccpkmgkojiaaGreatDoorRR
namespace Go.Proofs.YtacccpkmgkojiaaGreatDoorRR
set_option linter.unusedVariables false
set_option linter.unusedSimpArgs false
set_option maxRecDepth 20000
set_option maxHeartbeats 8000000
open Go.ChangeShapes Go.WideShapes Go.ChangeAt Go.RowKit
theorem run_index13 (w:World) (k:Nat) (hk:k < 13):(Instr.index 101 (.agg (stA 12)) (Vi k)).run Tryz.prog w=.ok (Vi (rsN k)) w:=by
 have h:=stA_get 12 k hk;rw [if_pos (by omega)] at h;simp [Instr.index,run_underlying Tryz.underlying101,asIntOf,hk,go_sem,h]
theorem im_RegionStart (c:Int) (w:World) (ht:Tb w) :
  Calls Tryz.prog 170 #[Vi c] w fun e w'=>e=.returned (Vi (rs c))∧Below w.heap.size w w':=by
 have HS:=hidR (im_regionStarts w ht)
 by_cases h:0≤c∧c < 12
 ·have HC:=hidR (im_isClass_yes _ w h);rw [rs_in h];obtain⟨m,rfl⟩:=Int.eq_ofNat_of_zero_le h.1;have hm:m < 13:=by omega
  simp only [Int.toNat_natCast];have HX:=hidR (fun W=>run_index13 W m hm);clear ht h;generalize stA 12=S at HS HX;go_enter Tryz.func170,Tryz.ntmps170;go_wp2_with fail;refine (HC.out).mono ?_;rintro e w' ⟨rfl,rfl⟩;go_wp2_with fail;refine (HS.out).mono ?_;rintro e w1 ⟨rfl,b1⟩;have hx:=HX.out w1;go_wp2;go_ret;exact⟨rfl,b1⟩
 rw [rs_out h];have HC:=hidR (im_isClass_no _ w h);clear ht h HS;go_enter Tryz.func170,Tryz.ntmps170;go_wp2_with fail;refine (HC.out).mono ?_;rintro e w' ⟨rfl,rfl⟩;go_wp2;go_ret;exact⟨rfl,Below.refl _ _⟩
theorem im_LargeStart (w:World) (ht:Tb w) :
  Calls Tryz.prog 29 #[] w fun e w'=>e=.returned (Vi 187)∧Below w.heap.size w w':=by
 have HS:=hidR (im_regionStarts w ht);have HX:Hid (∀ W:World,(Instr.index 101 (.agg (stA 12)) (Vi 12)).run Tryz.prog W=.ok (Vi 187) W):=fun W=>by
  have:=run_index13 W 12 (by omega);rw [rsN_12] at this;exact this
 clear ht;generalize stA 12=S at HS HX;go_enter Tryz.func29,Tryz.ntmps29;go_wp2_with fail;refine (HS.out).mono ?_;rintro e w1 ⟨rfl,b1⟩;have hx:=HX.out w1;go_wp2;go_ret;exact⟨rfl,b1⟩
theorem im_ArenaPages (w:World) (ht:Tb w) :
  Calls Tryz.prog 30 #[] w fun e w'=>e=.returned (Vi 283)∧Below w.heap.size w w':=by
 have HS:=hidR (im_LargeStart w ht);clear ht;go_enter Tryz.func30,Tryz.ntmps30;go_wp2_with fail;refine (HS.out).mono ?_;rintro e w1 ⟨rfl,b1⟩;go_wp2;go_ret;exact⟨rfl,b1⟩
end Go.Proofs.YtacccpkmgkojiaaGreatDoorRR
namespace Go.Proofs.YtacccpkmgkojiaaGreatDoorRR
set_option linter.unusedVariables false
set_option linter.unusedSimpArgs false
set_option maxRecDepth 20000
set_option maxHeartbeats 8000000
open Go.ChangeShapes Go.WideShapes Go.ChangeAt Go.RowKit
def pl (k c s t p o:Int):Value:=.agg #[Vi k,Vi c,Vi s,Vi t,Vi p,Vi o]
def z6:Array Value:=#[Vi 0,Vi 0,Vi 0,Vi 0,Vi 0,Vi 0]
structure Rt (w:World) (g:Nat) (v:World):Prop where
 blk:v.heap[g]?=some (.cells z6 55 (0,0))
 bel:Below w.heap.size w v
 new:w.heap.size≤g
theorem Rt.first (w:World):Rt w w.heap.size (w.alloc (.cells z6 55)):=⟨al_lastR _ _,(Below.refl _ _).alloc (Nat.le_refl _) _,Nat.le_refl _⟩
theorem Rt.below {w v v':World} {g:Nat} (h:Rt w g v) (hb:Below v.heap.size v v'):Rt w g v':=by
 have hl:g < v.heap.size:=by
  by_cases hl:g < v.heap.size
  ·exact hl
  have:v.heap[g]?=none:=Array.getElem?_eq_none (by omega);have h1:=h.blk;rw [this] at h1;cases h1
 exact⟨by rw [hb.block g hl];exact h.blk,bl_transR h.bel hb,h.new⟩
theorem Rt.drew {w v:World} {g:Nat} (h:Rt w g v):Rt w g v.drew:=h.below (Below.refl _ _).drew
theorem Tb.drew {w:World} (h:Tb w):Tb w.drew:=⟨h.row⟩
theorem Rt.row {w v:World} {g:Nat} (h:Rt w g v) (cs:Array Value):(v.setRow g cs).heap[g]?=some (.cells cs 55 (0,0)):=by
 simp [World.setRow,Array.getElem?_modify,h.blk]
theorem Rt.done {w v:World} {g:Nat} (h:Rt w g v) (cs:Array Value):Below w.heap.size w (v.setRow g cs):=Below.setRow h.bel h.new cs
theorem Rt.six {w v:World} {g:Nat} (h:Rt w g v) (x0 x1 x2 x3 x4 x5:Value) :
  ((((((v.setCell ⟨g,0,none⟩ x0).setCell ⟨g,1,none⟩ x1).setCell ⟨g,2,none⟩ x2).setCell ⟨g,3,none⟩ x3).setCell ⟨g,4,none⟩ x4).setCell ⟨g,5,none⟩ x5).drew.heap[g]?=some (.cells #[x0,x1,x2,x3,x4,x5] 55 (0,0)) ∧
  Below w.heap.size w ((((((v.setCell ⟨g,0,none⟩ x0).setCell ⟨g,1,none⟩ x1).setCell ⟨g,2,none⟩ x2).setCell ⟨g,3,none⟩ x3).setCell ⟨g,4,none⟩ x4).setCell ⟨g,5,none⟩ x5).drew:=by
 refine⟨?_,((((((h.bel.setCell h.new _).setCell h.new _).setCell h.new _).setCell h.new _).setCell h.new _).setCell h.new _).drew⟩;simp [World.drew,World.setCell,Array.getElem?_modify,h.blk,z6]
def plO (c s o:Int):Value :=
 if pg c*1024≤o then pl 1 c s 0 0 0
 else if sl c*sz c≤o then pl 2 c s 0 0 (o - sl c*sz c)
 else pl 3 c s (o/sz c) 0 (o % sz c)
theorem im_placeInRegion (c b:Int) (w:World) (ht:Tb w) (h:0≤c∧c < 12) (h0:0≤b) (h1:b < 6*((pg c+1)*1024)) :
  Calls Tryz.prog 47 #[Vi c,Vi b] w fun e w'=>e=.returned (plO c (b/((pg c+1)*1024)) (b % ((pg c+1)*1024)))∧Below w.heap.size w w':=by
 have R1:=hidR (Rt.first w);have T1:=hidR (ht.below R1.out.bel);have HX:=hidR (im_slabExtent c);have HG:=hidR (im_SlabPages c);have HZ:=hidR (im_SlotSize c);have HL:=hidR (im_SlabSlots c);have hs:=sz_in h;have hp:=pg_in h;have hl:=sl_in h;have hq:0≤b/((pg c+1)*1024)∧b/((pg c+1)*1024)≤6:=by
  have:pg c=1∨pg c=2∨pg c=3∨pg c=4:=by omega
  rcases this with e|e|e|e <;> rw [e] at h1 ⊢<;> omega
 have hr:0≤b % ((pg c+1)*1024)∧b % ((pg c+1)*1024) < (pg c+1)*1024:=by
  have:pg c=1∨pg c=2∨pg c=3∨pg c=4:=by omega
  rcases this with e|e|e|e <;> rw [e] <;> omega
 have hb:b < 30720:=by omega
 unfold plO;clear ht;have hm:0≤sl c*sz c∧sl c*sz c≤pg c*1024:=⟨Int.mul_nonneg (by omega) (by omega),hl.2.2.2⟩;have hl':4≤sl c∧sl c≤64:=⟨hl.1,hl.2.1⟩;clear hl h1;generalize sz c=s at *;generalize sl c=l at *;generalize pg c=p at *;unfold z6 at *;go_enter Tryz.func47,Tryz.ntmps47;go_wp2_with fail;generalize w.alloc (Obj.cells #[Value.int IntKind.i64 0,Value.int IntKind.i64 0,Value.int IntKind.i64 0,Value.int IntKind.i64 0,Value.int IntKind.i64 0,Value.int IntKind.i64 0] 55)=v at R1 T1 ⊢;generalize w.heap.size=g at R1 ⊢;refine (HX.out _ T1.out).mono ?_;rintro e w' ⟨rfl,rfl⟩;go_wp2_with fail;go_region;have R2:=hidR R1.out.drew;have T2:=hidR T1.out.drew;clear R1 T1;generalize w'.drew=v2 at R2 T2 ⊢;go_wp2_with fail;refine (HG.out _ T2.out).mono ?_;rintro e w' ⟨rfl,rfl⟩;have RD:=hidR R2.out.done;have RR:=hidR R2.out.row;have RB:=hidR R2.out.blk;have R6:=hidR R2.out.six;clear R2
 by_cases t1:p*1024≤b % ((p+1)*1024)
 ·go_wp2_with (refine wpList_store_row rfl 55 _ _ rfl g _ rfl rfl 55 z6 RB.out (by kernel_rfl) rfl (by simp [Value.oneCell']) ?_);refine bodyPost_ret (results_cell_row (by rfl) _ _ g 55 _ (0,0) _ (by rfl) (RR.out _) Tryz.underlying55 rfl (by kernel_rfl)) (by rfl) ?_;exact⟨rfl,RD.out _⟩
 have t1':b % ((p+1)*1024) < p*1024:=by omega
 go_wp2_with fail;refine (HZ.out _ T2.out).mono ?_;rintro e w' ⟨rfl,rfl⟩;go_wp2_with fail;refine (HL.out _ T2.out).mono ?_;rintro e w' ⟨rfl,rfl⟩
 by_cases t2:l*s≤b % ((p+1)*1024)
 ·go_wp2_with (refine wpList_store_row rfl 55 _ _ rfl g _ rfl rfl 55 z6 RB.out (by kernel_rfl) rfl (by simp [Value.oneCell']) ?_);refine bodyPost_ret (results_cell_row (by rfl) _ _ g 55 _ (0,0) _ (by rfl) (RR.out _) Tryz.underlying55 rfl (by kernel_rfl)) (by rfl) ?_;exact⟨rfl,RD.out _⟩
 have t2':b % ((p+1)*1024) < l*s:=by omega
 have hd:0≤b % ((p+1)*1024)/s∧b % ((p+1)*1024)/s≤4096:=⟨Int.ediv_nonneg hr.1 (by omega),Int.le_trans (Int.ediv_le_self _ hr.1) (by omega)⟩;have he:0≤b % ((p+1)*1024) % s∧b % ((p+1)*1024) % s < s:=⟨Int.emod_nonneg _ (by omega),Int.emod_lt_of_pos _ (by omega)⟩;have cc:∀ i,i < 6→w'.cell? ⟨g,i,none⟩=some (Vi 0):=fun i hi=>by
  have:i=0∨i=1∨i=2∨i=3∨i=4∨i=5:=by omega
  rcases this with rfl|rfl|rfl|rfl|rfl|rfl <;> simp [World.cell?,RB.out,z6]
 have ff:∀ i,w'.frozen? ⟨g,i,none⟩=false:=fun i=>by simp [World.frozen?,RB.out]
 have c0:=cc 0 (by omega);have c1:=cc 1 (by omega);have c2:=cc 2 (by omega);have c3:=cc 3 (by omega);have c4:=cc 4 (by omega);have c5:=cc 5 (by omega);have f0:=ff 0;have f1:=ff 1;have f2:=ff 2;have f3:=ff 3;have f4:=ff 4;have f5:=ff 5;clear cc ff;go_wp2;go_region;go_wp2;refine bodyPost_ret (results_cell_row (by rfl) _ _ g 55 _ (0,0) _ (by rfl) (R6.out _ _ _ _ _ _).1 Tryz.underlying55 rfl (by kernel_rfl)) (by rfl) ?_;exact⟨rfl,(R6.out _ _ _ _ _ _).2⟩
end Go.Proofs.YtacccpkmgkojiaaGreatDoorRR
namespace Go.Proofs.YtacccpkmgkojiaaGreatDoorRR
set_option linter.unusedVariables false
set_option linter.unusedSimpArgs false
set_option maxRecDepth 20000
set_option maxHeartbeats 8000000
open Go.ChangeShapes Go.WideShapes Go.ChangeAt Go.RowKit
structure Hit (p c s:Int):Prop where
 c0:0≤c
 c1:c < 12
 s0:0≤s
 s1:s < 6
 lo:rs c+s*(pg c+1)≤p
 hi:p≤rs c+s*(pg c+1)+pg c
theorem rsN_step (k:Nat) (h:k < 12):rsN (k+1)=rsN k+6*(pg k+1):=by
 simp only [rsN];rw [rp_in ⟨by omega,by omega⟩]
theorem rsN_mono (a:Nat):∀ d,rsN a≤rsN (a+d)
 | 0=>Int.le_refl _
 | d+1=>by
  have h1:=rsN_mono a d
  have h2:=rp_le ((a+d:Nat):Int)
  have e:rsN (a+(d+1))=rsN (a+d)+rp ((a+d:Nat):Int):=rfl
  omega
theorem Hit.c_le {p c s c' s':Int} (h:Hit p c s) (h':Hit p c' s'):c≤c':=by
 apply Int.not_lt.1;intro hlt;obtain⟨a,rfl⟩:=Int.eq_ofNat_of_zero_le h.c0;obtain⟨b,rfl⟩:=Int.eq_ofNat_of_zero_le h'.c0;have e1:rs (a:Int)=rsN a:=by rw [rs_in ⟨h.c0,h.c1⟩];rfl
 have e2:rs (b:Int)=rsN b:=by rw [rs_in ⟨h'.c0,h'.c1⟩];rfl
 have hm:=rsN_mono (b+1) (a - (b+1));have e3:b+1+(a - (b+1))=a:=by omega
 rw [e3,rsN_step b (by have:=h'.c1;omega)] at hm;have q1:=h.lo;have q2:=h'.hi;rw [e1] at q1;rw [e2] at q2;have hp:=pg_in (c:=(b:Int)) ⟨h'.c0,h'.c1⟩;have hpa:=pg_in (c:=(a:Int)) ⟨h.c0,h.c1⟩;have hs1:=h'.s1;have hs0:=h.s0;generalize pg (b:Int)=x at *;generalize pg (a:Int)=y at *;have m1:0≤s*(y+1):=Int.mul_nonneg hs0 (by omega);have m2:s'*(x+1)≤5*(x+1):=Int.mul_le_mul_of_nonneg_right (by omega) (by omega);omega
theorem Hit.one {p c s c' s':Int} (h:Hit p c s) (h':Hit p c' s'):c=c'∧s=s':=by
 have e:c=c':=Int.le_antisymm (h.c_le h') (h'.c_le h);subst e;refine⟨rfl,?_⟩;have hp:=pg_in (c:=c) ⟨h.c0,h.c1⟩;have a1:=h.lo;have a2:=h.hi;have b1:=h'.lo;have b2:=h'.hi;have:pg c=1∨pg c=2∨pg c=3∨pg c=4:=by omega
 rcases this with e|e|e|e <;> rw [e] at a1 a2 b1 b2 <;> omega
inductive Dec:Int→Value→Prop
 | out (a:Int) (h:289792≤a):Dec a (pl 0 0 0 0 0 0)
 | large (a:Int) (h0:191488≤a) (h1:a < 289792):Dec a (pl 4 0 0 0 (a/1024 - 187) (a % 1024))
 | zero (a:Int) (h0:0≤a) (h1:a < 1024):Dec a (pl 1 0 0 0 0 0)
 | slab (a c s:Int) (h0:1024≤a) (h1:a < 191488) (h:Hit (a/1024) c s):Dec a (plO c s (a - (rs c+s*(pg c+1))*1024))
theorem Dec.one {a:Int} {v v':Value} (h:Dec a v) (h':Dec a v'):v=v':=by
 cases h <;> cases h' <;> first|rfl|omega|skip
 rename_i c s h0 h1 h2 c' s' h3 h4 h5
 obtain⟨rfl,rfl⟩:=h2.one h5;rfl
end Go.Proofs.YtacccpkmgkojiaaGreatDoorRR
namespace Go.Proofs.YtacccpkmgkojiaaGreatDoorRR
set_option linter.unusedVariables false
set_option linter.unusedSimpArgs false
set_option maxRecDepth 20000
set_option maxHeartbeats 8000000
open Go.ChangeShapes Go.WideShapes Go.ChangeAt Go.RowKit
theorem row_set {v:World} {g:Nat} {old:Array Value} {t:TypeId} (h:v.heap[g]?=some (.cells old t (0,0))) (cs:Array Value):(v.setRow g cs).heap[g]?=some (.cells cs t (0,0)):=by
 simp [World.setRow,Array.getElem?_modify,h]
theorem plO_agg (c s o:Int):∃ cs:Array Value,plO c s o=.agg cs∧cs.size=6∧cs.all (·.oneCell')=true:=by
 unfold plO
 split
 ·exact⟨_,rfl,rfl,by simp [Value.oneCell']⟩
 split
 ·exact⟨_,rfl,rfl,by simp [Value.oneCell']⟩
 exact⟨_,rfl,rfl,by simp [Value.oneCell']⟩
theorem im_Decode (a:Int) (ha0:0≤a) (ha1:a≤18446744073709551615) (w:World) (ht:Tb w) :
  Calls Tryz.prog 19 #[Vu a] w fun e w'=>(∃ v,Dec a v∧e=.returned v)∧Below w.heap.size w w':=by
 have R1:=hidR (Rt.first w);have T1:=hidR (ht.below R1.out.bel);have IA:=hidR im_ArenaPages;have IS:=hidR im_regionStarts;have IP:=hidR im_placeInRegion;clear ht;unfold z6 at *;go_enter Tryz.func19,Tryz.ntmps19;go_wp2_with fail;generalize w.alloc (Obj.cells #[Value.int IntKind.i64 0,Value.int IntKind.i64 0,Value.int IntKind.i64 0,Value.int IntKind.i64 0,Value.int IntKind.i64 0,Value.int IntKind.i64 0] 55)=v at R1 T1 ⊢;generalize w.heap.size=g at R1 ⊢;refine (IA.out _ T1.out).mono ?_;rintro e w2 ⟨rfl,b2⟩;have R2:=hidR (R1.out.below b2);have T2:=hidR (T1.out.below b2);clear b2 R1 T1
 by_cases h1:289792≤a
 ·have RD:=hidR R2.out.done;have RR:=hidR R2.out.row;have RB:=hidR R2.out.blk;clear R2;go_wp2_with (refine wpList_store_row rfl 55 _ _ rfl g _ rfl rfl 55 z6 RB.out (by kernel_rfl) rfl (by simp [Value.oneCell']) ?_);refine bodyPost_ret (results_cell_row (by rfl) _ _ g 55 _ (0,0) _ (by rfl) (RR.out _) Tryz.underlying55 rfl (by kernel_rfl)) (by rfl) ?_;exact⟨⟨_,.out a h1,rfl⟩,RD.out _⟩
 by_cases h2:a < 1024
 ·have RD:=hidR R2.out.done;have RR:=hidR R2.out.row;have RB:=hidR R2.out.blk;clear R2;have t2:a/1024 < 1:=by omega
  go_wp2_with (refine wpList_store_row rfl 55 _ _ rfl g _ rfl rfl 55 z6 RB.out (by kernel_rfl) rfl (by simp [Value.oneCell']) ?_);refine bodyPost_ret (results_cell_row (by rfl) _ _ g 55 _ (0,0) _ (by rfl) (RR.out _) Tryz.underlying55 rfl (by kernel_rfl)) (by rfl) ?_;exact⟨⟨_,.zero a ha0 h2,rfl⟩,RD.out _⟩
 have t2:1≤a/1024:=by omega
 go_wp2_with fail;refine (IS.out _ T2.out).mono ?_;rintro e w3 ⟨rfl,b3⟩;have R3:=hidR (R2.out.below b3);have T3:=hidR (T2.out.below b3);clear b3 R2 T2;have B4:Below w3.heap.size w3 ((w3.alloc (.cells zeroA 101)).setRow w3.heap.size (stA 12)):=Below.setRow ((Below.refl _ _).alloc (Nat.le_refl _) _) (Nat.le_refl _) _;have R4:=hidR (R3.out.below B4);have T4:=hidR (T3.out.below B4);have A3:=hidR (al_lastR w3 (.cells zeroA 101));have C4:Hid (∀ k:Nat,k < 13→((w3.alloc (.cells zeroA 101)).setRow w3.heap.size (stA 12)).cell? ⟨w3.heap.size,k,none⟩=some (Vi (rsN k))):=hidR (fun k hk=>by
  have h:=stA_get 12 k hk;rw [if_pos (by omega)] at h;have e:=row_set A3.out (stA 12);simp only [World.cell?,e];exact h)
 have hall:=hidR (show (stA 12).all (·.oneCell')=true by kernel_rfl);have hsz:=hidR (show zeroA.size=(stA 12).size by rw [stA_size];rfl);clear B4 R3 T3;generalize stA 12=A at C4 R4 T4 hall hsz ⊢;unfold zeroA at *
 by_cases h3:191488≤a
 ·have t3:187≤a/1024:=by omega
  go_wp2_with (first|(refine wpList_store_row rfl 101 _ _ rfl _ _ rfl rfl 101 _ A3.out (by kernel_rfl) hsz.out hall.out ?_;generalize World.setRow _ _ _=W4 at C4 R4 T4 ⊢;have c12:=C4.out 12 (by omega);rw [rsN_12] at c12)|(refine wpList_store_row rfl 55 _ _ rfl g _ rfl rfl 55 z6 R4.out.blk (by kernel_rfl) rfl (by simp [Value.oneCell']) ?_));refine bodyPost_ret (results_cell_row (by rfl) _ _ g 55 _ (0,0) _ (by rfl) (R4.out.row _) Tryz.underlying55 rfl (by kernel_rfl)) (by rfl) ?_;exact⟨⟨_,.large a h3 (by omega),rfl⟩,R4.out.done _⟩
 have t3:a/1024 < 187:=by omega
 go_wp2_with (first|(refine wpList_store_row rfl 101 _ _ rfl _ _ rfl rfl 101 _ A3.out (by kernel_rfl) hsz.out hall.out ?_;generalize World.setRow _ _ _=W4 at C4 R4 T4 ⊢;have c12:=C4.out 12 (by omega);rw [rsN_12] at c12)|(refine wpList_store_row rfl 55 _ _ rfl g _ rfl rfl 55 z6 R4.out.blk (by kernel_rfl) rfl (by simp [Value.oneCell']) ?_));have e1:decide (289792≤a)=false:=decide_eq_false (by omega);have e2:decide (a/1024 < 1)=false:=decide_eq_false (by omega);have e3:decide (187≤a/1024)=false:=decide_eq_false (by omega);simp only [e1,e2,e3];clear e1 e2 e3 hall hsz A3
 go_loop [6] (fun c=>∃ k:Nat,k < 12∧c=Vi k∧rsN k≤a/1024) (fun c=>12 - (intOf c).toNat)
 case atStart=>exact ⟨0,by omega,rfl,by simp only [rsN];omega⟩
 case round =>
  obtain⟨k,hk,rfl,hrk⟩:=hrel;have ck:=C4.out (k+1) (by omega);have ck0:=C4.out k (by omega);have hn1:=rsN_le k;have hst:=rsN_step k hk;have hpk:=pg_in (c:=(k:Int)) ⟨by omega,by omega⟩
  by_cases hgo:rsN (k+1)≤a/1024
  ·have hk1:k+1 < 12:=by
    apply Nat.lt_of_le_of_ne (by omega);intro e;rw [e,rsN_12] at hgo;omega
   have HG:=hidR hgo;generalize rsN (k+1)=r1 at ck hgo hst;clear hst;go_wp2
   go_round
   case rel=>exact ⟨k+1,hk1,by go_num,HG.out⟩
   case measure=>simp [intOf];omega
  have hb0:0≤(a/1024 - rsN k)*1024+a % 1024:=by omega
  have hb1:(a/1024 - rsN k)*1024+a % 1024 < 6*((pg (k:Int)+1)*1024):=by omega
  have IPk:=hidR (IP.out (k:Int) _ W4 T4.out ⟨by omega,by omega⟩ hb0 hb1);have HD:Hid (Dec a (plO (k:Int) (((a/1024 - rsN k)*1024+a % 1024)/((pg (k:Int)+1)*1024)) (((a/1024 - rsN k)*1024+a % 1024) % ((pg (k:Int)+1)*1024)))):=hidR (by
   have ers:rs (k:Int)=rsN k:=by rw [rs_in ⟨by omega,by omega⟩];rfl
   have key:Hit (a/1024) (k:Int) (((a/1024 - rsN k)*1024+a % 1024)/((pg (k:Int)+1)*1024))∧((a/1024 - rsN k)*1024+a % 1024) % ((pg (k:Int)+1)*1024)=a - (rs (k:Int)+(((a/1024 - rsN k)*1024+a % 1024)/((pg (k:Int)+1)*1024))*(pg (k:Int)+1))*1024:=by
    rw [ers];have:pg (k:Int)=1∨pg (k:Int)=2∨pg (k:Int)=3∨pg (k:Int)=4:=by omega
    generalize rsN (k+1)=r1 at *;clear IPk IP IA IS C4 R4 T4 ck ck0
    rcases this with e|e|e|e <;> rw [e] at hst hb1 ⊢<;> refine ⟨⟨by omega,by omega,by omega,by omega,by rw [ers,e];omega,by rw [ers,e];omega⟩,by omega⟩
   rw [key.2];exact .slab a _ _ (by omega) (by omega) key.1)
  obtain⟨cs,ecs,hcs,hone⟩:=plO_agg (k:Int) (((a/1024 - rsN k)*1024+a % 1024)/((pg (k:Int)+1)*1024)) (((a/1024 - rsN k)*1024+a % 1024) % ((pg (k:Int)+1)*1024));rw [ecs] at IPk HD;have hgo':a/1024 < rsN (k+1):=by omega
  generalize rsN (k+1)=r1 at ck hgo' hst;generalize rsN k=r0 at *;clear hst hgo;go_wp2_with fail;refine (IPk.out).mono ?_;rintro e w5 ⟨rfl,b5⟩;have R5:=hidR (R4.out.below b5);have hcz:=hidR (show z6.size=cs.size by rw [hcs];rfl);have hci:=hidR (show (Tryz.prog.info? 55).map (·.size)=some cs.size by rw [hcs];kernel_rfl);have HO:=hidR hone;clear b5 R4 T4 C4 ck ck0 c12 hcs hone;go_wp2_with (refine wpList_store_row rfl 55 _ _ rfl g cs rfl rfl 55 z6 R5.out.blk hci.out hcz.out HO.out ?_);refine bodyPost_ret (results_cell_row (by rfl) _ _ g 55 cs (0,0) _ (by rfl) (R5.out.row _) Tryz.underlying55 rfl hci.out) (by rfl) ?_;exact⟨⟨_,HD.out,rfl⟩,R5.out.done _⟩
end Go.Proofs.YtacccpkmgkojiaaGreatDoorRR
namespace Go.Proofs.YtacccpkmgkojiaaGreatDoorRR
set_option linter.unusedVariables false
set_option linter.unusedSimpArgs false
set_option maxRecDepth 20000
set_option maxHeartbeats 8000000
open Go.ChangeShapes Go.WideShapes Go.ChangeAt Go.RowKit
structure Slot (c s t:Int):Prop where
 c0:0≤c
 c1:c < 12
 s0:0≤s
 s1:s < 6
 t0:0≤t
 t1:t < sl c
theorem sl_mul {c:Int} (h:0≤c∧c < 12) {t:Int} (h0:0≤t) (h1:t < sl c):0≤t*sz c∧t*sz c+sz c≤sl c*sz c:=by
 have hz:=sz_in h;refine⟨Int.mul_nonneg h0 (by omega),?_⟩;have:=Int.mul_le_mul_of_nonneg_right (show t+1≤sl c by omega) (show 0≤sz c by omega);rw [Int.add_mul] at this;omega
theorem Slot.dec {c s t:Int} (h:Slot c s t) {o:Int} (ho0:0≤o) (ho1:o < sz c):Dec ((rs c+s*(pg c+1))*1024+t*sz c+o) (pl 3 c s t 0 o) ∧
  1024≤(rs c+s*(pg c+1))*1024+t*sz c∧(rs c+s*(pg c+1))*1024+t*sz c+o < 191488:=by
 have hc:0≤c∧c < 12:=⟨h.c0,h.c1⟩;have hz:=sz_in hc;have hl:=sl_in hc;have hp:=pg_in hc;have hm:=sl_mul hc h.t0 h.t1;have hs0:=h.s0;have hs1:=h.s1;have hr:1≤rs c∧rs c+6*(pg c+1)≤187:=by
  rcases isc_split hc with rfl|rfl|rfl|rfl|rfl|rfl|rfl|rfl|rfl|rfl|rfl|rfl <;> decide
 have hq:0≤s*(pg c+1)∧s*(pg c+1)+(pg c+1)≤6*(pg c+1):=by
  have:pg c=1∨pg c=2∨pg c=3∨pg c=4:=by omega
  rcases this with e|e|e|e <;> rw [e] <;> omega
 have hlo:1024≤(rs c+s*(pg c+1))*1024+t*sz c:=by omega
 have hhi:(rs c+s*(pg c+1))*1024+t*sz c+o < 191488:=by omega
 refine⟨?_,hlo,hhi⟩;have hhit:Hit (((rs c+s*(pg c+1))*1024+t*sz c+o)/1024) c s:=⟨h.c0,h.c1,h.s0,h.s1,by omega,by omega⟩;have key:=Dec.slab _ c s (by omega) hhi hhit;have e:(rs c+s*(pg c+1))*1024+t*sz c+o - (rs c+s*(pg c+1))*1024=t*sz c+o:=by omega
 rw [e] at key;unfold plO at key;rw [if_neg (by omega),if_neg (by omega)] at key;have e1:(t*sz c+o)/sz c=t:=by
  rw [Int.add_comm,Int.add_mul_ediv_right _ _ (by omega),Int.ediv_eq_zero_of_lt ho0 ho1];omega
 have e2:(t*sz c+o) % sz c=o:=by
  rw [Int.add_comm,Int.add_mul_emod_self_right,Int.emod_eq_of_lt ho0 ho1]
 rw [e1,e2] at key;exact key
theorem wrap64_in {x:Int} (h0 : -9223372036854775808≤x) (h1:x≤9223372036854775807):wrap64 x=x:=by
 simp only [wrap64];omega
theorem im_SlotAddr_yes (c s t:Int) (h:Slot c s t) (w:World) (ht:Tb w) :
  Calls Tryz.prog 142 #[Vi c,Vi s,Vi t] w fun e w'=>e=.returned (.tuple #[Vu ((rs c+s*(pg c+1))*1024+t*sz c),.bool true])∧Below w.heap.size w w':=by
 have hc:0≤c∧c < 12:=⟨h.c0,h.c1⟩;have IR:=hidR (im_RegionStart c);have IX:=hidR (im_slabExtent c);have IZ:=hidR (im_SlotSize c);have hz:=sz_in hc;have hp:=pg_in hc;have hd:=h.dec (o:=0) (by omega) (by omega);have hs0:=h.s0;have hs1:=h.s1;have hr:1≤rs c∧rs c≤361:=by have:=rs_le c;rw [rs_in hc] at this ⊢;have:=rsN_le c.toNat;omega
 have hq:0≤s*(pg c+1)∧s*(pg c+1)≤25:=by
  have:pg c=1∨pg c=2∨pg c=3∨pg c=4:=by omega
  rcases this with e|e|e|e <;> rw [e] <;> omega
 have hm:=sl_mul hc h.t0 h.t1;have hm1:t*sz c≤4096:=by have:=(sl_in hc).2.2.2;omega
 have HD:=hidR hd.1;have hd2:=hd.2;have ID:=hidR (fun W hW=>im_Decode ((rs c+s*(pg c+1))*1024+t*sz c) (by omega) (by omega) W hW);rw [Int.add_zero] at HD hd2;have hm2:0≤t*sz c∧t*sz c≤4096:=⟨hm.1,hm1⟩;clear hm hm1 hd h;generalize rs c=r at *;generalize pg c=p at *;generalize sz c=z at *;go_enter Tryz.func142,Tryz.ntmps142;go_wp2_with fail;refine (IR.out _ ht).mono ?_;rintro e w1 ⟨rfl,b1⟩;have T1:=hidR (ht.below b1);go_wp2_with fail;refine (IX.out _ T1.out).mono ?_;rintro e w2 ⟨rfl,rfl⟩;go_wp2_with fail;refine (IZ.out _ T1.out).mono ?_;rintro e w3 ⟨rfl,rfl⟩;go_wp2_with fail;refine (ID.out _ T1.out).mono ?_;rintro e w4 ⟨⟨v,hv,rfl⟩,b4⟩;have ev:=HD.out.one hv;subst ev;have B4:=hidR (bl_transR b1 b4);clear hv b1 b4 T1 IR IX IZ ID ht HD;unfold pl;go_wp2
 go_ret2
 exact⟨rfl,B4.out⟩
end Go.Proofs.YtacccpkmgkojiaaGreatDoorRR
namespace Go.Proofs.YtacccpkmgkojiaaGreatDoorRR
set_option linter.unusedVariables false
set_option linter.unusedSimpArgs false
set_option maxRecDepth 20000
set_option maxHeartbeats 8000000
open Go.ChangeShapes Go.WideShapes Go.ChangeAt Go.RowKit Go.Shelf Go.Maps
theorem grown_tr {a b c : World} {r : Option Nat} (h : a.grownBy b r) (k : b.grownBy c r) : a.grownBy c r :=
  ⟨k.os.trans h.os, k.tape.trans h.tape, k.output.trans h.output, Nat.le_trans h.size k.size, fun g h1 h2 => (k.block g (Nat.lt_of_lt_of_le h1 h.size) h2).trans (h.block g h1 h2)⟩
theorem grown_of {a b : World} (h : Below a.heap.size a b) (R : Nat) : a.grownBy b (some R) := ⟨h.os, h.tape, h.output, h.size, fun g h1 _ => h.block g h1⟩
theorem IsRow.byte {w : World} {a : Option Addr} {len cap : Nat} {zs : List Int} (h : IsRow .u8 w a len cap zs) (i : Nat) (hi : i < len) : ∃ x c, a = some x ∧ 0 ≤ c ∧ c ≤ 255 ∧ w.cell? (x.add i) = some (.int .u8 c) := by
  rcases h with ⟨_, rfl, _, rfl⟩ | ⟨x, h1, h2, h3, h4, h5, h6⟩
  · omega
  · have hi' : i < zs.length := by omega
    have hb := bounds_u8 (h6 _ (List.getElem_mem hi'))
    refine ⟨x, _, h1, hb.1, hb.2, ?_⟩
    rw [h5 i hi']; simp [hi']
structure Rd (w0 : World) (a : Option Addr) (len cap : Nat) (R : Nat) (b0 W : World) : Prop where
  box : ∃ i : Nat, i ≤ len ∧ W.heap[R]? = some (.cells #[.slice a len cap, .int .i64 i] 72 (0, 0))
  bel : Below w0.heap.size w0 W
  new : w0.heap.size ≤ R
  g : b0.grownBy W (some R)
theorem Rd.below {w0 b0 : World} {a : Option Addr} {len cap R : Nat} {W W' : World} (h : Rd w0 a len cap R b0 W) (hb : Below W.heap.size W W') : Rd w0 a len cap R b0 W' := by
  obtain ⟨i, hi, h1⟩ := h.box
  exact ⟨⟨i, hi, by rw [hb.block R (lt_blk h1)]; exact h1⟩, bl_trans h.bel hb, h.new, grown_tr h.g (grown_of hb R)⟩
theorem Rd.drew {w0 b0 : World} {a : Option Addr} {len cap R : Nat} {W : World} (h : Rd w0 a len cap R b0 W) : Rd w0 a len cap R b0 W.drew := h.below (Below.refl _ _).drew
theorem next_any (w0 : World) (a : Option Addr) (len cap : Nat) (zs : List Int) (h0 : IsRow .u8 w0 a len cap zs) (hlen : len ≤ 1048576) (R : Nat) (b0 W : World) (hR : Rd w0 a len cap R b0 W) :
    Calls Tryz.prog 33 #[.pointer (some ⟨R, 0, none⟩)] W fun e W' => (∃ c : Nat, c ≤ 255 ∧ e = .returned (.int .i64 c)) ∧ Rd w0 a len cap R b0 W' := by
  obtain ⟨i, hi, hbox⟩ := hR.box
  have c0 : W.cell? ⟨R, 0, none⟩ = some (.slice a len cap) := by simp [World.cell?, hbox]
  have c1 : W.cell? ⟨R, 1, none⟩ = some (.int .i64 i) := by simp [World.cell?, hbox]
  have f1 : W.frozen? ⟨R, 1, none⟩ = false := by simp [World.frozen?, hbox]
  have HR := hid hR
  have HB := hid hbox
  clear hbox hR
  by_cases hlt : i < len
  · obtain ⟨x, c, rfl, hc0, hc1, hcx⟩ := h0.byte i hlt
    obtain ⟨c, rfl⟩ := Int.eq_ofNat_of_zero_le hc0
    have hcx' := below_cell HR.out.bel hcx
    have R1 := hid (show Rd w0 (some x) len cap R b0 (W.setCell ⟨R, 1, none⟩ (.int .i64 (i + 1 : Nat))) from ⟨⟨i + 1, by omega, by simp [World.setCell, Array.getElem?_modify, HB.out]⟩, HR.out.bel.setCell HR.out.new _, HR.out.new, grown_tr HR.out.g (grown_set (grown_refl W R) 1 _)⟩)
    have ec : ((i + 1 : Nat) : Int) = (i : Int) + 1 := by omega
    rw [ec] at R1
    clear hcx h0 hc0 ec
    go_enter Tryz.func33, Tryz.ntmps33
    go_wp2
    go_region
    go_wp2
    go_region
    go_wp2
    go_ret
    exact ⟨⟨c, by omega, rfl⟩, R1.out.drew.drew⟩
  · go_enter Tryz.func33, Tryz.ntmps33
    go_wp2
    go_region
    go_wp2
    go_ret
    exact ⟨⟨0, by omega, rfl⟩, HR.out.drew⟩
theorem Rd.at {w0 b0 : World} {a : Option Addr} {len cap R : Nat} {W : World} (h : Rd w0 a len cap R b0 W) : Rd w0 a len cap R W W := ⟨h.box, h.bel, h.new, grown_refl W R⟩
theorem Rd.of {w0 b0 : World} {a : Option Addr} {len cap R : Nat} {W W' : World} (h : Rd w0 a len cap R b0 W) (k : Rd w0 a len cap R W W') : Rd w0 a len cap R b0 W' := ⟨k.box, k.bel, k.new, grown_tr h.g k.g⟩
theorem Rd.app {w0 b0 : World} {a : Option Addr} {len cap R : Nat} {W w9 : World} (h : Rd w0 a len cap R b0 W) {row : Option Nat} (hg : W.grownBy w9 row) (hr : ∀ r, row = some r → b0.heap.size ≤ r ∧ R < r) : Rd w0 a len cap R b0 w9 := by
  obtain ⟨i, hi, hb⟩ := h.box
  refine ⟨⟨i, hi, ?_⟩, h.bel.grown hg h.bel.size (fun r e => ?_), h.new, ⟨hg.os.trans h.g.os, hg.tape.trans h.g.tape, hg.output.trans h.g.output, Nat.le_trans h.g.size hg.size, fun k h1 h2 => (hg.block k (Nat.lt_of_lt_of_le h1 h.g.size) (fun e => ?_)).trans (h.g.block k h1 h2)⟩⟩
  · rw [hg.block R (lt_blk hb) (fun e => by have := (hr R e.symm).2; omega)]
    exact hb
  · have := (hr r e).2
    have := h.new
    omega
  · have := (hr k e.symm).1
    omega
theorem Rd.lt {w0 b0 : World} {a : Option Addr} {len cap R : Nat} {W : World} (h : Rd w0 a len cap R b0 W) : R < W.heap.size := by obtain ⟨_, _, e⟩ := h.box; exact lt_blk e
theorem wide_any (w0 : World) (a : Option Addr) (len cap : Nat) (zs : List Int) (h0 : IsRow .u8 w0 a len cap zs) (hlen : len ≤ 1048576) (R : Nat) (b0 W : World) (hR : Rd w0 a len cap R b0 W) :
    Calls Tryz.prog 54 #[.pointer (some ⟨R, 0, none⟩)] W fun e W' => (∃ c : Int, 0 ≤ c ∧ c ≤ 18446744073709551615 ∧ e = .returned (.int .u64 c)) ∧ Rd w0 a len cap R b0 W' := by
  have N := hid (fun W h => next_any w0 a len cap zs h0 hlen R b0 W h)
  have HR := hid hR
  clear hR h0
  go_enter Tryz.func54, Tryz.ntmps54
  go_wp2
  go_loopw [3, 4] (fun x i wr => ∃ (k : Nat) (c : Int), k ≤ 8 ∧ i = .int .i64 k ∧ x = .int .u64 c ∧ 0 ≤ c ∧ c ≤ 18446744073709551615 ∧ Hid (Rd w0 a len cap R b0 wr)) (fun _ i _ => 8 - (intOf i).toNat)
  case atStart => exact ⟨0, 0, by omega, rfl, rfl, by omega, by omega, HR⟩
  case round =>
    obtain ⟨k, c, hk, rfl, rfl, hc0, hc1, hrd⟩ := hrel
    by_cases hlt : k < 8
    · have hm : 0 ≤ IntKind.u64.wrap (c * 256) ∧ IntKind.u64.wrap (c * 256) ≤ 18446744073709551615 := by rw [IntKind.wrap_u64]; omega
      go_wp2_with fail
      refine (N.out _ hrd.out).mono ?_
      rintro e w1 ⟨⟨d, hd, rfl⟩, r1⟩
      have R1 := hid r1
      clear r1
      generalize IntKind.u64.wrap (c * 256) = m at hm ⊢
      obtain ⟨m, rfl⟩ := Int.eq_ofNat_of_zero_le hm.1
      have ho : bits BinOp.or IntKind.u64 (m : Int) (d : Int) = ((m ||| d : Nat) : Int) := bits_or_u64_nat m d (by omega) (by omega)
      have hl : m ||| d < 2 ^ 64 := Nat.or_lt_two_pow (by omega) (by omega)
      generalize m ||| d = y at ho hl
      go_wp2
      go_roundw
      case rel => exact ⟨k + 1, (y : Int), by omega, by go_num, rfl, by omega, by omega, R1⟩
      case measure => simp [intOf]; omega
    · go_wp2
      go_ret
      exact ⟨⟨c, hc0, hc1, rfl⟩, hrd.out⟩
end Go.Proofs.YtacccpkmgkojiaaGreatDoorRR
namespace Go.Proofs.YtacccpkmgkojiaaGreatDoorRR
set_option linter.unusedVariables false
set_option linter.unusedSimpArgs false
set_option maxRecDepth 20000
set_option maxHeartbeats 8000000
open Go.RowKit Go.Shelf Go.Maps
theorem own_slD {W : World} {base : Nat} {e : TypeId} {size : Nat} {v : Value} {n : Nat} {xs : List Value} (h : W.ownsRow base e size v n xs) : ∃ a b c, v = .slice a b c := by
  rcases h.2 with ⟨rfl, _⟩ | ⟨g, cap, cur, rfl, _⟩ <;> exact ⟨_, _, _, rfl⟩
theorem bytes_any (w0 : World) (a : Option Addr) (len cap : Nat) (zs : List Int) (h0 : IsRow .u8 w0 a len cap zs) (hlen : len ≤ 1048576) (R n : Nat) (hn : n ≤ 10000) (b0 W : World) (hR : Rd w0 a len cap R b0 W) :
    Calls Tryz.prog 56 #[.pointer (some ⟨R, 0, none⟩), .int .i64 n] W fun e W' => ∃ v ys, e = .returned v ∧ ys.length = n ∧ W'.ownsRow W.heap.size 5 1 v n (Ns .u8 ys) ∧ Rd w0 a len cap R b0 W' := by
  obtain ⟨i0, hi0, hz0, hz1, hz2⟩ := info_parts Tryz.info5By
  have HN := hid (fun V (hV : Rd w0 a len cap R V V) => next_any w0 a len cap zs h0 hlen R V V hV)
  have HR := hid hR.at
  have HO' := hid (fun V (hV : Rd w0 a len cap R W V) => hR.of hV)
  have HL := hid hR.lt
  clear h0 hR
  go_enter Tryz.func56, Tryz.ntmps56
  go_wp2
  go_loopw [5, 6] (fun v i wr => ∃ (k : Nat) (ys : List Int), k ≤ n ∧ i = .int .i64 k ∧ ys.length = k ∧ Hid (wr.ownsRow W.heap.size 5 1 v k (Ns .u8 ys)) ∧ Hid (Rd w0 a len cap R W wr)) (fun _ i _ => n - (intOf i).toNat)
  case atStart => exact ⟨0, [], Nat.zero_le _, rfl, rfl, hid ⟨rfl, .inl ⟨rfl, rfl⟩⟩, HR⟩
  case round =>
    obtain ⟨k, ys, hk, rfl, hy, HO, HD⟩ := hrel
    clear HR
    obtain ⟨va, vb, vc, rfl⟩ : ∃ a b c, u5 = .slice a b c := own_slD HO.out
    have HY := hid hy
    clear hy
    by_cases hlt : k < n
    · go_wp2_with fail
      refine (HN.out _ HD.out.at).mono ?_
      rintro e w1 ⟨⟨c, hc, rfl⟩, rd⟩
      have hg := rd.g
      have hne : ∀ {v : Value} {xs : List Value} {j : Nat}, wr.ownsRow W.heap.size 5 1 v j xs → v.ownBlock ≠ some R := fun ho e => by have := (ho.lt R e).1; have := HL.out; omega
      have O1 := hid (HO.out.kept hg (.inr (hne HO.out)))
      have D1 := hid (HD.out.of rd)
      clear rd hg hne HO HD
      have O8 := hid (O1.out.alloc (.cells #[.int .u8 (c : Int)] 5))
      go_wp2_with (at_builtin; refine wpList_append_own _ rfl _ _ 22 rfl W.heap.size 5 i0 (.int .u8 0) 1 1 Tryz.underlying22 hi0 hz0 hz1 hz2 rfl (by omega) _ _ _ rfl O8.out _ 1 1 [.int .u8 (c : Int)] rfl rfl ?hc ?h1c ?b1 ?b2 ?b3 ?_)
      case hc => exact one_new _ _ _ _ (by simp)
      case h1c => intro x hx; simp at hx; subst hx; rfl
      case b1 => unfold maxLen; omega
      case b2 => omega
      case b3 => have := D1.out.g.size; simp; omega
      intro v1 w9 ho9 hg9 _
      have ob := own_base O8.out
      have D9 := hid (show Rd w0 a len cap R W w9 from by
        have D8 := D1.out.below ((Below.refl _ _).alloc (Nat.le_refl _) (.cells #[.int .u8 (c : Int)] 5))
        exact D8.app hg9 fun r hr => by have := ob _ hr; have := HL.out; omega)
      have O9 := hid (show w9.ownsRow W.heap.size 5 1 v1 (k + 1) (Ns .u8 (ys ++ [(c : Int)])) by simpa [Ns] using ho9)
      clear ho9 hg9 ob O8 O1 D1
      go_wp2
      go_roundw
      case rel => exact ⟨k + 1, ys ++ [(c : Int)], by omega, by go_num, by simp [HY.out], O9, D9⟩
      case measure => simp [intOf]; omega
    · have : k = n := by omega
      subst this
      go_wp2
      go_ret
      exact ⟨_, ys, rfl, HY.out, HO.out, HO'.out _ HD.out⟩
end Go.Proofs.YtacccpkmgkojiaaGreatDoorRR
