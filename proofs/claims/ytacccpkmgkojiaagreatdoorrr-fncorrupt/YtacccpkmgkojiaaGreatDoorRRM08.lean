import Derived.Below
import Derived.KernelRfl
import Derived.OpenShut
import Derived.ProofKit
import Derived.Test.YtacccpkmgkojiaaGreatDoorRRProg
import Derived.WalkKit
import Derived.WalkLawsBesides
import Derived.Test.YtacccpkmgkojiaaGreatDoorRRM00
namespace Go.Proofs.YtacccpkmgkojiaaGreatDoorRR
set_option linter.unusedVariables false
set_option linter.unusedSimpArgs false
set_option maxRecDepth 20000
set_option maxHeartbeats 8000000
open Go.ChangeShapes Go.WideShapes Go.ChangeAt Go.RowKit
theorem hidR {p:Prop} (h:p):Hid p:=h
def szs:List Int:=[16,32,48,64,96,128,192,256,384,512,768,1024]
def sz (c:Int):Int:=if 0≤c∧c < 12 then szs.getD c.toNat 0 else 0
def pg (c:Int):Int:=(4*sz c+1024 - 1)/1024
def sl (c:Int):Int:=if 0≤c∧c < 12 then pg c*1024/sz c else 0
def us (c:Int):Int:=if 0≤c∧c < 12 then sz c - 8 else 0
theorem isc_split {c:Int} (h:0≤c∧c < 12):c=0∨c=1∨c=2∨c=3∨c=4∨c=5∨c=6∨c=7∨c=8∨c=9∨c=10∨c=11:=by omega
theorem sz_in {c:Int} (h:0≤c∧c < 12):16≤sz c∧sz c≤1024:=by
 rcases isc_split h with rfl|rfl|rfl|rfl|rfl|rfl|rfl|rfl|rfl|rfl|rfl|rfl <;> decide
theorem sz_out {c:Int} (h:¬(0≤c∧c < 12)):sz c=0:=by simp only [sz,if_neg h]
theorem sz_le (c:Int):0≤sz c∧sz c≤1024:=by
 by_cases h:0≤c∧c < 12
 ·have:=sz_in h;omega
 rw [sz_out h];omega
theorem sz_nat {k:Nat} (h:k < 12):sz (k:Int)=szs.getD k 0:=by
 have h':(0:Int)≤(k:Int)∧(k:Int) < 12:=by omega
 simp only [sz,if_pos h',Int.toNat_natCast]
structure Tb (w:World):Prop where
 row:∃ t fr,w.heap[0]?=some (.cells (szs.map fun z=>Value.int .i64 z).toArray t fr)
theorem Tb.cells {w:World} (h:Tb w) (k:Nat) (hk:k < 12):w.cell? ⟨0,k,none⟩=some (Vi (szs.getD k 0)):=by
 obtain⟨t,fr,h⟩:=h.row;have hk':k < szs.length:=hk;simp [World.cell?,h,List.getElem?_eq_getElem hk']
theorem Tb.below {w w':World} (h:Tb w) (hb:Below w.heap.size w w'):Tb w':=by
 obtain⟨t,fr,h⟩:=h.row;have hl:0 < w.heap.size:=by
  by_cases hl:0 < w.heap.size
  ·exact hl
  have:w.heap[0]?=none:=Array.getElem?_eq_none (by omega);rw [this] at h;cases h
 exact⟨t,fr,by rw [hb.block 0 hl];exact h⟩
theorem bl_transR {a b c:World} (h1:Below a.heap.size a b) (h2:Below b.heap.size b c):Below a.heap.size a c:=h1.trans (h2.mono h1.size)
theorem im_isClass_yes (c:Int) (w:World) (h:0≤c∧c < 12) :
  Calls Tryz.prog 51 #[Vi c] w fun e w'=>e=.returned (.bool true)∧w'=w:=by
 obtain⟨h0,h1⟩:=h;go_enter Tryz.func51,Tryz.ntmps51;go_wp2;go_ret;exact⟨rfl,rfl⟩
theorem im_isClass_no (c:Int) (w:World) (h:¬(0≤c∧c < 12)) :
  Calls Tryz.prog 51 #[Vi c] w fun e w'=>e=.returned (.bool false)∧w'=w:=by
 by_cases h0:0≤c
 ·have h1:(decide (c < 12))=false:=decide_eq_false (by omega);clear h;go_enter Tryz.func51,Tryz.ntmps51;go_wp2;go_ret;exact⟨by rw [←h1];rfl,rfl⟩
 clear h;go_enter Tryz.func51,Tryz.ntmps51;go_wp2;go_ret;exact⟨rfl,rfl⟩
theorem im_SlotSize (c:Int) (w:World) (ht:Tb w) :
  Calls Tryz.prog 53 #[Vi c] w fun e w'=>e=.returned (Vi (sz c))∧w'=w:=by
 by_cases h:0≤c∧c < 12
 ·obtain⟨k,rfl⟩:=Int.eq_ofNat_of_zero_le h.1;have hk:k < 12:=by omega
  have hc:=ht.cells k hk;rw [sz_nat hk];have HI:=hidR (im_isClass_yes _ w h);clear ht;go_enter Tryz.func53,Tryz.ntmps53;go_wp2_with fail;refine (HI.out).mono ?_;rintro e w' ⟨rfl,rfl⟩;go_wp2;go_ret;exact⟨rfl,rfl⟩
 rw [sz_out h];have HI:=hidR (im_isClass_no _ w h);clear ht;go_enter Tryz.func53,Tryz.ntmps53;go_wp2_with fail;refine (HI.out).mono ?_;rintro e w' ⟨rfl,rfl⟩;go_wp2;go_ret;exact⟨rfl,rfl⟩
end Go.Proofs.YtacccpkmgkojiaaGreatDoorRR
namespace Go.Proofs.YtacccpkmgkojiaaGreatDoorRR
set_option linter.unusedVariables false
set_option linter.unusedSimpArgs false
set_option maxRecDepth 20000
set_option maxHeartbeats 8000000
open Go.ChangeShapes Go.WideShapes Go.ChangeAt Go.RowKit
theorem pg_in {c:Int} (h:0≤c∧c < 12):1≤pg c∧pg c≤4:=by
 rcases isc_split h with rfl|rfl|rfl|rfl|rfl|rfl|rfl|rfl|rfl|rfl|rfl|rfl <;> decide
theorem pg_out {c:Int} (h:¬(0≤c∧c < 12)):pg c=0:=by simp only [pg,sz_out h];decide
theorem pg_le (c:Int):0≤pg c∧pg c≤4:=by
 by_cases h:0≤c∧c < 12
 ·have:=pg_in h;omega
 rw [pg_out h];omega
theorem sl_in {c:Int} (h:0≤c∧c < 12):4≤sl c∧sl c≤64∧sl c=pg c*1024/sz c∧sl c*sz c≤pg c*1024:=by
 rcases isc_split h with rfl|rfl|rfl|rfl|rfl|rfl|rfl|rfl|rfl|rfl|rfl|rfl <;> decide
theorem sl_out {c:Int} (h:¬(0≤c∧c < 12)):sl c=0:=by simp only [sl,if_neg h]
theorem us_in {c:Int} (h:0≤c∧c < 12):us c=sz c - 8:=by simp only [us,if_pos h]
theorem us_out {c:Int} (h:¬(0≤c∧c < 12)):us c=0:=by simp only [us,if_neg h]
theorem im_SlabPages (c:Int) (w:World) (ht:Tb w) :
  Calls Tryz.prog 52 #[Vi c] w fun e w'=>e=.returned (Vi (pg c))∧w'=w:=by
 have HI:=hidR (im_SlotSize c w ht);have hs:=sz_le c;unfold pg;generalize sz c=s at HI hs ⊢;clear ht;go_enter Tryz.func52,Tryz.ntmps52;go_wp2_with fail;refine (HI.out).mono ?_;rintro e w' ⟨rfl,rfl⟩;go_wp2;go_ret;exact⟨rfl,rfl⟩
theorem im_SlabSlots (c:Int) (w:World) (ht:Tb w) :
  Calls Tryz.prog 31 #[Vi c] w fun e w'=>e=.returned (Vi (sl c))∧w'=w:=by
 have HI:=hidR (im_SlotSize c w ht);have HP:=hidR (im_SlabPages c w ht)
 by_cases h:0≤c∧c < 12
 ·have hs:=sz_in h;have hp:=pg_in h;rw [(sl_in h).2.2.1];have HC:=hidR (im_isClass_yes _ w h);generalize sz c=s at HI hs ⊢;generalize pg c=p at HP hp ⊢;clear ht h;go_enter Tryz.func31,Tryz.ntmps31;go_wp2_with fail;refine (HC.out).mono ?_;rintro e w' ⟨rfl,rfl⟩;go_wp2_with fail;refine (HP.out).mono ?_;rintro e w' ⟨rfl,rfl⟩;go_wp2_with fail;refine (HI.out).mono ?_;rintro e w' ⟨rfl,rfl⟩;go_wp2;go_ret;exact⟨rfl,rfl⟩
 rw [sl_out h];have HC:=hidR (im_isClass_no _ w h);clear ht h;go_enter Tryz.func31,Tryz.ntmps31;go_wp2_with fail;refine (HC.out).mono ?_;rintro e w' ⟨rfl,rfl⟩;go_wp2;go_ret;exact⟨rfl,rfl⟩
end Go.Proofs.YtacccpkmgkojiaaGreatDoorRR
namespace Go.Proofs.YtacccpkmgkojiaaGreatDoorRR
set_option linter.unusedVariables false
set_option linter.unusedSimpArgs false
set_option maxRecDepth 20000
set_option maxHeartbeats 8000000
open Go.ChangeShapes Go.WideShapes Go.ChangeAt Go.RowKit
theorem sp_SlotSize_in (c:Int) (w:World) (h:0≤c∧c < 12) :
  Calls Tryz.prog 25 #[Vi c] w fun e w'=>e=.returned (Vi (sz c))∧Below w.heap.size w w':=by
 rcases isc_split h with rfl|rfl|rfl|rfl|rfl|rfl|rfl|rfl|rfl|rfl|rfl|rfl
 all_goals
  clear h
  go_enter Tryz.func25,Tryz.ntmps25
  go_wp2
  go_ret
  exact⟨rfl,by repeat (first|exact Below.refl _ _|apply Below.drew|(refine Below.alloc ?_ (Nat.le_refl _) _))⟩
theorem sp_SlotSize_neg (c:Int) (w:World) (h0:c < 0) :
  Calls Tryz.prog 25 #[Vi c] w fun e w'=>e=.returned (Vi 0)∧Below w.heap.size w w':=by
 go_enter Tryz.func25,Tryz.ntmps25;go_wp2;go_ret;exact⟨rfl,by repeat (first|exact Below.refl _ _|apply Below.drew|(refine Below.alloc ?_ (Nat.le_refl _) _))⟩
theorem sp_SlotSize_big (c:Int) (w:World) (h0:0≤c) (h1:12≤c) :
  Calls Tryz.prog 25 #[Vi c] w fun e w'=>e=.returned (Vi 0)∧Below w.heap.size w w':=by
 go_enter Tryz.func25,Tryz.ntmps25;go_wp2;go_ret;exact⟨rfl,by repeat (first|exact Below.refl _ _|apply Below.drew|(refine Below.alloc ?_ (Nat.le_refl _) _))⟩
theorem sp_SlotSize (c:Int) (w:World) :
  Calls Tryz.prog 25 #[Vi c] w fun e w'=>e=.returned (Vi (sz c))∧Below w.heap.size w w':=by
 by_cases h:0≤c∧c < 12
 ·exact sp_SlotSize_in c w h
 rw [sz_out h]
 by_cases h0:c < 0
 ·exact sp_SlotSize_neg c w h0
 exact sp_SlotSize_big c w (by omega) (by omega)
end Go.Proofs.YtacccpkmgkojiaaGreatDoorRR
namespace Go.Proofs.YtacccpkmgkojiaaGreatDoorRR
set_option linter.unusedVariables false
set_option linter.unusedSimpArgs false
set_option maxRecDepth 20000
set_option maxHeartbeats 8000000
open Go.ChangeShapes Go.WideShapes Go.ChangeAt Go.RowKit
theorem sp_SlabPages (c:Int) (w:World) :
  Calls Tryz.prog 50 #[Vi c] w fun e w'=>e=.returned (Vi (pg c))∧Below w.heap.size w w':=by
 have HI:=hidR (sp_SlotSize c)
 by_cases h:0≤c∧c < 12
 ·have hp:(pg c - 1)*1024 < 4*sz c∧4*sz c≤pg c*1024∧1≤pg c∧pg c≤4:=by
   rcases isc_split h with rfl|rfl|rfl|rfl|rfl|rfl|rfl|rfl|rfl|rfl|rfl|rfl <;> decide
  have hs:=sz_in h;generalize sz c=s at HI hs hp ⊢;generalize pg c=p at hp ⊢;clear h;go_enter Tryz.func50,Tryz.ntmps50;go_wp2_with fail;refine (HI.out _).mono ?_;rintro e w1 ⟨rfl,b1⟩;go_wp2
  go_loop [4] (fun n=>∃ k:Int,1≤k∧k≤p∧n=Vi k) (fun n=>(p - intOf n).toNat)
  case atStart=>exact ⟨1,by omega,by omega,rfl⟩
  case round =>
   obtain⟨k,h1,h2,rfl⟩:=hrel
   by_cases hlt:k < p
   ·have ht:k*1024 < 4*s:=by omega
    have hk4:p≤4:=hp.2.2.2;clear hp;go_wp2
    go_round
    case rel=>exact ⟨k+1,by omega,by omega,rfl⟩
    case measure=>simp [intOf];omega
   obtain rfl:k=p:=by omega
   have ht:¬k*1024 < 4*s:=by omega
   have hk4:k≤4:=hp.2.2.2;clear hlt hp;go_wp2;go_ret;exact⟨rfl,b1⟩
 rw [pg_out h];rw [sz_out h] at HI;clear h;go_enter Tryz.func50,Tryz.ntmps50;go_wp2_with fail;refine (HI.out _).mono ?_;rintro e w1 ⟨rfl,b1⟩;go_wp2;go_ret;exact⟨rfl,b1⟩
theorem sp_SlabSlots (c:Int) (w:World) :
  Calls Tryz.prog 43 #[Vi c] w fun e w'=>e=.returned (Vi (sl c))∧Below w.heap.size w w':=by
 have HI:=hidR (sp_SlotSize c);have HP:=hidR (sp_SlabPages c)
 by_cases h:0≤c∧c < 12
 ·have hs:=sz_in h;have hp:=pg_in h;rw [(sl_in h).2.2.1];generalize sz c=s at HI hs ⊢;generalize pg c=p at HP hp ⊢;clear h;go_enter Tryz.func43,Tryz.ntmps43;go_wp2_with fail;refine (HI.out _).mono ?_;rintro e w1 ⟨rfl,b1⟩;go_wp2_with fail;refine (HP.out _).mono ?_;rintro e w2 ⟨rfl,b2⟩;go_wp2_with fail;refine (HI.out _).mono ?_;rintro e w3 ⟨rfl,b3⟩;go_wp2;go_ret;exact⟨rfl,bl_transR b1 (bl_transR b2 b3)⟩
 rw [sl_out h];rw [sz_out h] at HI;clear h;go_enter Tryz.func43,Tryz.ntmps43;go_wp2_with fail;refine (HI.out _).mono ?_;rintro e w1 ⟨rfl,b1⟩;go_wp2;go_ret;exact⟨rfl,b1⟩
end Go.Proofs.YtacccpkmgkojiaaGreatDoorRR
namespace Go.Proofs.YtacccpkmgkojiaaGreatDoorRR
set_option linter.unusedVariables false
set_option linter.unusedSimpArgs false
set_option maxRecDepth 20000
set_option maxHeartbeats 8000000
open Go.ChangeShapes Go.WideShapes Go.ChangeAt Go.RowKit
theorem ret_intR {k:IntKind} {a b:Int} (h:a=b):Ending.returned (.int k a)=.returned (.int k b):=by rw [h]
def rp (c:Int):Int:=if 0≤c∧c < 12 then 6*(pg c+1) else 0
theorem rp_in {c:Int} (h:0≤c∧c < 12):rp c=6*(pg c+1):=by simp only [rp,if_pos h]
theorem rp_out {c:Int} (h:¬(0≤c∧c < 12)):rp c=0:=by simp only [rp,if_neg h]
theorem rp_le (c:Int):0≤rp c∧rp c≤30:=by
 by_cases h:0≤c∧c < 12
 ·have:=pg_in h;rw [rp_in h];omega
 rw [rp_out h];omega
def rsN:Nat→Int
 | 0=>1
 | k+1=>rsN k+rp k
def rs (c:Int):Int:=if 0≤c∧c < 12 then rsN c.toNat else -1
theorem rsN_le:∀ k:Nat,1≤rsN k∧rsN k≤1+30*k
 | 0=>by simp [rsN]
 | k+1=>by have:=rsN_le k;have:=rp_le k;simp only [rsN];omega
theorem im_slabExtent (c:Int) (w:World) (ht:Tb w) :
  Calls Tryz.prog 86 #[Vi c] w fun e w'=>e=.returned (Vi (pg c+1))∧w'=w:=by
 have HI:=hidR (im_SlabPages c w ht);have hs:=pg_le c;generalize pg c=s at HI hs ⊢;clear ht;go_enter Tryz.func86,Tryz.ntmps86;go_wp2_with fail;refine (HI.out).mono ?_;rintro e w' ⟨rfl,rfl⟩;go_wp2;go_ret;exact⟨rfl,rfl⟩
theorem im_RegionPages (c:Int) (w:World) (ht:Tb w) :
  Calls Tryz.prog 85 #[Vi c] w fun e w'=>e=.returned (Vi (rp c))∧w'=w:=by
 have HE:=hidR (im_slabExtent c w ht)
 by_cases h:0≤c∧c < 12
 ·have hs:=pg_in h;have HC:=hidR (im_isClass_yes _ w h);rw [rp_in h];generalize pg c=s at HE hs ⊢;clear ht h;go_enter Tryz.func85,Tryz.ntmps85;go_wp2_with fail;refine (HC.out).mono ?_;rintro e w' ⟨rfl,rfl⟩;go_wp2_with fail;refine (HE.out).mono ?_;rintro e w' ⟨rfl,rfl⟩;go_wp2;go_ret;exact⟨rfl,rfl⟩
 rw [rp_out h];have HC:=hidR (im_isClass_no _ w h);clear ht h;go_enter Tryz.func85,Tryz.ntmps85;go_wp2_with fail;refine (HC.out).mono ?_;rintro e w' ⟨rfl,rfl⟩;go_wp2;go_ret;exact⟨rfl,rfl⟩
theorem sp_RegionPages (c:Int) (w:World) :
  Calls Tryz.prog 87 #[Vi c] w fun e w'=>e=.returned (Vi (rp c))∧Below w.heap.size w w':=by
 have HI:=hidR (sp_SlotSize c);have HP:=hidR (sp_SlabPages c)
 by_cases h:0≤c∧c < 12
 ·have hs:=sz_in h;have hp:=pg_in h;rw [rp_in h];generalize sz c=s at HI hs ⊢;generalize pg c=p at HP hp ⊢;clear h;go_enter Tryz.func87,Tryz.ntmps87;go_wp2_with fail;refine (HI.out _).mono ?_;rintro e w1 ⟨rfl,b1⟩;go_wp2_with fail;refine (HP.out _).mono ?_;rintro e w2 ⟨rfl,b2⟩;go_wp2;go_ret;exact⟨rfl,bl_transR b1 b2⟩
 rw [rp_out h];rw [sz_out h] at HI;clear h;go_enter Tryz.func87,Tryz.ntmps87;go_wp2_with fail;refine (HI.out _).mono ?_;rintro e w1 ⟨rfl,b1⟩;go_wp2;go_ret;exact⟨rfl,b1⟩
theorem rs_in {c:Int} (h:0≤c∧c < 12):rs c=rsN c.toNat:=by simp only [rs,if_pos h]
theorem rs_out {c:Int} (h:¬(0≤c∧c < 12)):rs c = -1:=by simp only [rs,if_neg h]
theorem sp_RegionStart (c:Int) (w:World) :
  Calls Tryz.prog 84 #[Vi c] w fun e w'=>e=.returned (Vi (rs c))∧Below w.heap.size w w':=by
 have HI:=hidR (sp_SlotSize c);have HP:=hidR sp_RegionPages
 by_cases h:0≤c∧c < 12
 ·have hs:=sz_in h;rw [rs_in h];generalize sz c=s at HI hs ⊢;obtain⟨m,rfl⟩:=Int.eq_ofNat_of_zero_le h.1;have hm:m < 12:=by omega
  simp only [Int.toNat_natCast];clear h;go_enter Tryz.func84,Tryz.ntmps84;go_wp2_with fail;refine (HI.out _).mono ?_;rintro e w1 ⟨rfl,b1⟩;have B1:=hidR b1;clear b1;go_wp2;have e0:(s==0)=false:=by simp;omega
  simp only [e0];go_loopw [3,4] (fun n i wr=>∃ k:Nat,k≤m∧i=Vi k∧n=Vi (rsN k)∧Below w.heap.size w wr) (fun _ i _=>m - (intOf i).toNat)
  case atStart=>exact ⟨0,by omega,rfl,rfl,B1.out⟩
  case round =>
   obtain⟨k,hk,rfl,rfl,hb⟩:=hrel;have hn:=rsN_le k
   by_cases hlt:k < m
   ·have HN:=hidR (show rsN (k+1)=rsN k+rp (k:Int) from rfl);have hr:=rp_le (k:Int);have HB:=hidR hb;clear hb;go_wp2_with fail;refine (HP.out _ _).mono ?_;rintro e w2 ⟨rfl,b2⟩;generalize rsN k=a at hn HN;generalize rp (k:Int)=b at hr HN;have B2:=hidR (bl_transR HB.out b2);clear b2;go_wp2;go_roundw
    case rel=>exact ⟨k+1,by omega,by go_num,by rw [HN.out],B2.out⟩
    case measure=>simp [intOf];omega
   obtain rfl:k=m:=by omega
   go_wp2;go_ret;exact⟨rfl,hb⟩
 rw [rs_out h];rw [sz_out h] at HI;clear h;go_enter Tryz.func84,Tryz.ntmps84;go_wp2_with fail;refine (HI.out _).mono ?_;rintro e w1 ⟨rfl,b1⟩;go_wp2;go_ret;exact⟨rfl,b1⟩
end Go.Proofs.YtacccpkmgkojiaaGreatDoorRR
namespace Go.Proofs.YtacccpkmgkojiaaGreatDoorRR
set_option linter.unusedVariables false
set_option linter.unusedSimpArgs false
set_option maxRecDepth 20000
set_option maxHeartbeats 8000000
open Go.ChangeShapes Go.WideShapes Go.ChangeAt Go.RowKit
theorem rsN_12:rsN 12=187:=by decide
theorem sp_LargeStart (w:World) :
  Calls Tryz.prog 49 #[] w fun e w'=>e=.returned (Vi 187)∧Below w.heap.size w w':=by
 have e1:rs 11=157:=by decide
 have e2:rp 11=30:=by decide
 have HS:Hid (∀ w,_):=fun w=>sp_RegionStart 11 w
 have HP:Hid (∀ w,_):=fun w=>sp_RegionPages 11 w
 rw [e1] at HS;rw [e2] at HP;go_enter Tryz.func49,Tryz.ntmps49;go_wp2_with fail;refine (HS.out _).mono ?_;rintro e w1 ⟨rfl,b1⟩;go_wp2_with fail;refine (HP.out _).mono ?_;rintro e w2 ⟨rfl,b2⟩;go_wp2;go_ret;exact⟨rfl,bl_transR b1 b2⟩
theorem sp_ArenaPages (w:World) :
  Calls Tryz.prog 48 #[] w fun e w'=>e=.returned (Vi 283)∧Below w.heap.size w w':=by
 have HS:=hidR sp_LargeStart;go_enter Tryz.func48,Tryz.ntmps48;go_wp2_with fail;refine (HS.out _).mono ?_;rintro e w1 ⟨rfl,b1⟩;go_wp2;go_ret;exact⟨rfl,b1⟩
theorem rs_le (c:Int) : -1≤rs c∧rs c≤361:=by
 by_cases h:0≤c∧c < 12
 ·have:=rsN_le c.toNat;rw [rs_in h];omega
 rw [rs_out h];omega
theorem sp_l4Slab (c s:Int) (h0 : -1000≤s) (h1:s≤1000) (w:World) :
  Calls Tryz.prog 44 #[Vi c,Vi s] w fun e w'=>e=.returned (Vi (rs c+s*(pg c+1)))∧Below w.heap.size w w':=by
 have HS:=hidR (sp_RegionStart c);have HP:=hidR (sp_SlabPages c);have hr:=rs_le c;have hp:=pg_le c;generalize rs c=r at HS hr ⊢;generalize pg c=p at HP hp ⊢;have hm : -5000≤s*(p+1)∧s*(p+1)≤5000:=by
  have:p=0∨p=1∨p=2∨p=3∨p=4:=by omega
  rcases this with rfl|rfl|rfl|rfl|rfl <;> omega
 go_enter Tryz.func44,Tryz.ntmps44;go_wp2_with fail;refine (HS.out _).mono ?_;rintro e w1 ⟨rfl,b1⟩;go_wp2_with fail;refine (HP.out _).mono ?_;rintro e w2 ⟨rfl,b2⟩;go_wp2;go_ret;exact⟨rfl,bl_transR b1 b2⟩
end Go.Proofs.YtacccpkmgkojiaaGreatDoorRR
namespace Go.Proofs.YtacccpkmgkojiaaGreatDoorRR
set_option linter.unusedVariables false
set_option linter.unusedSimpArgs false
set_option maxRecDepth 20000
set_option maxHeartbeats 8000000
open Go.ChangeShapes Go.WideShapes Go.ChangeAt Go.RowKit
theorem sp_Usable (c:Int) (w:World) :
  Calls Tryz.prog 22 #[Vi c] w fun e w'=>e=.returned (Vi (us c))∧Below w.heap.size w w':=by
 have HI:=hidR (sp_SlotSize c)
 by_cases h:0≤c∧c < 12
 ·have hs:=sz_in h;rw [us_in h];generalize sz c=s at HI hs ⊢;clear h;go_enter Tryz.func22,Tryz.ntmps22;go_wp2_with fail;refine (HI.out _).mono ?_;rintro e w1 ⟨rfl,b1⟩;go_wp2_with fail;refine (HI.out _).mono ?_;rintro e w2 ⟨rfl,b2⟩;go_wp2;go_ret;exact⟨rfl,bl_transR b1 b2⟩
 rw [us_out h];rw [sz_out h] at HI;clear h;go_enter Tryz.func22,Tryz.ntmps22;go_wp2_with fail;refine (HI.out _).mono ?_;rintro e w1 ⟨rfl,b1⟩;go_wp2;go_ret;exact⟨rfl,b1⟩
theorem im_Usable (c:Int) (w:World) (ht:Tb w) :
  Calls Tryz.prog 169 #[Vi c] w fun e w'=>e=.returned (Vi (us c))∧w'=w:=by
 have HI:=hidR (im_SlotSize c w ht)
 by_cases h:0≤c∧c < 12
 ·have hs:=sz_in h;rw [us_in h];have HC:=hidR (im_isClass_yes _ w h);generalize sz c=s at HI hs ⊢;clear ht h;go_enter Tryz.func169,Tryz.ntmps169;go_wp2_with fail;refine (HC.out).mono ?_;rintro e w' ⟨rfl,rfl⟩;go_wp2_with fail;refine (HI.out).mono ?_;rintro e w' ⟨rfl,rfl⟩;go_wp2;go_ret;exact⟨rfl,rfl⟩
 rw [us_out h];have HC:=hidR (im_isClass_no _ w h);clear ht h;go_enter Tryz.func169,Tryz.ntmps169;go_wp2_with fail;refine (HC.out).mono ?_;rintro e w' ⟨rfl,rfl⟩;go_wp2;go_ret;exact⟨rfl,rfl⟩
theorem ret_intE {k:IntKind} {a b:Int} (h:a=b):Ending.returned (.int k a)=.returned (.int k b):=by rw [h]
def coFrom (r:Int):Nat→Nat→Int
 | k,0 => -1
 | k,n+1=>if r≤us k then (k:Int) else coFrom r (k+1) n
def co (r:Int):Int:=coFrom r 0 12
theorem us_le (c:Int):0≤us c∧us c≤1016:=by
 by_cases h:0≤c∧c < 12
 ·have:=sz_in h;rw [us_in h];omega
 rw [us_out h];omega
theorem coFrom_big (r:Int) (h:1016 < r):∀ n k,coFrom r k n = -1
 | 0,k=>rfl
 | n+1,k=>by
  have:=us_le k
  simp only [coFrom,if_neg (show ¬r≤us (k:Int) by omega)]
  exact coFrom_big r h n (k+1)
theorem sp_ClassOf (r:Int) (h0:0≤r) (h1:r≤18446744073709551615) (w:World) :
  Calls Tryz.prog 21 #[Vu r] w fun e w'=>e=.returned (Vi (co r))∧Below w.heap.size w w':=by
 have HU:=hidR sp_Usable;go_enter Tryz.func21,Tryz.ntmps21;go_wp2;go_loopw [3] (fun c wr=>∃ k:Nat,k≤12∧c=Vi k∧co r=coFrom r k (12 - k)∧Below w.heap.size w wr) (fun c _=>12 - (intOf c).toNat)
 case atStart=>exact ⟨0,by omega,rfl,rfl,Below.refl _ _⟩
 case round =>
  obtain⟨k,hk,rfl,he,hb⟩:=hrel
  by_cases hlt:k < 12
  ·have e1:12 - k=(11 - k)+1:=by omega
   rw [e1,coFrom] at he;have hu:=us_le (k:Int);have HB:=hidR hb;clear hb e1;go_wp2_with fail;refine (HU.out _ _).mono ?_;rintro e w1 ⟨rfl,b1⟩;generalize us (k:Int)=u at he hu ⊢
   by_cases hr:r≤u
   ·rw [if_pos hr] at he;have HE:=hidR he;clear he;go_wp2;go_ret;exact⟨ret_intE HE.out.symm,bl_transR HB.out b1⟩
   rw [if_neg hr] at he;have HE:=hidR he;clear he;go_wp2;go_roundw
   case rel=>exact ⟨k+1,by omega,by go_num,by rw [HE.out];congr 1;omega,bl_transR HB.out b1⟩
   case measure=>simp [intOf];omega
  obtain rfl:k=12:=by omega
  have HE:=hidR he;clear he;go_wp2;go_ret;exact⟨ret_intE HE.out.symm,hb⟩
theorem us_get {k:Nat} (h:k < 12):us (k:Int)=szs.getD k 0 - 8:=by
 rw [us_in ⟨by omega,by omega⟩,sz_nat h]
theorem im_ClassOf_big (r:Int) (h:1016 < r) (w:World) :
  Calls Tryz.prog 126 #[Vu r] w fun e w'=>e=.returned (Vi (co r))∧w'=w:=by
 rw [show co r = -1 from coFrom_big r h 12 0];go_enter Tryz.func126,Tryz.ntmps126;go_wp2;go_ret;exact⟨rfl,rfl⟩
theorem run_index12 (w:World) (A:Array Value) (k:Nat) (v:Value) (hk:k < 12) (h:A[k]?=some v):(Instr.index 142 (.agg A) (Vi k)).run Tryz.prog w=.ok v w:=by
 simp [Instr.index,run_underlying Tryz.underlying142,asIntOf,hk,go_sem,h]
theorem im_ClassOf_small (r:Int) (h0:0≤r) (h:r≤1016) (w:World) (ht:Tb w) :
  Calls Tryz.prog 126 #[Vu r] w fun e w'=>e=.returned (Vi (co r))∧w'=w:=by
 obtain⟨t,fr,hb⟩:=ht.row;go_enter Tryz.func126,Tryz.ntmps126;go_wp2_with (refine wpList_load_row rfl 142 _ rfl 0 rfl t _ fr _ hb Tryz.underlying142 rfl (by kernel_rfl) ?_)
 go_loop [8] (fun i=>∃ k:Nat,k≤12∧i=Vi k∧co r=coFrom r k (12 - k)) (fun i=>12 - (intOf i).toNat)
 case atStart=>exact ⟨0,by omega,rfl,rfl⟩
 case round =>
  obtain⟨k,hk,rfl,he⟩:=hrel
  by_cases hlt:k < 12
  ·have e1:12 - k=(11 - k)+1:=by omega
   rw [e1,coFrom,us_get hlt] at he;have hg:(List.map (fun z=>Value.int IntKind.i64 z) szs).toArray[k]?=some (Vi (szs.getD k 0)):=by
    have hk':k < szs.length:=hlt;simp [List.getElem?_eq_getElem hk']
   have hu:=sz_in (c:=(k:Int)) ⟨by omega,by omega⟩;rw [sz_nat hlt] at hu;clear hb ht e1;generalize szs.getD k 0=u at he hu hg;generalize (List.map (fun z=>Value.int IntKind.i64 z) szs).toArray=A at hg ⊢;have hx:=run_index12 w A k _ hlt hg;clear hg
   by_cases hr:r+8≤u
   ·rw [if_pos (by omega)] at he;have HE:=hidR he;clear he;go_wp2;go_ret;exact⟨ret_intE HE.out.symm,rfl⟩
   rw [if_neg (by omega)] at he;have HE:=hidR he;clear he;go_wp2
   go_round
   case rel=>exact ⟨k+1,by omega,by go_num,by rw [HE.out];congr 1;omega⟩
   case measure=>simp [intOf];omega
  obtain rfl:k=12:=by omega
  have HE:=hidR he;clear he;go_wp2;go_ret;exact⟨ret_intE HE.out.symm,rfl⟩
theorem im_ClassOf (r:Int) (h0:0≤r) (w:World) (ht:Tb w) :
  Calls Tryz.prog 126 #[Vu r] w fun e w'=>e=.returned (Vi (co r))∧w'=w:=by
 by_cases h:1016 < r
 ·exact im_ClassOf_big r h w
 exact im_ClassOf_small r h0 (by omega) w ht
end Go.Proofs.YtacccpkmgkojiaaGreatDoorRR
