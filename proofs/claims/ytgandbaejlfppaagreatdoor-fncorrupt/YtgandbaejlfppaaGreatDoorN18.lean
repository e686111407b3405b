import Derived.Test.YtgandbaejlfppaaGreatDoorN15
import Derived.Test.YtgandbaejlfppaaGreatDoorM15
namespace Go.Proofs.YtgandbaejlfppaaGreatDoor
set_option linter.unusedVariables false
set_option linter.unusedSimpArgs false
set_option maxRecDepth 20000
set_option maxHeartbeats 8000000
open Go.ChangeShapes Go.WideShapes Go.ChangeAt Go.RowKit
structure Slot (c s t:Int):Prop where
 c0:0≤c
 c1:c < 12
 s0:0≤s
 s1:s < 6
 t0:0≤t
 t1:t < sl c
theorem sl_mul {c:Int} (h:0≤c∧c < 12) {t:Int} (h0:0≤t) (h1:t < sl c):0≤t*sz c∧t*sz c+sz c≤sl c*sz c:=by
 have hz:=sz_in h;refine⟨Int.mul_nonneg h0 (by omega),?_⟩;have:=Int.mul_le_mul_of_nonneg_right (show t+1≤sl c by omega) (show 0≤sz c by omega);rw [Int.add_mul] at this;omega
theorem Slot.dec {c s t:Int} (h:Slot c s t) {o:Int} (ho0:0≤o) (ho1:o < sz c):Dec ((rs c+s*(pg c+1))*1024+t*sz c+o) (pl 3 c s t 0 o) ∧
  1024≤(rs c+s*(pg c+1))*1024+t*sz c∧(rs c+s*(pg c+1))*1024+t*sz c+o < 191488:=by
 have hc:0≤c∧c < 12:=⟨h.c0,h.c1⟩;have hz:=sz_in hc;have hl:=sl_in hc;have hp:=pg_in hc;have hm:=sl_mul hc h.t0 h.t1;have hs0:=h.s0;have hs1:=h.s1;have hr:1≤rs c∧rs c+6*(pg c+1)≤187:=by
  rcases isc_split hc with rfl|rfl|rfl|rfl|rfl|rfl|rfl|rfl|rfl|rfl|rfl|rfl <;> decide
 have hq:0≤s*(pg c+1)∧s*(pg c+1)+(pg c+1)≤6*(pg c+1):=by
  have:pg c=1∨pg c=2∨pg c=3∨pg c=4:=by omega
  rcases this with e|e|e|e <;> rw [e] <;> omega
 have hlo:1024≤(rs c+s*(pg c+1))*1024+t*sz c:=by omega
 have hhi:(rs c+s*(pg c+1))*1024+t*sz c+o < 191488:=by omega
 refine⟨?_,hlo,hhi⟩;have hhit:Hit (((rs c+s*(pg c+1))*1024+t*sz c+o)/1024) c s:=⟨h.c0,h.c1,h.s0,h.s1,by omega,by omega⟩;have key:=Dec.slab _ c s (by omega) hhi hhit;have e:(rs c+s*(pg c+1))*1024+t*sz c+o - (rs c+s*(pg c+1))*1024=t*sz c+o:=by omega
 rw [e] at key;unfold plO at key;rw [if_neg (by omega),if_neg (by omega)] at key;have e1:(t*sz c+o)/sz c=t:=by
  rw [Int.add_comm,Int.add_mul_ediv_right _ _ (by omega),Int.ediv_eq_zero_of_lt ho0 ho1];omega
 have e2:(t*sz c+o) % sz c=o:=by
  rw [Int.add_comm,Int.add_mul_emod_self_right,Int.emod_eq_of_lt ho0 ho1]
 rw [e1,e2] at key;exact key
theorem wrap64_in {x:Int} (h0 : -9223372036854775808≤x) (h1:x≤9223372036854775807):wrap64 x=x:=by
 simp only [wrap64];omega
theorem im_SlotAddr_yes (c s t:Int) (h:Slot c s t) (w:World) (ht:Tb w) :
  Calls Tryz.prog 108 #[Vi c,Vi s,Vi t] w fun e w'=>e=.returned (.tuple #[Vu ((rs c+s*(pg c+1))*1024+t*sz c),.bool true])∧Below w.heap.size w w':=by
 have hc:0≤c∧c < 12:=⟨h.c0,h.c1⟩;have IR:=hidR (im_RegionStart c);have IX:=hidR (im_slabExtent c);have IZ:=hidR (im_SlotSize c);have hz:=sz_in hc;have hp:=pg_in hc;have hd:=h.dec (o:=0) (by omega) (by omega);have hs0:=h.s0;have hs1:=h.s1;have hr:1≤rs c∧rs c≤361:=by have:=rs_le c;rw [rs_in hc] at this ⊢;have:=rsN_le c.toNat;omega
 have hq:0≤s*(pg c+1)∧s*(pg c+1)≤25:=by
  have:pg c=1∨pg c=2∨pg c=3∨pg c=4:=by omega
  rcases this with e|e|e|e <;> rw [e] <;> omega
 have hm:=sl_mul hc h.t0 h.t1;have hm1:t*sz c≤4096:=by have:=(sl_in hc).2.2.2;omega
 have HD:=hidR hd.1;have hd2:=hd.2;have ID:=hidR (fun W hW=>im_Decode ((rs c+s*(pg c+1))*1024+t*sz c) (by omega) (by omega) W hW);rw [Int.add_zero] at HD hd2;have hm2:0≤t*sz c∧t*sz c≤4096:=⟨hm.1,hm1⟩;clear hm hm1 hd h;generalize rs c=r at *;generalize pg c=p at *;generalize sz c=z at *;go_enter Tryz.func108,Tryz.ntmps108;go_wp2_with fail;refine (IR.out _ ht).mono ?_;rintro e w1 ⟨rfl,b1⟩;have T1:=hidR (ht.below b1);go_wp2_with fail;refine (IX.out _ T1.out).mono ?_;rintro e w2 ⟨rfl,rfl⟩;go_wp2_with fail;refine (IZ.out _ T1.out).mono ?_;rintro e w3 ⟨rfl,rfl⟩;go_wp2_with fail;refine (ID.out _ T1.out).mono ?_;rintro e w4 ⟨⟨v,hv,rfl⟩,b4⟩;have ev:=HD.out.one hv;subst ev;have B4:=hidR (bl_transR b1 b4);clear hv b1 b4 T1 IR IX IZ ID ht HD;unfold pl;go_wp2
 go_ret2
 exact⟨rfl,B4.out⟩
end Go.Proofs.YtgandbaejlfppaaGreatDoor
namespace Go.Proofs.YtgandbaejlfppaaGreatDoor
set_option linter.unusedVariables false
set_option linter.unusedSimpArgs false
set_option maxRecDepth 20000
set_option maxHeartbeats 8000000
open Go.RowKit
theorem adr_cP {c s j:Nat} (hc:c < 12):(rs (c:Int)+(s:Int)*(pg (c:Int)+1))*1024+(j:Int)*sz (c:Int)=((adr c s j:Nat):Int):=by
 rw [rs_c hc,pg_c hc,sz_c hc];unfold adr slabP;simp
theorem Tb.ofBelow {W W':World} (h:Tb W) (hb:Below W.heap.size W W'):Tb W':=by
 obtain⟨t,fr,h⟩:=h.row;exact⟨t,fr,by rw [hb.block 0 (lt_blk h)];exact h⟩
theorem im_keptP (a:Addr) (W:World):Calls Tryz.prog 213 #[.pointer (some a)] W fun e W'=>e=.returned (.pointer (some a))∧W'=W:=by
 go_enter Tryz.func213,Tryz.ntmps213;go_wp2;go_ret;exact⟨rfl,rfl⟩
structure Sc (g b c s j:Nat) (W:World):Prop where
 c2:W.cell? ⟨g,2,none⟩=some (Vp b 0)
 c3:W.cell? ⟨g,3,none⟩=some (Vi (j:Nat))
 d0:W.cell? ⟨b,0,none⟩=some (Vi (c:Nat))
 d1:W.cell? ⟨b,1,none⟩=some (Vi (s:Nat))
 tb:Tb W
 hc:c < 12
 hs:s < 6
 hj:j < slN c
theorem Sc.below {g b c s j:Nat} {W W':World} (h:Sc g b c s j W) (k:Below W.heap.size W W'):Sc g b c s j W':=⟨below_cell k h.c2,below_cell k h.c3,below_cell k h.d0,below_cell k h.d1,h.tb.ofBelow k,h.hc,h.hs,h.hj⟩
theorem im_sbase (g b c s j:Nat) (W:World) (h:Sc g b c s j W) :
  Calls Tryz.prog 72 #[Vp g 0] W fun e W'=>e=.returned (Vu (adr c s j:Nat))∧Below W.heap.size W W':=by
 obtain⟨c2,c3,d0,d1,ht,hc,hs,hj⟩:=h;have C:=hid (im_SlotAddr_yes (c:Nat) (s:Nat) (j:Nat) ⟨by omega,by omega,by omega,by omega,by omega,by rw [sl_c hc];omega⟩ W.drew ⟨ht.row⟩);rw [adr_cP hc] at C;have CK:=hid (show ∀ W9,Below W.heap.size W W9→W9.cell? ⟨g,2,none⟩=some (Vp b 0)∧W9.cell? ⟨g,3,none⟩=some (Vi (j:Nat))∧W9.cell? ⟨b,0,none⟩=some (Vi (c:Nat))∧W9.cell? ⟨b,1,none⟩=some (Vi (s:Nat)) from fun W9 k=>⟨below_cell k c2,below_cell k c3,below_cell k d0,below_cell k d1⟩);clear ht hc hs hj c2 c3 d0 d1;go_enter Tryz.func72,Tryz.ntmps72;go_upto_region 1 with fail
 refine wp_region_held (S:=fun W9=>W9.cell? ⟨g,2,none⟩=some (Vp b 0)∧W9.cell? ⟨g,3,none⟩=some (Vi (j:Nat))∧W9.cell? ⟨b,0,none⟩=some (Vi (c:Nat))∧W9.cell? ⟨b,1,none⟩=some (Vi (s:Nat))) (by kernel_rfl) ?_;simp only [List.size_toArray,List.length_cons,List.length_nil,Nat.reduceAdd,Array.replicate_succ,Array.replicate_zero,List.push_toArray,List.nil_append,List.cons_append];have hS:=CK.out _ (Below.refl _ _).drew
 iterate 18 (refine py hS ?_;simp only [f0,f1,Nat.reduceAdd,lz,l0,ls])
 refine po 18 fun K' hK=>?_
 go_simp;refine (C.out).mono ?_;rintro e W2 ⟨rfl,b2⟩;have k2:Below W.heap.size W W2:=⟨b2.os,b2.tape,b2.output,b2.size,b2.block⟩;have h2:=CK.out _ k2;refine hK.out _ _ ⟨h2,?_⟩;clear hS;have hS:=h2;clear hK K'
 iterate 5 (refine py hS ?_;simp only [f0,f1,Nat.reduceAdd,lz,l0,ls])
 refine wpAnyH_done (by kernel_rfl) ?_ _;have K2:=hid k2;clear k2 b2 hS h2 C CK;go_wp2;go_ret;exact⟨rfl,K2.out⟩
theorem im_susable (g b c s j:Nat) (W:World) (h:Sc g b c s j W) :
  Calls Tryz.prog 107 #[Vp g 0] W fun e W'=>e=.returned (Vi (usN c:Nat))∧W'=W:=by
 obtain⟨c2,c3,d0,d1,ht,hc,hs,hj⟩:=h;have C:=hid (im_Usable (c:Nat) W ht);rw [us_c hc] at C;clear ht hc c3 d1 hs hj;go_enter Tryz.func107,Tryz.ntmps107;go_wp2_with fail;refine (C.out).mono ?_;rintro e W2 ⟨rfl,rfl⟩;go_wp2;go_ret;exact⟨rfl,rfl⟩
theorem im_canaryAt (g b c s j:Nat) (W:World) (h:Sc g b c s j W) :
  Calls Tryz.prog 69 #[Vp g 0] W fun e W'=>e=.returned (Vu (adr c s j+usN c:Nat))∧Below W.heap.size W W':=by
 have C:=hid (im_sbase g b c s j W h);have D:=hid (fun W' (hb:Below W.heap.size W W')=>im_susable g b c s j W' (h.below hb));have ha:=adr_in h.hc h.hs h.hj;have hu:=szN_in h.hc;have hu2:usN c≤1016:=by omega
 have HE:=hid (show ((adr c s j+usN c:Nat):Int)=(adr c s j:Int)+(usN c:Int) by omega);have hA:adr c s j≤200000:=by omega
 generalize adr c s j=A at *;generalize usN c=u at *;clear h ha hu;go_enter Tryz.func69,Tryz.ntmps69;go_wp2_with fail;refine (C.out).mono ?_;rintro e W2 ⟨rfl,b2⟩;have B2:=hid b2;clear b2 C;go_wp2_with fail;refine (D.out _ B2.out).mono ?_;rintro e W3 ⟨rfl,rfl⟩;clear D;go_wp2;go_ret;refine⟨?_,B2.out⟩;rw [HE.out];rfl
theorem im_pagesFor (a:Nat) (W:World) (ha:a < 18446744073709551616) :
  Calls Tryz.prog 97 #[Vu (a:Nat)] W fun e W'=>e=.returned (Vi (pagesN a:Nat))∧W'=W:=by
 unfold pagesN
 by_cases hr:a % 1024 > 0
 ·rw [if_pos hr];have HE:=hid (show (((a/1024+1:Nat):Nat):Int)=(a:Int)/1024+1 by omega);go_enter Tryz.func97,Tryz.ntmps97;go_wp2;go_ret;rw [HE.out];exact⟨rfl,rfl⟩
 rw [if_neg hr];have HE:=hid (show (((a/1024+0:Nat):Nat):Int)=(a:Int)/1024 by omega);go_enter Tryz.func97,Tryz.ntmps97;go_wp2;go_ret;rw [HE.out];exact⟨rfl,rfl⟩
structure Lc (g:Nat) (r:Rg9) (W:World):Prop where
 c0:W.cell? ⟨g,0,none⟩=some (Vi r.st)
 c1:W.cell? ⟨g,1,none⟩=some (Vi r.rq)
 c2:W.cell? ⟨g,2,none⟩=some (Vi (r.first:Nat))
 c3:W.cell? ⟨g,3,none⟩=some (Vi (r.guards:Nat))
 c4:W.cell? ⟨g,4,none⟩=some (Vi (r.pages:Nat))
 hf:r.first≤300
 hu:r.guards≤3
 hp:r.pages≤18014398509481984
theorem Lc.below {g:Nat} {r:Rg9} {W W':World} (h:Lc g r W) (k:Below W.heap.size W W'):Lc g r W':=⟨below_cell k h.c0,below_cell k h.c1,below_cell k h.c2,below_cell k h.c3,below_cell k h.c4,h.hf,h.hu,h.hp⟩
theorem im_lbase (g:Nat) (r:Rg9) (W:World) (h:Lc g r W) :
  Calls Tryz.prog 99 #[Vp g 0] W fun e W'=>e=.returned (Vu (r.base:Nat))∧W'=W.drew:=by
 obtain⟨_,_,c2,c3,_,hf,hu,_⟩:=h;have HE:=hid (show ((r.base:Nat):Int)=((r.first:Int)+(r.guards:Int))*1024 by unfold Rg9.base;omega);generalize r.first=f at *
 generalize r.guards=u at *;go_enter Tryz.func99,Tryz.ntmps99;go_wp2;go_region;go_wp2;go_ret;rw [HE.out];exact⟨rfl,rfl⟩
theorem im_lusable (g:Nat) (r:Rg9) (W:World) (h:Lc g r W) (hp9:r.pages≤300) :
  Calls Tryz.prog 214 #[Vp g 0] W fun e W'=>e=.returned (Vi (r.pages*1024:Nat))∧W'=W:=by
 obtain⟨_,_,_,_,c4,_,_,_⟩:=h;have HE:=hid (show ((r.pages*1024:Nat):Int)=(r.pages:Int)*1024 by omega);generalize r.pages=p at *;go_enter Tryz.func214,Tryz.ntmps214;go_wp2;go_ret;rw [HE.out];exact⟨rfl,rfl⟩
theorem im_extent (g:Nat) (r:Rg9) (W:World) (h:Lc g r W) :
  Calls Tryz.prog 79 #[Vp g 0] W fun e W'=>e=.returned (Vi (r.ext:Nat))∧W'=W.drew:=by
 obtain⟨_,_,_,c3,c4,_,hu,hp⟩:=h;have HE:=hid (show ((r.ext:Nat):Int)=(r.guards:Int)+(r.pages:Int)+1 by unfold Rg9.ext;omega);generalize r.guards=u at *;generalize r.pages=p at *;go_enter Tryz.func79,Tryz.ntmps79;go_wp2;go_region;go_wp2;go_ret;rw [HE.out];exact⟨rfl,rfl⟩
end Go.Proofs.YtgandbaejlfppaaGreatDoor
namespace Go.Proofs.YtgandbaejlfppaaGreatDoor
set_option linter.unusedVariables false
set_option linter.unusedSimpArgs false
set_option maxRecDepth 20000
set_option maxHeartbeats 8000000
open Go.RowKit
def up9:List (Nat×Nat×Nat)→Bool
 | a::b::r=>decide (adr a.1 a.2.1 a.2.2 < adr b.1 b.2.1 b.2.2) && up9 (b::r)
 | _=>true
theorem up9_all:up9 allS=true:=by decide +kernel
theorem up9_step:∀ (l:List (Nat×Nat×Nat)) (k:Nat) (a b:Nat×Nat×Nat),up9 l=true→l[k]?=some a→l[k+1]?=some b→adr a.1 a.2.1 a.2.2 < adr b.1 b.2.1 b.2.2
 | [],k,a,b,_,h,_=>by simp at h
 | [y],k,a,b,_,_,h=>by simp at h
 | y::z::r,0,a,b,hu,h1,h2=>by
  simp [up9] at hu h1 h2
  subst h1 h2
  exact hu.1
 | y::z::r,k+1,a,b,hu,h1,h2=>by
  simp only [up9,Bool.and_eq_true] at hu
  exact up9_step (z::r) k a b hu.2 (by simpa using h1) (by simpa using h2)
theorem adA_step {k:Nat} (h:k+1 < 1062):adA k < adA (k+1):=up9_step allS k (sA k) (sA (k+1)) up9_all (sA_some (by omega)) (sA_some h)
theorem adA_lt {i:Nat} : ∀ {k:Nat},i < k→k < 1062→adA i < adA k
 | 0,h,_=>by omega
 | k+1,h,hk=>by
  have h1:=adA_step hk
  by_cases e:i=k
  ·subst e;exact h1
  have:=adA_lt (i:=i) (k:=k) (by omega) (by omega)
  omega
theorem sA_mem {c s j:Nat} (hc:c < 12) (hs:s < 6) (hj:j < slN c):∃ k,k < 1062∧sA k=(c,s,j):=by
 have hm:(c,s,j)∈allS:=by
  unfold allS;simp only [List.mem_flatMap,List.mem_range,List.mem_map];exact⟨c,hc,s,hs,j,hj,rfl⟩
 obtain⟨k,hk⟩:=List.getElem?_of_mem hm;have hl:=(List.getElem?_eq_some_iff.1 hk).1;rw [allS_len] at hl;refine⟨k,hl,?_⟩;unfold sA;rw [hk];rfl
end Go.Proofs.YtgandbaejlfppaaGreatDoor
namespace Go.Proofs.YtgandbaejlfppaaGreatDoor
set_option linter.unusedVariables false
set_option linter.unusedSimpArgs false
set_option maxRecDepth 20000
set_option maxHeartbeats 8000000
open Go.RowKit
def ansV (a:An4) (v:Value):Value:=.agg #[Vi a.code,Vu (a.addr:Nat),Vi (a.size:Nat),v]
def malA:Option Nat→An4
 | none=>.no 1
 | some q=>⟨0,q,0,[]⟩
structure Dok (cf:Cf):Prop where
 len:cf.ds.length≤20000
 wf:∀ d∈cf.ds,(Lit.int .i64 d).wf=true
 key0:0≤cf.key
 key1:cf.key < 18446744073709551616
 mix:cf.mix≤16
 fifo1:1≤cf.fifo
 fifo:cf.fifo≤32
 large:cf.large≤16
 bud:cf.bud≤283
theorem accC_open {m:Nat→Option (Bool×List Int)} {a n:Nat} (h0:1≤n) (h1:n≤4096) (h2:a+n≤1000000) (ho:∀ k,k < n→isOpen (m ((a+k)/1024))=true):accC m a (n:Int)=0:=by
 unfold accC;rw [if_neg (by omega),if_neg (by omega),if_neg (by omega),Int.toNat_natCast,reachN_of ho];rfl
theorem sp_co (a:Nat) (W:World) (ha:a≤1016):Calls Tryz.prog 6 #[Vu a] W fun e W'=>e=.returned (Vi (coN a:Nat))∧Below W.heap.size W W':=by
 refine (sp_ClassOf (a:Int) (by omega) (by omega) W).mono ?_;rintro e W' ⟨rfl,b⟩;exact⟨ret_int (co_c ha).1,b⟩
def putS (cf:Cf) (c a:Nat):Option (Nat×Nat)×Hs→Option Nat×Hs
 | (none,h1)=>(none,h1)
 | (some (s,j),h1)=>(some (adr c s j),{ h1 with st:=upd3 h1.st c s j 1,rq:=upd3 h1.rq c s j a,m:=storeM h1.m (adr c s j+usN c) (can cf (adr c s j)) 8 })
theorem mallocM_small (cf:Cf) (h:Hs) {a:Nat} (ha:a≤1016):mallocM cf h a=putS cf (coN a) a (smallM cf (coN a) 2000 h):=by
 unfold mallocM putS;rw [if_pos ha];rfl
end Go.Proofs.YtgandbaejlfppaaGreatDoor
namespace Go.Proofs.YtgandbaejlfppaaGreatDoor
set_option linter.unusedVariables false
set_option linter.unusedSimpArgs false
set_option maxRecDepth 20000
set_option maxHeartbeats 8000000
open Go.RowKit
def opV6 (o:Op6) (d:Option Addr) (dc:Nat):Value:=.agg #[Vi o.kd,Vi o.ref,Vu (o.p:Nat),Vu (o.a:Nat),Vu (o.b:Nat),.slice d o.ys.length dc]
theorem own_none (W:World) (B:Nat):W.ownsRow B 5 1 (Vn) ([]:List Int).length (Ns .u8 []):=⟨rfl,.inl ⟨rfl,rfl⟩⟩
end Go.Proofs.YtgandbaejlfppaaGreatDoor
namespace Go.Proofs.YtgandbaejlfppaaGreatDoor
set_option linter.unusedVariables false
set_option linter.unusedSimpArgs false
set_option maxRecDepth 20000
set_option maxHeartbeats 8000000
open Go.RowKit
theorem runH_snoc (cf:Cf) (o:Op6):∀ (l:List Op6) (h:Hs) (an:List An4),runH cf (l++[o]) h an=((stepH cf (runH cf l h an).1 (runH cf l h an).2 o).2,(runH cf l h an).2++[(stepH cf (runH cf l h an).1 (runH cf l h an).2 o).1])
 | [],h,an=>rfl
 | p::l,h,an=>by
  show runH cf (l++[o]) _ _=_
  rw [runH_snoc cf o l]
  rfl
theorem runH_len (cf:Cf):∀ (l:List Op6) (h:Hs) (an:List An4),(runH cf l h an).2.length=an.length+l.length
 | [],h,an=>rfl
 | p::l,h,an=>by
  show (runH cf l _ _).2.length=_
  rw [runH_len cf l]
  simp
  omega
abbrev Aw:=An4×Value
def aC (y:Aw):List Value:=[Vi y.1.code,Vu (y.1.addr:Nat),Vi (y.1.size:Nat),y.2]
def flatB (l:List Aw):List Value:=l.flatMap aC
theorem flatB_snoc (l:List Aw) (y:Aw):flatB (l++[y])=flatB l++aC y:=by simp [flatB]
theorem info81b:(Tryz.prog.info? 45).map (fun i=>(i.zero,i.size,i.bytes))=some (some (.agg #[Vi 0,Vu 0,Vi 0,Vn]),4,48):=by kernel_rfl
theorem app_an (W:World) (B:Nat) (v:Value) (l:List Aw) (y:Aw) (g c:Nat) (hown:W.ownsRow B 45 4 v l.length (flatB l)) (hg:W.heap[g]?=some (.cells (aC y).toArray 45 (0,0))) (hy:y.2.oneCell'=true) (hl:l.length≤1000) (hB:B≤W.heap.size) :
  ∃ v' w',(Builtin.append_ #[31,31] 31 #[v,Vl g 1 c]).run Tryz.prog W=.ok v' w'∧w'.ownsRow B 45 4 v' (l++[y]).length (flatB (l++[y]))∧W.grownBy w' v.ownBlock:=by
 obtain⟨i0,hi0,hz0,hz1,hz2⟩:=info_parts info81b;have hnw:∀ j u,(aC y)[j]?=some u→W.cell? ((⟨g,0,none⟩:Addr).add j)=some u:=fun j u hj=>by
  rw [Addr.add_mid,Nat.zero_add,cell_of_row _ _ j _ _ _ hg];simpa using hj
 have h1:∀ u∈aC y,u.oneCell'=true:=fun u hu=>by
  simp only [aC,List.mem_cons,List.not_mem_nil,or_false] at hu
  rcases hu with rfl|rfl|rfl|rfl
  ·rfl
  ·rfl
  ·rfl
  exact hy
 obtain⟨v',w',e1,e2,e3,_⟩:=run_append_own (P:=Tryz.prog) W B 31 31 45 i0 _ 4 48 Tryz.underlying31 hi0 hz0 hz1 hz2 rfl (by omega) v _ _ hown ⟨g,0,none⟩ 1 c (aC y) rfl hnw h1 (by unfold maxLen;omega) (by omega) hB;exact⟨v',w',e1,by rw [flatB_snoc,List.length_append];exact e2,e3⟩
end Go.Proofs.YtgandbaejlfppaaGreatDoor
namespace Go.Proofs.YtgandbaejlfppaaGreatDoor
set_option linter.unusedVariables false
set_option linter.unusedSimpArgs false
set_option maxRecDepth 20000
set_option maxHeartbeats 8000000
open Go.RowKit Go.Shelf Go.Maps
def flatO6 (ops : List Oin) : List Value := ops.flatMap opC6
structure D6 (w : World) (a : Option Addr) (len cap R C Y : Nat) (c : Cd) (v : Value) (ops : List Oin) (W : World) : Prop where
  rd : Rd w a len cap R w W
  c1 : R < C
  y1 : w.heap.size ≤ Y
  yr : Y < R
  cb : W.heap[C]? = some (.cells (cdC c).toArray 26 (0, 0))
  yb : W.heap[Y]? = some (.cells #[.int .i64 0, .int .i64 0, .int .i64 0, .int .i64 0, .int .u64 0, .slice none 0 0] 26 (0, 0))
  ok : Ok4 (R + 1) c W
  row : W.ownsRow (R + 1) 42 6 v ops.length (flatO6 ops)
  dat : ∀ q ∈ ops, Od6 (R + 1) q W
theorem D6.next {w : World} {a : Option Addr} {len cap R C Y : Nat} {c : Cd} {v : Value} {ops : List Oin} {W : World} (h : D6 w a len cap R C Y c v ops W) {W' : World} (rd : Rd w a len cap R W W') : D6 w a len cap R C Y c v ops W' := by
  have h1 := h.c1
  have h2 := h.yr
  refine ⟨h.rd.of rd, h1, h.y1, h2, ?_, ?_, h.ok.kept rd.g (fun e => by have := (h.ok.d.lt R e).1; omega), h.row.kept rd.g (.inr fun e => by have := (h.row.lt R e).1; omega), fun q hq => (h.dat q hq).kept rd.g (fun e => by have := ((h.dat q hq).d.lt R e).1; omega)⟩
  · rw [rd.g.block C (lt_blk h.cb) (fun e => by cases e; omega)]; exact h.cb
  · rw [rd.g.block Y (lt_blk h.yb) (fun e => by cases e; omega)]; exact h.yb
theorem D6.below {w : World} {a : Option Addr} {len cap R C Y : Nat} {c : Cd} {v : Value} {ops : List Oin} {W : World} (h : D6 w a len cap R C Y c v ops W) {W' : World} (hb : Below W.heap.size W W') : D6 w a len cap R C Y c v ops W' := h.next (h.rd.at.below hb)
theorem own_ap6 {W : World} {b1 b2 : Nat} {e1 e2 : TypeId} {s1 s2 : Nat} {v1 v2 : Value} {n1 n2 : Nat} {x1 x2 : List Value} (h1 : W.ownsRow b1 e1 s1 v1 n1 x1) (h2 : W.ownsRow b2 e2 s2 v2 n2 x2) (hne : e1 ≠ e2) : v1.ownBlock = none ∨ v1.ownBlock ≠ v2.ownBlock := by
  by_cases e : v1.ownBlock = none
  · exact .inl e
  · refine .inr fun e' => ?_
    obtain ⟨g, hg⟩ := Option.ne_none_iff_exists'.1 e
    obtain ⟨c, hc⟩ : ∃ c, W.heap[g]? = some (.cells c e1 (0, 0)) := by
      rcases h1.2 with ⟨h3, _⟩ | ⟨g', cap, cur, h3, _, h4, _⟩
      · rw [h3] at hg; cases hg
      · rw [h3] at hg
        have : g' = g := by simpa [Value.ownBlock] using hg
        subst this
        exact ⟨_, h4⟩
    exact own_neT h2 hc (Ne.symm hne) (e'.symm.trans hg)
theorem infoOp6 : (Tryz.prog.info? 42).map (fun i => (i.zero, i.size, i.bytes)) = some (some (.agg #[.int .i64 0, .int .i64 0, .int .u64 0, .int .u64 0, .int .u64 0, .slice none 0 0]), 6, 64) := by kernel_rfl
theorem wpList_appT (t : TypeId) {ops : Array Oper} {rest : List Oper} {o : Oper} {a : Act} {w : World} {Q : Exit → Act → World → Prop} (hgd : o.guard = none) (s x : Operand)
    (ho : o.op = .call { callee := .builtin .append, args := #[s, x], argTypes := #[t, t] }) (ht : o.type = t) {v v2 v' : Value} {w' : World} (hs : a.eval s = v) (hx : a.eval x = v2)
    (hr : (Builtin.append_ #[t, t] t #[v, v2]).run Tryz.prog w = .ok v' w') (h : wpList Tryz.prog ops Q rest (a.put o.dst v') w') : wpList Tryz.prog ops Q (o :: rest) a w := by
  refine wpList_plain hgd fun K hK => ?_
  unfold Oper.wp
  simp [execOp, ho, ht, resolve, invoke, builtin, hs, hx, hr, Result.andThen]
  exact hK _ _ h
theorem results_cell_tmp {fn : Func} {p q : Tmp} {ty : TypeId} (h : fn.results = #[.cell p ty, .tmp q]) (tmps : Array Value) (w : World) (g : Nat) (cs : Array Value)
    (hp : tmps.getD p undef = .pointer (some ⟨g, 0, none⟩)) (hl : (loadVar ty ⟨g, 0, none⟩).run Tryz.prog w = .ok (.agg cs) w) :
    (results fn tmps).run Tryz.prog w = .ok (.tuple #[.agg cs, tmps.getD q undef]) w := by
  have hp' : tmps[p]?.getD undef = .pointer (some ⟨g, 0, none⟩) := by simpa using hp
  simp [results, h, hp', asAddr, hl, Result.andThen]
theorem flatO6_snoc (ops : List Oin) (q : Oin) : flatO6 (ops ++ [q]) = flatO6 ops ++ opC6 q := by simp [flatO6]
theorem row_new6 (W : World) (xs : List Value) (t : TypeId) : ∀ j u, xs[j]? = some u → (W.alloc (.cells xs.toArray t)).cell? ((⟨W.heap.size, 0, none⟩ : Addr).add j) = some u := by
  intro j u h
  have hadd : (⟨W.heap.size, 0, none⟩ : Addr).add j = ⟨W.heap.size, j, none⟩ := by unfold Addr.add; split <;> simp_all
  rw [hadd, cell_of_row _ _ j _ _ _ (al_last W (.cells xs.toArray t)), ← h]
  simp
theorem D6.app {w : World} {a : Option Addr} {len cap R C Y : Nat} {c : Cd} {v : Value} {ops : List Oin} {W : World} (h : D6 w a len cap R C Y c v ops W) (hl : ops.length ≤ 1000) (q : Oin) (od : Od6 (R + 1) q W) : ∃ v' w',
    (Builtin.append_ #[43, 43] 43 #[v, .slice (some ⟨W.heap.size, 0, none⟩) 1 1]).run Tryz.prog (W.alloc (.cells (opC6 q).toArray 42)) = .ok v' w' ∧ D6 w a len cap R C Y c v' (ops ++ [q]) w' := by
  obtain ⟨i0, hi0, hz0, hz1, hz2⟩ := info_parts infoOp6
  have bA := (Below.refl W.heap.size W).alloc (Nat.le_refl _) (.cells (opC6 q).toArray 42)
  have h1 := h.below bA
  have hR : R + 1 ≤ (W.alloc (.cells (opC6 q).toArray 42)).heap.size := by have := h1.rd.lt; omega
  obtain ⟨v', w', e1, e2, e3, _⟩ := run_append_own_at (P := Tryz.prog) (w := W.alloc (.cells (opC6 q).toArray 42)) (R + 1) 43 43 42 i0 _ 6 64 Tryz.underlying43 hi0 hz0 hz1 hz2 rfl (by omega) _ _ _ h1.row ⟨W.heap.size, 0, none⟩ 1 1 (opC6 q) rfl (row_new6 _ _ _) (by intro u hu; simp [opC6] at hu; rcases hu with rfl | rfl | rfl | rfl | rfl | rfl <;> rfl) (by unfold maxLen; omega) (by omega) hR
  have hc := h.c1
  have hyr := h.yr
  have hb : ∀ r, v.ownBlock = some r → w.heap.size ≤ r ∧ R < r := fun r e => by have := (h.row.lt r e).1; have := h.y1; omega
  have odA : Od6 (R + 1) q (W.alloc (.cells (opC6 q).toArray 42)) := ⟨od.p, od.a, od.b, od.d.alloc _⟩
  refine ⟨v', w', e1, ⟨h1.rd.app e3 hb, h.c1, h.y1, h.yr, ?_, ?_, ⟨h.ok.k0, h.ok.k1, h.ok.dw, h1.ok.d.kept e3 (own_ap6 h1.ok.d h1.row (by decide))⟩, by rw [List.length_append, flatO6_snoc]; exact e2, fun x hx => ?_⟩⟩
  · rw [e3.block C (lt_blk h1.cb) (fun e => own_neT h1.row h1.cb (by decide) e.symm)]; exact h1.cb
  · rw [e3.block Y (lt_blk h1.yb) (fun e => own_neT h1.row h1.yb (by decide) e.symm)]; exact h1.yb
  · have key : ∀ x, Od6 (R + 1) x (W.alloc (.cells (opC6 q).toArray 42)) → Od6 (R + 1) x w' := fun x hx => ⟨hx.p, hx.a, hx.b, hx.d.kept e3 (own_ap6 hx.d h1.row (by decide))⟩
    rcases List.mem_append.1 hx with hx | hx
    · exact key x (h1.dat x hx)
    · obtain rfl := List.mem_singleton.1 hx
      exact key _ odA
end Go.Proofs.YtgandbaejlfppaaGreatDoor
namespace Go.Proofs.YtgandbaejlfppaaGreatDoor
set_option linter.unusedVariables false
set_option linter.unusedSimpArgs false
set_option maxRecDepth 20000
set_option maxHeartbeats 8000000
open Go.RowKit Go.Shelf Go.Maps
theorem flat_get {α : Type} (f : α → List Value) (n : Nat) (hn : ∀ x, (f x).length = n) : ∀ (l : List α) (k j : Nat) (x : α), l[k]? = some x → j < n → (l.flatMap f)[k * n + j]? = (f x)[j]?
  | [], k, j, x, h, _ => by simp at h
  | y :: l, 0, j, x, h, hj => by
    simp at h
    subst h
    rw [List.flatMap_cons, Nat.zero_mul, Nat.zero_add, List.getElem?_append_left (by rw [hn]; exact hj)]
  | y :: l, k + 1, j, x, h, hj => by
    rw [List.flatMap_cons, List.getElem?_append_right (by rw [hn, Nat.add_mul]; omega), hn, show (k + 1) * n + j - n = k * n + j by rw [Nat.add_mul]; omega]
    exact flat_get f n hn l k j x (by simpa using h) hj
theorem ois_new (W : World) (ops : List Oin) (hw : ∀ q ∈ ops, q.o.p < 18446744073709551616 ∧ q.o.a < 18446744073709551616 ∧ q.o.b < 18446744073709551616)
    (hd : ∀ q ∈ ops, ∀ i, i < q.o.ys.length → ∃ x, q.d = some x ∧ W.cell? (x.add i) = some (.int .u8 (q.o.ys[i]?.getD 0)) ∧ (x.add i).block < W.heap.size) : Ois (W.alloc (.cells (flatO6 ops).toArray 42)) (some ⟨W.heap.size, 0, none⟩) ops := by
  have b := (Below.refl W.heap.size W).alloc (Nat.le_refl _) (.cells (flatO6 ops).toArray 42)
  refine ⟨fun k q hq => ⟨W.heap.size, rfl, by rw [al_size]; omega, fun j u hu => ?_⟩, hw, fun q hq i hi => ?_⟩
  · have hj : j < 6 := by
      have := (List.getElem?_eq_some_iff.1 hu).1
      simpa [opC6] using this
    rw [cell_of_row _ _ _ _ _ _ (al_last W (.cells (flatO6 ops).toArray 42))]
    have := flat_get opC6 6 (fun _ => rfl) ops k j q hq hj
    rw [hu] at this
    simpa [flatO6] using this
  · obtain ⟨x, h1, h2, h3⟩ := hd q hq i hi
    exact ⟨x, h1, below_cell b h2, by rw [al_size]; omega⟩
theorem ans_at {W : World} {B : Nat} {va : Value} {l : List Aw} {an : List An4} (row : W.ownsRow B 45 4 va l.length (flatB l)) (hl : l.map (·.1) = an) (hn : 0 < an.length) :
    ∃ G gc, va = .slice (some ⟨G, 0, none⟩) an.length gc ∧ B ≤ G ∧ G < W.heap.size ∧ ∀ j a, an[j]? = some a → ∃ v, (a, v) ∈ l ∧ W.cell? ⟨G, j * 4, none⟩ = some (.int .i64 a.code) ∧ W.cell? ⟨G, j * 4 + 1, none⟩ = some (.int .u64 (a.addr : Nat)) ∧ W.cell? ⟨G, j * 4 + 2, none⟩ = some (.int .i64 (a.size : Nat)) ∧ W.cell? ⟨G, j * 4 + 3, none⟩ = some v := by
  have e : l.length = an.length := by rw [← hl, List.length_map]
  rcases row.2 with ⟨_, h2⟩ | ⟨g, gc, cur, h1, h2, h3, h4, h5, h6, h7⟩
  · omega
  · refine ⟨g, gc, by rw [h1, e], h2, lt_blk h3, fun j a ha => ?_⟩
    rw [← hl, List.getElem?_map] at ha
    obtain ⟨z, hz, rfl⟩ : ∃ z, l[j]? = some z ∧ z.1 = a := by
      cases h : l[j]? with
      | none => rw [h] at ha; cases ha
      | some z => rw [h] at ha; exact ⟨z, rfl, by simpa using ha⟩
    have hj := (List.getElem?_eq_some_iff.1 hz).1
    have key : ∀ t u, t < 4 → (aC z)[t]? = some u → W.cell? ⟨g, j * 4 + t, none⟩ = some u := fun t u ht hu => by
      rw [cell_of_row _ _ _ _ _ _ h3]
      have e1 := flat_get aC 4 (fun _ => rfl) l j t z hz ht
      have e2 : (flatB l)[j * 4 + t]? = some u := by rw [← hu]; exact e1
      rw [← h7, List.getElem?_take, if_pos (by omega), Array.getElem?_toList] at e2
      exact e2
    exact ⟨z.2, List.mem_of_getElem? hz, key 0 _ (by omega) rfl, key 1 _ (by omega) rfl, key 2 _ (by omega) rfl, key 3 _ (by omega) rfl⟩
theorem one_byte {W : World} {B : Nat} {v : Value} {b : Int} (h : W.ownsRow B 5 1 v 1 (Ns .u8 [b])) : ∃ G gc, v = .slice (some ⟨G, 0, none⟩) 1 gc ∧ B ≤ G ∧ W.cell? ⟨G, 0, none⟩ = some (.int .u8 b) ∧ G < W.heap.size := by
  rcases h.2 with ⟨_, h2⟩ | ⟨g, gc, cur, h1, h2, h3, h4, h5, h6, h7⟩
  · omega
  · refine ⟨g, gc, h1, h2, ?_, lt_blk h3⟩
    rw [cell_of_row _ _ _ _ _ _ h3]
    have e2 : (Ns .u8 [b])[0]? = some (.int .u8 b) := rfl
    rw [← h7, List.getElem?_take, if_pos (by omega), Array.getElem?_toList] at e2
    exact e2
theorem box_new (V : World) (zs cs : Array Value) (t : TypeId) : ((V.alloc (.cells zs t)).setRow V.heap.size cs).heap[V.heap.size]? = some (.cells cs t (0, 0)) ∧ Below V.heap.size V ((V.alloc (.cells zs t)).setRow V.heap.size cs) := by
  refine ⟨setRow_at (al_last V _) cs, ?_⟩
  have b := (Below.refl V.heap.size V).alloc (Nat.le_refl _) (.cells zs t)
  exact b.grown (grown_setRow _ V.heap.size cs) b.size (fun r e => by cases e; exact Nat.le_refl _)
end Go.Proofs.YtgandbaejlfppaaGreatDoor
