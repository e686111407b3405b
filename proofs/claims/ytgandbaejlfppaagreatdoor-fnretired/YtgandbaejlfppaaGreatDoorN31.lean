import Derived.Test.YtgandbaejlfppaaGreatDoorN26
import Derived.Test.YtgandbaejlfppaaGreatDoorN27
import Derived.Test.YtgandbaejlfppaaGreatDoorN30
namespace Go.Proofs.YtgandbaejlfppaaGreatDoor
set_option linter.unusedVariables false
set_option linter.unusedSimpArgs false
set_option maxRecDepth 20000
set_option maxHeartbeats 8000000
open Go.RowKit Go.Maps
structure Okh (cf:Cf) (h:Hs) (k:Nat):Prop where
 inv:Inv cf h
 byt:Byt h.m
 few:Few k h
 kk:k≤302
 dok:Dok cf
 l1:1≤cf.large
theorem im_take (B:Nat) (y:Ly) (d:Dy) (cf:Cf) (h:Hs) (k:Nat) (an:Value) (a:Nat) (W:World) (hp:Hp B y d cf h W) (gd:Gd d h an) (o:Okh cf h k) (ha:a < 18446744073709551616) :
  Calls Tryz.prog 33 #[Vp y.P 0,Vu (a:Nat)] W (TaW B y cf an d.lg W (mallocM cf h a)):=by
 have hu:h.used+2000≤1000000:=by
  have h1:=o.few.used;have h2:=o.kk;have:2100*k≤2100*302:=Nat.mul_le_mul_left _ h2;omega
 by_cases hs:a≤1016
 ·have TS:=hid (im_takeSlot B y d cf h an a W hp gd o.inv o.byt hs hu o.dok);generalize mallocM cf h a=mres at *;clear hp gd o hu;go_enter Tryz.func33,Tryz.ntmps33;go_wp2_with fail;refine (TS.out).mono ?_;rintro e V ⟨tr,bi⟩;have BI:=hid bi;clear TS bi
  cases tr with
  | no h1 _ tk=>exact ⟨rfl,.no h1 V tk,BI.out⟩
  | slot c s j h1 _ hc hs6 hj hl hg =>
   have HT:=hid (TaR.slot (B:=B) (y:=y) (cf:=cf) (an:=an) (lg:=d.lg) c s j h1 V hc hs6 hj hl hg);clear hg hl hj;go_wp2;go_ret;exact⟨HT.out,BI.out⟩
  | range r g d1 h1 _ hr hl hd hp1 gd1 kl1 =>
   have HT:=hid (TaR.range (B:=B) (y:=y) (cf:=cf) (an:=an) (lg:=d.lg) r g d1 h1 V hr hl hd hp1 gd1 kl1);clear hp1 gd1 hr hl hd kl1;go_wp2;go_ret;exact⟨HT.out,BI.out⟩
 have hs':1016 < a:=by omega
 have TS:=hid (im_takeRange B y d cf h an a W hp gd o.inv hs' ha hu o.dok (by have:=o.few.rg;have:=o.kk;omega) (by have:=o.few.rel;have:=o.kk;omega));generalize mallocM cf h a=mres at *;clear hp gd o hu hs;go_enter Tryz.func33,Tryz.ntmps33;go_wp2_with fail;refine (TS.out).mono ?_;rintro e V ⟨tr,bi⟩;have BI:=hid bi;clear TS bi
 cases tr with
 | no h1 _ tk=>exact ⟨rfl,.no h1 V tk,BI.out⟩
 | slot c s j h1 _ hc hs6 hj hl hg =>
  have HT:=hid (TaR.slot (B:=B) (y:=y) (cf:=cf) (an:=an) (lg:=d.lg) c s j h1 V hc hs6 hj hl hg);clear hg hl hj;go_wp2;go_ret;exact⟨HT.out,BI.out⟩
 | range r g d1 h1 _ hr hl hd hp1 gd1 kl1 =>
  have HT:=hid (TaR.range (B:=B) (y:=y) (cf:=cf) (an:=an) (lg:=d.lg) r g d1 h1 V hr hl hd hp1 gd1 kl1);clear hp1 gd1 hr hl hd kl1;go_wp2;go_ret;exact⟨HT.out,BI.out⟩
def prodM (cf:Cf) (h:Hs) (a b:Nat):Option Nat×Hs:=if 18446744073709551616≤a*b then (none,h) else mallocM cf h (a*b)
theorem im_takeProduct (B:Nat) (y:Ly) (d:Dy) (cf:Cf) (h:Hs) (k:Nat) (an:Value) (a b:Nat) (W:World) (hp:Hp B y d cf h W) (gd:Gd d h an) (o:Okh cf h k) (ha:a < 18446744073709551616) (hb:b < 18446744073709551616) :
  Calls Tryz.prog 34 #[Vp y.P 0,Vu (a:Nat),Vu (b:Nat)] W (TaW B y cf an d.lg W (prodM cf h a b)):=by
 unfold prodM
 by_cases hs:18446744073709551616≤a*b
 ·rw [if_pos hs];have PR:=hid (product.im_Product_no a b ha hb hs W);have HT:=hid (show TaW B y cf an d.lg W (none,h) (.panicked (refV 1)) W from ⟨.no h W (Hg.tk ⟨d,hp,gd⟩),Bi.refl _ _⟩);clear hp gd o hs;go_enter Tryz.func34,Tryz.ntmps34;go_wp2_with fail;refine (PR.out).mono ?_;rintro e V ⟨rfl,rfl⟩;clear PR;go_wp2
  first|exact⟨rfl,HT.out⟩|exact HT.out
 rw [if_neg hs];have PR:=hid (product.im_Product_yes a b ha hb (by omega) W);have TS:=hid (im_take B y d cf h k an (a*b) W hp gd o (by omega));generalize mallocM cf h (a*b)=mres at *;generalize a*b=ab at *;clear hp gd o hs;go_enter Tryz.func34,Tryz.ntmps34;go_wp2_with fail;refine (PR.out).mono ?_;rintro e V ⟨rfl,rfl⟩;clear PR;go_wp2_with fail;refine (TS.out).mono ?_;rintro e V2 ⟨tr,bi⟩;have BI:=hid bi;clear TS bi
 cases tr with
 | no h1 _ tk=>exact ⟨rfl,.no h1 V2 tk,BI.out⟩
 | slot c s j h1 _ hc hs6 hj hl hg =>
  have HT:=hid (TaR.slot (B:=B) (y:=y) (cf:=cf) (an:=an) (lg:=d.lg) c s j h1 V2 hc hs6 hj hl hg);clear hg hl hj;go_wp2;go_ret;exact⟨HT.out,BI.out⟩
 | range r g d1 h1 _ hr hl hd hp1 gd1 kl1 =>
  have HT:=hid (TaR.range (B:=B) (y:=y) (cf:=cf) (an:=an) (lg:=d.lg) r g d1 h1 V2 hr hl hd hp1 gd1 kl1);clear hp1 gd1 hr hl hd kl1;go_wp2;go_ret;exact⟨HT.out,BI.out⟩
/-! a store in pieces -/
theorem storeM_congr (m:Nat→Option (Bool×List Int)) (a:Nat) (ys zs:List Int):∀ n,(∀ i,i < n→ys[i]?.getD 0=zs[i]?.getD 0)→storeM m a ys n=storeM m a zs n
 | 0,_=>rfl
 | n+1,h=>by
  show putM (storeM m a ys n) (a+n) _=putM (storeM m a zs n) (a+n) _
  rw [storeM_congr m a ys zs n (fun i hi=>h i (by omega)),h n (by omega)]
theorem loadB_get (m:Nat→Option (Bool×List Int)) (a n i:Nat) (hi:i < n):(loadB m a n)[i]?.getD 0=byteAt m (a+i):=by
 unfold loadB;simp [List.getElem?_map,List.getElem?_range hi]
theorem storeM_split (m:Nat→Option (Bool×List Int)) (p q k:Nat):∀ l,storeM (storeM m q (loadB m p k) k) (q+k) (loadB m (p+k) l) l=storeM m q (loadB m p (k+l)) (k+l)
 | 0=>rfl
 | l+1=>by
  have e1:storeM (storeM m q (loadB m p k) k) (q+k) (loadB m (p+k) (l+1)) l=storeM m q (loadB m p (k+(l+1))) (k+l):=by
   rw [storeM_congr _ _ _ (loadB m (p+k) l) l (fun i hi=>by rw [loadB_get _ _ _ _ (by omega),loadB_get _ _ _ _ hi]),storeM_split m p q k l];exact storeM_congr _ _ _ _ _ (fun i hi=>by rw [loadB_get _ _ _ _ hi,loadB_get _ _ _ _ (by omega)])
  show putM (storeM (storeM m q (loadB m p k) k) (q+k) (loadB m (p+k) (l+1)) l) (q+k+l) ((loadB m (p+k) (l+1))[l]?.getD 0)=putM (storeM m q (loadB m p (k+(l+1))) (k+l)) (q+(k+l)) ((loadB m p (k+(l+1)))[k+l]?.getD 0);rw [e1,loadB_get _ _ _ _ (by omega),loadB_get _ _ _ _ (by omega),Nat.add_assoc q k l,Nat.add_assoc p k l]
theorem loadB_store (m:Nat→Option (Bool×List Int)) (p q:Nat) (ys:List Int) (k a l:Nat) (h:a+l≤q∨q+k≤a):loadB (storeM m q ys k) a l=loadB m a l:=by
 unfold loadB;apply List.map_congr_left;intro i hi;have hi':i < l:=by simpa using hi
 exact storeM_byte m q ys (a+i) k (by omega)
theorem copy_step (m:Nat→Option (Bool×List Int)) (p q k l:Nat) (h:p+(k+l)≤q∨q+(k+l)≤p):storeM (copyM m p q k) (q+k) (loadB (copyM m p q k) (p+k) l) l=copyM m p q (k+l):=by
 unfold copyM;rw [loadB_store m p q _ k (p+k) l (by omega)];exact storeM_split m p q k l
theorem Hp.daOwn {B C:Nat} {y:Ly} {d:Dy} {cf:Cf} {h:Hs} {U:World} (hp:Hp B y d cf h U) {v:Value} {ys:List Int} (hr:U.ownsRow C 5 1 v ys.length (Ns .u8 ys)):∃ a c,v=.slice a ys.length c∧ys.length≤c∧Da y.S y.M d.f U a ys.length ys:=by
 obtain⟨a,c,e⟩:=own_sl2 hr;subst e;refine⟨a,c,rfl,?_,rfl,fun i hi=>?_⟩
 ·rcases hr.2 with ⟨e,e2⟩|⟨g,cap',cur,e,h1,h2,h3,_⟩
  ·omega
  simp at e;omega
 obtain⟨g,hg⟩:=own_at hr (by omega);subst hg;obtain⟨cc,h1⟩:=own_blk hr;refine⟨⟨g,0,none⟩,rfl,?_,?_,?_,?_,?_⟩
 ·rw [Addr.add_mid,Nat.zero_add];obtain⟨a,c,e,hc⟩:=bs_own hr;obtain⟨g',e1,e2⟩:=hc i hi;simp at e;rw [←e.1] at e1
  cases e1
  exact e2
 ·rw [Addr.add_mid];exact lt_blk h1
 ·rw [Addr.add_mid];intro e;have e':g=y.S:=e;rw [e',hp.sp.box] at h1;simp at h1
 ·rw [Addr.add_mid];intro e;have e':g=y.M:=e;obtain⟨D,⟨es,c2,h2,_⟩,_⟩:=hp.sp.map;rw [e',h2] at h1
  cases h1
 rw [Addr.add_mid];intro k hk
 rcases hp.pg.at' k with ⟨e1,_⟩|⟨b',l,xs,e1,_,_,e4⟩
 ·rw [hk] at e1;cases e1
 rw [hk] at e1
 cases e1
 rw [e4] at h1;simp at h1
theorem Inv.openN9 {cf:Cf} {h:Hs} (i:Inv cf h) {p n:Nat} (A:Area h p n) {k l:Nat} (hk:k+l≤n) (h1:1≤l) (h2:l≤4096):accC h.m (p+k) (l:Int)=0:=by
 have:=i.ltA A;exact accC_open h1 h2 (by omega) (fun q hq=>by rw [Nat.add_assoc];exact i.openA A (by omega))
def CpR (B:Nat) (y:Ly) (d:Dy) (cf:Cf) (h:Hs) (W:World) (e:Ending) (W':World):Prop:=e=.returned (.tuple #[])∧(∃ f',Hp B y { d with f:=f' } cf h W')∧Bi B W W'
theorem Area.bytes {h:Hs} {p n:Nat} (A:Area h p n) (m:Nat→Option (Bool×List Int)):Area { h with m:=m } p n:=by
 cases A with
 | slot c s j hc hs hj hp hl hn=>exact .slot c s j hc hs hj hp hl hn
 | range r hr hb hs hn=>exact .range r hr hb hs hn
theorem im_copy (B:Nat) (y:Ly) (d:Dy) (cf:Cf) (h:Hs) (p q n:Nat) (W:World) (hp:Hp B y d cf h W) (i:Inv cf h) (ap:Area h p n) (aq:Area h q n) (hne:p≠q) :
  Calls Tryz.prog 66 #[Vp y.P 0,Vu (p:Nat),Vu (q:Nat),Vu (n:Nat)] W (CpR B y d cf { h with m:=copyM h.m p q n } W):=by
 have hap:=i.apartA ap aq hne;have lp:=i.ltA ap;have lq:=i.ltA aq;have BW:=hid hp.bW;have STEP:=hid (show ∀ (k l:Nat) (f:Nat→Option Nat) (U:World),k+l≤n→1≤l→l≤4096→Hp B y { d with f:=f } cf { h with m:=copyM h.m p q k } U →
   Calls Tryz.prog 39 #[Vp y.P 0,Vu (p+k:Nat),Vu (l:Nat)] U fun e U'=>∃ f' a c,e=.returned (.slice a l c)∧Hp B y { d with f:=f' } cf { h with m:=copyM h.m p q k } U'∧Bi B U U'∧l≤c∧Calls Tryz.prog 40 #[Vp y.P 0,Vu (q+k:Nat),.slice a l c] U' (CpR B y d cf { h with m:=copyM h.m p q (k+l) } U') from fun k l f U hk h1 h2 hU=>by
  have ik:Inv cf { h with m:=copyM h.m p q k }:=i.bytes _ _ _
  have acl:=ik.openN9 (ap.bytes (copyM h.m p q k)) hk h1 h2
  have acs:=ik.openN9 (aq.bytes (copyM h.m p q k)) hk h1 h2
  have LD:=im_hload B y _ cf _ (p+k) l U hU ik.out (by omega) (by omega)
  rw [Nat.min_eq_left (by omega)] at LD
  dsimp only at LD acl acs
  rw [acl,if_pos rfl] at LD
  refine LD.mono ?_
  rintro e U' ⟨f',hp1,bi,⟨_,v,rfl,own⟩|⟨hn,_⟩⟩
  rotate_left
  ·exact absurd rfl hn
  have hlen:(loadB (copyM h.m p q k) (p+k) l).length=l:=by simp [loadB]
  obtain⟨a,c,rfl,hc,hda⟩:=hp1.daOwn own
  rw [hlen] at hc hda ⊢
  refine⟨f',a,c,rfl,hp1,bi,hc,?_⟩
  have ST:=im_hstore B y _ cf _ (q+k) a l c _ U' hp1 ik.out (by omega) hda hc
  rw [hlen] at ST
  dsimp only at ST
  rw [acs,if_pos rfl,copy_step h.m p q k l (by omega)] at ST
  refine ST.mono ?_
  rintro e U2 ⟨f2,hp2,bi2,⟨_,rfl⟩|⟨hn,_⟩⟩
  ·exact⟨rfl,⟨f2,hp2⟩,bi2⟩
  exact absurd rfl hn)
 have HP0:=hid (show Hp B y { d with f:=d.f } cf { h with m:=copyM h.m p q 0 } W from hp);clear hp i ap aq hne hap;go_enter Tryz.func66,Tryz.ntmps66;go_wp2;go_loopg [8] n (fun gk s8 wr=>∃ (k:Nat) (f:Nat→Option Nat),s8=Vu (k:Nat)∧gk=n - k∧k≤n+4096∧Hid (Hp B y { d with f:=f } cf { h with m:=copyM h.m p q (min k n) } wr)∧Hid (Bi B W wr))
 case atStart=>exact ⟨0,d.f,rfl,by omega,by omega,hid (by rw [Nat.min_eq_left (Nat.zero_le _)];exact HP0.out),hid (Bi.refl _ _)⟩
 case round =>
  obtain⟨k,f,rfl,hg,hk2,KP,KB⟩:=hrel;clear HP0
  by_cases hkn:k < n
  ·rw [Nat.min_eq_left (by omega)] at KP;have hki:(k:Int) < (n:Int):=by omega
   have hpk:((p+k:Nat):Int)=(p:Int)+(k:Int):=by omega
   have hqk:((q+k:Nat):Int)=(q:Int)+(k:Int):=by omega
   by_cases hc:n - k≤4096
   ·have hci:(n:Int) - (k:Int)≤4096:=by omega
    have LD:=hid (STEP.out k (n - k) f wr (by omega) (by omega) hc KP.out);have e1:(((n - k:Nat):Nat):Int)=(n:Int) - (k:Int):=by omega
    have e2:k+(n - k)=n:=by omega
    rw [e1,e2,hpk,hqk] at LD;clear STEP KP hc e1 e2 hpk hqk;go_wp2_with fail;refine (LD.out).mono ?_;rintro e U ⟨f',a,c,rfl,hp1,bi1,hc1,ST⟩;have SS:=hid ST;have B1:=hid (KB.out.trans bi1);clear ST LD bi1 hp1;go_wp2_with fail;refine (SS.out).mono ?_;rintro e U2 ⟨rfl,⟨f2,hp2⟩,bi2⟩;have H2:=hid hp2;have B2:=hid (B1.out.trans bi2);clear SS hp2 bi2 B1;go_wp2
    go_roundg (n - (k+4096))
    case rel=>exact ⟨k+4096,f2,by rw [Int.natCast_add];rfl,rfl,by omega,hid (by rw [Nat.min_eq_right (by omega)];exact H2.out),B2⟩
    case measure=>omega
   have hci:¬((n:Int) - (k:Int)≤4096):=by omega
   have LD:=hid (STEP.out k 4096 f wr (by omega) (by omega) (by omega) KP.out);rw [hpk,hqk] at LD;clear STEP KP hc hpk hqk;go_wp2_with fail;refine (LD.out).mono ?_;rintro e U ⟨f',a,c,rfl,hp1,bi1,hc1,ST⟩;have SS:=hid ST;have B1:=hid (KB.out.trans bi1);clear ST LD bi1 hp1;go_wp2_with fail;refine (SS.out).mono ?_;rintro e U2 ⟨rfl,⟨f2,hp2⟩,bi2⟩;have H2:=hid hp2;have B2:=hid (B1.out.trans bi2);clear SS hp2 bi2 B1;go_wp2
   go_roundg (n - (k+4096))
   case rel=>exact ⟨k+4096,f2,by rw [Int.natCast_add];rfl,rfl,by omega,hid (by rw [Nat.min_eq_left (by omega)];exact H2.out),B2⟩
   case measure=>omega
  have hki:(n:Int)≤(k:Int):=by omega
  have KE:=hid (show CpR B y d cf { h with m:=copyM h.m p q n } W (.returned (.tuple #[])) wr from ⟨rfl,⟨f,by have:=KP.out;rw [Nat.min_eq_right (by omega)] at this;exact this⟩,KB.out⟩);clear KP STEP hkn;go_wp2
  go_end0
  exact KE.out
end Go.Proofs.YtgandbaejlfppaaGreatDoor
namespace Go.Proofs.YtgandbaejlfppaaGreatDoor
set_option linter.unusedVariables false
set_option linter.unusedSimpArgs false
set_option maxRecDepth 20000
set_option maxHeartbeats 8000000
open Go.RowKit Go.Maps
def Klg (d d':Dy):Prop:=∀ b g,d.lg b=some g→(d'.lg b).isSome=true→d'.lg b=some g
theorem Klg.ofEq {d d':Dy} (h:d'.lg=d.lg):Klg d d':=fun b g h1 _=>by rw [h];exact h1
def ReR (B:Nat) (y:Ly) (d:Dy) (cf:Cf) (h':Hs) (an:Value) (W:World) (e:Ending) (W':World):Prop:=e=.returned (.tuple #[])∧(∃ d',Hp B y d' cf h' W'∧Gd d' h' an∧Klg d d')∧Bi B W W'
theorem im_releaseSlot (B:Nat) (y:Ly) (d:Dy) (cf:Cf) (h:Hs) (k:Nat) (an:Value) (c s j:Nat) (W:World) (hp:Hp B y d cf h W) (gd:Gd d h an) (o:Okh cf h k) (hc:c < 12) (hs:s < 6) (hj:j < slN c) (hl:h.st c s j=1) :
  Calls Tryz.prog 67 #[Vp y.P 0,Vp (y.sm c s j) 0] W (ReR B y d cf (freeSlot cf h c s j) an W):=by
 obtain⟨res,hres⟩:∃ res,freeSlot cf h c s j=res:=⟨_,rfl⟩;rw [hres];have HRES:=hid (hres.symm.trans (freeSlot_eq cf h c s j));have HFR:=hid (o.inv.freed o.dok.fifo1 hc hs hj hl);clear hres;have hz:=szN_in hc;have hA:=adr_in hc hs hj;have hon:=o.inv.onLive hc hs hj hl;have GD:=hid gd;have OK:=hid o;have HP0:=hid hp;have BW:=hid hp.bW;obtain⟨c2,c3,d0,d1,_,_,_,_⟩:=hp.scAt c s j hc hs hj;have SB:=hid (fun V (hV:Below W.heap.size W V)=>im_sbase (y.sm c s j) (y.sb c s) c s j V ((hp.scAt c s j hc hs hj).below hV));have SZ:=hid (fun V (hV:Below W.heap.size W V)=>im_SlotSize (c:Nat) V (hp.below hV).tb);rw [sz_c hc] at SZ;have hmk:=fun w=>mk52 (szN c) (by omega) w
 have ST:=hid (show ∀ V,Below W.heap.size W V→Calls Tryz.prog 40 #[Vp y.P 0,Vu (adr c s j:Nat),Vl V.heap.size (szN c) (szN c)] (V.alloc (.cells (madeCells #[Value.int .u8 0] (szN c)) 5)) (StoR B y d cf h (V.alloc (.cells (madeCells #[Value.int .u8 0] (szN c)) 5)) (storeM h.m (adr c s j) (List.replicate (szN c) 0) (szN c)) 0) from fun V hV=>by
  have b2:Below W.heap.size W (V.alloc (.cells (madeCells #[Value.int .u8 0] (szN c)) 5)):=hV.alloc hV.size _;have:=im_hstore B y d cf h (adr c s j) (some ⟨V.heap.size,0,none⟩) (szN c) (szN c) (List.replicate (szN c) 0) _ (hp.below b2) o.inv.out (by omega) ((hp.below b2).daRow (made_row (szN c) V) (by simp)) (Nat.le_refl _);rw [List.length_replicate,o.inv.accL hc hs hj hon,if_pos rfl] at this;exact this)
 have GWB:=hid (show ∀ V,Below W.heap.size W V→Bi B W (V.alloc (.cells (madeCells #[Value.int .u8 0] (szN c)) 5)) from fun V hV=>Bi.ofBelow (hV.alloc hV.size _) hp.bW);clear hp gd o hon;generalize hgm:y.sm c s j=gm at *;have HGM:=hid hgm;generalize hgb:y.sb c s=gb at *;have HGB:=hid hgb;clear hgm hgb c3 d1;have DB:=hid (show storeM h.m (adr c s j) (List.replicate (szN c) 0) (szN c)=(freeA cf h c s j).m from rfl);go_enter Tryz.func67,Tryz.ntmps67;go_wp2_with fail;refine (SB.out _ (Below.refl _ _)).mono ?_;rintro e V1 ⟨rfl,b1⟩;have B1:=hid b1;clear b1 SB;go_wp2_with fail;refine (SZ.out _ B1.out).mono ?_;rintro e V2 ⟨rfl,rfl⟩;clear SZ;go_wp2_with fail;refine (ST.out _ B1.out).mono ?_;rintro e V3 ⟨f3,hp3,bi3,⟨_,rfl⟩|⟨hn,_⟩⟩
 rotate_left
 ·exact absurd rfl hn
 have HP3:=hid hp3;have BI3:=hid ((GWB.out _ B1.out).trans bi3);clear hp3 bi3 ST GWB hmk B1 HP0;obtain⟨h7,b7⟩:=HP3.out.setRec hc hs hj 2 0;have hbk:=HP3.out.sm c s j hc hs hj;rw [HGM.out] at h7 b7 hbk;have s0:V3.cell? ⟨gm,0,none⟩=some (Vi (h.st c s j)):=by rw [cell_of_row _ _ _ _ _ _ hbk];rfl
 have s1:V3.cell? ⟨gm,1,none⟩=some (Vi (h.rq c s j)):=by rw [cell_of_row _ _ _ _ _ _ hbk];rfl
 have z0:V3.frozen? ⟨gm,0,none⟩=false:=by simp [World.frozen?,hbk]
 have z1:V3.frozen? ⟨gm,1,none⟩=false:=by simp [World.frozen?,hbk]
 simp only [World.setCells,Nat.zero_add] at h7 b7;clear hbk;generalize h.st c s j=q0 at s0;generalize h.rq c s j=q1 at s1;have c0P:=h7.cell 0 (by omega) (Vi (cf.mix:Nat)) rfl;have H7:=hid h7;have B7:=hid (BI3.out.trans b7);clear h7 b7 HP3 BI3
 go_upto_if 31 with fail
 generalize (V3.setCell ⟨gm,0,none⟩ (Vi 2)).setCell ⟨gm,1,none⟩ (Vi 0)=V7 at *;clear s0 s1 z0 z1 c2 d0;obtain⟨dd,hdd⟩:∃ dd:Nat,(if cf.mix=0 then 0 else dr cf h cf.mix)=dd:=⟨_,rfl⟩;obtain⟨d3,hd3⟩:∃ d3:Dy,d3={ d with f:=f3 }:=⟨_,rfl⟩;obtain⟨h2,hh2⟩:∃ h2:Hs,h2={ h with m:=storeM h.m (adr c s j) (List.replicate (szN c) 0) (szN c),st:=upd3 h.st c s j 2,rq:=upd3 h.rq c s j 0 }:=⟨_,rfl⟩;obtain⟨h3,hh3⟩:∃ h3:Hs,h3={ h2 with used:=if cf.mix=0 then h.used else h.used+1 }:=⟨_,rfl⟩;have H8:=hid (show Hp B y d3 cf h2 V7 by rw [hd3,hh2];exact H7.out);have HU2:=hid (show h2.used=h.used by rw [hh2]);have KL:=hid (show d3.lg=d.lg by rw [hd3]);have GD3:=hid (show (∀ c s,c < 12→s < 6→d3.on c s=onS h c s)∧d3.un=.nilFunc∧d3.an=an by rw [hd3];exact⟨GD.out.on,GD.out.un,GD.out.an⟩);have HMX:=hid (show h3.mx=h.mx∧h3.ff=h.ff by rw [hh3,hh2];exact⟨rfl,rfl⟩);have HFA:=hid (show freeA cf h c s j={ h3 with mx:=updL h3.mx c (wpM cf.fifo (h3.mx c) (h3.ff c) ((s*slN c+j:Nat):Int) (dd:Int)).1,ff:=updL h3.ff c (wpM cf.fifo (h3.mx c) (h3.ff c) ((s*slN c+j:Nat):Int) (dd:Int)).2.1 } by rw [hh3,hh2,←hdd];rfl);have HLF:=hid (show (wpM cf.fifo (h3.mx c) (h3.ff c) ((s*slN c+j:Nat):Int) (dd:Int)).2.2=leftM cf h c s j by rw [HMX.out.1,HMX.out.2,←hdd];rfl);have HON:=hid (show ∀ c' s',onS (freeA cf h c s j) c' s'=onS h c' s' from fun c' s'=>storeM_is _ _ _ _ _);have HDD:=hid hdd;have HH3:=hid hh3;clear hd3 hh2 hh3 hdd H7 GD DB hl
 go_cut [5] (fun s5 w'=>s5=Vi (dd:Nat)∧Hid (Hp B y d3 cf h3 w')∧Hid (Bi B W w'))
 case first =>
  by_cases hm0:cf.mix=0
  ·have E0:=hid (show dd=0 by rw [←HDD.out,if_pos hm0]);have E3:=hid (show h3=h2 by rw [HH3.out,if_pos hm0,←HU2.out]);have hm0':¬((0:Int) < (cf.mix:Int)):=by omega
   clear hm0;go_wp2
   go_meet
   case rel=>exact ⟨by rw [E0.out];rfl,by rw [E3.out];exact H8,B7⟩
  have E0:=hid (show dd=dr cf h2 cf.mix by rw [←HDD.out,if_neg hm0];unfold dr;rw [HU2.out]);have E3:=hid (show h3={ h2 with used:=h2.used+1 } by rw [HH3.out,if_neg hm0,HU2.out]);have hm0':(0:Int) < (cf.mix:Int):=by omega
  have DR:=hid (im_draw B y d3 cf h2 cf.mix V7 H8.out (by omega) (by have:=OK.out.dok.mix;omega) (by rw [HU2.out];have h1:=OK.out.few.used;have h2:=OK.out.kk;have:2100*k≤2100*302:=Nat.mul_le_mul_left _ h2;omega) OK.out.dok.len);clear hm0;go_wp2_with fail;refine DR.out.mono ?_;rintro e V8 ⟨rfl,h8,b8⟩;have H9:=hid h8;have B8:=hid (B7.out.trans b8);clear h8 b8 DR;go_wp2
  go_meet
  case rel=>exact ⟨by rw [E0.out],by rw [E3.out];exact H9,B8⟩
 case rest =>
  obtain⟨rfl,H3,B3⟩:=hcut;clear H8 B7 c0P HDD HH3 HU2
  rename_i wc
  obtain⟨n,hn⟩:∃ n,slN c=n:=⟨_,rfl⟩;have HN:=hid hn;have SL:=hid (fun V (hV:Tb V)=>im_SlabSlots (c:Nat) V hV);rw [sl_c hc,hn] at SL;have hsn:(0:Int)≤(s:Int)*(n:Int)∧(s:Int)*(n:Int)≤384:=by
   have h1:s*n≤6*64:=Nat.mul_le_mul (by omega) (by omega);have h2:((s*n:Nat):Int)=(s:Int)*(n:Int):=by simp
   omega
  have hjn:(j:Int) < 64:=by omega
  have hw1:IntKind.i64.wrap ((s:Int)*(n:Int))=(s:Int)*(n:Int):=by rw [IntKind.wrap_i64];omega
  have hw2:IntKind.i64.wrap ((s:Int)*(n:Int)+(j:Int))=(s:Int)*(n:Int)+(j:Int):=by rw [IntKind.wrap_i64];omega
  have CK:=hid (show ∀ (U:World) d9 h9,Hp B y d9 cf h9 U→U.cell? ⟨y.P,79+c*3+2,none⟩=some (if cf.mix=0 then .iface 65 (Vp (y.qg c) 0) else .iface 64 (Vp (y.qm c) 0))∧U.cell? ⟨gm,2,none⟩=some (Vp gb 0)∧U.cell? ⟨gb,1,none⟩=some (Vi (s:Nat))∧U.cell? ⟨gm,3,none⟩=some (Vi (j:Nat)) from fun U d9 h9 hU=>by
   obtain⟨c2,c3,_,d1,_⟩:=hU.scAt c s j hc hs (by rw [HN.out];omega);rw [HGM.out,HGB.out] at c2;rw [HGM.out] at c3;rw [HGB.out] at d1;exact⟨hU.qAt c hc,c2,d1,c3⟩)
  have HML:=hid (show (h3.mx c).length=cf.mix by rw [HMX.out.1];exact OK.out.inv.mxl c hc);have PU0:=hid (fun (h0:cf.mix=0) U (hU:Hp B y d3 cf h3 U)=>im_push0 B y d3 cf h3 c ((s*slN c+j:Nat):Int) (dd:Int) U hU HML.out OK.out.dok hc h0);have PU1:=hid (fun (h0:cf.mix≠0) U (hU:Hp B y d3 cf h3 U)=>im_push1 B y d3 cf h3 c ((s*slN c+j:Nat):Int) (dd:Int) U hU HML.out OK.out.dok hc h0);unfold PuR at PU0 PU1;rw [HLF.out,←HFA.out] at PU0 PU1;have hx:((s*slN c+j:Nat):Int)=(s:Int)*(n:Int)+(j:Int):=by rw [hn];simp
  rw [hx] at PU0 PU1;clear hx HMX HML;clear HLF HFA;generalize hfa:freeA cf h c s j=fA at *;generalize hlf:leftM cf h c s j=lf at *;clear hfa hlf;go_upto_region 6 with fail
  go_cut [6] (fun s6 w'=>s6=Vi lf∧Hid (Hp B y d3 cf fA w')∧Hid (Bi B W w'))
  case first =>
   by_cases hm0:cf.mix=0
   ·have PU:=hid (PU0.out hm0);rw [if_pos hm0] at CK;have hmq:=fun w=>meth_q ⟨y.qg c,0,none⟩ w
    clear PU0 PU1;generalize y.qg c=qg at *;refine wp_region_held (S:=fun W9=>W9.cell? ⟨y.P,79+c*3+2,none⟩=some (.iface 65 (Vp qg 0))∧W9.cell? ⟨gm,2,none⟩=some (Vp gb 0)∧W9.cell? ⟨gb,1,none⟩=some (Vi (s:Nat))∧W9.cell? ⟨gm,3,none⟩=some (Vi (j:Nat))) (by kernel_rfl) ?_;simp only [List.size_toArray,List.length_cons,List.length_nil,Nat.reduceAdd,Array.replicate_succ,Array.replicate_zero,List.push_toArray,List.nil_append,List.cons_append];have hS:=CK.out _ _ _ (H3.out.below (Below.refl _ _).drew);refine pk 0 39 (Vp y.P 0) hS ?_;simp only [lz,l0,ls];refine pk 1 40 (Vi (c:Nat)) hS ?_;simp only [lz,l0,ls];refine pk 2 41 (Vp y.P 0) hS ?_;simp only [lz,l0,ls];refine pk 3 42 (Vp y.P 79) hS ?_;simp only [lz,l0,ls];refine pz 4 43 (Vp y.P (79+c*3)) hS ?_;simp only [lz,l0,ls];refine pk 5 44 (Vp y.P (79+c*3+2)) hS ?_;simp only [lz,l0,ls];refine pz 6 45 (.iface 65 (Vp qg 0)) hS ?_;simp only [lz,l0,ls];refine pk 7 46 (Vp gm 0) hS ?_;simp only [lz,l0,ls];refine pk 8 47 (Vp gm 0) hS ?_;simp only [lz,l0,ls];refine pk 9 48 (Vp gm 2) hS ?_;simp only [lz,l0,ls];refine pz 10 49 (Vp gb 0) hS ?_;simp only [lz,l0,ls];refine pk 11 50 (Vp gb 0) hS ?_;simp only [lz,l0,ls];refine pk 12 51 (Vp gb 1) hS ?_;simp only [lz,l0,ls];refine pz 13 52 (Vi (s:Nat)) hS ?_;simp only [lz,l0,ls];refine pk 14 53 (Vi (c:Nat)) hS ?_;simp only [lz,l0,ls];refine pk 17 56 (Vp gm 0) hS ?_;simp only [lz,l0,ls];refine pk 18 57 (Vp gm 0) hS ?_;simp only [lz,l0,ls];refine pk 19 58 (Vp gm 3) hS ?_;simp only [lz,l0,ls];refine pz 20 59 (Vi (j:Nat)) hS ?_;simp only [lz,l0,ls];refine pk 22 61 (Vi (dd:Nat)) hS ?_;simp only [lz,l0,ls];refine pk 23 62 (.iface 65 (Vp qg 0)) hS ?_;simp only [lz,l0,ls];refine pk 24 63 (.iface 65 (Vp qg 0)) hS ?_;simp only [lz,l0,ls];refine po 15 fun K' hK=>?_
    go_simp;refine (SL.out _ (H3.out.below (Below.refl _ _).drew).tb).mono ?_;rintro e U1 ⟨rfl,rfl⟩;refine hK.out _ _ ⟨hS,?_⟩;clear hK K';refine pz 16 55 (Vi ((s:Int)*(n:Int))) hS ?_;simp only [lz,l0,ls];refine pz 21 60 (Vi ((s:Int)*(n:Int)+(j:Int))) hS ?_;simp only [lz,l0,ls];refine po 25 fun K' hK=>?_
    go_simp;refine (PU.out _ (H3.out.below (Below.refl _ _).drew)).mono ?_;rintro e U2 ⟨rfl,hp6,bi6⟩;have q2:=CK.out _ _ _ hp6;refine hK.out _ _ ⟨q2,?_⟩;clear hS;have hS:=q2;clear hK K';refine pk 26 6 (Vi lf) hS ?_;simp only [lz,l0,ls];refine wpAnyH_done (by kernel_rfl) ?_ _;have H6:=hid hp6;have B6:=hid ((B3.out.add (Below.refl _ _).drew H3.out.bW).trans bi6);clear hp6 bi6 q2 hS;go_wp2_with fail
    go_meet
    case rel=>exact ⟨rfl,H6,B6⟩
   have PU:=hid (PU1.out hm0);rw [if_neg hm0] at CK;have hmq:=fun w=>meth_m ⟨y.qm c,0,none⟩ w
   clear PU0 PU1;generalize y.qm c=qm at *;refine wp_region_held (S:=fun W9=>W9.cell? ⟨y.P,79+c*3+2,none⟩=some (.iface 64 (Vp qm 0))∧W9.cell? ⟨gm,2,none⟩=some (Vp gb 0)∧W9.cell? ⟨gb,1,none⟩=some (Vi (s:Nat))∧W9.cell? ⟨gm,3,none⟩=some (Vi (j:Nat))) (by kernel_rfl) ?_;simp only [List.size_toArray,List.length_cons,List.length_nil,Nat.reduceAdd,Array.replicate_succ,Array.replicate_zero,List.push_toArray,List.nil_append,List.cons_append];have hS:=CK.out _ _ _ (H3.out.below (Below.refl _ _).drew);refine pk 0 39 (Vp y.P 0) hS ?_;simp only [lz,l0,ls];refine pk 1 40 (Vi (c:Nat)) hS ?_;simp only [lz,l0,ls];refine pk 2 41 (Vp y.P 0) hS ?_;simp only [lz,l0,ls];refine pk 3 42 (Vp y.P 79) hS ?_;simp only [lz,l0,ls];refine pz 4 43 (Vp y.P (79+c*3)) hS ?_;simp only [lz,l0,ls];refine pk 5 44 (Vp y.P (79+c*3+2)) hS ?_;simp only [lz,l0,ls];refine pz 6 45 (.iface 64 (Vp qm 0)) hS ?_;simp only [lz,l0,ls];refine pk 7 46 (Vp gm 0) hS ?_;simp only [lz,l0,ls];refine pk 8 47 (Vp gm 0) hS ?_;simp only [lz,l0,ls];refine pk 9 48 (Vp gm 2) hS ?_;simp only [lz,l0,ls];refine pz 10 49 (Vp gb 0) hS ?_;simp only [lz,l0,ls];refine pk 11 50 (Vp gb 0) hS ?_;simp only [lz,l0,ls];refine pk 12 51 (Vp gb 1) hS ?_;simp only [lz,l0,ls];refine pz 13 52 (Vi (s:Nat)) hS ?_;simp only [lz,l0,ls];refine pk 14 53 (Vi (c:Nat)) hS ?_;simp only [lz,l0,ls];refine pk 17 56 (Vp gm 0) hS ?_;simp only [lz,l0,ls];refine pk 18 57 (Vp gm 0) hS ?_;simp only [lz,l0,ls];refine pk 19 58 (Vp gm 3) hS ?_;simp only [lz,l0,ls];refine pz 20 59 (Vi (j:Nat)) hS ?_;simp only [lz,l0,ls];refine pk 22 61 (Vi (dd:Nat)) hS ?_;simp only [lz,l0,ls];refine pk 23 62 (.iface 64 (Vp qm 0)) hS ?_;simp only [lz,l0,ls];refine pk 24 63 (.iface 64 (Vp qm 0)) hS ?_;simp only [lz,l0,ls];refine po 15 fun K' hK=>?_
   go_simp;refine (SL.out _ (H3.out.below (Below.refl _ _).drew).tb).mono ?_;rintro e U1 ⟨rfl,rfl⟩;refine hK.out _ _ ⟨hS,?_⟩;clear hK K';refine pz 16 55 (Vi ((s:Int)*(n:Int))) hS ?_;simp only [lz,l0,ls];refine pz 21 60 (Vi ((s:Int)*(n:Int)+(j:Int))) hS ?_;simp only [lz,l0,ls];refine po 25 fun K' hK=>?_
   go_simp;refine (PU.out _ (H3.out.below (Below.refl _ _).drew)).mono ?_;rintro e U2 ⟨rfl,hp6,bi6⟩;have q2:=CK.out _ _ _ hp6;refine hK.out _ _ ⟨q2,?_⟩;clear hS;have hS:=q2;clear hK K';refine pk 26 6 (Vi lf) hS ?_;simp only [lz,l0,ls];refine wpAnyH_done (by kernel_rfl) ?_ _;have H6:=hid hp6;have B6:=hid ((B3.out.add (Below.refl _ _).drew H3.out.bW).trans bi6);clear hp6 bi6 q2 hS;go_wp2_with fail
   go_meet
   case rel=>exact ⟨rfl,H6,B6⟩
  case rest =>
   obtain⟨rfl,H6,B6⟩:=hcut;clear H3 B3 PU0 PU1 CK hw1 hw2 hsn;have GDA:=hid (show Gd d3 fA an from ⟨fun c s hc hs=>by rw [GD3.out.1 c s hc hs,HON.out],GD3.out.2.1,GD3.out.2.2⟩)
   rcases HFR.out with ⟨e,inv⟩|⟨s',j',e,e1,e2,hs',hj',hon',inv⟩
   ·subst e;have HE:=hid (show res=fA by rw [HRES.out,if_pos rfl]);clear HFR HRES;go_wp2
    go_end0
    rw [HE.out];exact⟨rfl,⟨d3,H6.out,GDA.out,Klg.ofEq KL.out⟩,B6.out⟩
   obtain⟨lf9,rfl⟩:∃ lf9:Nat,lf=(lf9:Int):=⟨lf.toNat,by omega⟩;rw [Int.toNat_natCast] at e1 e2 HRES;have HE:=hid (show res=releaseM fA c s' j' by rw [HRES.out,if_neg (by omega),e1,e2]);rw [hn] at e1 e2 hj';have hq1:(lf9:Int).tdiv (n:Int)=(s':Int):=by rw [Int.tdiv_eq_ediv_of_nonneg (by omega),←e1];simp
   have hq2:(lf9:Int).tmod (n:Int)=(j':Int):=by rw [Int.tmod_eq_emod_of_nonneg (by omega),←e2];simp
   have hn0:¬((n:Int)=0):=by omega
   have hne:((lf9:Int) == -1)=false:=by simp
   have hi1:(s':Int) < 6:=by omega
   have hi2:(j':Int) < (n:Int):=by omega
   have hjc:j' < slN c:=by rw [hn];exact hj'
   have HJC:=hid hjc;have INV:=hid inv;have HO9:=hid (show onS fA c s'=true by rw [HON.out];exact hon');have hw3:IntKind.i64.wrap (s':Int)=(s':Int):=by rw [IntKind.wrap_i64];omega
   have hw4:IntKind.i64.wrap (j':Int)=(j':Int):=by rw [IntKind.wrap_i64];omega
   obtain⟨gb',hgb'⟩:∃ g,y.sb c s'=g:=⟨_,rfl⟩;obtain⟨gm',hgm'⟩:∃ g,y.sm c s' j'=g:=⟨_,rfl⟩;obtain⟨gr',hgr'⟩:∃ g,y.sr c s'=g:=⟨_,rfl⟩;obtain⟨gc',hgc'⟩:∃ g,y.sc c s'=g:=⟨_,rfl⟩;have CK:=hid (show ∀ (U:World) d9 h9,Hp B y d9 cf h9 U→U.cell? ⟨y.P,7+c*6+s',none⟩=some (Vp gb' 0) from fun U d9 h9 hU=>by
    rw [←hgb'];exact hU.slabAt c s' hc hs')
   have CR:=hid (show ∀ (U:World) d9 h9,Hp B y d9 cf h9 U→U.cell? ⟨gb',3,none⟩=some (Vl gr' n gc')∧U.cell? ⟨gr',j',none⟩=some (Vp gm' 0) from fun U d9 h9 hU=>by
    rw [←hgb',←hgr',←hgc',←hgm',←HN.out];exact⟨(hU.bc c s' hc hs').d3,hU.rowAt c s' j' hc hs' HJC.out⟩)
   have SET:=hid (show ∀ (U:World),Hp B y d3 cf fA U→(∃ z,U.cell? ⟨gm',0,none⟩=some (Vi z))∧U.frozen? ⟨gm',0,none⟩=false∧Hp B y d3 cf { fA with st:=upd3 fA.st c s' j' 3 } (U.setCell ⟨gm',0,none⟩ (Vi 3))∧Bi B U (U.setCell ⟨gm',0,none⟩ (Vi 3)) from fun U hU=>by
    have h1:=(hU.smAt c s' j' hc hs' HJC.out).1;have h2:=hU.sm c s' j' hc hs' HJC.out;have h3:=hU.setSt1 hc hs' HJC.out 3;rw [hgm'] at h1 h2 h3;exact⟨⟨_,h1⟩,by simp [World.frozen?,h2],h3.1,h3.2⟩)
   have HGB2:=hid hgb';have HGM2:=hid hgm';have HGR2:=hid hgr';have HGC2:=hid hgc';clear inv e e1 e2 hon' hjc hgb' hgm' hgr' hgc' HFR HRES HON GD3;go_upto_region 8 with fail
   refine wp_region_held (S:=fun W9=>W9.cell? ⟨y.P,7+c*6+s',none⟩=some (Vp gb' 0)) (by kernel_rfl) ?_;simp only [List.size_toArray,List.length_cons,List.length_nil,Nat.reduceAdd,Array.replicate_succ,Array.replicate_zero,List.push_toArray,List.nil_append,List.cons_append];have hS:=CK.out _ _ _ (H6.out.below (Below.refl _ _).drew);refine pk 0 67 (Vp y.P 0) hS ?_;simp only [lz,l0,ls];refine pk 1 68 (Vi (c:Nat)) hS ?_;simp only [lz,l0,ls];refine pk 2 69 (Vi (lf9:Nat)) hS ?_;simp only [lz,l0,ls];refine pk 3 70 (Vi (c:Nat)) hS ?_;simp only [lz,l0,ls];refine pk 6 73 (Vp y.P 0) hS ?_;simp only [lz,l0,ls];refine pk 7 74 (Vp y.P 7) hS ?_;simp only [lz,l0,ls];refine pz 8 75 (Vp y.P (7+c*6)) hS ?_;simp only [lz,l0,ls];refine po 4 fun K' hK=>?_
   go_simp;refine (SL.out _ (H6.out.below (Below.refl _ _).drew).tb).mono ?_;rintro e U1 ⟨rfl,rfl⟩;refine hK.out _ _ ⟨hS,?_⟩;clear hK K';refine pz 5 72 (Vi (s':Nat)) hS ?_;simp only [lz,l0,ls];refine pz 9 76 (Vp y.P (7+c*6+s')) hS ?_;simp only [lz,l0,ls];refine pz 10 77 (Vp gb' 0) hS ?_;simp only [lz,l0,ls];refine pk 11 7 (Vp gb' 0) hS ?_;simp only [lz,l0,ls];refine wpAnyH_done (by kernel_rfl) ?_ _;have H8:=hid (H6.out.below (Below.refl _ _).drew);have B8:=hid (B6.out.add (Below.refl _ _).drew H6.out.bW);clear hS H6 B6 CK;go_upto_region 9 with fail
   generalize World.drew _=V8 at *;obtain⟨⟨z9,cz⟩,fz,_,_⟩:=SET.out _ (H8.out.below (Below.refl _ V8).drew);refine wp_region_held (S:=fun W9=>W9.cell? ⟨gb',3,none⟩=some (Vl gr' n gc')∧W9.cell? ⟨gr',j',none⟩=some (Vp gm' 0)) (by kernel_rfl) ?_;simp only [List.size_toArray,List.length_cons,List.length_nil,Nat.reduceAdd,Array.replicate_succ,Array.replicate_zero,List.push_toArray,List.nil_append,List.cons_append];have hS:=CR.out _ _ _ (H8.out.below (Below.refl _ _).drew);refine pk 0 78 (Vp gb' 0) hS ?_;simp only [lz,l0,ls];refine pk 1 79 (Vp gb' 0) hS ?_;simp only [lz,l0,ls];refine pk 2 80 (Vp gb' 3) hS ?_;simp only [lz,l0,ls];refine pz 3 81 (Vl gr' n gc') hS ?_;simp only [lz,l0,ls];refine pk 4 82 (Vi (lf9:Nat)) hS ?_;simp only [lz,l0,ls];refine pk 5 83 (Vi (c:Nat)) hS ?_;simp only [lz,l0,ls];refine po 6 fun K' hK=>?_
   go_simp;refine (SL.out _ (H8.out.below (Below.refl _ _).drew).tb).mono ?_;rintro e U1 ⟨rfl,rfl⟩;refine hK.out _ _ ⟨hS,?_⟩;clear hK K';refine pz 7 85 (Vi (j':Nat)) hS ?_;simp only [lz,l0,ls];refine pz 8 86 (Vp gr' j') hS ?_;simp only [lz,l0,ls];refine pz 9 87 (Vp gm' 0) hS ?_;simp only [lz,l0,ls];refine pk 10 88 (Vp gm' 0) hS ?_;simp only [lz,l0,ls];refine pk 11 89 (Vp gm' 0) hS ?_;simp only [lz,l0,ls];refine pk 12 90 (Vp gm' 0) hS ?_;simp only [lz,l0,ls];refine po 13 fun K' hK=>?_
   go_simp;obtain⟨_,_,h9,b9⟩:=SET.out _ (H8.out.below (Below.refl _ V8).drew);have q9:=CR.out _ _ _ h9;refine hK.out _ _ ⟨q9,?_⟩;clear hK K';refine wpAnyH_done (by kernel_rfl) ?_ _;obtain⟨h10,hh10⟩:∃ h10:Hs,h10={ fA with st:=upd3 fA.st c s' j' 3 }:=⟨_,rfl⟩;have H9:=hid (show Hp B y d3 cf h10 (V8.setCell ⟨gm',0,none⟩ (Vi 3)).drew by rw [hh10];exact h9);have B9:=hid (show Bi B W (V8.setCell ⟨gm',0,none⟩ (Vi 3)).drew from (B8.out.add (Below.refl _ _).drew H8.out.bW).trans b9);rw [←hh10] at INV;have HE2:=hid (show res=if (freeS h10 c s').length=n then { h10 with m:=goneM h10.m (slabP c s') (pgN c) } else h10 by rw [HE.out,hh10,←HN.out];rfl);have GDB:=hid (show Gd d3 h10 an by rw [hh10];exact⟨GDA.out.on,GDA.out.un,GDA.out.an⟩);have HOA:=hid (show onS h10 c s'=true by rw [hh10];exact HO9.out);generalize (V8.setCell ⟨gm',0,none⟩ (Vi 3)).drew=V9 at *;have FR:=hid (show ∀ U,Hp B y d3 cf h10 U→_ from fun U hU=>im_free (y.sb c s') (y.sr c s') c s' (slN c) (y.sc c s') (d3.on c s') (y.sm c s') (h10.st c s') U (hU.bc c s' hc hs') (by omega) (fun j hj=>hU.rowAt c s' j hc hs' hj) (fun j hj=>(hU.smAt c s' j hc hs' hj).1));rw [frM_freeS,HGB2.out] at FR;obtain⟨ll,hll⟩:∃ ll,(freeS h10 c s').length=ll:=⟨_,rfl⟩;rw [hll] at FR HE2;have C3:=hid (show ∀ (U:World) d9 h9,Hp B y d9 cf h9 U→U.cell? ⟨gb',3,none⟩=some (Vl gr' n gc') from fun U d9 h9 hU=>(CR.out U d9 h9 hU).1);have HLL:=hid hll;clear hh10 h9 b9 q9 hS cz fz SET CR H8 B8 HE GDA HO9 hll;go_upto_region 10 with fail
   refine wp_region_held (S:=fun W9=>W9.cell? ⟨gb',3,none⟩=some (Vl gr' n gc')) (by kernel_rfl) ?_;simp only [List.size_toArray,List.length_cons,List.length_nil,Nat.reduceAdd,Array.replicate_succ,Array.replicate_zero,List.push_toArray,List.nil_append,List.cons_append];have hS:=C3.out _ _ _ (H9.out.below (Below.refl _ _).drew);refine pk 0 91 (Vp gb' 0) hS ?_;simp only [lz,l0,ls];refine pk 3 94 (Vp gb' 0) hS ?_;simp only [lz,l0,ls];refine pk 4 95 (Vp gb' 0) hS ?_;simp only [lz,l0,ls];refine pk 5 96 (Vp gb' 3) hS ?_;simp only [lz,l0,ls];refine pz 6 97 (Vl gr' n gc') hS ?_;simp only [lz,l0,ls];refine pz 7 98 (Vi (n:Nat)) hS ?_;simp only [lz,l0,ls];refine po 1 fun K' hK=>?_
   go_simp;refine (FR.out _ (H9.out.below (Below.refl _ _).drew)).mono ?_;rintro e U1 ⟨v,rfl,own,b1⟩;obtain⟨va,vc,rfl⟩:=own_sl2 own;have k1:Below V9.heap.size V9 U1:=⟨b1.os,b1.tape,b1.output,b1.size,b1.block⟩;have q1:=C3.out _ _ _ (H9.out.below k1);refine hK.out _ _ ⟨q1,?_⟩;clear hS;have hS:=q1;clear hK K';refine pz 2 93 (Vi (ll:Nat)) hS ?_;simp only [lz,l0,ls];refine pk 8 99 (.bool ((ll:Int)==(n:Int))) hS ?_;simp only [lz,l0,ls];refine wpAnyH_done (by kernel_rfl) ?_ _;have H10:=hid (H9.out.below k1);have B10:=hid (B9.out.add k1 H9.out.bW);clear k1 q1 hS own b1 H9 B9 FR C3
   by_cases hfull:ll=n
   ·have hlb:((ll:Int)==(n:Int))=true:=by simp [hfull]
    have SP:=hid (im_spaging (y.sb c s') (y.sr c s') (y.sm c s' 0) c s' (slN c) (y.sc c s') (d3.on c s') 1 U1 (H10.out.bc c s' hc hs') (by omega) (H10.out.scAt c s' 0 hc hs' (by omega)) (H10.out.rowAt c s' 0 hc hs' (by omega)));have hdr:=stepM_drop (bud:=(cf.bud:Nat)) (m:=h10.m) (p:=slabP c s') (c:=pgN c) (by omega) (by have:=slabP_in hc hs';omega) (fun i hi=>by rw [INV.out.slab c s' hc hs' i hi];exact HOA.out);have AK:=hid (fun U (hU:Hp B y d3 cf h10 U)=>im_ask B y d3 cf h10 1 (slabP c s':Nat) (pgN c:Nat) 0 0 none 0 0 [] U hU INV.out.out (by omega) (by have:=slabP_in hc hs';omega) (Da.nil _ _ _ _) (Nat.le_refl _));rw [hdr] at AK;have ON:=hid (show ∀ c' s9,c' < 12→s9 < 6→(goneM h10.m (slabP c s') (pgN c) (slabP c' s9)).isSome=updB d3.on c s' false c' s9 from fun c' s9 hc' hs9=>by
     have hz':=szN_in hc';unfold updB;rw [goneM_eq]
     by_cases e:c'=c∧s9=s'
     ·obtain⟨rfl,rfl⟩:=e;rw [if_pos (by omega),if_pos ⟨rfl,rfl⟩];rfl
     rw [if_neg e,if_neg (by have:=slab_apart hc' hs9 hc hs' e;omega),GDB.out.on c' s9 hc' hs9];rfl)
    have HE3:=hid (show res={ h10 with m:=goneM h10.m (slabP c s') (pgN c) } by rw [HE2.out,if_pos hfull]);rw [HGB2.out] at SP;clear HE2 hdr HLL;go_wp2_with fail;refine (SP.out).mono ?_;rintro e V11 ⟨rfl,b11⟩;have H11:=hid (H10.out.below b11);have B11:=hid (B10.out.add b11 H10.out.bW);clear b11 SP H10 B10;go_wp2_with fail;refine (AK.out _ H11.out).mono ?_;rintro e V12 ⟨f12,hp12,bi12,⟨_,v12,rfl,_⟩|⟨hn9,_⟩⟩
    rotate_left
    ·exact absurd rfl hn9
    obtain⟨h13,b13⟩:=hp12.setOn hc hs' false;have cb:=(hp12.bc c s' hc hs').d2;have fb:V12.frozen? ⟨y.sb c s',2,none⟩=false:=by simp [World.frozen?,hp12.sl c s' hc hs']
    have H13:=hid h13;have B13:=hid ((B11.out.trans bi12).trans b13);rw [HGB2.out] at cb fb H13 B13;clear h13 b13 AK H11 B11 hp12 bi12;go_wp2
    go_end0
    rw [HE3.out];refine⟨rfl,⟨_,H13.out,⟨fun c' s9 hc' hs9=>?_,GDB.out.un,GDB.out.an⟩,Klg.ofEq KL.out⟩,B13.out⟩;exact (ON.out c' s9 hc' hs9).symm
   have hlb:((ll:Int)==(n:Int))=false:=by simp;omega
   have HE3:=hid (show res=h10 by rw [HE2.out,if_neg hfull]);clear HE2 HLL hfull;go_wp2
   go_end0
   rw [HE3.out];exact⟨rfl,⟨d3,H10.out,GDB.out,Klg.ofEq KL.out⟩,B10.out⟩
end Go.Proofs.YtgandbaejlfppaaGreatDoor
