import Derived.Test.YtgandbaejlfppaaGreatDoorN22
import Derived.Test.YtgandbaejlfppaaGreatDoorN25
import Derived.Test.YtgandbaejlfppaaGreatDoorN24
namespace Go.Proofs.YtgandbaejlfppaaGreatDoor
set_option linter.unusedVariables false
set_option linter.unusedSimpArgs false
set_option maxRecDepth 20000
set_option maxHeartbeats 8000000
open Go.RowKit Go.Maps
theorem ta_l (g:Nat) (w:World):(Instr.typeAssert (.iface 145 (Vp g 0)) 95 133 true).run Tryz.prog w=.ok (.tuple #[.pointer none,.bool false]) w:=by kernel_rfl
theorem ta_s (g:Nat) (w:World):(Instr.typeAssert (.iface 133 (Vp g 0)) 95 133 true).run Tryz.prog w=.ok (.tuple #[Vp g 0,.bool true]) w:=by kernel_rfl
def wholeFd (cf:Cf) (h:Hs):Fd→Fd
 | .slot c s j=>if sound cf h c s j then .slot c s j else .no 5
 | x=>x
def IntR (B:Nat) (y:Ly) (d:Dy) (cf:Cf) (h:Hs) (W:World) (f:Fd) (e:Ending) (W':World):Prop:=∃ f',LkR y d f e∧Hp B y { d with f:=f' } cf h W'∧Bi B W W'
theorem Inv.onLive {cf:Cf} {h:Hs} (i:Inv cf h) {c s j:Nat} (hc:c < 12) (hs:s < 6) (hj:j < slN c) (hl:h.st c s j=1):onS h c s=true:=by
 cases e:onS h c s with
 | true=>rfl
 | false=>have:=i.off c s hc hs e j hj;rw [hl] at this;cases this
theorem Inv.accS {cf:Cf} {h:Hs} (i:Inv cf h) {c s j:Nat} (hc:c < 12) (hs:s < 6) (hj:j < slN c) (hon:onS h c s=true) (k n:Nat) (hn:1≤n) (hk:k+n≤szN c):accC h.m (adr c s j+k) (n:Int)=0:=by
 have hA:=adr_in hc hs hj;have hz:=szN_in hc;refine accC_open hn (by omega) (by omega) (fun q hq=>?_);have:=i.openS hc hs hj hon (k:=k+q) (by omega);rw [show adr c s j+k+q=adr c s j+(k+q) by omega];exact this
theorem im_intact (B:Nat) (y:Ly) (d:Dy) (cf:Cf) (h:Hs) (p:Nat) (W:World) (hp:Hp B y d cf h W) (i:Inv cf h) (hb:Byt h.m) (hpp:p < 18446744073709551616) (hrl:h.rel.length≤100000) (hk0:0≤cf.key) (hk1:cf.key < 18446744073709551616) :
  Calls Tryz.prog 37 #[Vp y.P 0,Vu (p:Nat)] W (IntR B y d cf h W (wholeFd cf h (findM h p))):=by
 have LU:=hid (im_lookUp B y d cf h p W hp i hpp hrl);have SN:=hid (find_seen h p);have HPB:=hid (fun V (hV:Below W.heap.size W V)=>hp.below hV);have BW:=hid hp.bW;clear hp;generalize findM h p=fd at *;go_enter Tryz.func37,Tryz.ntmps37;go_wp2_with fail;refine (LU.out).mono ?_;rintro e V ⟨lk,bV⟩;have BV:=hid bV;clear LU bV
 cases lk with
 | no code =>
  exact⟨rfl,d.f,.no code,HPB.out V BV.out,Bi.ofBelow BV.out BW.out⟩
 | range r g hg =>
  have ta:=fun w=>ta_l g w
  clear SN;go_wp2;go_ret;exact⟨d.f,.range r g hg,HPB.out V BV.out,Bi.ofBelow BV.out BW.out⟩
 | slot c s j =>
  obtain⟨hc,hs,hj,hA,hl⟩:c < 12∧s < 6∧j < slN c∧adr c s j=p∧h.st c s j=1:=by
   have:=SN.out;generalize hfd:Fd.slot c s j=fd at this
   cases this with
   | slot c' s' j' a1 a2 a3 a4 a5=>cases hfd;exact⟨a1,a2,a3,a4,a5⟩
   | range=>cases hfd
   | no=>cases hfd
  have hon:=i.onLive hc hs hj hl;have hz:=szN_in hc;have hAd:=adr_in hc hs hj;have hacc:accC h.m (adr c s j+usN c) ((8:Nat):Int)=0:=i.accS hc hs hj hon (usN c) 8 (by omega) (by omega);have ta:=fun w=>ta_s (y.sm c s j) w
  have HV:=HPB.out V BV.out;have CA:=hid (fun U (hU:Below V.heap.size V U)=>im_canaryAt (y.sm c s j) (y.sb c s) c s j U ((HV.scAt c s j hc hs hj).below hU));have LD:=hid (fun U (hU:Hp B y d cf h U)=>im_hload B y d cf h (adr c s j+usN c) 8 U hU i.out (by omega) (by omega));rw [show min 8 4097=8 from rfl,hacc] at LD;rw [if_pos rfl] at LD;have SB:=hid (fun f' U (hU:Hp B y { d with f:=f' } cf h U)=>im_sbase (y.sm c s j) (y.sb c s) c s j U (hU.scAt c s j hc hs hj));have CN:=hid (fun U=>impl_any cf.key (adr c s j:Nat) U hk0 hk1 (by omega) (by omega));have EQ:=hid (fun u1 u2 U h1 h2=>im_equal u1 u2 (loadB h.m (adr c s j+usN c) 8) (can cf (adr c s j)) U h1 h2 (hb.load _ _) (okB_can cf _));have HS:=hid (show sound cf h c s j=(loadB h.m (adr c s j+usN c) 8==can cf (adr c s j)) from rfl);have HVV:=hid HV;have HL8:=hid (show (loadB h.m (adr c s j+usN c) 8).length=8 by simp [loadB]);have HC8:=hid (show cRow (cx cf.key ((adr c s j:Nat):Int))=can cf (adr c s j) from rfl);have HLS:=hid (LkR.slot (y:=y) (d:=d) c s j);have HWF:=hid (show wholeFd cf h (.slot c s j)=if sound cf h c s j then .slot c s j else .no 5 from rfl);clear HV SN hl hon hacc hA;generalize y.sm c s j=gm at *;generalize loadB h.m (adr c s j+usN c) 8=data at *;go_wp2_with fail;refine (CA.out _ (Below.refl _ _)).mono ?_;rintro e V2 ⟨rfl,b2⟩;have H2:=hid (HVV.out.below b2);have B2:=hid ((Bi.ofBelow BV.out BW.out).add b2 (Nat.le_trans BW.out BV.out.size));clear b2 CA HVV;go_wp2_with fail;refine (LD.out _ H2.out).mono ?_;rintro e V3 ⟨f',hp3,bi3,⟨_,v,rfl,own3⟩|⟨hn,_⟩⟩
  rotate_left
  ·exact absurd rfl hn
  have H3:=hid hp3;have B3:=hid (B2.out.trans bi3);have BS3:=hid (bs_own own3);obtain⟨va,vn,vc,rfl⟩:=own_sl4 own3;have ck:=hp3.cell 4 (by omega) _ rfl;have CK:=hid (show ∀ W9,Below V3.heap.size V3 W9→W9.cell? ⟨y.P,4,none⟩=some (Vu cf.key) from fun W9 k=>below_cell k ck);clear hp3 bi3 own3 LD H2 B2 ck;go_upto_region 5 with fail
  refine wp_region_held (S:=fun W9=>W9.cell? ⟨y.P,4,none⟩=some (Vu cf.key)) (by kernel_rfl) ?_;simp only [List.size_toArray,List.length_cons,List.length_nil,Nat.reduceAdd,Array.replicate_succ,Array.replicate_zero,List.push_toArray,List.nil_append,List.cons_append];have hS:=CK.out _ (Below.refl _ _).drew
  iterate 7 (refine py hS ?_;simp only [f0,f1,Nat.reduceAdd,lz,l0,ls])
  refine po 7 fun K' hK=>?_
  go_simp;refine (SB.out f' _ (H3.out.below (Below.refl _ _).drew)).mono ?_;rintro e V4 ⟨rfl,b4⟩;have k4:Below V3.heap.size V3 V4:=⟨b4.os,b4.tape,b4.output,b4.size,b4.block⟩;have h4:=CK.out _ k4;refine hK.out _ _ ⟨h4,?_⟩;clear hS;have hS:=h4;clear hK K';refine po 8 fun K' hK=>?_
  go_simp;refine (CN.out _).mono ?_;rintro e V5 ⟨rfl,r5,b5⟩;have k5:=bl_trans k4 b5;have h5:=CK.out _ k5;refine hK.out _ _ ⟨h5,?_⟩;clear hS;have hS:=h5;rw [HC8.out] at r5;have BS5:=bs_row r5 (by unfold can;exact cRow_len _);clear hK K';refine po 9 fun K' hK=>?_
  go_simp;refine (EQ.out _ _ _ (BS3.out.below k5) BS5).mono ?_;rintro e V6 ⟨rfl,hw⟩;rw [hw];clear hw V6;refine hK.out _ _ ⟨h5,?_⟩;clear hK K';refine py hS ?_;simp only [f0,f1,Nat.reduceAdd,lz,l0,ls];refine wpAnyH_done (by kernel_rfl) ?_ _;have K5:=hid k5;have B5:=hid (B3.out.add k5 H3.out.bW);have H5:=hid (H3.out.below k5);clear hS h5 h4 k5 k4 b4 b5 r5 BS5 BS3 CK SB CN EQ H3 B3
  cases hq:(data==can cf (adr c s j)) with
  | true =>
   have HW2:=hid (show wholeFd cf h (.slot c s j)=.slot c s j by rw [HWF.out,HS.out,hq];rfl);clear hq HS HWF;go_wp2;go_ret;rw [HW2.out];exact⟨f',HLS.out,H5.out,B5.out⟩
  | false =>
   have HW2:=hid (show wholeFd cf h (.slot c s j)=.no 5 by rw [HWF.out,HS.out,hq];rfl);clear hq HS HWF;go_wp2;rw [HW2.out];exact⟨rfl,f',.no 5,H5.out,B5.out⟩
end Go.Proofs.YtgandbaejlfppaaGreatDoor
namespace Go.Proofs.YtgandbaejlfppaaGreatDoor
set_option linter.unusedVariables false
set_option linter.unusedSimpArgs false
set_option maxRecDepth 20000
set_option maxHeartbeats 8000000
open Go.RowKit Go.Maps
theorem own186 {W:World} {B n c k:Nat} {a:Option Addr} {g:Nat→Nat} {l:List Nat} (h:W.ownsRow B 133 1 (.slice a n c) l.length (Pt g l)) (hk:k < l.length) (q:Nat) (hq:l[k]?=some q):∃ gg,a=some ⟨gg,0,none⟩∧W.cell? ⟨gg,k,none⟩=some (Vp (g q) 0):=by
 have hv:n=l.length:=by
  obtain⟨a,c,e⟩:=own_sl2 h;injection e with _ e2 _
 subst hv;obtain⟨gg,hg⟩:=own_at h (by omega);subst hg;exact⟨gg,rfl,own_cell h k _ (by simp [Pt,hq])⟩
theorem Hp.daRow {B:Nat} {y:Ly} {d:Dy} {cf:Cf} {h:Hs} {U:World} (hp:Hp B y d cf h U) {g n:Nat} {ys:List Int} (hr:RowV U g 5 (Ns .u8 ys)) (hn:ys.length=n):Da y.S y.M d.f U (some ⟨g,0,none⟩) n ys:=by
 subst hn;refine⟨rfl,fun i hi=>⟨⟨g,0,none⟩,rfl,?_,?_,?_,?_,?_⟩⟩
 ·rw [Addr.add_mid,Nat.zero_add];exact cell_n hr i hi
 ·rw [Addr.add_mid];exact hr.lt
 ·rw [Addr.add_mid];obtain⟨c,h1,_⟩:=hr;intro e;have e':g=y.S:=e;rw [e',hp.sp.box] at h1;simp at h1
 ·rw [Addr.add_mid];obtain⟨c,h1,_⟩:=hr;intro e;have e':g=y.M:=e;obtain⟨D,⟨es,c2,h2,_⟩,_⟩:=hp.sp.map;rw [e',h2] at h1
  cases h1
 rw [Addr.add_mid];intro k hk;obtain⟨c,h1,_⟩:=hr
 rcases hp.pg.at' k with ⟨e1,_⟩|⟨b',l,xs,e1,_,_,e4⟩
 ·rw [hk] at e1;cases e1
 rw [hk] at e1
 cases e1
 rw [e4] at h1;simp at h1
theorem not186:¬hI 133:=by unfold hI;decide
theorem Inv.accL {cf:Cf} {h:Hs} (i:Inv cf h) {c s j:Nat} (hc:c < 12) (hs:s < 6) (hj:j < slN c) (hon:onS h c s=true):accC h.m (adr c s j) ((szN c:Nat):Int)=0:=by
 have:=i.accS hc hs hj hon 0 (szN c) (by have:=szN_in hc;omega) (by omega);simpa using this
theorem im_takeSlot (B:Nat) (y:Ly) (d:Dy) (cf:Cf) (h:Hs) (an:Value) (a:Nat) (W:World) (hp:Hp B y d cf h W) (gd:Gd d h an) (i:Inv cf h) (hb:Byt h.m) (ha:a≤1016) (hu:h.used+2000≤1000000) (dk:Dok cf) :
  Calls Tryz.prog 62 #[Vp y.P 0,Vu (a:Nat)] W (TaW B y cf an d.lg W (mallocM cf h a)):=by
 obtain⟨hco,hc,hca⟩:=co_c ha;have CO:=hid (im_ClassOf (a:Nat) (by omega) W hp.tb);rw [hco] at CO;have MM:=hid (mallocM_small (cf:=cf) (h:=h) ha);have HF:=hid (show freeN h (coN a) 6 < 2000 by
  have h1:=freeN_le h (coN a) 6;have h2:=szN_in hc;have:6*slN (coN a)≤6*64:=Nat.mul_le_mul_left _ (by omega);omega)
 have hz:=szN_in hc;generalize hce:coN a=c at *;obtain⟨res,hres⟩:∃ res,smallM cf c 2000 h=res:=⟨_,rfl⟩;rw [hres] at MM;obtain⟨mres,hmres⟩:∃ mres,mallocM cf h a=mres:=⟨_,rfl⟩;rw [hmres] at MM ⊢;have HR:=hid hres;have HP0:=hid hp;have GD0:=hid gd;have I0:=hid i;have BY0:=hid hb;have DK:=hid dk;have HU:=hid hu;have BW:=hid hp.bW;clear hres hmres hp gd i hb dk hu hco hce;go_enter Tryz.func62,Tryz.ntmps62;go_wp2_with fail;refine (CO.out).mono ?_;rintro e W1 ⟨rfl,rfl⟩;clear CO;go_wp2;go_loopg [6] 2000 (fun gk _ wr=>∃ (hk:Hs) (dk9:Dy),Hid (smallM cf c gk hk=res)∧Hid (freeN hk c 6 < gk)∧Hid (Hp B y dk9 cf hk wr)∧Hid (Gd dk9 hk an)∧Hid (Inv cf hk)∧Hid (Byt hk.m)∧Hid (Bi B W1 wr)∧Hid (hk.used+gk≤h.used+2000)∧Hid (Kl d.lg dk9))
 case atStart=>exact ⟨h,d,HR,HF,HP0,GD0,I0,BY0,hid (Bi.refl _ _),hid (Nat.le_refl _),hid (Kl.refl d)⟩
 case round =>
  obtain⟨hk,d1,KR,KF,KP,KG,KI,KY,KB,KU,KL⟩:=hrel;clear HP0 GD0 I0 BY0 HR HF;obtain⟨f,hgf⟩:∃ f,gk=f+1:=⟨gk - 1,by have:=KF.out;omega⟩;have KGF:=hid hgf;have KR2:=hid (show (match roomS cf hk c with
    | none=>(none,hk)
    | some (s,h1)=>if clean h1.m (adr c s (pickJ cf h1 c s)) (szN c) then (some (s,pickJ cf h1 c s),{ h1 with used:=h1.used+1 })
     else smallM cf c f { h1 with used:=h1.used+1,st:=upd3 h1.st c s (pickJ cf h1 c s) 4 })=res by
   have:=KR.out;rw [hgf,smallM_succ] at this;exact this)
  have SW:=hid (im_swr B y d1 cf hk an c wr KP.out KG.out KI.out hc);have RM:=hid (fun s h1 (hr:roomS cf hk c=some (s,h1))=>And.intro (KI.out.room hc hr) (roomS_m hr));clear hgf KR;go_wp2_with fail;refine (SW.out).mono ?_;rintro e V ⟨rm,bi⟩;have BI:=hid (KB.out.trans bi);clear SW bi;generalize hro:roomS cf hk c=ro at *;have HRO:=hid hro;clear hro
  cases rm with
  | no _ tk =>
   have HE:=hid (show mres=(none,hk) by rw [MM.out,←KR2.out];rfl);refine⟨rfl,?_,BI.out⟩;rw [HE.out];exact .no hk V tk
  | yes s h1 _ hg =>
   obtain⟨d2,hp2,gd2,kl2⟩:=hg;have KL2:=hid (KL.out.trans kl2);clear kl2;obtain⟨⟨hs6,j1,hon,hlen,hst,hu1,hse⟩,hrm⟩:=RM.out s h1 rfl;have KR3:=hid (show (if clean h1.m (adr c s (pickJ cf h1 c s)) (szN c) then (some (s,pickJ cf h1 c s),{ h1 with used:=h1.used+1 })
     else smallM cf c f { h1 with used:=h1.used+1,st:=upd3 h1.st c s (pickJ cf h1 c s) 4 })=res from KR2.out)
   obtain⟨hpk,hpj,hpf⟩:=pick_in cf hlen;have hfb:=freeS_len h1 c s;have hdl:=dr_lt cf h1 hlen;have BY1:=hid (show Byt h1.m by rcases hrm with e|e <;> rw [e];exact KY.out;exact KY.out.fresh _ _);have HP2:=hid hp2;have GD2:=hid gd2;have J1:=hid j1;have HON:=hid hon;have HSE:=hid hse;have HU1:=hid hu1;have HPF:=hid hpf;have HPJ:=hid hpj;have FRE:=hid (im_free (y.sb c s) (y.sr c s) c s (slN c) (y.sc c s) (d2.on c s) (y.sm c s) (h1.st c s) V (hp2.bc c s hc hs6) (by omega) (fun j hj=>hp2.rowAt c s j hc hs6 hj) (fun j hj=>(hp2.smAt c s j hc hs6 hj).1));rw [frM_freeS] at FRE;have DR:=hid (fun U (hU:Hp B y d2 cf h1 U)=>im_draw B y d2 cf h1 (freeS h1 c s).length U hU (by omega) (by omega) (by have:=HU.out;have:=KU.out;have:=HU1.out;omega) DK.out.len);have hq0:0 < (freeS h1 c s).length:=hlen;have OWN:=hid (fun (U:World) (va:Option Addr) (vn vc:Nat) (hU:U.ownsRow V.heap.size 133 1 (.slice va vn vc) (freeS h1 c s).length (Pt (y.sm c s) (freeS h1 c s)))=>own186 hU hdl _ hpk);clear hp2 gd2 j1 hon hse hst hu1 hrm hpk hpf KR2 RM KY KI;generalize hjj:pickJ cf h1 c s=j at *;clear hjj;generalize hdd:dr cf h1 (freeS h1 c s).length=dd at *;clear hdd;generalize hll:(freeS h1 c s).length=ll at *;clear hll;go_wp2_with fail;refine (FRE.out).mono ?_;rintro e V1 ⟨v,rfl,own,b1⟩;obtain⟨va,vc,rfl⟩:=own_sl2 own;have HP3:=hid (HP2.out.below b1);have BI3:=hid (BI.out.add b1 HP2.out.bW);have OW3:=hid own;clear own b1 FRE HP2 BI;go_wp2_with fail;refine (DR.out _ HP3.out).mono ?_;rintro e V2 ⟨rfl,hp4,bi4⟩;have HP4:=hid hp4;have BI4:=hid (BI3.out.trans bi4);obtain⟨gg,rfl,hcell⟩:=OWN.out V2 va ll vc (own_ky OW3.out bi4.ky not186);clear hp4 bi4 DR OW3 HP3 BI3 OWN;have hdl':(dd:Int) < (ll:Int):=by omega
   have SB:=hid (fun U (hU:Hp B y d2 cf { h1 with used:=h1.used+1 } U)=>im_sbase (y.sm c s j) (y.sb c s) c s j U (hU.scAt c s j hc hs6 HPJ.out));have SZ:=hid (fun U (hU:Hp B y d2 cf { h1 with used:=h1.used+1 } U)=>im_SlotSize (c:Nat) U hU.tb);rw [sz_c hc] at SZ;have hA:=adr_in hc hs6 HPJ.out;have LD:=hid (fun U (hU:Hp B y d2 cf { h1 with used:=h1.used+1 } U)=>im_hload B y d2 cf { h1 with used:=h1.used+1 } (adr c s j) (szN c) U hU J1.out.out (by omega) (by omega));rw [Nat.min_eq_left (by omega)] at LD;have LD2:=hid (show ∀ U (hU:Hp B y d2 cf { h1 with used:=h1.used+1 } U),Calls Tryz.prog 39 #[Vp y.P 0,Vu (adr c s j:Nat),Vu (szN c:Nat)] U (AskR B y d2 cf { h1 with used:=h1.used+1 } U h1.m 0 (loadB h1.m (adr c s j) (szN c))) from fun U hU=>by
    have:=LD.out U hU;dsimp only at this;rw [J1.out.accL hc hs6 HPJ.out HON.out,if_pos rfl] at this;exact this)
   have MX:=hid (fun u U (hU:Bs U u (loadB h1.m (adr c s j) (szN c)))=>im_max u _ U hU (BY1.out.load _ _) (by simp [loadB];omega) (by simp [loadB];omega));have HCL:=hid (show clean h1.m (adr c s j) (szN c)=(loadB h1.m (adr c s j) (szN c)).all (· == 0) from rfl);clear LD;generalize loadB h1.m (adr c s j) (szN c)=data at *;generalize hgm:y.sm c s j=gm at *;have HGM:=hid hgm;clear hgm;go_wp2_with fail;refine (SB.out _ HP4.out).mono ?_;rintro e V3 ⟨rfl,b3⟩;have HP5:=hid (HP4.out.below b3);have BI5:=hid (BI4.out.add b3 HP4.out.bW);clear b3 HP4 BI4 hcell;go_wp2_with fail;refine (SZ.out _ HP5.out).mono ?_;rintro e V4 ⟨rfl,rfl⟩;clear SZ;go_wp2_with fail;refine (LD2.out _ HP5.out).mono ?_;rintro e V5 ⟨f',hp6,bi6,⟨_,v,rfl,own6⟩|⟨hn,_⟩⟩
   rotate_left
   ·exact absurd rfl hn
   have HP6:=hid (show Hp B y { d2 with f:=f' } cf { h1 with used:=h1.used+1 } V5 from hp6);have BI6:=hid (BI5.out.trans bi6);have BS6:=hid (bs_own own6);clear hp6 bi6 own6 LD2 HP5 BI5;go_wp2_with fail;refine (MX.out _ _ BS6.out).mono ?_;rintro e V6 ⟨M,rfl,hM,rfl⟩;have HM:=hid hM;clear hM MX BS6;have HG6:=hid (show Gd { d2 with f:=f' } { h1 with used:=h1.used+1 } an from ⟨GD2.out.on,GD2.out.un,GD2.out.an⟩)
   cases hcl:data.all (fun x=>x==0) with
   | false =>
    have hM1:(0:Int) < M:=by have:=HM.out;rw [hcl] at this;simpa using this
    have HR9:=hid (show smallM cf c f { h1 with used:=h1.used+1,st:=upd3 h1.st c s j 4 }=res by
     have:=KR3.out;rw [if_neg (by rw [HCL.out,hcl];decide)] at this;exact this)
    obtain⟨h7,b7⟩:=HP6.out.setSt1 hc hs6 HPJ.out 4;have sa:=(HP6.out.smAt c s j hc hs6 HPJ.out).1;have fz:V6.frozen? ⟨y.sm c s j,0,none⟩=false:=by simp [World.frozen?,HP6.out.sm c s j hc hs6 HPJ.out]
    rw [HGM.out] at h7 b7 sa fz;have H7:=hid (show Hp B y { d2 with f:=f' } cf { h1 with used:=h1.used+1,st:=upd3 h1.st c s j 4 } (V6.setCell ⟨gm,0,none⟩ (Vi 4)) from h7);have B7:=hid (BI6.out.trans b7);have G7:=hid (show Gd { d2 with f:=f' } { h1 with used:=h1.used+1,st:=upd3 h1.st c s j 4 } an from ⟨GD2.out.on,GD2.out.un,GD2.out.an⟩);have I7:=hid (show Inv cf { h1 with used:=h1.used+1,st:=upd3 h1.st c s j 4 } from (J1.out.used (h1.used+1)).retire hc hs6 HPJ.out HPF.out HON.out);have F7:=hid (show freeN { h1 with used:=h1.used+1,st:=upd3 h1.st c s j 4 } c 6 < f by
     have q1:=(freeN_set (h:=h1) (s:=s) HPJ.out HPF.out 6).2 hs6;have q2:freeN { h1 with used:=h1.used+1,st:=upd3 h1.st c s j 4 } c 6=freeN { h1 with st:=upd3 h1.st c s j 4 } c 6:=rfl;have q3:freeN h1 c 6=freeN hk c 6:=freeN_st HSE.out c 6;have q4:=KF.out;have q5:=KGF.out;omega)
    have U7:=hid (show h1.used+1+f≤h.used+2000 by
     have q1:=KU.out;have q2:=HU1.out;have q5:=KGF.out;omega)
    generalize h1.st c s j=z4 at sa;clear h7 b7 hcl HM HCL KR3 HP6 BI6 SB HG6 GD2 KP KG;go_wp2
    go_roundg f
    case rel=>exact ⟨_,_,HR9,F7,H7,G7,I7,BY1,B7,U7,hid (show Kl d.lg { d2 with f:=f' } from KL2.out)⟩
    case measure=>have:=KGF.out;omega
   | true =>
    have hM1:¬((0:Int) < M):=by have:=HM.out;rw [hcl] at this;simpa using this
    have HE:=hid (show mres=(some (adr c s j),{ h1 with used:=h1.used+1,st:=upd3 h1.st c s j 1,rq:=upd3 h1.rq c s j a,m:=storeM h1.m (adr c s j+usN c) (can cf (adr c s j)) 8 }) by
     have:=KR3.out;rw [if_pos (by rw [HCL.out,hcl])] at this;rw [MM.out,←this];rfl)
    obtain⟨h7,b7⟩:=HP6.out.setRec hc hs6 HPJ.out 1 (a:Nat);have hbk:=HP6.out.sm c s j hc hs6 HPJ.out;rw [HGM.out] at h7 b7 hbk;have s0:V6.cell? ⟨gm,0,none⟩=some (Vi (h1.st c s j)):=by rw [cell_of_row _ _ _ _ _ _ hbk];rfl
    have s1:V6.cell? ⟨gm,1,none⟩=some (Vi (h1.rq c s j)):=by rw [cell_of_row _ _ _ _ _ _ hbk];rfl
    have z0:V6.frozen? ⟨gm,0,none⟩=false:=by simp [World.frozen?,hbk]
    have z1:V6.frozen? ⟨gm,1,none⟩=false:=by simp [World.frozen?,hbk]
    simp only [World.setCells,Nat.zero_add] at h7 b7;clear hbk;generalize h1.st c s j=q0 at s0;generalize h1.rq c s j=q1 at s1;have H7:=hid h7;have B7:=hid (BI6.out.trans b7);clear h7 b7 hcl HM HCL KR3 HP6 BI6 KP KG KF KU;go_upto_region 7 with fail
    generalize (V6.setCell ⟨gm,0,none⟩ (Vi 1)).setCell ⟨gm,1,none⟩ (Vi (a:Nat))=V8 at *;clear s0 s1 z0 z1 SB HG6;obtain⟨h8,hh8⟩:∃ h8:Hs,h8={ h1 with used:=h1.used+1,st:=upd3 h1.st c s j 1,rq:=upd3 h1.rq c s j a }:=⟨_,rfl⟩;obtain⟨d8,hd8⟩:∃ d8:Dy,d8={ d2 with f:=f' }:=⟨_,rfl⟩;have HM8:=hid (show h8.m=h1.m by rw [hh8]);have H8:=hid (show Hp B y d8 cf h8 V8 by rw [hh8,hd8];exact H7.out);have CA:=hid (fun U (hU:Hp B y d8 cf h8 U)=>im_canaryAt (y.sm c s j) (y.sb c s) c s j U (hU.scAt c s j hc hs6 HPJ.out));have SB:=hid (fun U (hU:Hp B y d8 cf h8 U)=>im_sbase (y.sm c s j) (y.sb c s) c s j U (hU.scAt c s j hc hs6 HPJ.out));rw [HGM.out] at CA SB;have CN:=hid (fun U=>impl_any cf.key (adr c s j:Nat) U DK.out.key0 DK.out.key1 (by omega) (by omega));have hacc:accC h1.m (adr c s j+usN c) ((8:Nat):Int)=0:=J1.out.accS hc hs6 HPJ.out HON.out (usN c) 8 (by omega) (by omega);have ST:=hid (fun U g (hU:Hp B y d8 cf h8 U) (hr:RowV U g 5 (Ns .u8 (can cf (adr c s j))))=>im_hstore B y d8 cf h8 (adr c s j+usN c) (some ⟨g,0,none⟩) 8 8 (can cf (adr c s j)) U hU (by rw [HM8.out];exact J1.out.out) (by omega) (hU.daRow hr (by unfold can;exact cRow_len _)) (Nat.le_refl _));have ST2:=hid (show ∀ (U:World) (g:Nat) (hU:Hp B y d8 cf h8 U) (hr:RowV U g 5 (Ns .u8 (can cf (adr c s j)))),Calls Tryz.prog 40 #[Vp y.P 0,Vu (adr c s j+usN c:Nat),Vl g 8 8] U (StoR B y d8 cf h8 U (storeM h1.m (adr c s j+usN c) (can cf (adr c s j)) 8) 0) from fun U g hU hr=>by
     have:=ST.out U g hU hr;rw [show (can cf (adr c s j)).length=8 by unfold can;exact cRow_len _,HM8.out,hacc,if_pos rfl] at this;exact this)
    have FIN:=hid (show ∀ f9 U,Hp B y { d8 with f:=f9 } cf { h8 with m:=storeM h1.m (adr c s j+usN c) (can cf (adr c s j)) 8 } U→TaR B y cf an d.lg mres (.returned (.iface 133 (Vp gm 0))) U from fun f9 U hU=>by
     rw [HE.out,←HGM.out];refine .slot c s j _ U hc hs6 HPJ.out ?_ ⟨{ d8 with f:=f9 },?_,?_,by show Kl d.lg { d8 with f:=f9 };rw [hd8];exact KL2.out⟩
     ·show upd3 h1.st c s j 1 c s j=1;exact upd3_same _ _ _ _ _
     ·rw [hh8] at hU;exact hU
     refine⟨fun c' s' hc' hs'=>?_,by rw [hd8];exact GD2.out.un,by rw [hd8];exact GD2.out.an⟩;show d8.on c' s'=(storeM h1.m _ _ 8 (slabP c' s')).isSome;rw [storeM_is,hd8];exact GD2.out.on c' s' hc' hs')
    have HC8:=hid (show cRow (cx cf.key ((adr c s j:Nat):Int))=can cf (adr c s j) from rfl);have CK:=hid (show ∀ U d9 h9,Hp B y d9 cf h9 U→U.cell? ⟨y.P,4,none⟩=some (Vu cf.key) from fun U d9 h9 hU=>hU.cell 4 (by omega) _ rfl);clear ST hacc hh8 hd8 H7 HE GD2 HM8;generalize hAA:adr c s j=AA at *;generalize usN c=uu at *;refine wp_region_held (S:=fun W9=>W9.cell? ⟨y.P,4,none⟩=some (Vu cf.key)) (by kernel_rfl) ?_;simp only [List.size_toArray,List.length_cons,List.length_nil,Nat.reduceAdd,Array.replicate_succ,Array.replicate_zero,List.push_toArray,List.nil_append,List.cons_append];have hS:=CK.out V8.drew _ _ (H8.out.below (Below.refl _ _).drew)
    iterate 2 (refine py hS ?_;simp only [f0,f1,Nat.reduceAdd,lz,l0,ls])
    refine pk 3 43 (Vp y.P 0) hS ?_;simp only [lz,l0,ls];refine pk 4 44 (Vp y.P 0) hS ?_;simp only [lz,l0,ls];refine pk 5 45 (Vp y.P 0) hS ?_;simp only [lz,l0,ls];refine pk 6 46 (Vp y.P 4) hS ?_;simp only [lz,l0,ls];refine pz 7 47 (Vu cf.key) hS ?_;simp only [lz,l0,ls];refine pk 8 48 (Vp gm 0) hS ?_;simp only [lz,l0,ls];refine po 2 fun K' hK=>?_
    go_simp;refine (CA.out _ (H8.out.below (Below.refl _ _).drew)).mono ?_;rintro e U1 ⟨rfl,b1⟩;have k1:Below V8.heap.size V8 U1:=⟨b1.os,b1.tape,b1.output,b1.size,b1.block⟩;have p1:=H8.out.below k1;have q1:=CK.out _ _ _ p1;refine hK.out _ _ ⟨q1,?_⟩;clear hS;have hS:=q1;clear hK K';refine po 9 fun K' hK=>?_
    go_simp;refine (SB.out _ p1).mono ?_;rintro e U2 ⟨rfl,b2⟩;have k2:=bl_trans k1 b2;have p2:=H8.out.below k2;have q2:=CK.out _ _ _ p2;refine hK.out _ _ ⟨q2,?_⟩;clear hS;have hS:=q2;clear hK K';refine po 10 fun K' hK=>?_
    go_simp;refine (CN.out _).mono ?_;rintro e U3 ⟨rfl,r3,b3⟩;have k3:=bl_trans k2 b3;have p3:=H8.out.below k3;have q3:=CK.out _ _ _ p3;refine hK.out _ _ ⟨q3,?_⟩;clear hS;have hS:=q3;rw [HC8.out] at r3;clear hK K';refine po 11 fun K' hK=>?_
    go_simp;refine (ST2.out _ _ p3 r3).mono ?_;rintro e U4 ⟨f9,p4,bi4,⟨_,rfl⟩|⟨hn,_⟩⟩
    rotate_left
    ·exact absurd rfl hn
    have q4:=CK.out _ _ _ p4;refine hK.out _ _ ⟨q4,?_⟩;clear hS;have hS:=q4;clear hK K';refine wpAnyH_done (by kernel_rfl) ?_ _;have FF:=hid (And.intro (FIN.out f9 U4 p4) ((B7.out.add k3 H8.out.bW).trans bi4));clear p1 p2 p3 p4 q1 q2 q3 q4 k1 k2 k3 b1 b2 b3 r3 bi4 hS CA SB CN ST2 FIN CK H8 B7;go_wp2;go_ret;exact FF.out
end Go.Proofs.YtgandbaejlfppaaGreatDoor
