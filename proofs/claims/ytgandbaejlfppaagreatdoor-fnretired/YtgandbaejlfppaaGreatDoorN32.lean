import Derived.Test.YtgandbaejlfppaaGreatDoorN31
namespace Go.Proofs.YtgandbaejlfppaaGreatDoor
set_option linter.unusedVariables false
set_option linter.unusedSimpArgs false
set_option maxRecDepth 20000
set_option maxHeartbeats 8000000
open Go.RowKit Go.Maps
theorem wpo_delete0 (tm tx:TypeId) {o:Oper} {a:Act} {W W':World} {K:Act→World→Prop} {Q:Exit→Act→World→Prop} (m x:Operand) (hd:o.dst=none) {vm vx v:Value} (hop:o.op=Op.call { callee:=Callee.builtin Builtin.delete,args:=#[m,x],argTypes:=#[tm,tx] }) (hm:a.eval m=vm) (hx:a.eval x=vx)
  (hrun:(Builtin.delete_ #[tm,tx] o.type #[vm,vx]).run Tryz.prog W=.ok v W') (hK:K a W'):Oper.wp Tryz.prog o a W K Q:=by
 refine wpo_delete tm tx m x hop hm hx hrun ?_;rw [hd];exact hK
theorem freeRange_eq9 (cf:Cf) (h:Hs) (r:Rg9):freeRange cf h r=if cf.large < (h.row++[r.base]).length then { h with m:=goneM h.m (r.first+r.guards) r.pages,rg:=(setR h.rg r.base 2 0).filter fun x=>x.base≠(h.row++[r.base])[0]?.getD 0,rel:=h.rel++[(h.row++[r.base])[0]?.getD 0],row:=(h.row++[r.base]).tail } else { h with m:=goneM h.m (r.first+r.guards) r.pages,rg:=setR h.rg r.base 2 0,row:=h.row++[r.base] }:=rfl
theorem im_releaseRange (B:Nat) (y:Ly) (d:Dy) (cf:Cf) (h:Hs) (k:Nat) (an:Value) (r:Rg9) (L:Nat) (W:World) (hp:Hp B y d cf h W) (gd:Gd d h an) (o:Okh cf h k) (hr:r∈h.rg) (hl:r.st=1) (hL:d.lg r.base=some L) :
  Calls Tryz.prog 68 #[Vp y.P 0,Vp L 0] W (ReR B y d cf (freeRange cf h r) an W):=by
 obtain⟨res,hres⟩:∃ res,freeRange cf h r=res:=⟨_,rfl⟩;rw [hres];have HRES:=hid (hres.symm.trans (freeRange_eq9 cf h r));clear hres;obtain⟨r1,r2,r3,r4,r5,r6⟩:=o.inv.rgs r hr;have hex:r.ext=r.guards+r.pages+1:=rfl;have BAS:=hid (show r.base=(r.first+r.guards)*1024 from rfl);have LCv:=hid (show ∀ (V:World) st rq,V.heap[L]?=some (.cells (lgC { r with st:=st,rq:=rq }) 158 (0,0))→Lc L { r with st:=st,rq:=rq } V from fun V st rq hV=>lc_of hV (by simp;omega) r4 (by simp;omega));have hb0:W.heap[L]?=some (.cells (lgC r) 158 (0,0)):=by
  obtain⟨L',e1,_,hb0⟩:=hp.lb r hr;rw [hL] at e1
  cases e1
  exact hb0
 have LP:=hid (im_lpaging L 1 r W (lc_of hb0 (by omega) r4 (by omega)));have hhold:∀ i,i < r.pages→(h.m (r.first+r.guards+i)).isSome=true:=fun i hi=>(o.inv.big _ (by omega)).2 ⟨r,hr,hl,by omega,by omega⟩
 have hdr:=stepM_drop (bud:=(cf.bud:Nat)) (m:=h.m) (p:=r.first+r.guards) (c:=r.pages) (by omega) (by omega) hhold;have AK:=hid (fun U (hU:Hp B y d cf h U)=>im_ask B y d cf h 1 ((r.first+r.guards:Nat):Nat) (r.pages:Nat) 0 0 none 0 0 [] U hU o.inv.out (by omega) (by omega) (Da.nil _ _ _ _) (Nat.le_refl _));rw [hdr] at AK;have HUQ:=hid (fun (x:Rg9) (hx:x∈h.rg) (e:x.base=r.base)=>o.inv.uniq hr hx e);have OK:=hid o;have HP0:=hid hp;have HR:=hid hr;have HL:=hid hL;have GD:=hid gd;have HLO:=hid (show r.first+r.guards≥187 by omega);have RB:=hid (show r.base < 18446744073709551616 by rw [BAS.out];omega);clear hp gd o hr hL hdr hhold hb0 hl r1 r2 r3 r4 r5 r6 hex;go_enter Tryz.func68,Tryz.ntmps68;go_wp2_with fail;refine (LP.out).mono ?_;rintro e V1 ⟨rfl,b1⟩;have H1:=hid (HP0.out.below b1);have B1:=hid (Bi.ofBelow b1 HP0.out.bW);clear b1 LP HP0;go_wp2_with fail;refine (AK.out _ H1.out).mono ?_;rintro e V2 ⟨f2,hp2,bi2,⟨_,v2,rfl,_⟩|⟨hn9,_⟩⟩
 rotate_left
 ·exact absurd rfl hn9
 obtain⟨d2,hd2⟩:∃ d2:Dy,d2={ d with f:=f2 }:=⟨_,rfl⟩;obtain⟨h2,hh2⟩:∃ h2:Hs,h2={ h with m:=goneM h.m (r.first+r.guards) r.pages }:=⟨_,rfl⟩;have H2:=hid (show Hp B y d2 cf h2 V2 by rw [hd2,hh2];exact hp2);have B2:=hid (B1.out.trans bi2);have GD2:=hid (show Gd d2 h2 an by
  rw [hd2,hh2];refine⟨fun c s hc hs=>?_,GD.out.un,GD.out.an⟩;show d.on c s=(goneM h.m (r.first+r.guards) r.pages (slabP c s)).isSome;have:=slabP_in hc hs;rw [goneM_lo _ _ _ _ (by have:=HLO.out;omega)];exact GD.out.on c s hc hs)
 have KL2:=hid (show d2.lg=d.lg by rw [hd2]);have HRG:=hid (show h2.rg=h.rg∧h2.row=h.row∧h2.rel=h.rel by rw [hh2];exact⟨rfl,rfl,rfl⟩);have HL2:=hid (show d2.lg r.base=some L by rw [hd2];exact HL.out);have HR2:=hid (show r∈h2.rg by rw [HRG.out.1];exact HR.out);have HUQ2:=hid (show ∀ x∈h2.rg,x.base=r.base→x=r by rw [HRG.out.1];exact HUQ.out);have HRES2:=hid (show res=if cf.large < (h2.row++[r.base]).length then { h2 with rg:=(setR h2.rg r.base 2 0).filter fun x=>x.base≠(h2.row++[r.base])[0]?.getD 0,rel:=h2.rel++[(h2.row++[r.base])[0]?.getD 0],row:=(h2.row++[r.base]).tail } else { h2 with rg:=setR h2.rg r.base 2 0,row:=h2.row++[r.base] } by rw [HRES.out,hh2]);have PW:=hid (show (setR h2.rg r.base 2 0).Pairwise fun a b=>a.first+a.ext≤b.first∨b.first+b.ext≤a.first by
  rw [HRG.out.1];unfold setR;rw [List.pairwise_map];refine OK.out.inv.apart.imp (fun {a b} hab=>?_);have e1:∀ x:Rg9,(if x.base=r.base then { x with st:=2,rq:=0 } else x:Rg9).first=x.first:=fun x=>by split <;> rfl
  have e2:∀ x:Rg9,(if x.base=r.base then { x with st:=2,rq:=0 } else x:Rg9).ext=x.ext:=fun x=>by split <;> rfl
  rw [e1,e1,e2,e2];exact hab)
 have HWB:=hid (show ∀ b∈h2.row++[r.base],(∃ x∈setR h2.rg r.base 2 0,x.base=b)∧b < 18446744073709551616 from fun b hb=>by
  have key:∃ x∈h.rg,x.base=b:=by
   rw [HRG.out.2.1] at hb
   rcases List.mem_append.1 hb with h1|h1
   ·obtain⟨x,hx,_,e⟩:=(OK.out.inv.row b).1 h1;exact⟨x,hx,e⟩
   have h2:b=r.base:=by simpa using h1
   exact⟨r,HR.out,h2.symm⟩
  obtain⟨x,hx,e⟩:=key;refine⟨⟨_,List.mem_map.2 ⟨x,by rw [HRG.out.1];exact hx,rfl⟩,by rw [setR_base];exact e⟩,?_⟩;obtain⟨q1,q2,_⟩:=OK.out.inv.rgs x hx;have q3:x.ext=x.guards+x.pages+1:=rfl;have q4:x.base=(x.first+x.guards)*1024:=rfl;omega)
 have HLN:=hid (show h2.row.length≤302∧h2.rel.length≤302 by
  rw [HRG.out.2.1,HRG.out.2.2];have q1:=OK.out.few.row;have q2:=OK.out.few.rel;have q3:=OK.out.kk;omega)
 have LRG:=hid (show 1≤cf.large from OK.out.l1);clear hp2 bi2 hd2 hh2 AK H1 B1 HRG HL HR HUQ GD HRES OK HLO;have hbk:V2.heap[L]?=some (.cells (lgC r) 158 (0,0)):=by
  obtain⟨L',e1,_,hb0⟩:=H2.out.lb r HR2.out;rw [HL2.out] at e1
  cases e1
  exact hb0
 have s0:V2.cell? ⟨L,0,none⟩=some (Vi r.st):=by rw [cell_of_row _ _ _ _ _ _ hbk];rfl
 have s1:V2.cell? ⟨L,1,none⟩=some (Vi r.rq):=by rw [cell_of_row _ _ _ _ _ _ hbk];rfl
 have z0:V2.frozen? ⟨L,0,none⟩=false:=by simp [World.frozen?,hbk]
 have z1:V2.frozen? ⟨L,1,none⟩=false:=by simp [World.frozen?,hbk]
 have hL3:((V2.setCell ⟨L,0,none⟩ (Vi 2)).setCell ⟨L,1,none⟩ (Vi 0)).heap[L]?=some (.cells (lgC { r with st:=2,rq:=0 }) 158 (0,0)):=by simp [World.setCell,Array.getElem?_modify,hbk,lgC]
 obtain⟨h3,b3⟩:=H2.out.setLg HR2.out HUQ2.out HL2.out 2 0 (grown_set (grown_set (grown_refl V2 L) 0 _) 1 _) hL3;have H3:=hid h3;have B3:=hid (B2.out.trans b3);have HB3:=hid hL3;generalize r.st=q0 at s0;generalize r.rq=q1 at s1;clear hbk h3 b3 hL3 H2 B2 HR2 HUQ2;go_upto_region 2 with fail
 generalize (V2.setCell ⟨L,0,none⟩ (Vi 2)).setCell ⟨L,1,none⟩ (Vi 0)=V3 at *;clear s0 s1 z0 z1;obtain⟨h3,hh3⟩:∃ h3:Hs,h3={ h2 with rg:=setR h2.rg r.base 2 0 }:=⟨_,rfl⟩;have HH3:=hid hh3;rw [←hh3] at H3;have GD3:=hid (show Gd d2 h3 an by rw [hh3];exact⟨GD2.out.on,GD2.out.un,GD2.out.an⟩);have HR3:=hid (show h3.row=h2.row∧h3.rel=h2.rel∧h3.rg=setR h2.rg r.base 2 0 by rw [hh3];exact⟨rfl,rfl,rfl⟩);clear hh3 GD2;have BS:=hid (show ∀ V,Below V3.heap.size V3 V→Calls Tryz.prog 99 #[Vp L 0] V fun e W'=>e=.returned (Vu (r.base:Nat))∧W'=V.drew from fun V hV=>im_lbase L { r with st:=2,rq:=0 } V (LCv.out V 2 0 (by rw [hV.block _ (lt_blk HB3.out)];exact HB3.out)));obtain⟨oa,oc,hro⟩:=um_slice0 H3.out.ro;have HRO:=hid hro;have c116a:V3.drew.cell? ⟨y.P,116,none⟩=some (.slice oa h3.row.length oc):=(H3.out.below (Below.refl _ V3).drew).cell 116 (by omega) _ hro;have c116b:V3.drew.drew.cell? ⟨y.P,116,none⟩=some (.slice oa h3.row.length oc):=c116a;have c116c:(V3.alloc (.cells #[Vu (r.base:Nat)] 23)).cell? ⟨y.P,116,none⟩=some (.slice oa h3.row.length oc):=(H3.out.below ((Below.refl _ V3).alloc (Nat.le_refl _) _)).cell 116 (by omega) _ hro;have APP:=hid (show ∃ v' U',(Builtin.append_ #[35,35] 35 #[.slice oa h3.row.length oc,Vl V3.heap.size 1 1]).run Tryz.prog (V3.drew.drew.alloc (.cells #[Vu (r.base:Nat)] 23))=.ok v' U'∧(Hp B y { d2 with ro:=v' } cf { h3 with row:=h3.row++[r.base] } (U'.setCell ⟨y.P,116,none⟩ v')∧Bi B V3 (U'.setCell ⟨y.P,116,none⟩ v'))∧U'.cell? ⟨y.P,116,none⟩=some (.slice oa h3.row.length oc)∧U'.frozen? ⟨y.P,116,none⟩=false∧∃ a c,v'=.slice a (h3.row.length+1) c by
  have bA:Below V3.heap.size V3 (V3.drew.drew.alloc (.cells #[Vu (r.base:Nat)] 23)):=(Below.refl _ _).drew.drew.alloc (Nat.le_refl _) _;have hA:=H3.out.below bA;obtain⟨v',U',e1,e2,e3,e4,e5⟩:=um_app B _ (.slice oa h3.row.length oc) h3.row r.base V3.heap.size 1 (by rw [←hro];exact hA.ro) (one_of (al_last V3.drew.drew _)) (by rw [HR3.out.1];have:=HLN.out;omega) hA.bW;have hss:=hA.setRo e2 (by rw [hro];exact e3) (fun g hg hr9=>by
   rcases e4 with e4|e4
   ·rw [e4,←hro] at hg;exact hA.rr g hg hr9
   rw [e4] at hg
   cases hg
   obtain⟨_,c,hc⟩:=own_lt hA.rl hr9;have:=lt_blk hc;omega)
  refine⟨v',U',e1,⟨hss.1,(Bi.ofBelow bA H3.out.bW).trans hss.2.1⟩,?_,hss.2.2.2,e5⟩;rw [hss.2.2.1,hro])
 obtain⟨v4,U4,happ,⟨hp4,bi4⟩,c4,f4,a4,k4,hv4⟩:=APP.out;subst hv4;clear APP HRO hro
 go_cut [] (fun w'=>w'=U4.setCell ⟨y.P,116,none⟩ (.slice a4 (h3.row.length+1) k4))
 case first =>
  refine wp_region_held (S:=fun W9=>True) (by kernel_rfl) ?_;simp only [List.size_toArray,List.length_cons,List.length_nil,Nat.reduceAdd,Array.replicate_succ,Array.replicate_zero,List.push_toArray,List.nil_append,List.cons_append];have hS:=trivial
  iterate 4 (refine py hS ?_;simp only [f0,f1,Nat.reduceAdd,lz,l0,ls])
  refine pk 5 17 (Vp L 0) hS ?_;simp only [lz,l0,ls];refine wpAnyH_all (rs:=[4,6]) (by kernel_rfl) (by simp) (fun i9 hi9=>?_)
  rcases (by simpa using hi9:i9=4∨i9=6) with hi9|hi9
  ·subst hi9;refine wpOp_do rfl (by kernel_rfl) (fun K' hK=>?_);go_simp;refine hK.out _ _ ⟨trivial,?_⟩;clear hK K';refine po 6 fun K' hK=>?_
   go_simp;refine (BS.out _ (Below.refl _ V3).drew).mono ?_;rintro e U1 ⟨rfl,rfl⟩;refine hK.out _ _ ⟨trivial,?_⟩;clear hK K';refine po 7 fun K' hK=>?_
   go_simp;refine hK.out _ _ ⟨trivial,?_⟩;clear hK K';refine po 8 fun K' hK=>?_
   refine wpo_append 35 (.tmp 16) (.tmp 19) (v:=.slice oa h3.row.length oc) (v2:=Vl V3.heap.size 1 1) (by kernel_rfl) (by kernel_rfl) (by kernel_rfl) (by kernel_rfl) happ ?_;refine hK.out _ _ ⟨trivial,?_⟩;clear hK K';refine pk 9 21 (Vp y.P 0) hS ?_;simp only [lz,l0,ls];refine pk 10 22 (Vp y.P 116) hS ?_;simp only [lz,l0,ls];refine po 11 fun K' hK=>?_
   go_simp;refine hK.out _ _ ⟨trivial,?_⟩;clear hK K';refine wpAnyH_done (by kernel_rfl) ?_ _;go_wp2_with fail
   go_meet
   case rel=>rfl
  subst hi9;refine wpOp_do rfl (by kernel_rfl) (fun K' hK=>?_);go_simp;refine (BS.out _ (Below.refl _ V3).drew).mono ?_;rintro e U1 ⟨rfl,rfl⟩;refine hK.out _ _ ⟨trivial,?_⟩;clear hK K';refine wpAnyH_all (rs:=[4,7]) (by kernel_rfl) (by simp) (fun i9 hi9=>?_)
  rcases (by simpa using hi9:i9=4∨i9=7) with hi9|hi9
  ·subst hi9;refine wpOp_do rfl (by kernel_rfl) (fun K' hK=>?_);go_simp;refine hK.out _ _ ⟨trivial,?_⟩;clear hK K';refine po 7 fun K' hK=>?_
   go_simp;refine hK.out _ _ ⟨trivial,?_⟩;clear hK K';refine po 8 fun K' hK=>?_
   refine wpo_append 35 (.tmp 16) (.tmp 19) (v:=.slice oa h3.row.length oc) (v2:=Vl V3.heap.size 1 1) (by kernel_rfl) (by kernel_rfl) (by kernel_rfl) (by kernel_rfl) happ ?_;refine hK.out _ _ ⟨trivial,?_⟩;clear hK K';refine pk 9 21 (Vp y.P 0) hS ?_;simp only [lz,l0,ls];refine pk 10 22 (Vp y.P 116) hS ?_;simp only [lz,l0,ls];refine po 11 fun K' hK=>?_
   go_simp;refine hK.out _ _ ⟨trivial,?_⟩;clear hK K';refine wpAnyH_done (by kernel_rfl) ?_ _;go_wp2_with fail
   go_meet
   case rel=>rfl
  subst hi9;refine wpOp_do rfl (by kernel_rfl) (fun K' hK=>?_);go_simp;refine hK.out _ _ ⟨trivial,?_⟩;clear hK K';refine po 4 fun K' hK=>?_
  go_simp;refine hK.out _ _ ⟨trivial,?_⟩;clear hK K';refine po 8 fun K' hK=>?_
  refine wpo_append 35 (.tmp 16) (.tmp 19) (v:=.slice oa h3.row.length oc) (v2:=Vl V3.heap.size 1 1) (by kernel_rfl) (by kernel_rfl) (by kernel_rfl) (by kernel_rfl) happ ?_;refine hK.out _ _ ⟨trivial,?_⟩;clear hK K';refine pk 9 21 (Vp y.P 0) hS ?_;simp only [lz,l0,ls];refine pk 10 22 (Vp y.P 116) hS ?_;simp only [lz,l0,ls];refine po 11 fun K' hK=>?_
  go_simp;refine hK.out _ _ ⟨trivial,?_⟩;clear hK K';refine wpAnyH_done (by kernel_rfl) ?_ _;go_wp2_with fail
  go_meet
  case rel=>rfl
 case rest =>
  subst hcut;obtain⟨d4,hd4⟩:∃ d4:Dy,d4={ d2 with ro:=.slice a4 (h3.row.length+1) k4 }:=⟨_,rfl⟩;obtain⟨h4,hh4⟩:∃ h4:Hs,h4={ h3 with row:=h3.row++[r.base] }:=⟨_,rfl⟩;rw [←hd4,←hh4] at hp4;have H4:=hid hp4;have B4:=hid (B3.out.trans bi4);have GD4:=hid (show Gd d4 h4 an by rw [hd4,hh4];exact⟨GD3.out.on,GD3.out.un,GD3.out.an⟩);have KL4:=hid (show d4.lg=d.lg by rw [hd4];exact KL2.out);have HRO:=hid (show d4.ro=.slice a4 h4.row.length k4 by rw [hd4,hh4];simp);have HW4:=hid (show h4.row=h2.row++[r.base]∧h4.rel=h2.rel∧h4.rg=setR h2.rg r.base 2 0 by rw [hh4];exact⟨by show h3.row++_=_;rw [HR3.out.1],HR3.out.2.1,HR3.out.2.2⟩);have HE4:=hid (show res=if cf.large < h4.row.length then { h4 with rg:=h4.rg.filter fun x=>x.base≠h4.row[0]?.getD 0,rel:=h4.rel++[h4.row[0]?.getD 0],row:=h4.row.tail } else h4 by
   rw [HRES2.out,HW4.out.1,HW4.out.2.1,HW4.out.2.2,hh4,HH3.out])
  have hnn:h3.row.length+1=h4.row.length:=by rw [hh4];simp
  have HL4:=hid (show h4.row.length≤303∧h4.rel.length≤302 by rw [HW4.out.1,HW4.out.2.1];have:=HLN.out;simp;omega);rw [←HW4.out.2.2] at PW HWB;rw [←HW4.out.1] at HWB;clear hp4 bi4 hd4 hh4 c4 f4 happ c116a c116b c116c H3 B3 GD3 HR3 HH3 HRES2 HW4 HLN BS HB3 LCv HL2 RB BAS hnn;generalize U4.setCell ⟨y.P,116,none⟩ (.slice a4 (h3.row.length+1) k4)=V4 at *;have CK:=hid (show V4.cell? ⟨y.P,116,none⟩=some (.slice a4 h4.row.length k4)∧V4.cell? ⟨y.P,2,none⟩=some (Vi (cf.large:Nat)) from ⟨H4.out.cell 116 (by omega) _ HRO.out,H4.out.cell 2 (by omega) _ rfl⟩);obtain⟨n4,hn4⟩:∃ n4,h4.row.length=n4:=⟨_,rfl⟩;rw [hn4] at CK HRO HL4;have HN4:=hid hn4;clear hn4;go_upto_region 3 with fail
  refine wp_region_held (S:=fun W9=>W9.cell? ⟨y.P,116,none⟩=some (.slice a4 n4 k4)∧W9.cell? ⟨y.P,2,none⟩=some (Vi (cf.large:Nat))) (by kernel_rfl) ?_;simp only [List.size_toArray,List.length_cons,List.length_nil,Nat.reduceAdd,Array.replicate_succ,Array.replicate_zero,List.push_toArray,List.nil_append,List.cons_append];have hS:=CK.out
  iterate 11 (refine py hS ?_;simp only [f0,f1,Nat.reduceAdd,lz,l0,ls])
  refine wpAnyH_done (by kernel_rfl) ?_ _;have H5:=hid (H4.out.below (Below.refl _ _).drew);have B5:=hid (B4.out.add (Below.refl _ _).drew H4.out.bW);clear hS CK H4 B4
  by_cases hlt:cf.large < n4
  ·have hlb:decide ((cf.large:Int) < (n4:Int))=true:=by simp;omega
   have HE:=hid (show res={ h4 with rg:=h4.rg.filter fun x=>x.base≠h4.row[0]?.getD 0,rel:=h4.rel++[h4.row[0]?.getD 0],row:=h4.row.tail } by rw [HE4.out,HN4.out,if_pos hlt]);have hn2:2≤n4:=by have:=LRG.out;omega
   obtain⟨g4,o4,k9,hsl,_⟩:=um_slice H5.out.ro (by rw [HN4.out];omega);rw [HRO.out] at hsl;simp at hsl;obtain⟨rfl,hq9,rfl⟩:=hsl;clear hq9;clear HE4 LRG;generalize hV5:V4.drew=V5 at *;have hV5':({ heap:=V4.heap,tape:=V4.tape,drawn:=V4.drawn+1,os:=V4.os,output:=V4.output } : World)=V5:=hV5;rw [hV5'];clear hV5 hV5';obtain⟨b0,hb0⟩:∃ b0:Nat,h4.row[0]?.getD 0=b0:=⟨_,rfl⟩;rw [hb0] at HE;have UM:=hid (show ∀ (V:World) d9 h9,Hp B y d9 cf h9 V→d9.ro=d4.ro→h9.row=h4.row→n4≤k4∧Um B V (.slice (some ⟨g4,o4+1,none⟩) (n4 - 1) (k4 - 1)) h4.row.tail∧V.cell? ⟨g4,o4,none⟩=some (Vu (b0:Nat)) from fun V d9 h9 hV e1 e2=>by
    have hu:=hV.ro;rw [e1,e2,HRO.out] at hu;obtain⟨_,t1,t2,t3⟩:=um_tail hu (by rw [HN4.out];omega);rw [hb0] at t3;exact⟨t1,t2,t3⟩)
   have HB0:=hid (HWB.out b0 (by
    rw [←hb0];have h1:0 < h4.row.length:=by rw [HN4.out];omega
    rw [List.getElem?_eq_getElem h1];exact List.getElem_mem h1))
   clear hb0 HWB;have CK:=hid (show ∀ (V:World) d9 h9,Hp B y d9 cf h9 V→d9.ro=d4.ro→h9.row=h4.row→V.cell? ⟨y.P,115,none⟩=some (.map (some y.R))∧V.cell? ⟨y.P,116,none⟩=some (.slice (some ⟨g4,o4,none⟩) n4 k4)∧V.cell? ⟨g4,o4,none⟩=some (Vu (b0:Nat)) from fun V d9 h9 hV e1 e2=>⟨hV.cell 115 (by omega) _ rfl,hV.cell 116 (by omega) _ (by show d9.ro=_;rw [e1];exact HRO.out),(UM.out V d9 h9 hV e1 e2).2.2⟩);have HPD:=hid (H5.out.below (Below.refl _ V5).drew);have hi0:(0:Int) < (n4:Int):=by omega
   have hi1:0 < n4:=by omega
   have hi2:¬(n4=0):=by omega
   go_upto_region 4 with fail
   refine wp_region_held (S:=fun W9=>W9.cell? ⟨y.P,115,none⟩=some (.map (some y.R))∧W9.cell? ⟨y.P,116,none⟩=some (.slice (some ⟨g4,o4,none⟩) n4 k4)∧W9.cell? ⟨g4,o4,none⟩=some (Vu (b0:Nat))) (by kernel_rfl) ?_;simp only [List.size_toArray,List.length_cons,List.length_nil,Nat.reduceAdd,Array.replicate_succ,Array.replicate_zero,List.push_toArray,List.nil_append,List.cons_append];have hS:=CK.out _ _ _ HPD.out rfl rfl
   iterate 10 (refine py hS ?_;simp only [f0,f1,Nat.reduceAdd,lz,l0,ls])
   refine po 10 fun K' hK=>?_
   obtain⟨V6,hdel,mr6,mt6⟩:=HPD.out.mp.del b0 HB0.out.2 0;have k6:=turned_ky mt6 HPD.out.mp.typ;refine wpo_delete0 71 23 (.tmp 37) (.tmp 43) (by kernel_rfl) (vm:=.map (some y.R)) (vx:=Vu (b0:Nat)) (by kernel_rfl) (by kernel_rfl) (by kernel_rfl) hdel ?_;refine hK.out _ _ ⟨⟨k6.cellK hS.1,k6.cellK hS.2.1,k6.cellK hS.2.2⟩,?_⟩;clear hK K';refine wpAnyH_done (by kernel_rfl) ?_ _;have hsm:(d4.lg b0).isSome=true:=by
    rw [HPD.out.lo b0];obtain⟨x,hx,e⟩:=HB0.out.1;exact List.any_eq_true.2 ⟨x,hx,by simp [e]⟩
   rw [if_pos hsm] at mr6;obtain⟨hp6,b6⟩:=HPD.out.cutR b0 hsm HB0.out.1 mr6 mt6 (cut_len PW.out b0);obtain⟨d6,hd6⟩:∃ d6:Dy,d6={ d4 with lg:=upd d4.lg b0 none }:=⟨_,rfl⟩;obtain⟨h6,hh6⟩:∃ h6:Hs,h6={ h4 with rg:=h4.rg.filter fun x=>x.base≠b0 }:=⟨_,rfl⟩;rw [←hd6,←hh6] at hp6;have H6:=hid hp6;have B6:=hid ((B5.out.add (Below.refl _ _).drew H5.out.bW).trans b6);have KL6:=hid (show d6.lg=upd d.lg b0 none by rw [hd6,KL4.out]);have HS6:=hid (show d6.ro=d4.ro∧h6.row=h4.row∧h6.rel=h4.rel by rw [hd6,hh6];exact⟨rfl,rfl,rfl⟩);have GD6:=hid (show Gd d6 h6 an by rw [hd6,hh6];exact⟨GD4.out.on,GD4.out.un,GD4.out.an⟩);have HE6:=hid (show res={ h6 with rel:=h6.rel++[b0],row:=h6.row.tail } by rw [HE.out,hh6]);clear hdel mr6 mt6 k6 hp6 b6 hd6 hh6 hS hsm HPD H5 B5 HB0 PW GD4 HE;obtain⟨ra,rn,rc,hrl⟩:=own_sl4 H6.out.rl;have HRL:=hid hrl;have c117a:V6.drew.cell? ⟨y.P,117,none⟩=some (.slice ra rn rc):=(H6.out.below (Below.refl _ V6).drew).cell 117 (by omega) _ hrl;have c117b:(V6.alloc (.cells #[Vu (b0:Nat)] 23)).cell? ⟨y.P,117,none⟩=some (.slice ra rn rc):=(H6.out.below ((Below.refl _ V6).alloc (Nat.le_refl _) _)).cell 117 (by omega) _ hrl;have SA:=hid (show (V6.drew.cell? ⟨y.P,115,none⟩=some (.map (some y.R))∧V6.drew.cell? ⟨y.P,116,none⟩=some (.slice (some ⟨g4,o4,none⟩) n4 k4)∧V6.drew.cell? ⟨g4,o4,none⟩=some (Vu (b0:Nat)))∧((V6.alloc (.cells #[Vu (b0:Nat)] 23)).drew.cell? ⟨y.P,115,none⟩=some (.map (some y.R))∧(V6.alloc (.cells #[Vu (b0:Nat)] 23)).drew.cell? ⟨y.P,116,none⟩=some (.slice (some ⟨g4,o4,none⟩) n4 k4)∧(V6.alloc (.cells #[Vu (b0:Nat)] 23)).drew.cell? ⟨g4,o4,none⟩=some (Vu (b0:Nat))) from ⟨CK.out _ _ _ (H6.out.below (Below.refl _ V6).drew) HS6.out.1 HS6.out.2.1,CK.out _ _ _ (H6.out.below ((Below.refl _ V6).alloc (Nat.le_refl _) _).drew) HS6.out.1 HS6.out.2.1⟩);have APP:=hid (show ∃ v' U',(Builtin.append_ #[35,35] 35 #[.slice ra rn rc,Vl V6.heap.size 1 1]).run Tryz.prog (V6.drew.alloc (.cells #[Vu (b0:Nat)] 23))=.ok v' U'∧(Hp B y { d6 with rl:=v' } cf { h6 with rel:=h6.rel++[b0] } (U'.setCell ⟨y.P,117,none⟩ v')∧Bi B V6 (U'.setCell ⟨y.P,117,none⟩ v'))∧U'.cell? ⟨y.P,117,none⟩=some (.slice ra rn rc)∧U'.frozen? ⟨y.P,117,none⟩=false∧(U'.cell? ⟨y.P,115,none⟩=some (.map (some y.R))∧U'.cell? ⟨y.P,116,none⟩=some (.slice (some ⟨g4,o4,none⟩) n4 k4)∧U'.cell? ⟨g4,o4,none⟩=some (Vu (b0:Nat)))∧∃ a n c,v'=.slice a n c by
    have bA:Below V6.heap.size V6 (V6.drew.alloc (.cells #[Vu (b0:Nat)] 23)):=(Below.refl _ _).drew.alloc (Nat.le_refl _) _;have hA:=H6.out.below bA;obtain⟨v',U',e1,e2,e3,e4⟩:=app_us_at _ B (.slice ra rn rc) h6.rel b0 V6.heap.size 1 (by rw [←hrl];exact hA.rl) (one_of (al_last V6.drew _)) (by rw [HS6.out.2.2];have:=HL4.out;omega) hA.bW;have hgr:(V6.drew.alloc (.cells #[Vu (b0:Nat)] 23)).grownBy U' d6.rl.ownBlock:=by rw [hrl];exact e3
    have hss:=hA.setRl e2 hgr (fun g hg hr9=>by
     rcases e4 with e4|e4
     ·rw [e4,←hrl] at hr9;exact hA.rr g hg hr9
     rw [e4] at hr9
     cases hr9
     obtain⟨_,c,hc⟩:=umBlock_um hA.ro hg;have:=lt_blk hc;omega)
    have gw:=hA.gw (fun g hg=>own_lt hA.rl hg) hgr;have bx:=hA.box.ky gw.k (by decide);have um:=hA.ro.kept hgr (fun g1 hg1=>hA.rr g1 hg1);have hro6:d6.ro=.slice (some ⟨g4,o4,none⟩) n4 k4:=by rw [HS6.out.1];exact HRO.out
    rw [hro6,HS6.out.2.1] at um;have t3:=(um_tail um (by rw [HN4.out];omega)).2.2.2;have u3:=(UM.out _ _ _ hA HS6.out.1 HS6.out.2.1).2.2;have u4:=(um_tail (show Um B _ (.slice (some ⟨g4,o4,none⟩) n4 k4) h4.row by rw [←hro6,←HS6.out.2.1];exact hA.ro) (by rw [HN4.out];omega)).2.2.2;rw [u3] at u4;rw [←u4] at t3;refine⟨v',U',e1,⟨hss.1,(Bi.ofBelow bA H6.out.bW).trans hss.2.1⟩,by rw [hss.2.2.1,hrl],hss.2.2.2,⟨bx.cell 115 (by omega),?_,t3⟩,own_sl4 e2⟩;rw [bx.cell 116 (by omega)];show some d6.ro=_;rw [hro6])
   obtain⟨v7,U7,happ,⟨hp7,bi7⟩,c7,f7,q7,wa,wn,wk,hv7⟩:=APP.out;subst hv7;have q8:=CK.out _ _ _ hp7 HS6.out.1 HS6.out.2.1;clear APP HRL hrl;go_upto_region 5 with fail
   go_cut [] (fun w'=>w'=U7.setCell ⟨y.P,117,none⟩ (.slice wa wn wk))
   case first =>
    refine wp_region_held (S:=fun W9=>W9.cell? ⟨y.P,115,none⟩=some (.map (some y.R))∧W9.cell? ⟨y.P,116,none⟩=some (.slice (some ⟨g4,o4,none⟩) n4 k4)∧W9.cell? ⟨g4,o4,none⟩=some (Vu (b0:Nat))) (by kernel_rfl) ?_;simp only [List.size_toArray,List.length_cons,List.length_nil,Nat.reduceAdd,Array.replicate_succ,Array.replicate_zero,List.push_toArray,List.nil_append,List.cons_append];have hS:=SA.out.1
    iterate 4 (refine py hS ?_;simp only [f0,f1,Nat.reduceAdd,lz,l0,ls])
    refine pk 5 49 (Vp y.P 0) hS ?_;simp only [lz,l0,ls];refine pk 6 50 (Vp y.P 0) hS ?_;simp only [lz,l0,ls];refine pk 7 51 (Vp y.P 116) hS ?_;simp only [lz,l0,ls];refine pz 8 52 (.slice (some ⟨g4,o4,none⟩) n4 k4) hS ?_;simp only [lz,l0,ls];refine pz 9 53 (Vp g4 o4) hS ?_;simp only [lz,l0,ls];refine pz 10 54 (Vu (b0:Nat)) hS ?_;simp only [lz,l0,ls];refine wpAnyH_all (rs:=[4,11]) (by kernel_rfl) (by simp) (fun i9 hi9=>?_)
    rcases (by simpa using hi9:i9=4∨i9=11) with hi9|hi9
    ·subst hi9;refine wpOp_do rfl (by kernel_rfl) (fun K' hK=>?_);go_simp;refine hK.out _ _ ⟨hS,?_⟩;clear hK K';refine po 11 fun K' hK=>?_
     go_simp;refine hK.out _ _ ⟨SA.out.2,?_⟩;clear hS;have hS:=SA.out.2;clear hK K';refine po 12 fun K' hK=>?_
     refine wpo_append 35 (.tmp 48) (.tmp 55) (v:=.slice ra rn rc) (v2:=Vl V6.heap.size 1 1) (by kernel_rfl) (by kernel_rfl) (by kernel_rfl) (by kernel_rfl) happ ?_;refine hK.out _ _ ⟨q7,?_⟩;clear hK K' hS;have hS:=q7;refine pk 13 57 (Vp y.P 0) hS ?_;simp only [lz,l0,ls];refine pk 14 58 (Vp y.P 117) hS ?_;simp only [lz,l0,ls];refine po 15 fun K' hK=>?_
     go_simp;refine hK.out _ _ ⟨q8,?_⟩;clear hK K';refine wpAnyH_done (by kernel_rfl) ?_ _;go_wp2_with fail
     go_meet
     case rel=>rfl
    subst hi9;refine wpOp_do rfl (by kernel_rfl) (fun K' hK=>?_);go_simp;refine hK.out _ _ ⟨SA.out.2,?_⟩;clear hS;have hS:=SA.out.2;clear hK K';refine po 4 fun K' hK=>?_
    go_simp;refine hK.out _ _ ⟨hS,?_⟩;clear hK K';refine po 12 fun K' hK=>?_
    refine wpo_append 35 (.tmp 48) (.tmp 55) (v:=.slice ra rn rc) (v2:=Vl V6.heap.size 1 1) (by kernel_rfl) (by kernel_rfl) (by kernel_rfl) (by kernel_rfl) happ ?_;refine hK.out _ _ ⟨q7,?_⟩;clear hK K' hS;have hS:=q7;refine pk 13 57 (Vp y.P 0) hS ?_;simp only [lz,l0,ls];refine pk 14 58 (Vp y.P 117) hS ?_;simp only [lz,l0,ls];refine po 15 fun K' hK=>?_
    go_simp;refine hK.out _ _ ⟨q8,?_⟩;clear hK K';refine wpAnyH_done (by kernel_rfl) ?_ _;go_wp2_with fail
    go_meet
    case rel=>rfl
   case rest =>
    subst hcut;have HU8:=hid (UM.out _ _ _ hp7 HS6.out.1 HS6.out.2.1);obtain⟨hp8,bi8,c8,f8⟩:=hp7.setRo (HU8.out.2.1) ⟨rfl,rfl,rfl,Nat.le_refl _,fun _ _ _=>rfl⟩ (fun g hg hr9=>hp7.rr g (by rw [show ({ d6 with rl:=Value.slice wa wn wk } : Dy).ro=d4.ro from HS6.out.1,HRO.out];exact hg) hr9);have H8:=hid hp8;have B8:=hid ((B6.out.trans bi7).trans bi8);have hk4:=HU8.out.1;have cc:(U7.setCell ⟨y.P,117,none⟩ (.slice wa wn wk)).cell? ⟨y.P,116,none⟩=some (.slice (some ⟨g4,o4,none⟩) n4 k4):=q8.2.1;generalize U7.setCell ⟨y.P,117,none⟩ (.slice wa wn wk)=V7 at *;clear hp7 bi7 hp8 bi8 c8 c7 q7 q8 happ H6 B6 UM CK SA c117a c117b;go_wp2
    go_end0
    rw [HE6.out,HS6.out.2.1];refine⟨rfl,⟨_,H8.out,?_,fun b g h1 h2=>?_⟩,B8.out⟩
    rotate_left
    ·have h3:(d6.lg b).isSome=true:=h2;show d6.lg b=some g;rw [KL6.out] at h3 ⊢
     by_cases e:b=b0
     ·subst e;rw [upd_same] at h3;cases h3
     rw [upd_other _ _ _ _ e];exact h1
    exact⟨fun c s hc hs=>GD6.out.on c s hc hs,GD6.out.un,GD6.out.an⟩
  have hlb:decide ((cf.large:Int) < (n4:Int))=false:=by simp;omega
  have HE:=hid (show res=h4 by rw [HE4.out,HN4.out,if_neg hlt]);clear HE4;go_wp2
  go_end0
  rw [HE.out];exact⟨rfl,⟨d4,H5.out,GD4.out,Klg.ofEq KL4.out⟩,B5.out⟩
end Go.Proofs.YtgandbaejlfppaaGreatDoor
