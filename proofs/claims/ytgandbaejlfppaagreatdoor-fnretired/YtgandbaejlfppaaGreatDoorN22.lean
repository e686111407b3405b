import Derived.Test.YtgandbaejlfppaaGreatDoorN21
namespace Go.Proofs.YtgandbaejlfppaaGreatDoor
set_option linter.unusedVariables false
set_option linter.unusedSimpArgs false
set_option maxRecDepth 20000
set_option maxHeartbeats 8000000
open Go.RowKit Go.Maps
inductive LkR (y:Ly) (d:Dy):Fd→Ending→Prop
 | slot (c s j:Nat):LkR y d (.slot c s j) (.returned (.iface 133 (Vp (y.sm c s j) 0)))
 | range (r:Rg9) (g:Nat) (h:d.lg r.base=some g):LkR y d (.range r) (.returned (.iface 145 (Vp g 0)))
 | no (code:Int):LkR y d (.no code) (.panicked (refV code))
theorem Inv.baseP {cf:Cf} {h:Hs} (i:Inv cf h) {r:Rg9} (hr:r∈h.rg):191488≤r.base∧r.base < 289792∧r.base/1024=r.first+r.guards∧r.base % 1024=0:=by
 obtain⟨h1,h2,h3,h4,h5,_⟩:=i.rgs r hr;unfold Rg9.ext at h2;unfold Rg9.base;omega
theorem slotAt_low {p c s j:Nat} (h:slotAt p=some (c,s,j)):p < 191488:=by
 obtain⟨h1,h2,h3,h4⟩:=slotAt_in h;have:=adr_in h1 h2 h3;omega
theorem slotAt_big {p:Nat} (h:191488≤p):slotAt p=none:=by
 cases e:slotAt p with
 | none=>rfl
 | some t=>obtain ⟨c,s,j⟩:=t;have:=slotAt_low e;omega
theorem Inv.relP {cf:Cf} {h:Hs} (i:Inv cf h) {p:Nat} (hp:p∈h.rel):findM h p=.no 4:=by
 obtain⟨h1,h2,h3,h4⟩:=i.rel p hp;unfold findM;rw [slotAt_big (by omega)];dsimp only
 cases e:h.rg.find? fun r=>r.base==p with
 | some r =>
  exfalso;have hm:=List.mem_of_find?_eq_some e;have hb:=List.find?_some e;simp at hb;have hr:=i.baseP hm;have h5:=h4 r hm;obtain⟨h6,h7,h8,h9,h10,_⟩:=i.rgs r hm;unfold Rg9.ext at h5;rw [hb] at hr;omega
 | none =>
  dsimp only;rw [if_pos (List.contains_iff_mem.2 hp)]
theorem Hp.lcAt {B:Nat} {y:Ly} {d:Dy} {cf:Cf} {h:Hs} {W:World} (hp:Hp B y d cf h W) (i:Inv cf h) {r:Rg9} (hr:r∈h.rg):∃ g,d.lg r.base=some g∧Lc g r W:=by
 obtain⟨g,h1,h2,h3⟩:=hp.lb r hr;obtain⟨h6,h7,h8,h9,h10,_⟩:=i.rgs r hr;unfold Rg9.ext at h7;exact⟨g,h1,by rw [cell_of_row _ _ _ _ _ _ h3];rfl,by rw [cell_of_row _ _ _ _ _ _ h3];rfl,by rw [cell_of_row _ _ _ _ _ _ h3];rfl,by rw [cell_of_row _ _ _ _ _ _ h3];rfl,by rw [cell_of_row _ _ _ _ _ _ h3];rfl,by omega,by omega,by omega⟩
theorem im_lookUp (B:Nat) (y:Ly) (d:Dy) (cf:Cf) (h:Hs) (p:Nat) (W:World) (hp:Hp B y d cf h W) (i:Inv cf h) (hpp:p < 18446744073709551616) (hrl:h.rel.length≤100000) :
  Calls Tryz.prog 38 #[Vp y.P 0,Vu (p:Nat)] W fun e W'=>LkR y d (findM h p) e∧Below W.heap.size W W':=by
 obtain⟨va,vn,vc,hv⟩:=own_sl4 hp.rl;have c117:W.cell? ⟨y.P,117,none⟩=some (.slice va vn vc):=by rw [←hv];exact hp.cell 117 (by omega) _ rfl
 have CO:=hid (im_contains B va vn vc p h.rel W (by rw [←hv];exact hp.rl) hrl);have AT:=hid (im_at B y d cf h p W hp hpp);have KP:=hid im_keptP;have HPB:=hid (fun V (hV:Below W.heap.size W V)=>hp.below hV);have LO:=hid (hp.lo p);clear hv
 by_cases hm:p∈h.rel
 ·have HE:=hid (i.relP hm);rw [List.contains_iff_mem.2 hm] at CO;clear hp hm AT HPB LO i;go_enter Tryz.func38,Tryz.ntmps38;go_wp2_with fail;refine (CO.out).mono ?_;rintro e W2 ⟨rfl,rfl⟩;clear CO;go_wp2;rw [HE.out];exact⟨rfl,.no 4,Below.refl _ _⟩
 have hmc:h.rel.contains p=false:=by
  cases hc:h.rel.contains p with
  | false=>rfl
  | true=>exact absurd (List.contains_iff_mem.1 hc) hm
 rw [hmc] at CO
 cases hl:d.lg p with
 | some g =>
  rw [hl] at LO;have hany:h.rg.any (fun r=>r.base==p)=true:=LO.out.symm;obtain⟨r,hfr⟩:∃ r,h.rg.find? (fun r=>r.base==p)=some r:=by
   cases e:h.rg.find? fun r=>r.base==p with
   | some r=>exact ⟨r,rfl⟩
   | none =>
    exfalso;obtain⟨r,hr,hb⟩:=List.any_eq_true.1 hany;exact List.find?_eq_none.1 e r hr hb
  have hrm:=List.mem_of_find?_eq_some hfr;have hrb:=List.find?_some hfr;simp at hrb;have hbp:=i.baseP hrm;obtain⟨g',hg',lc⟩:=hp.lcAt i hrm;rw [hrb,hl] at hg'
  cases hg'
  have hst:=(i.rgs r hrm).2.2.2.2.2;have HV:=hid (show atV y d p=.iface 145 (Vp g 0) by unfold atV;rw [hl]);rw [HV.out] at AT;have LC:=hid (fun V (hV:Below W.heap.size W V)=>(lc.below hV).c0);have mk:=fun w=>meth_kl g w
  have HF:=hid (show findM h p=if r.st=1 then .range r else .no 4 by unfold findM;rw [slotAt_big (by omega)];dsimp only;rw [hfr]);have HL:=hid (show d.lg r.base=some g by rw [hrb];exact hl);clear hp hm HPB LO lc hfr hrm hbp hany hmc hl hrb i;go_enter Tryz.func38,Tryz.ntmps38;go_wp2_with fail;refine (CO.out).mono ?_;rintro e W2 ⟨rfl,rfl⟩;clear CO;go_wp2_with fail;refine (AT.out).mono ?_;rintro e V ⟨rfl,bV⟩;have BV:=hid bV;have c0:=LC.out V bV;clear bV AT HV c117;go_wp2_with fail;refine (KP.out _ _).mono ?_;rintro e V2 ⟨rfl,rfl⟩
  rcases hst with ⟨h1,_⟩|⟨h1,_⟩
  ·have HF2:=hid (show findM h p=.range r by rw [HF.out,if_pos h1]);rw [h1] at c0;clear HF h1;go_wp2_with fail;refine (KP.out _ _).mono ?_;rintro e V3 ⟨rfl,rfl⟩;go_wp2;go_ret;rw [HF2.out];exact⟨.range r g HL.out,BV.out⟩
  have HF2:=hid (show findM h p=.no 4 by rw [HF.out,if_neg (by omega)]);rw [h1] at c0;clear HF h1;go_wp2_with fail;refine (KP.out _ _).mono ?_;rintro e V3 ⟨rfl,rfl⟩;go_wp2;rw [HF2.out];exact⟨rfl,.no 4,BV.out⟩
 | none =>
  rw [hl] at LO;have hfr:h.rg.find? (fun r=>r.base==p)=none:=by
   refine List.find?_eq_none.2 (fun r hr hb=>?_);have:h.rg.any (fun r=>r.base==p)=true:=List.any_eq_true.2 ⟨r,hr,hb⟩;rw [←LO.out] at this
   cases this
  cases hsl:slotAt p with
  | none =>
   have HV:=hid (show atV y d p=.nilIface by unfold atV;rw [hl,hsl]);rw [HV.out] at AT;have HF:=hid (show findM h p=.no 3 by unfold findM;rw [hsl];dsimp only;rw [hfr];dsimp only;rw [hmc];rfl);clear hp hm HPB LO hfr hmc hl hsl i;go_enter Tryz.func38,Tryz.ntmps38;go_wp2_with fail;refine (CO.out).mono ?_;rintro e W2 ⟨rfl,rfl⟩;clear CO;go_wp2_with fail;refine (AT.out).mono ?_;rintro e V ⟨rfl,bV⟩;have BV:=hid bV;clear bV AT HV c117;go_wp2;rw [HF.out];exact⟨rfl,.no 3,BV.out⟩
  | some q =>
   obtain⟨c,s,j⟩:=q;obtain⟨hc,hs,hj,hA⟩:=slotAt_in hsl;have HV:=hid (show atV y d p=.iface 133 (Vp (y.sm c s j) 0) by unfold atV;rw [hl,hsl]);rw [HV.out] at AT;have LC:=hid (fun V (hV:Below W.heap.size W V)=>((HPB.out V hV).smAt c s j hc hs hj).1);have HF:=hid (show findM h p=if h.st c s j=1 then .slot c s j else if h.st c s j=0 then .no 3 else .no 4 by unfold findM;rw [hsl]);have LS:=hid (LkR.slot (y:=y) (d:=d) c s j);have mk:=fun w=>meth_ks (y.sm c s j) w
   clear hp hm HPB LO hfr hmc hl hsl hA i;generalize y.sm c s j=gm at *;generalize h.st c s j=st at *;go_enter Tryz.func38,Tryz.ntmps38;go_wp2_with fail;refine (CO.out).mono ?_;rintro e W2 ⟨rfl,rfl⟩;clear CO;go_wp2_with fail;refine (AT.out).mono ?_;rintro e V ⟨rfl,bV⟩;have BV:=hid bV;have c0:=LC.out V bV;clear bV AT HV c117;go_wp2_with fail;refine (KP.out _ _).mono ?_;rintro e V2 ⟨rfl,rfl⟩
   by_cases h0:st=0
   ·have HF2:=hid (show findM h p=.no 3 by rw [HF.out,if_neg (by omega),if_pos h0]);subst h0;clear HF;go_wp2;rw [HF2.out];exact⟨rfl,.no 3,BV.out⟩
   have h0':(st==0)=false:=by simpa using h0
   by_cases h1:st=1
   ·have HF2:=hid (show findM h p=.slot c s j by rw [HF.out,if_pos h1]);subst h1;clear HF h0 h0';go_wp2_with fail;refine (KP.out _ _).mono ?_;rintro e V3 ⟨rfl,rfl⟩;go_wp2;go_ret;rw [HF2.out];exact⟨LS.out,BV.out⟩
   have HF2:=hid (show findM h p=.no 4 by rw [HF.out,if_neg h1,if_neg h0]);have h1':(st != 1)=true:=by simpa using h1
   clear HF h0 h1;go_wp2_with fail;refine (KP.out _ _).mono ?_;rintro e V3 ⟨rfl,rfl⟩;go_wp2;rw [HF2.out];exact⟨rfl,.no 4,BV.out⟩
end Go.Proofs.YtgandbaejlfppaaGreatDoor
