import Derived.Test.YtgandbaejlfppaaGreatDoorN32
import Derived.Test.YtgandbaejlfppaaGreatDoorN34
import Derived.Test.YtgandbaejlfppaaGreatDoorN35
import Derived.Test.YtgandbaejlfppaaGreatDoorN36
namespace Go.Proofs.YtgandbaejlfppaaGreatDoor
set_option linter.unusedVariables false
set_option linter.unusedSimpArgs false
set_option maxRecDepth 20000
set_option maxHeartbeats 8000000
open Go.RowKit Go.Maps
theorem im_release_s (B:Nat) (y:Ly) (d:Dy) (cf:Cf) (h:Hs) (k:Nat) (an:Value) (c s j:Nat) (W:World) (hp:Hp B y d cf h W) (gd:Gd d h an) (o:Okh cf h k) (hc:c < 12) (hs:s < 6) (hj:j < slN c) (hl:h.st c s j=1) :
  Calls Tryz.prog 36 #[Vp y.P 0,.iface 133 (Vp (y.sm c s j) 0)] W (ReR B y d cf (freeSlot cf h c s j) an W):=by
 have RS:=hid (im_releaseSlot B y d cf h k an c s j W hp gd o hc hs hj hl);have ta:=fun w=>ta_s (y.sm c s j) w
 generalize freeSlot cf h c s j=res at *;generalize y.sm c s j=gm at *;clear hp gd o hl;go_enter Tryz.func36,Tryz.ntmps36;go_wp2_with fail;refine (RS.out).mono ?_;rintro e V ⟨rfl,hg,bi⟩;have HF:=hid (And.intro hg bi);clear hg bi RS;go_wp2
 go_end0
 exact⟨rfl,HF.out.1,HF.out.2⟩
theorem im_release_l (B:Nat) (y:Ly) (d:Dy) (cf:Cf) (h:Hs) (k:Nat) (an:Value) (r:Rg9) (L:Nat) (W:World) (hp:Hp B y d cf h W) (gd:Gd d h an) (o:Okh cf h k) (hr:r∈h.rg) (hl:r.st=1) (hL:d.lg r.base=some L) :
  Calls Tryz.prog 36 #[Vp y.P 0,.iface 145 (Vp L 0)] W (ReR B y d cf (freeRange cf h r) an W):=by
 have RS:=hid (im_releaseRange B y d cf h k an r L W hp gd o hr hl hL);have ta:=fun w=>ta_l L w
 have ta2:=fun w=>ta_l2 L w
 generalize freeRange cf h r=res at *;clear hp gd o hl hr hL;go_enter Tryz.func36,Tryz.ntmps36;go_wp2_with fail;refine (RS.out).mono ?_;rintro e V ⟨rfl,hg,bi⟩;have HF:=hid (And.intro hg bi);clear hg bi RS;go_wp2
 go_end0
 exact⟨rfl,HF.out.1,HF.out.2⟩
inductive Ob (B:Nat) (y:Ly) (d:Dy) (cf:Cf) (h:Hs):Nat→Value→Prop
 | slot (c s j:Nat) (hc:c < 12) (hs:s < 6) (hj:j < slN c):Ob B y d cf h (adr c s j) (.iface 133 (Vp (y.sm c s j) 0))
 | range (r:Rg9) (g:Nat) (hr:r∈h.rg) (hl:r.st=1) (hd:d.lg r.base=some g):Ob B y d cf h r.base (.iface 145 (Vp g 0))
inductive SzR (B:Nat) (y:Ly) (cf:Cf) (an:Value):An4×Hs→Ending→World→Prop
 | yes (q:Nat) (v:Value) (d:Dy) (h1:Hs) (W':World) (ob:Ob B y d cf h1 q v) (hp:Hp B y d cf h1 W') (gd:Gd d h1 an):SzR B y cf an (⟨0,q,0,[]⟩,h1) (.returned v) W'
 | no (code:Int) (h1:Hs) (W':World) (tk:Tk B y cf h1 an W'):SzR B y cf an (.no code,h1) (.panicked (refV code)) W'
def SzW (B:Nat) (y:Ly) (cf:Cf) (an:Value) (W:World) (r:An4×Hs) (e:Ending) (W':World):Prop:=SzR B y cf an r e W'∧Bi B W W'
theorem Hp.lcOf {B:Nat} {y:Ly} {d:Dy} {cf:Cf} {h:Hs} {W:World} (hp:Hp B y d cf h W) (i:Inv cf h) {r:Rg9} (hr:r∈h.rg) {g:Nat} (hd:d.lg r.base=some g):Lc g r W:=by
 obtain⟨g',e1,_,e3⟩:=hp.lb r hr;rw [hd] at e1
 cases e1
 obtain⟨h1,h2,h3,h4,h5,_⟩:=i.rgs r hr;have:r.ext=r.guards+r.pages+1:=rfl;exact lc_of e3 (by omega) h4 (by omega)
theorem TaR.ob {B:Nat} {y:Ly} {cf:Cf} {an:Value} {lg:Nat→Option Nat} {r:Option Nat×Hs} {e:Ending} {W':World} (t:TaR B y cf an lg r e W'):(r.1=none∧e=.panicked (refV 1)∧Tk B y cf r.2 an W')∨∃ q v d,r.1=some q∧e=.returned v∧Ob B y d cf r.2 q v∧Hp B y d cf r.2 W'∧Gd d r.2 an∧Kl lg d:=by
 cases t with
 | no h1 _ tk=>exact .inl ⟨rfl,rfl,tk⟩
 | slot c s j h1 _ hc hs hj hl hg =>
  obtain⟨d,h1,h2,h3⟩:=hg;exact .inr ⟨_,_,d,rfl,rfl,.slot c s j hc hs hj,h1,h2,h3⟩
 | range r g d h1 _ hr hl hd hp gd kl=>exact .inr ⟨_,_,d,rfl,rfl,.range r g hr hl hd,hp,gd,kl⟩
theorem Ob.conv {B:Nat} {y:Ly} {d d':Dy} {cf:Cf} {h h':Hs} {q:Nat} {v:Value} (o:Ob B y d cf h q v) (h1:h'.rg=h.rg) (h2:d'.lg=d.lg):Ob B y d' cf h' q v:=by
 cases o with
 | slot c s j hc hs hj=>exact .slot c s j hc hs hj
 | range r g hr hl hd=>exact .range r g (by rw [h1];exact hr) hl (by rw [h2];exact hd)
theorem freeSlot_rg (cf:Cf) (h:Hs) (c s j:Nat):(freeSlot cf h c s j).rg=h.rg:=by
 rw [freeSlot_eq]
 split
 ·rfl
 unfold releaseM;dsimp only
 split <;> rfl
theorem Ob.afterS {B:Nat} {y:Ly} {d d':Dy} {cf:Cf} {h:Hs} {q:Nat} {v:Value} {c s j:Nat} {W':World} (o:Ob B y d cf h q v) (hp:Hp B y d' cf (freeSlot cf h c s j) W') (kl:Klg d d'):Ob B y d' cf (freeSlot cf h c s j) q v:=by
 cases o with
 | slot c s j hc hs hj=>exact .slot c s j hc hs hj
 | range r g hr hl hd =>
  have hr':r∈(freeSlot cf h c s j).rg:=by rw [freeSlot_rg];exact hr
  refine .range r g hr' hl (kl _ _ hd ?_);rw [hp.lo];exact List.any_eq_true.2 ⟨r,hr',by simp⟩
theorem Ob.afterR {B:Nat} {y:Ly} {d d':Dy} {cf:Cf} {h:Hs} {q:Nat} {v:Value} {r0:Rg9} {W':World} (i:Inv cf h) (o:Ob B y d cf h q v) (hne:q≠r0.base) (hp:Hp B y d' cf (freeRange cf h r0) W') (kl:Klg d d'):Ob B y d' cf (freeRange cf h r0) q v:=by
 cases o with
 | slot c s j hc hs hj=>exact .slot c s j hc hs hj
 | range r g hr hl hd =>
  have h1:r∈setR h.rg r0.base 2 0:=List.mem_map.2 ⟨r,hr,by rw [if_neg hne]⟩;have hr':r∈(freeRange cf h r0).rg:=by
   rw [freeRange_eq9]
   split
   ·rename_i hlt
    refine List.mem_filter.2 ⟨h1,?_⟩;have:r.base≠(h.row++[r0.base])[0]?.getD 0:=fun e=>by
     cases hrow:h.row with
     | nil=>rw [hrow] at e;exact hne (by simpa using e)
     | cons b l =>
      rw [hrow] at e;have e':r.base=b:=by simpa using e
      obtain⟨x,hx,hst,hb⟩:=(i.row b).1 (by rw [hrow];simp);have:=i.uniq hr hx (hb.trans e'.symm);rw [this,hl] at hst
      cases hst
    simpa using this
   exact h1
  refine .range r g hr' hl (kl _ _ hd ?_);rw [hp.lo];exact List.any_eq_true.2 ⟨r,hr',by simp⟩
theorem Hp.setRq1 {B:Nat} {y:Ly} {d:Dy} {cf:Cf} {h:Hs} {W:World} (hp:Hp B y d cf h W) {c s j:Nat} (hc:c < 12) (hs:s < 6) (hj:j < slN c) (rq':Int) :
  Hp B y d cf { h with rq:=upd3 h.rq c s j rq' } (W.setCell ⟨y.sm c s j,1,none⟩ (Vi rq'))∧Bi B W (W.setCell ⟨y.sm c s j,1,none⟩ (Vi rq')):=by
 have h2:=hp.sm c s j hc hs hj;have:=hp.setSlot hc hs hj (h.st c s j) rq' (W':=W.setCell ⟨y.sm c s j,1,none⟩ (Vi rq')) (grown_set (grown_refl W (y.sm c s j)) 1 _) (by simp [World.setCell,Array.getElem?_modify,h2,smC]);rw [upd3_self h.st rfl] at this;exact this
end Go.Proofs.YtgandbaejlfppaaGreatDoor
namespace Go.Proofs.YtgandbaejlfppaaGreatDoor
set_option linter.unusedVariables false
set_option linter.unusedSimpArgs false
set_option maxRecDepth 20000
set_option maxHeartbeats 8000000
open Go.RowKit Go.Maps
theorem Ob.base {B:Nat} {y:Ly} {d:Dy} {cf:Cf} {h:Hs} {q t g fb:Nat} {W:World} (o:Ob B y d cf h q (.iface t (Vp g 0))) (ht:t=133∧fb=72∨t=145∧fb=99) (hp:Hp B y d cf h W) (i:Inv cf h) :
  Calls Tryz.prog fb #[Vp g 0] W fun e V'=>e=.returned (Vu (q:Nat))∧Below W.heap.size W V':=by
 cases o with
 | slot c s j hc hs hj =>
  rcases ht with ⟨_,rfl⟩|⟨h1,_⟩
  ·exact im_sbase _ _ c s j W (hp.scAt c s j hc hs hj)
  cases h1
 | range r g hr hl hd =>
  rcases ht with ⟨h1,_⟩|⟨_,rfl⟩
  ·cases h1
  refine (im_lbase g r W (hp.lcOf i hr hd)).mono ?_;rintro e V ⟨rfl,rfl⟩;exact⟨rfl,(Below.refl _ _).drew⟩
theorem Ob.shape {B:Nat} {y:Ly} {d:Dy} {cf:Cf} {h:Hs} {q:Nat} {v:Value} (o:Ob B y d cf h q v):∃ t g fb,v=.iface t (Vp g 0)∧(t=133∧fb=72∨t=145∧fb=99):=by
 cases o with
 | slot c s j hc hs hj=>exact ⟨_,_,_,rfl,.inl ⟨rfl,rfl⟩⟩
 | range r g hr hl hd=>exact ⟨_,_,_,rfl,.inr ⟨rfl,rfl⟩⟩
theorem Gd.fr {d:Dy} {h:Hs} {an:Value} (g:Gd d h an) (f':Nat→Option Nat):Gd { d with f:=f' } h an:=⟨g.on,g.un,g.an⟩
theorem rs_takes (B:Nat) (y:Ly) (d:Dy) (cf:Cf) (h:Hs) (k:Nat) (an:Value) (p a t g fb old:Nat) (W:World) (bW:B≤W.heap.size) (gd:Gd d h an) (o:Okh cf h k) (hk:k≤301) (hp0:p≠0) (ha:a < 18446744073709551616) (hold:old < 9223372036854775808) (ht:t=133∧fb=72∨t=145∧fb=99) (Kp:Dy→Hs→Prop)
  (IN:Calls Tryz.prog 37 #[Vp y.P 0,Vu (p:Nat)] W fun e V=>e=.returned (.iface t (Vp g 0))∧∃ f',Hp B y { d with f:=f' } cf h V∧Bi B W V)
  (FT:∀ f' V,Hp B y { d with f:=f' } cf h V→Calls Tryz.prog 65 #[.iface t (Vp g 0),Vu (a:Nat)] V fun e V'=>e=.returned (.bool false)∧Below V.heap.size V V')
  (AR:Area h p old) (KP:∀ q h1 d1,Gave cf h a q h1→Kl d.lg d1→Kp d1 h1) (KM:∀ d1 f' h1 m,Kp d1 h1→Kp { d1 with f:=f' } { h1 with m:=m })
  (BO:∀ d1 h1 V,Inv cf h1→Hp B y d1 cf h1 V→Kp d1 h1→Calls Tryz.prog fb #[Vp g 0] V fun e V'=>e=.returned (Vu (p:Nat))∧Below V.heap.size V V')
  (CE:∀ d1 h1 V,Hp B y d1 cf h1 V→Kp d1 h1→V.cell? ⟨g,1,none⟩=some (Vi (old:Nat)))
  (RE:∀ d1 h1 V,Hp B y d1 cf h1 V→Gd d1 h1 an→Okh cf h1 (k+1)→Kp d1 h1→Calls Tryz.prog 36 #[Vp y.P 0,.iface t (Vp g 0)] V (ReR B y d1 cf (freeM cf h1 (findM h1 p)) an V))
  (OA:∀ d1 h1 d9 q v V,Inv cf h1→Kp d1 h1→Ob B y d1 cf h1 q v→q≠p→Hp B y d9 cf (freeM cf h1 (findM h1 p)) V→Klg d1 d9→Ob B y d9 cf (freeM cf h1 (findM h1 p)) q v) :
  Calls Tryz.prog 35 #[Vp y.P 0,Vu (p:Nat),Vu (a:Nat)] W (SzW B y cf an W (takeM cf h p a old)):=by
 have hgv:=fun q h1 (e:mallocM cf h a=(some q,h1))=>o.inv.gave e
 have hml:=o.inv.malloc o.few a;have hby:=o.byt.malloc (cf:=cf) a;have TK9:=fun f' V (hV:Hp B y { d with f:=f' } cf h V)=>im_take B y { d with f:=f' } cf h k an a V hV (gd.fr f') o ha
 unfold takeM;obtain⟨mr,hmr⟩:∃ mr,mallocM cf h a=mr:=⟨_,rfl⟩;rw [hmr] at hml hby ⊢;simp only [hmr] at hgv TK9;obtain⟨oq,h1⟩:=mr;have FT9:∀ V,(∃ f',Hp B y { d with f:=f' } cf h V∧Bi B W V)→Calls Tryz.prog 65 #[.iface t (Vp g 0),Vu (a:Nat)] V fun e V'=>e=.returned (.bool false)∧∃ f',Hp B y { d with f:=f' } cf h V'∧Bi B W V':=by
  rintro V ⟨f',hV,bV⟩;refine (FT f' V hV).mono ?_;rintro e V' ⟨rfl,b⟩;exact⟨rfl,f',hV.below b,bV.add b hV.bW⟩
 cases oq with
 | none =>
  refine im_rs_take y.P p a t g fb 0 old W hp0 ht hold ha (fun V=>∃ f',Hp B y { d with f:=f' } cf h V∧Bi B W V) (fun _ _ _ _=>False) (fun _ _ _=>False) _ IN FT9 ?_ (fun _ _ _ _ _ h _=>h.elim) (fun _ _ _ _ h=>h.elim) (fun _ _ _ _ h=>h.elim) (fun _ _ _ _ h=>h.elim) (fun _ _ _ _ h=>h.elim) (fun _ _ _ h=>h.elim);rintro V ⟨f',hV,bV⟩;refine (TK9 f' V hV).mono ?_;rintro e V' ⟨tr,bi⟩
  cases tr with
  | no _ _ tk=>exact .inl ⟨_,rfl,.no 1 h1 V' tk,bV.trans bi⟩
 | some q =>
  have GV:=hgv q h1 rfl;obtain⟨ak,hpq⟩:=GV.keeps AR;have ap:=ak.le (Nat.min_le_left old a);have aq:=GV.area.le (Nat.min_le_right old a);obtain⟨_,m2,m3,m4,m5⟩:=hml;dsimp only at m2 m3 m4 m5 hby;have o2:Okh cf { h1 with m:=copyM h1.m p q (min old a) } (k+1) :=
   ⟨GV.inv.bytes _ _ _,Byt.store hby _ (Byt.load hby _ _) _,⟨m2,by dsimp only;omega,by dsimp only;omega,by have:=o.few.used;dsimp only;omega⟩,by omega,o.dok,o.l1⟩
  refine im_rs_take y.P p a t g fb q old W hp0 ht hold ha (fun V=>∃ f',Hp B y { d with f:=f' } cf h V∧Bi B W V)
   (fun t' g' fb' V=>∃ d1,Ob B y d1 cf h1 q (.iface t' (Vp g' 0))∧(t'=133∧fb'=72∨t'=145∧fb'=99)∧Hp B y d1 cf h1 V∧Gd d1 h1 an∧Kp d1 h1∧Bi B W V)
   (fun t' g' V=>∃ d1,Ob B y d1 cf { h1 with m:=copyM h1.m p q (min old a) } q (.iface t' (Vp g' 0))∧Hp B y d1 cf { h1 with m:=copyM h1.m p q (min old a) } V∧Gd d1 { h1 with m:=copyM h1.m p q (min old a) } an∧Kp d1 { h1 with m:=copyM h1.m p q (min old a) }∧Bi B W V)
   _ IN FT9 ?_ ?_ ?_ ?_ ?_ ?_ ?_
  ·rintro V ⟨f',hV,bV⟩;refine (TK9 f' V hV).mono ?_;rintro e V' ⟨tr,bi⟩
   rcases tr.ob with ⟨e1,_,_⟩|⟨q',v,d1,e1,rfl,ob,hp1,gd1,kl⟩
   ·cases e1
   cases e1
   obtain⟨t',g',fb',rfl,ht'⟩:=ob.shape;exact .inr ⟨t',g',fb',rfl,ht',d1,ob,ht',hp1,gd1,KP q h1 d1 GV kl,bV.trans bi⟩
  ·rintro t' g' fb' V V' ⟨d1,ob,ht',hp1,gd1,kp,bV⟩ b;exact⟨d1,ob,ht',hp1.below b,gd1,kp,bV.add b hp1.bW⟩
  ·rintro t' g' fb' V ⟨d1,ob,ht',hp1,gd1,kp,bV⟩;exact BO d1 h1 V GV.inv hp1 kp
  ·rintro t' g' fb' V ⟨d1,ob,ht',hp1,gd1,kp,bV⟩;exact ob.base ht' hp1 GV.inv
  ·rintro t' g' fb' V ⟨d1,ob,ht',hp1,gd1,kp,bV⟩;exact CE d1 h1 V hp1 kp
  ·rintro t' g' fb' V ⟨d1,ob,ht',hp1,gd1,kp,bV⟩;refine (im_copy B y d1 cf h1 p q (min old a) V hp1 GV.inv ap aq hpq).mono ?_;rintro e V' ⟨rfl,⟨f',hp2⟩,bi⟩;exact⟨rfl,{ d1 with f:=f' },ob.conv rfl rfl,hp2,(gd1.fr f').st (fun k=>storeM_is _ _ _ _ _),KM d1 f' h1 _ kp,bV.trans bi⟩
  rintro t' g' V ⟨d1,ob,hp1,gd1,kp,bV⟩;refine (RE d1 _ V hp1 gd1 o2 kp).mono ?_;rintro e V' ⟨rfl,⟨d9,hp9,gd9,kl⟩,bi⟩;exact⟨rfl,.yes q _ d9 _ V' (OA d1 _ d9 q _ V' o2.inv kp ob (fun e=>hpq e.symm) hp9 kl) hp9 gd9,bV.trans bi⟩
theorem im_resize (B:Nat) (y:Ly) (d:Dy) (cf:Cf) (h:Hs) (k:Nat) (an:Value) (p a:Nat) (W:World) (hp:Hp B y d cf h W) (gd:Gd d h an) (o:Okh cf h k) (hk:k≤301) (hpp:p < 18446744073709551616) (ha:a < 18446744073709551616) :
  Calls Tryz.prog 35 #[Vp y.P 0,Vu (p:Nat),Vu (a:Nat)] W (SzW B y cf an W (reallocM cf h p a)):=by
 rw [reallocM_eq];have hu:h.rel.length≤100000:=by have:=o.few.rel;omega
 by_cases hp0:p=0
 ·subst hp0;rw [if_pos rfl];refine im_rs0 y.P a W _ ((im_take B y d cf h k an a W hp gd o ha).mono ?_);rintro e V ⟨tr,bi⟩;unfold malH
  rcases tr.ob with ⟨e1,rfl,tk⟩|⟨q,v,d1,e1,rfl,ob,hp1,gd1,kl⟩
  ·rw [e1];exact .inl ⟨_,rfl,.no 1 _ V tk,bi⟩
  rw [e1];exact .inr ⟨_,rfl,.yes q v d1 _ V ob hp1 gd1,bi⟩
 rw [if_neg hp0];have IN:=im_intact B y d cf h p W hp o.inv o.byt hpp hu o.dok.key0 o.dok.key1;have NO:∀ code,Calls Tryz.prog 37 #[Vp y.P 0,Vu (p:Nat)] W (IntR B y d cf h W (.no code))→Calls Tryz.prog 35 #[Vp y.P 0,Vu (p:Nat),Vu (a:Nat)] W (SzW B y cf an W (.no code,h)):=fun code hI=>by
  refine (im_rs_no y.P p a code W hp0 (fun V=>Tk B y cf h an V∧Bi B W V) (hI.mono ?_)).mono ?_
  ·rintro e V ⟨f',lk,hV,bi⟩
   cases lk
   exact⟨rfl,Hg.tk ⟨_,hV,gd.fr f'⟩,bi⟩
  rintro e V ⟨rfl,tk,bi⟩;exact⟨.no code h V tk,bi⟩
 have seen:=find_seen h p
 cases hf:findM h p with
 | no code =>
  rw [hf] at IN;exact NO code IN
 | slot c s j =>
  dsimp only;rw [hf] at IN seen
  cases seen with
  | slot _ _ _ hc hs hj hadr hl =>
  have hrq:=(o.inv.req c s j hc hs hj).1 hl;have hz:=szN_in hc;unfold wholeFd at IN;dsimp only at IN
  cases hsd:sound cf h c s j with
  | false =>
   rw [hsd,if_neg (by decide)] at IN;rw [if_pos rfl];exact NO 5 IN
  | true =>
   rw [hsd,if_pos rfl] at IN;rw [if_neg (by decide)];have IN2:Calls Tryz.prog 37 #[Vp y.P 0,Vu (p:Nat)] W fun e V=>e=.returned (.iface 133 (Vp (y.sm c s j) 0))∧∃ f',Hp B y { d with f:=f' } cf h V∧Bi B W V:=by
    refine IN.mono ?_;rintro e V ⟨f',lk,hV,bi⟩
    cases lk
    exact⟨rfl,f',hV,bi⟩
   by_cases hfit:a≤1016∧coN a=c
   ·rw [if_pos hfit];refine im_rs_fit y.P p a 133 (y.sm c s j) W hp0 (.inl rfl) (fun V=>∃ f',Hp B y { d with f:=f' } cf h V∧Bi B W V) _ IN2 ?_ ?_ (wrapI9 _ (by omega) (by omega)) ?_
    ·rintro V ⟨f',hV,bV⟩;refine (im_fits_s (y.sm c s j) (y.sb c s) c s j a V (hV.scAt c s j hc hs hj)).mono ?_;rintro e V' ⟨rfl,b⟩;exact⟨by rw [decide_eq_true hfit],f',hV.below b,bV.add b hV.bW⟩
    ·rintro V ⟨f',hV,bV⟩;have hb:=hV.sm c s j hc hs hj;exact⟨h.rq c s j,by rw [cell_of_row _ _ _ _ _ _ hb];rfl,by simp [World.frozen?,hb]⟩
    rintro V ⟨f',hV,bV⟩;obtain⟨h9,b9⟩:=hV.setRq1 hc hs hj (a:Nat);refine⟨.yes p _ _ _ _ ?_ h9 ⟨gd.on,gd.un,gd.an⟩,bV.trans b9⟩;rw [←hadr];exact .slot c s j hc hs hj
   rw [if_neg hfit];obtain⟨old,hold⟩:∃ old:Nat,h.rq c s j=(old:Int):=⟨(h.rq c s j).toNat,by omega⟩;rw [hold,Int.toNat_natCast];refine rs_takes B y d cf h k an p a 133 (y.sm c s j) 72 old W hp.bW gd o hk hp0 ha (by omega) (.inl ⟨rfl,rfl⟩) (fun d1 h1=>h1.rq c s j=(old:Int)∧h1.st c s j=1∧findM h1 p=.slot c s j) IN2 ?_ (.slot c s j hc hs hj hadr hl (by omega)) ?_ (fun d1 f' h1 m kp=>kp) ?_ ?_ ?_ ?_
   ·intro f' V hV;refine (im_fits_s (y.sm c s j) (y.sb c s) c s j a V (hV.scAt c s j hc hs hj)).mono ?_;rintro e V' ⟨rfl,b⟩;exact⟨by rw [decide_eq_false hfit],b⟩
   ·intro q h1 d1 gv kl;obtain⟨e1,e2⟩:=gv.live c s j hc hs hj hl;exact⟨e2.trans hold,e1,find_slotS hf e1⟩
   ·intro d1 h1 V i1 hV kp;rw [←hadr];exact im_sbase _ _ c s j V (hV.scAt c s j hc hs hj)
   ·rintro d1 h1 V hV ⟨e1,e2,e3⟩;rw [cell_of_row _ _ _ _ _ _ (hV.sm c s j hc hs hj),e1];rfl
   ·rintro d1 h1 V hV g1 o1 ⟨e1,e2,e3⟩;rw [e3];exact im_release_s B y d1 cf h1 (k+1) an c s j V hV g1 o1 hc hs hj e2
   rintro d1 h1 d9 q v V i1 ⟨e1,e2,e3⟩ ob hne h9 kl;rw [e3] at h9 ⊢;exact ob.afterS h9 kl
 | range r =>
  dsimp only;rw [hf] at IN seen
  cases seen with
  | range _ hr hb hl =>
  obtain⟨r1,r2,r3,r4,r5,r6⟩:=o.inv.rgs r hr;have hex:r.ext=r.guards+r.pages+1:=rfl;unfold wholeFd at IN;dsimp only at IN;obtain⟨g,hg,_⟩:=hp.lb r hr;have IN2:Calls Tryz.prog 37 #[Vp y.P 0,Vu (p:Nat)] W fun e V=>e=.returned (.iface 145 (Vp g 0))∧∃ f',Hp B y { d with f:=f' } cf h V∧Bi B W V:=by
   refine IN.mono ?_;rintro e V ⟨f',lk,hV,bi⟩
   cases lk with
   | range _ g' hg' =>
    rw [hg] at hg'
    cases hg'
    exact⟨rfl,f',hV,bi⟩
  have hrq:0≤r.rq∧r.rq≤r.pages*1024:=by
   rcases r6 with ⟨_,h1,h2⟩|⟨h1,_⟩
   ·unfold pagesN at h2
    split at h2 <;> omega
   omega
  by_cases hfit:1016 < a∧pagesN a=r.pages
  ·rw [if_pos hfit];have hpa:=hfit.2;unfold pagesN at hpa;refine im_rs_fit y.P p a 145 g W hp0 (.inr rfl) (fun V=>∃ f',Hp B y { d with f:=f' } cf h V∧Bi B W V) _ IN2 ?_ ?_ (wrapI9 _ (by omega) (by omega)) ?_
   ·rintro V ⟨f',hV,bV⟩;refine (im_fits_l g a r V (hV.lcOf o.inv hr hg) ha).mono ?_;rintro e V' ⟨rfl,b⟩;exact⟨by rw [decide_eq_true hfit],f',hV.below b,bV.add b hV.bW⟩
   ·rintro V ⟨f',hV,bV⟩;obtain⟨g',e1,_,hbk⟩:=hV.lb r hr;rw [show ({ d with f:=f' } : Dy).lg r.base=d.lg r.base from rfl,hg] at e1
    cases e1
    exact⟨r.rq,by rw [cell_of_row _ _ _ _ _ _ hbk];rfl,by simp [World.frozen?,hbk]⟩
   rintro V ⟨f',hV,bV⟩;obtain⟨g',e1,_,hbk⟩:=hV.lb r hr;rw [show ({ d with f:=f' } : Dy).lg r.base=d.lg r.base from rfl,hg] at e1
   cases e1
   obtain⟨h9,b9⟩:=hV.setLg hr (fun x hx e=>o.inv.uniq hr hx e) (L:=g) hg 1 (a:Nat) (W':=V.setCell ⟨g,1,none⟩ (Vi (a:Nat))) (grown_set (grown_refl V g) 1 _) (by simp [World.setCell,Array.getElem?_modify,hbk,lgC,hl]);have e9:setR h.rg r.base 1 (a:Nat)=h.rg.map fun x=>if x.base=r.base then { x with rq:=(a:Int) } else x:=by
    unfold setR;refine List.map_congr_left fun x hx=>?_
    by_cases e:x.base=r.base
    ·rw [if_pos e,if_pos e,o.inv.uniq hr hx e,hl]
    rw [if_neg e,if_neg e]
   rw [e9] at h9;refine⟨.yes p _ _ _ _ ?_ h9 ⟨gd.on,gd.un,gd.an⟩,bV.trans b9⟩;rw [←hb];exact .range { r with rq:=(a:Int) } g (List.mem_map.2 ⟨r,hr,by rw [if_pos rfl]⟩) hl hg
  rw [if_neg hfit];obtain⟨old,hold⟩:∃ old:Nat,r.rq=(old:Int):=⟨r.rq.toNat,by omega⟩;rw [hold,Int.toNat_natCast];refine rs_takes B y d cf h k an p a 145 g 99 old W hp.bW gd o hk hp0 ha (by omega) (.inr ⟨rfl,rfl⟩) (fun d1 h1=>r∈h1.rg∧d1.lg r.base=some g∧findM h1 p=.range r) IN2 ?_ (.range r hr hb hl (by omega)) ?_ (fun d1 f' h1 m kp=>kp) ?_ ?_ ?_ ?_
  ·intro f' V hV;refine (im_fits_l g a r V (hV.lcOf o.inv hr hg) ha).mono ?_;rintro e V' ⟨rfl,b⟩;exact⟨by rw [decide_eq_false hfit],b⟩
  ·intro q h1 d1 gv kl;refine⟨?_,kl _ _ hg,find_rangeS hf ?_⟩
   ·rcases gv.rg with e|⟨r',e,_⟩
    ·rw [e];exact hr
    rw [e];exact List.mem_append_left _ hr
   rcases gv.rg with e|⟨r',e,_⟩
   ·exact .inl e
   exact .inr ⟨r',e⟩
  ·rintro d1 h1 V i1 hV ⟨e1,e2,e3⟩;refine (im_lbase g r V (hV.lcOf i1 e1 e2)).mono ?_;rintro e V ⟨rfl,rfl⟩;exact⟨by rw [hb],(Below.refl _ _).drew⟩
  ·rintro d1 h1 V hV ⟨e1,e2,e3⟩;obtain⟨g',f1,_,hbk⟩:=hV.lb r e1;rw [e2] at f1
   cases f1
   rw [cell_of_row _ _ _ _ _ _ hbk,←hold];rfl
  ·rintro d1 h1 V hV g1 o1 ⟨e1,e2,e3⟩;rw [e3];exact im_release_l B y d1 cf h1 (k+1) an r g V hV g1 o1 e1 hl e2
  rintro d1 h1 d9 q v V i1 ⟨e1,e2,e3⟩ ob hne h9 kl;rw [e3] at h9 ⊢;exact ob.afterR i1 (by rw [hb];exact hne) h9 kl
end Go.Proofs.YtgandbaejlfppaaGreatDoor
namespace Go.Proofs.YtgandbaejlfppaaGreatDoor
set_option linter.unusedVariables false
set_option linter.unusedSimpArgs false
set_option maxRecDepth 20000
set_option maxHeartbeats 8000000
open Go.RowKit Go.Maps
def RuR (B:Nat) (y:Ly) (cf:Cf) (an:Value) (W:World) (r:An4×Hs) (e:Ending) (W':World):Prop:=∃ v,e=.returned (ansV r.1 v)∧W'.ownsRow W.heap.size 5 1 v r.1.data.length (Ns .u8 r.1.data)∧Hg B y cf r.2 an W'∧Bi B W W'
structure Lo (P X2 X3 X4:Nat) (op:Array Value) (V:World):Prop where
 x2:V.heap[X2]?=some (.cells #[Vp P 0] 58 (0,0))
 x3:V.heap[X3]?=some (.cells op 42 (0,0))
 x4:V.heap[X4]?=some (.cells #[Vi 0,Vu 0,Vi 0,Vn] 45 (0,0))
theorem Lo.bi {B P X2 X3 X4:Nat} {op:Array Value} {V V':World} (l:Lo P X2 X3 X4 op V) (b:Bi B V V'):Lo P X2 X3 X4 op V' :=
 ⟨b.ky.cells _ _ _ _ l.x2 (by unfold hI;decide),b.ky.cells _ _ _ _ l.x3 (by unfold hI;decide),b.ky.cells _ _ _ _ l.x4 (by unfold hI;decide)⟩
theorem Lo.below {P X2 X3 X4:Nat} {op:Array Value} {V V':World} (l:Lo P X2 X3 X4 op V) (b:Below V.heap.size V V'):Lo P X2 X3 X4 op V' :=
 ⟨below_at l.x2 b,below_at l.x3 b,below_at l.x4 b⟩
theorem three_below (W:World) (P:Nat) (op:Array Value):Below W.heap.size W (three W P op) :=
 (((Below.refl _ _).alloc (Nat.le_refl _) _).alloc (by rw [al_size];omega) _).alloc (by rw [al_size,al_size];omega) _
theorem three_lo (W:World) (P:Nat) (op:Array Value):Lo P W.heap.size (W.heap.size+1) (W.heap.size+1+1) op (three W P op):=by
 have e1:=al_size W (.cells #[Vp P 0] 58);have e2:=al_size (W.alloc (.cells #[Vp P 0] 58)) (.cells op 42);refine⟨?_,?_,?_⟩
 ·unfold three;rw [al_old _ _ _ (by rw [e2,e1];omega),al_old _ _ _ (by rw [e1];omega)];exact al_last _ _
 ·unfold three;rw [al_old _ _ _ (by rw [e2,e1];omega),←e1];exact al_last _ _
 unfold three;rw [←e1,←e2];exact al_last _ _
theorem Bi.loc9 {B R:Nat} {W V V':World} (k:Bi B W V) (g:V.grownBy V' (some R)) (hR:W.heap.size≤R) (hB:B≤W.heap.size):Bi B W V':=by
 have hs:=k.bel.size;refine⟨k.bel.grown g (by omega) (fun r hr=>by simp at hr;omega),g.os.trans k.ky.os,g.tape.trans k.ky.tape,g.output.trans k.ky.output,Nat.le_trans k.ky.size g.size,fun x c t f h1 h2=>?_⟩;have h3:=k.ky.cells x c t f h1 h2;have:=lt_blk h1;rw [g.block x (by omega) (by simp;omega)];exact h3
theorem Hp.set81 {B:Nat} {y:Ly} {d:Dy} {cf:Cf} {h:Hs} {V:World} (hp:Hp B y d cf h V) {X:Nat} {c:Array Value} (x4:V.heap[X]?=some (.cells c 45 (0,0))) (hX:B≤X) (cs:Array Value):Hp B y d cf h (V.setRow X cs):=by
 have g:=grown_setRow V X cs;refine hp.keep ⟨Ky.grown x4 (by decide) g,?_,?_⟩ ((Below.refl B V).grown g hp.bW (fun r hr=>by simp at hr;omega))
 ·obtain⟨D,⟨es,c2,h2,_⟩,_⟩:=hp.sp.map;exact g.block _ (lt_blk h2) (fun e=>by simp at e;rw [←e,h2] at x4;cases x4)
 obtain⟨es,c2,h2⟩:=hp.mp.typ;exact g.block _ (lt_blk h2) (fun e=>by simp at e;rw [←e,h2] at x4;cases x4)
theorem Hg.set81 {B:Nat} {y:Ly} {cf:Cf} {h:Hs} {an:Value} {V:World} (hg:Hg B y cf h an V) {X:Nat} {c:Array Value} (x4:V.heap[X]?=some (.cells c 45 (0,0))) (hX:B≤X) (cs:Array Value):Hg B y cf h an (V.setRow X cs):=by
 obtain⟨d,h1,h2⟩:=hg;exact⟨d,h1.set81 x4 hX cs,h2⟩
theorem TaR.sz {B:Nat} {y:Ly} {cf:Cf} {an:Value} {lg:Nat→Option Nat} {r:Option Nat×Hs} {e:Ending} {W':World} (t:TaR B y cf an lg r e W'):SzR B y cf an (malA r.1,r.2) e W':=by
 rcases t.ob with ⟨e1,rfl,tk⟩|⟨q,v,d1,e1,rfl,ob,hp1,gd1,_⟩
 ·rw [e1];exact .no 1 _ _ tk
 rw [e1];exact .yes q v d1 _ _ ob hp1 gd1
theorem SzR.split {B:Nat} {y:Ly} {cf:Cf} {an:Value} {res:An4×Hs} {e:Ending} {V:World} (s:SzR B y cf an res e V):(∃ code h1,res=(.no code,h1)∧e=.panicked (refV code)∧Tk B y cf h1 an V)∨∃ q v d1 h1,res=(⟨0,q,0,[]⟩,h1)∧e=.returned v∧Ob B y d1 cf h1 q v∧Hp B y d1 cf h1 V∧Gd d1 h1 an:=by
 cases s with
 | yes q v d h1 _ ob hp gd=>exact .inr ⟨q,v,d,h1,rfl,rfl,ob,hp,gd⟩
 | no code h1 _ tk=>exact .inl ⟨code,h1,rfl,rfl,tk⟩
theorem tgt_lt {an:List An4} {o:Op6} {q:Nat} (ho:o.p < 18446744073709551616) (h:tgtM an o=some q):q < 18446744073709551616:=by
 unfold tgtM at h
 split at h
 ·cases h;exact ho
 split at h
 ·cases h
 cases h;exact Nat.mod_lt _ (by decide)
def Qf9 (P X2 X3 X4:Nat) (op:Array Value) (W V:World):Prop:=Below W.heap.size W V∧Lo P X2 X3 X4 op V
def Nf9 (B:Nat) (y:Ly) (cf:Cf) (an:Value) (res:An4×Hs) (X2 X3 X4:Nat) (op:Array Value) (W:World) (code:Int) (V:World):Prop:=∃ h1,res=(.no code,h1)∧Tk B y cf h1 an V∧Lo y.P X2 X3 X4 op V∧Bi B W V
def opA (o:Op6) (dd:Option Addr) (dc:Nat):Array Value:=#[Vi o.kd,Vi o.ref,Vu (o.p:Nat),Vu (o.a:Nat),Vu (o.b:Nat),.slice dd o.ys.length dc]
theorem run_frame (B:Nat) (y:Ly) (cf:Cf) (an:Value) (res:An4×Hs) (o:Op6) (dd:Option Addr) (dc:Nat) (W:World) (hB:B≤W.heap.size) :
  Rn9 y.P W.heap.size (W.heap.size+1) (W.heap.size+1+1) o.kd o.ref o.p o.a o.b dd o.ys.length dc (Qf9 y.P W.heap.size (W.heap.size+1) (W.heap.size+1+1) (opA o dd dc) W) (Nf9 B y cf an res W.heap.size (W.heap.size+1) (W.heap.size+1+1) (opA o dd dc) W) (RuR B y cf an W res):=by
 refine⟨fun V hV=>one_of hV.2.x2,fun V hV=>hV.2.x3,fun V hV=>hV.2.x4,fun V hV=>⟨hV.1.drew,hV.2.below (Below.refl _ _).drew⟩,fun V=>im_idle _ _ V,?_⟩;rintro code V ⟨h1,hres,tk,lo,bi⟩;refine (im_catch B y cf h1 an W.heap.size (W.heap.size+1+1) code V (one_of lo.x2) lo.x4 tk).mono ?_;rintro e u W' ⟨rfl,rfl,V1,V2,b1,hg,b2,rfl⟩;have x4:=((lo.below b1).bi b2).x4;refine⟨rfl,rfl,_,_,_,_,setRow_at x4 _,Vn,?_,?_,?_,?_⟩
 ·rw [hres];rfl
 ·rw [hres];exact own_none _ _
 ·rw [hres];exact hg.set81 x4 (by omega) _
 exact Bi.loc9 ((bi.add b1 (Nat.le_trans hB bi.bel.size)).trans b2) (grown_setRow _ _ _) (by omega) hB
theorem run_obj {B:Nat} {y:Ly} {cf:Cf} {an:Value} {res:An4×Hs} {o:Op6} {dd:Option Addr} {dc:Nat} {W V:World} {f:FuncId} {args:Array Value} (hB:B≤W.heap.size) (hV:Qf9 y.P W.heap.size (W.heap.size+1) (W.heap.size+1+1) (opA o dd dc) W V) (C:Calls Tryz.prog f args V (SzW B y cf an V res)) :
  Calls Tryz.prog f args V fun e V'=>(∃ code,e=.panicked (caught code)∧Nf9 B y cf an res W.heap.size (W.heap.size+1) (W.heap.size+1+1) (opA o dd dc) W code V')∨∃ t g fb,e=.returned (.iface t (Vp g 0))∧(t=133∧fb=72∨t=145∧fb=99)∧(fun t g fb V'=>∃ d1,Ob B y d1 cf res.2 res.1.addr (.iface t (Vp g 0))∧(t=133∧fb=72∨t=145∧fb=99)∧Hp B y d1 cf res.2 V'∧Gd d1 res.2 an∧Lo y.P W.heap.size (W.heap.size+1) (W.heap.size+1+1) (opA o dd dc) V'∧Bi B W V'∧res.1=⟨0,res.1.addr,0,[]⟩) t g fb V':=by
 refine C.mono ?_;rintro e V' ⟨sz,bi⟩;have b9:Bi B W V':=(Bi.ofBelow hV.1 hB).trans bi
 rcases sz.split with ⟨code,h1,hres,rfl,tk⟩|⟨q,v,d1,h1,hres,rfl,ob,hp1,gd1⟩
 ·exact .inl ⟨code,rfl,h1,hres,tk,hV.2.bi bi,b9⟩
 obtain⟨t,g,fb,rfl,ht⟩:=ob.shape;refine .inr ⟨t,g,fb,rfl,ht,d1,?_⟩;rw [hres];exact⟨ob,ht,hp1,gd1,hV.2.bi bi,b9,rfl⟩
theorem run_end {B:Nat} {y:Ly} {cf:Cf} {an:Value} {r:An4} {h1:Hs} {X2 X3 X4:Nat} {op:Array Value} {W V:World} {v:Value} (hB:B≤W.heap.size) (hX:W.heap.size≤X4) (hg:Hg B y cf h1 an V) (lo:Lo y.P X2 X3 X4 op V) (bi:Bi B W V) (ow:V.ownsRow W.heap.size 5 1 v r.data.length (Ns .u8 r.data)) (cs:Array Value) :
  RuR B y cf an W (r,h1) (.returned (ansV r v)) (V.setRow X4 cs) :=
 ⟨v,rfl,own_ky ow (Ky.grown lo.x4 rfl (grown_setRow V X4 cs):Ky (· = 45) V _) (by decide),hg.set81 lo.x4 (by omega) cs,Bi.loc9 bi (grown_setRow _ _ _) hX hB⟩
theorem doM_0 (cf:Cf) (h:Hs) (o:Op6) (p:Nat) (k:o.kd=0):doM cf h o p=(malA (mallocM cf h o.a).1,(mallocM cf h o.a).2):=by
 unfold doM;dsimp only;rw [if_pos k]
 cases mallocM cf h o.a with
 | mk x h1=>cases x <;> rfl
theorem doM_1 (cf:Cf) (h:Hs) (o:Op6) (p:Nat) (k:o.kd=1):doM cf h o p=(malA (prodM cf h o.a o.b).1,(prodM cf h o.a o.b).2):=by
 unfold doM prodM;dsimp only;rw [if_neg (by omega),if_pos k]
 split
 ·rfl
 cases mallocM cf h (o.a*o.b) with
 | mk x h1=>cases x <;> rfl
theorem doM_2 (cf:Cf) (h:Hs) (o:Op6) (p:Nat) (k:o.kd=2):doM cf h o p=reallocM cf h p o.a:=by
 unfold doM;dsimp only;rw [if_neg (by omega),if_neg (by omega),if_pos k]
theorem doM_3 (cf:Cf) (h:Hs) (o:Op6) (p:Nat) (k:o.kd=3):doM cf h o p=match wholeFd cf h (findM h p) with
  | .no code=>(.no code,h)
  | .slot c s j=>(.no 0,freeSlot cf h c s j)
  | .range r=>(.no 0,freeRange cf h r):=by
 unfold doM;dsimp only;rw [if_neg (by omega),if_neg (by omega),if_neg (by omega),if_pos k]
 cases findM h p with
 | no code=>rfl
 | range r=>rfl
 | slot c s j =>
  unfold wholeFd;dsimp only
  cases sound cf h c s j <;> rfl
theorem doM_4 (cf:Cf) (h:Hs) (o:Op6) (p:Nat) (k:o.kd=4):doM cf h o p=match findM h p with
  | .no code=>(.no code,h)
  | .slot c s j=>(⟨0,0,usN c,[]⟩,h)
  | .range r=>(⟨0,0,r.pages*1024,[]⟩,h):=by
 unfold doM;dsimp only;rw [if_neg (by omega),if_neg (by omega),if_neg (by omega),if_neg (by omega),if_pos k]
 cases findM h p <;> rfl
theorem doM_5 (cf:Cf) (h:Hs) (o:Op6) (p:Nat) (k:o.kd=5):doM cf h o p=(if 4096 < o.a then (.no 6,h) else (⟨accC h.m p (o.a:Int),0,0,if accC h.m p (o.a:Int)=0 then loadB h.m p o.a else []⟩,h)):=by
 unfold doM;dsimp only;rw [if_neg (by omega),if_neg (by omega),if_neg (by omega),if_neg (by omega),if_neg (by omega),if_pos k]
theorem doM_6 (cf:Cf) (h:Hs) (o:Op6) (p:Nat) (k:o.kd=6):doM cf h o p=(.no (accC h.m p (o.ys.length:Int)),{ h with m:=if accC h.m p (o.ys.length:Int)=0 then storeM h.m p o.ys o.ys.length else h.m }):=by
 unfold doM;dsimp only;rw [if_neg (by omega),if_neg (by omega),if_neg (by omega),if_neg (by omega),if_neg (by omega),if_neg (by omega),if_pos k]
theorem doM_7 (cf:Cf) (h:Hs) (o:Op6) (p:Nat) (k0:¬o.kd=0) (k1:¬o.kd=1) (k2:¬o.kd=2) (k3:¬o.kd=3) (k4:¬o.kd=4) (k5:¬o.kd=5) (k6:¬o.kd=6):doM cf h o p=(.no 6,h):=by
 unfold doM;dsimp only;rw [if_neg k0,if_neg k1,if_neg k2,if_neg k3,if_neg k4,if_neg k5,if_neg k6]
theorem accC_far (m:Nat→Option (Bool×List Int)) (a:Nat):accC m a ((4097:Nat):Int)=6:=by
 unfold accC;simp
theorem own_mono9 {W:World} {B B':Nat} {e:TypeId} {sz:Nat} {v:Value} {n:Nat} {xs:List Value} (h:W.ownsRow B e sz v n xs) (hb:B'≤B):W.ownsRow B' e sz v n xs:=by
 refine⟨h.1,?_⟩
 rcases h.2 with h2|⟨g,cap,cur,h1,h2,h3⟩
 ·exact .inl h2
 exact .inr ⟨g,cap,cur,h1,Nat.le_trans hb h2,h3⟩
theorem im_run (B B':Nat) (y:Ly) (d:Dy) (cf:Cf) (h:Hs) (k:Nat) (l:List Aw) (va:Option Addr) (vn vc:Nat) (o:Op6) (dd:Option Addr) (dc:Nat) (W:World) (hp:Hp B y d cf h W) (gd:Gd d h (.slice va vn vc)) (ok:Okh cf h k) (hk:k≤301) (hA:Ans9 B' W l (.slice va vn vc)) (hop:o.p < 18446744073709551616) (hoa:o.a < 18446744073709551616) (hob:o.b < 18446744073709551616) (hr1 : -9223372036854775808≤o.ref) (hdc:o.ys.length≤dc) (da:Da y.S y.M d.f W dd o.ys.length o.ys) :
  Calls Tryz.prog 17 #[Vp y.P 0,opV6 o dd dc] W (RuR B y cf (.slice va vn vc) W (stepH cf h (l.map (·.1)) o)):=by
 have hB:=hp.bW;have hrl:h.rel.length≤100000:=by have:=ok.few.rel;omega
 have h0:Qf9 y.P W.heap.size (W.heap.size+1) (W.heap.size+1+1) (opA o dd dc) W (three W y.P (opA o dd dc)):=⟨three_below _ _ _,three_lo _ _ _⟩;have TG:∀ V,Qf9 y.P W.heap.size (W.heap.size+1) (W.heap.size+1+1) (opA o dd dc) W V→Calls Tryz.prog 32 #[Vp y.P 0,.agg (opA o dd dc)] V (TgtR V (tgtM (l.map (·.1)) o)):=fun V hV =>
  im_target B' y.P o dd o.ys.length dc l va vn vc V ((hp.below hV.1).cell 119 (by omega) _ gd.an) ⟨own_bel hA.row hV.1,hA.len⟩ hop hr1
 have HV:=fun V (hV:Qf9 y.P W.heap.size (W.heap.size+1) (W.heap.size+1+1) (opA o dd dc) W V)=>hp.below hV.1
 rw [stepH_tgt]
 cases htg:tgtM (l.map (·.1)) o with
 | none =>
  refine im_runT y.P _ _ _ o.kd o.ref o.p o.a o.b dd o.ys.length dc W _ _ _ (run_frame B y cf (.slice va vn vc) (.no 6,h) o dd dc W hB) rfl rfl rfl h0 ?_;intro V hV;refine (TG V hV).mono ?_;rintro e V' ⟨b,⟨p,e1,_⟩|⟨_,rfl⟩⟩
  ·rw [htg] at e1;cases e1
  exact⟨rfl,h,rfl,Hg.tk ⟨d,(HV V hV).below b,gd⟩,hV.2.below b,(Bi.ofBelow hV.1 hB).add b (HV V hV).bW⟩
 | some q =>
  dsimp only;have hq:=tgt_lt hop htg;have TQ:∀ V,Qf9 y.P W.heap.size (W.heap.size+1) (W.heap.size+1+1) (opA o dd dc) W V→Calls Tryz.prog 32 #[Vp y.P 0,.agg (opA o dd dc)] V fun e V'=>e=.returned (Vu (q:Nat))∧Qf9 y.P W.heap.size (W.heap.size+1) (W.heap.size+1+1) (opA o dd dc) W V':=fun V hV=>by
   refine (TG V hV).mono ?_;rintro e V' ⟨b,⟨p,e1,rfl⟩|⟨e1,_⟩⟩
   ·rw [htg] at e1;cases e1;exact⟨rfl,hV.1.trans (b.mono hV.1.size),hV.2.below b⟩
   rw [htg] at e1;cases e1
  have hinv:=(ok.inv.do ok.dok.fifo1 ok.few o q).1;have NO:∀ (res:An4×Hs) code V V',Qf9 y.P W.heap.size (W.heap.size+1) (W.heap.size+1+1) (opA o dd dc) W V→res=(.no code,h)→(∃ f',Hp B y { d with f:=f' } cf h V')→Bi B V V'→Nf9 B y cf (.slice va vn vc) res W.heap.size (W.heap.size+1) (W.heap.size+1+1) (opA o dd dc) W code V':=fun res code V V' hV hres ⟨f',hf⟩ bi =>
   ⟨h,hres,Hg.tk ⟨_,hf,gd.fr f'⟩,hV.2.bi bi,(Bi.ofBelow hV.1 hB).trans bi⟩
  obtain⟨res,hres⟩:∃ res,doM cf h o q=res:=⟨_,rfl⟩;rw [hres] at hinv ⊢;have RF:=run_frame B y cf (.slice va vn vc) res o dd dc W hB;have OBJ:∀ V:World,(∃ t g fb d1,Ob B y d1 cf res.2 res.1.addr (.iface t (Vp g 0))∧(t=133∧fb=72∨t=145∧fb=99)∧Hp B y d1 cf res.2 V∧Gd d1 res.2 (.slice va vn vc)∧Lo y.P W.heap.size (W.heap.size+1) (W.heap.size+1+1) (opA o dd dc) V∧Bi B W V∧res.1=⟨0,res.1.addr,0,[]⟩)→V.heap[W.heap.size+1+1]?=some (.cells #[Vi 0,Vu 0,Vi 0,Vn] 45 (0,0))∧RuR B y cf (.slice va vn vc) W res (.returned (.agg #[Vi 0,Vu (res.1.addr:Nat),Vi 0,Vn])) (V.setRow (W.heap.size+1+1) #[Vi 0,Vu (res.1.addr:Nat),Vi 0,Vn]):=by
   rintro V ⟨t,g,fb,d1,ob,ht,hp1,gd1,lo,bi,he⟩;refine⟨lo.x4,?_⟩;have:=run_end (r:=⟨0,res.1.addr,0,[]⟩) hB (show W.heap.size≤W.heap.size+1+1 by omega) ⟨d1,hp1,gd1⟩ lo bi (own_none V W.heap.size) #[Vi 0,Vu (res.1.addr:Nat),Vi 0,Vn];obtain⟨⟨c9,a9,s9,y9⟩,h9⟩:=res
   cases he
   exact this
  by_cases k0:o.kd=0
  ·have e0:res=(malA (mallocM cf h o.a).1,(mallocM cf h o.a).2):=by rw [←hres,doM_0 cf h o q k0]
   refine im_run0 y.P _ _ _ o.kd o.ref o.p o.a o.b dd o.ys.length dc q res.1.addr _ (fun V=>∃ t g fb d1,Ob B y d1 cf res.2 res.1.addr (.iface t (Vp g 0))∧(t=133∧fb=72∨t=145∧fb=99)∧Hp B y d1 cf res.2 V∧Gd d1 res.2 (.slice va vn vc)∧Lo y.P W.heap.size (W.heap.size+1) (W.heap.size+1+1) (opA o dd dc) V∧Bi B W V∧res.1=⟨0,res.1.addr,0,[]⟩) W _ _ _ RF rfl rfl rfl h0 k0 TQ (fun V hV=>run_obj hB hV ((im_take B y d cf h k _ o.a V (HV V hV) gd ok hoa).mono fun e V' t=>by rw [e0];exact⟨t.1.sz,t.2⟩)) ?_ OBJ;rintro t g fb V ⟨d1,ob,ht,hp1,gd1,lo,bi,he⟩;refine (ob.base ht hp1 hinv).mono ?_;rintro e V' ⟨rfl,b⟩;exact⟨rfl,t,g,fb,d1,ob,ht,hp1.below b,gd1,lo.below b,bi.add b hp1.bW,he⟩
  by_cases k1:o.kd=1
  ·have e0:res=(malA (prodM cf h o.a o.b).1,(prodM cf h o.a o.b).2):=by rw [←hres,doM_1 cf h o q k1]
   refine im_run1 y.P _ _ _ o.kd o.ref o.p o.a o.b dd o.ys.length dc q res.1.addr _ (fun V=>∃ t g fb d1,Ob B y d1 cf res.2 res.1.addr (.iface t (Vp g 0))∧(t=133∧fb=72∨t=145∧fb=99)∧Hp B y d1 cf res.2 V∧Gd d1 res.2 (.slice va vn vc)∧Lo y.P W.heap.size (W.heap.size+1) (W.heap.size+1+1) (opA o dd dc) V∧Bi B W V∧res.1=⟨0,res.1.addr,0,[]⟩) W _ _ _ RF rfl rfl rfl h0 k1 TQ (fun V hV=>run_obj hB hV ((im_takeProduct B y d cf h k _ o.a o.b V (HV V hV) gd ok hoa hob).mono fun e V' t=>by rw [e0];exact⟨t.1.sz,t.2⟩)) ?_ OBJ;rintro t g fb V ⟨d1,ob,ht,hp1,gd1,lo,bi,he⟩;refine (ob.base ht hp1 hinv).mono ?_;rintro e V' ⟨rfl,b⟩;exact⟨rfl,t,g,fb,d1,ob,ht,hp1.below b,gd1,lo.below b,bi.add b hp1.bW,he⟩
  by_cases k2:o.kd=2
  ·have e0:res=reallocM cf h q o.a:=by rw [←hres,doM_2 cf h o q k2]
   refine im_run2 y.P _ _ _ o.kd o.ref o.p o.a o.b dd o.ys.length dc q res.1.addr _ (fun V=>∃ t g fb d1,Ob B y d1 cf res.2 res.1.addr (.iface t (Vp g 0))∧(t=133∧fb=72∨t=145∧fb=99)∧Hp B y d1 cf res.2 V∧Gd d1 res.2 (.slice va vn vc)∧Lo y.P W.heap.size (W.heap.size+1) (W.heap.size+1+1) (opA o dd dc) V∧Bi B W V∧res.1=⟨0,res.1.addr,0,[]⟩) W _ _ _ RF rfl rfl rfl h0 k2 TQ (fun V hV=>run_obj hB hV (by rw [e0];exact im_resize B y d cf h k _ q o.a V (HV V hV) gd ok hk hq hoa)) ?_ OBJ;rintro t g fb V ⟨d1,ob,ht,hp1,gd1,lo,bi,he⟩;refine (ob.base ht hp1 hinv).mono ?_;rintro e V' ⟨rfl,b⟩;exact⟨rfl,t,g,fb,d1,ob,ht,hp1.below b,gd1,lo.below b,bi.add b hp1.bW,he⟩
  by_cases k3:o.kd=3
  ·have e0:res=match wholeFd cf h (findM h q) with
     | .no code=>(.no code,h)
     | .slot c s j=>(.no 0,freeSlot cf h c s j)
     | .range r=>(.no 0,freeRange cf h r):=by rw [←hres,doM_3 cf h o q k3]
   have seen:=find_seen h q;refine im_run3 y.P _ _ _ o.kd o.ref o.p o.a o.b dd o.ys.length dc q
    (fun v V=>∃ f' fd,LkR y d fd (.returned v)∧wholeFd cf h (findM h q)=fd∧Hp B y { d with f:=f' } cf h V∧Lo y.P W.heap.size (W.heap.size+1) (W.heap.size+1+1) (opA o dd dc) V∧Bi B W V)
    (fun V=>res.1=.no 0∧Hg B y cf res.2 (.slice va vn vc) V∧Lo y.P W.heap.size (W.heap.size+1) (W.heap.size+1+1) (opA o dd dc) V∧Bi B W V) W _ _ _ RF rfl rfl rfl h0 k3 TQ ?_ ?_ ?_
   ·intro V hV;refine (im_intact B y d cf h q V (HV V hV) ok.inv ok.byt hq hrl ok.dok.key0 ok.dok.key1).mono ?_;rintro e V' ⟨f',lk,hf,bi⟩;have b9:Bi B W V':=(Bi.ofBelow hV.1 hB).trans bi;obtain⟨fd,hfd⟩:∃ fd,wholeFd cf h (findM h q)=fd:=⟨_,rfl⟩;rw [hfd] at lk e0
    cases lk with
    | no code=>exact .inl ⟨code,rfl,NO res code V V' hV e0 ⟨f',hf⟩ bi⟩
    | slot c s j=>exact .inr ⟨_,rfl,one_of (hV.2.bi bi).x2,f',_,.slot c s j,hfd,hf,hV.2.bi bi,b9⟩
    | range r g hg=>exact .inr ⟨_,rfl,one_of (hV.2.bi bi).x2,f',_,.range r g hg,hfd,hf,hV.2.bi bi,b9⟩
   ·rintro v V ⟨f',fd,lk,hfd,hf,lo,bi⟩;rw [hfd] at e0;have gdf:=gd.fr f'
    cases lk with
    | slot c s j =>
     have sn:c < 12∧s < 6∧j < slN c∧h.st c s j=1:=by
      cases hff:findM h q with
      | no code=>rw [hff] at hfd;cases hfd
      | range r=>rw [hff] at hfd;cases hfd
      | slot c' s' j' =>
       rw [hff] at hfd seen;unfold wholeFd at hfd;dsimp only at hfd
       split at hfd
       ·cases hfd
        cases seen with
        | slot _ _ _ h1 h2 h3 h4 h5=>exact ⟨h1,h2,h3,h5⟩
       cases hfd
     refine (im_release_s B y _ cf h k _ c s j V hf gdf ok sn.1 sn.2.1 sn.2.2.1 sn.2.2.2).mono ?_;rintro e V' ⟨rfl,⟨d9,hp9,gd9,_⟩,b9⟩;rw [e0];exact⟨rfl,one_of (lo.bi b9).x2,rfl,⟨d9,hp9,gd9⟩,lo.bi b9,bi.trans b9⟩
    | range r g hg =>
     have sn:r∈h.rg∧r.st=1:=by
      cases hff:findM h q with
      | no code=>rw [hff] at hfd;cases hfd
      | slot c s j =>
       rw [hff] at hfd;unfold wholeFd at hfd;dsimp only at hfd
       split at hfd <;> cases hfd
      | range r' =>
       rw [hff] at hfd seen
       cases hfd
       cases seen with
       | range _ h1 h2 h3=>exact ⟨h1,h3⟩
     refine (im_release_l B y _ cf h k _ r g V hf gdf ok sn.1 sn.2 hg).mono ?_;rintro e V' ⟨rfl,⟨d9,hp9,gd9,_⟩,b9⟩;rw [e0];exact⟨rfl,one_of (lo.bi b9).x2,rfl,⟨d9,hp9,gd9⟩,lo.bi b9,bi.trans b9⟩
   rintro V ⟨e1,hg,lo,bi⟩;refine⟨lo.x4,?_⟩;have:=run_end (r:=.no 0) hB (show W.heap.size≤W.heap.size+1+1 by omega) hg lo bi (own_none V W.heap.size) #[Vi 0,Vu 0,Vi 0,Vn];obtain⟨r9,h9⟩:=res
   cases e1
   exact this
  by_cases k4:o.kd=4
  ·have e0:res=match findM h q with
     | .no code=>(.no code,h)
     | .slot c s j=>(⟨0,0,usN c,[]⟩,h)
     | .range r=>(⟨0,0,r.pages*1024,[]⟩,h):=by rw [←hres,doM_4 cf h o q k4]
   have seen:=find_seen h q;refine im_run4 y.P _ _ _ o.kd o.ref o.p o.a o.b dd o.ys.length dc q res.1.size
    (fun t g fb V=>Below W.heap.size W V∧Lo y.P W.heap.size (W.heap.size+1) (W.heap.size+1+1) (opA o dd dc) V∧res=(⟨0,0,res.1.size,[]⟩,h)∧Calls Tryz.prog fb #[Vp g 0] V fun e V'=>e=.returned (Vi (res.1.size:Nat))∧V'=V)
    (fun V=>Below W.heap.size W V∧Lo y.P W.heap.size (W.heap.size+1) (W.heap.size+1+1) (opA o dd dc) V∧res=(⟨0,0,res.1.size,[]⟩,h)) W _ _ _ RF rfl rfl rfl h0 k4 TQ ?_ ?_ ?_
   ·intro V hV;refine (im_lookUp B y d cf h q V (HV V hV) ok.inv hq hrl).mono ?_;rintro e V' ⟨lk,b⟩;have bB:Below W.heap.size W V':=hV.1.trans (b.mono hV.1.size);have hpV:=hp.below bB
    cases hfd:findM h q with
    | no code =>
     rw [hfd] at lk e0
     cases lk
     exact .inl ⟨code,rfl,NO res code V V' hV e0 ⟨d.f,hpV⟩ (Bi.ofBelow b (HV V hV).bW)⟩
    | slot c s j =>
     rw [hfd] at lk e0 seen
     cases lk
     cases seen with
     | slot _ _ _ hc hs hj _ _ =>
     refine .inr ⟨133,_,107,rfl,.inl ⟨rfl,rfl⟩,bB,hV.2.below b,by rw [e0],?_⟩;rw [e0];exact im_susable _ _ c s j V' (hpV.scAt c s j hc hs hj)
    | range r =>
     rw [hfd] at lk e0 seen
     cases lk with
     | range _ g hg =>
     cases seen with
     | range _ hr hb hl =>
     obtain⟨r1,r2,r3,r4,r5,r6⟩:=ok.inv.rgs r hr;have hex:r.ext=r.guards+r.pages+1:=rfl;refine .inr ⟨145,_,214,rfl,.inr ⟨rfl,rfl⟩,bB,hV.2.below b,by rw [e0],?_⟩;rw [e0];exact im_lusable g r V' (hpV.lcOf ok.inv hr hg) (by omega)
   ·rintro t g fb V ⟨bB,lo,e1,C⟩;refine C.mono ?_;rintro e V' ⟨rfl,rfl⟩;exact⟨rfl,bB,lo,e1⟩
   rintro V ⟨bB,lo,e1⟩;refine⟨lo.x4,?_⟩;have:=run_end (r:=⟨0,0,res.1.size,[]⟩) hB (show W.heap.size≤W.heap.size+1+1 by omega) ⟨d,hp.below bB,gd⟩ lo (Bi.ofBelow bB hB) (own_none V W.heap.size) #[Vi 0,Vu 0,Vi (res.1.size:Nat),Vn];rw [←e1] at this;exact this
  by_cases k5:o.kd=5
  ·have e0:res=(if 4096 < o.a then (.no 6,h) else (⟨accC h.m q (o.a:Int),0,0,if accC h.m q (o.a:Int)=0 then loadB h.m q o.a else []⟩,h)):=by rw [←hres,doM_5 cf h o q k5]
   refine im_run5 y.P _ _ _ o.kd o.ref o.p o.a o.b dd o.ys.length dc q
    (fun v V=>(∃ f',Hp B y { d with f:=f' } cf h V)∧Lo y.P W.heap.size (W.heap.size+1) (W.heap.size+1+1) (opA o dd dc) V∧Bi B W V∧res=(⟨0,0,0,res.1.data⟩,h)∧V.ownsRow W.heap.size 5 1 v res.1.data.length (Ns .u8 res.1.data)) W _ _ _ RF rfl rfl rfl h0 k5 TQ ?_ ?_
   ·intro V hV;refine (im_hload B y d cf h q o.a V (HV V hV) ok.inv.out hq hoa).mono ?_;rintro e V' ⟨f',hf,bi,hc⟩;have b9:Bi B W V':=(Bi.ofBelow hV.1 hB).trans bi;have hle:W.heap.size≤V.heap.size:=hV.1.size
    by_cases hgt:4096 < o.a
    ·rw [if_pos hgt] at e0;rw [Nat.min_eq_right (show 4097≤o.a by omega),accC_far] at hc
     rcases hc with ⟨h1,_⟩|⟨_,rfl⟩
     ·cases h1
     exact .inl ⟨6,rfl,NO res 6 V V' hV e0 ⟨f',hf⟩ bi⟩
    rw [if_neg hgt] at e0;rw [Nat.min_eq_left (show o.a≤4097 by omega)] at hc
    rcases hc with ⟨h1,v,rfl,ow⟩|⟨h1,rfl⟩
    ·obtain⟨a9,n9,c9,rfl⟩:=own_sl4 ow;rw [if_pos h1] at e0 ow;rw [h1] at e0;refine .inr ⟨a9,n9,c9,rfl,⟨f',hf⟩,hV.2.bi bi,b9,by rw [e0],?_⟩;rw [e0];exact own_mono9 ow hle
    rw [if_neg h1] at e0;exact .inl ⟨_,rfl,NO res _ V V' hV e0 ⟨f',hf⟩ bi⟩
   rintro v V ⟨⟨f',hf⟩,lo,bi,e1,ow⟩;refine⟨lo.x4,?_⟩;have:=run_end (r:=⟨0,0,0,res.1.data⟩) hB (show W.heap.size≤W.heap.size+1+1 by omega) ⟨_,hf,gd.fr f'⟩ lo bi ow #[Vi 0,Vu 0,Vi 0,v];rw [←e1] at this;exact this
  by_cases k6:o.kd=6
  ·have e0:res=(.no (accC h.m q (o.ys.length:Int)),{ h with m:=if accC h.m q (o.ys.length:Int)=0 then storeM h.m q o.ys o.ys.length else h.m }):=by rw [←hres,doM_6 cf h o q k6]
   refine im_run6 y.P _ _ _ o.kd o.ref o.p o.a o.b dd o.ys.length dc q
    (fun V=>res.1=.no 0∧Hg B y cf res.2 (.slice va vn vc) V∧Lo y.P W.heap.size (W.heap.size+1) (W.heap.size+1+1) (opA o dd dc) V∧Bi B W V) W _ _ _ RF rfl rfl rfl h0 k6 TQ ?_ ?_
   ·intro V hV;refine (im_hstore B y d cf h q dd o.ys.length dc o.ys V (HV V hV) ok.inv.out hq (da.belowD hV.1) hdc).mono ?_;rintro e V' ⟨f',hf,bi,hc⟩;have b9:Bi B W V':=(Bi.ofBelow hV.1 hB).trans bi;have g9:Gd { d with f:=f' } { h with m:=if accC h.m q (o.ys.length:Int)=0 then storeM h.m q o.ys o.ys.length else h.m } (.slice va vn vc):=(gd.fr f').st (fun k=>by
     dsimp only
     split
     ·exact storeM_is _ _ _ _ _
     rfl)
    rcases hc with ⟨h1,rfl⟩|⟨h1,rfl⟩
    ·refine .inr ⟨rfl,?_⟩;rw [e0];exact⟨by rw [h1],⟨_,hf,g9⟩,hV.2.bi bi,b9⟩
    refine .inl ⟨_,rfl,_,e0,Hg.tk ⟨_,hf,g9⟩,hV.2.bi bi,b9⟩
   rintro V ⟨e1,hg,lo,bi⟩;refine⟨lo.x4,?_⟩;have:=run_end (r:=.no 0) hB (show W.heap.size≤W.heap.size+1+1 by omega) hg lo bi (own_none V W.heap.size) #[Vi 0,Vu 0,Vi 0,Vn];obtain⟨r9,h9⟩:=res
   cases e1
   exact this
  have e0:res=(.no 6,h):=by rw [←hres,doM_7 cf h o q k0 k1 k2 k3 k4 k5 k6]
  refine im_runN y.P _ _ _ o.kd o.ref o.p o.a o.b dd o.ys.length dc q W _ _ _ RF rfl rfl rfl h0 TQ (by omega) ?_;intro V hV;exact NO res 6 V V hV e0 ⟨d.f,HV V hV⟩ (Bi.refl _ _)
end Go.Proofs.YtgandbaejlfppaaGreatDoor
