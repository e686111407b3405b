import Derived.Deep.AppendSrc
import Derived.Test.YtgandbaejlfppaaGreatDoorN21
import Derived.Test.YtgandbaejlfppaaGreatDoorN23
namespace Go.Proofs.YtgandbaejlfppaaGreatDoor
set_option linter.unusedVariables false
set_option linter.unusedSimpArgs false
set_option maxRecDepth 20000
set_option maxHeartbeats 8000000
open Go.RowKit
def takeM (cf:Cf) (h:Hs) (p a old:Nat):An4×Hs :=
 match mallocM cf h a with
 | (none,h1)=>(.no 1,h1)
 | (some q,h1)=>(⟨0,q,0,[]⟩,freeM cf { h1 with m:=copyM h1.m p q (min old a) } (findM { h1 with m:=copyM h1.m p q (min old a) } p))
def malH (cf:Cf) (h:Hs) (a:Nat):An4×Hs:=(malA (mallocM cf h a).1,(mallocM cf h a).2)
theorem reallocM_eq (cf:Cf) (h:Hs) (p a:Nat):reallocM cf h p a=if p=0 then malH cf h a else match findM h p with
  | .no code=>(.no code,h)
  | .slot c s j=>if sound cf h c s j=false then (.no 5,h) else if a≤1016∧coN a=c then (⟨0,p,0,[]⟩,{ h with rq:=upd3 h.rq c s j a }) else takeM cf h p a (h.rq c s j).toNat
  | .range r=>if 1016 < a∧pagesN a=r.pages then (⟨0,p,0,[]⟩,{ h with rg:=h.rg.map fun x=>if x.base=r.base then { x with rq:=a } else x }) else takeM cf h p a r.rq.toNat:=by
 have e0:(match mallocM cf h a with
   | (none,h1)=>(An4.no 1,h1)
   | (some q,h1)=>(⟨0,q,0,[]⟩,h1))=malH cf h a:=by
  unfold malH
  cases mallocM cf h a with
  | mk o h1=>cases o <;> rfl
 unfold reallocM;dsimp only
 by_cases hp:p=0
 ·rw [if_pos hp,if_pos hp];exact e0
 rw [if_neg hp,if_neg hp]
 cases findM h p with
 | no code=>rfl
 | slot c s j=>rfl
 | range r=>rfl
theorem Area.le {h:Hs} {p n m:Nat} (A:Area h p n) (hm:m≤n):Area h p m:=by
 cases A with
 | slot c s j hc hs hj hp hl hn=>exact .slot c s j hc hs hj hp hl (Nat.le_trans hm hn)
 | range r hr hb hs hn=>exact .range r hr hb hs (Nat.le_trans hm hn)
theorem Inv.ltA {cf:Cf} {h:Hs} (i:Inv cf h) {p n:Nat} (A:Area h p n):p+n≤300000:=by
 cases A with
 | slot c s j hc hs hj hp hl hn =>
  have:=adr_in hc hs hj;omega
 | range r hr hb hs hn =>
  have h1:=i.rgs r hr;unfold Rg9.base at hb;unfold Rg9.ext at h1;omega
end Go.Proofs.YtgandbaejlfppaaGreatDoor
namespace Go.Proofs.YtgandbaejlfppaaGreatDoor
set_option linter.unusedVariables false
set_option linter.unusedSimpArgs false
set_option maxRecDepth 20000
set_option maxHeartbeats 8000000
open Go.RowKit Go.Maps
theorem Hp.setSlot {B:Nat} {y:Ly} {d:Dy} {cf:Cf} {h:Hs} {W W':World} (hp:Hp B y d cf h W) {c s j:Nat} (hc:c < 12) (hs:s < 6) (hj:j < slN c) (st' rq':Int) (g:W.grownBy W' (some (y.sm c s j))) (hb:W'.heap[y.sm c s j]?=some (.cells (smC st' rq' (y.sb c s) j) 137 (0,0))) :
  Hp B y d cf { h with st:=upd3 h.st c s j st',rq:=upd3 h.rq c s j rq' } W'∧Bi B W W':=by
 have hb0:=hp.sm c s j hc hs hj;have k:Ky (· = 137) W W':=Ky.grown hb0 rfl g;have bl:Below B W W':=(Below.refl B W).grown g hp.bW (fun r hr=>by simp at hr;have:=hp.ap.bsm c s j hc hs hj;omega);have hM:W'.heap[y.M]?=W.heap[y.M]?:=g.block _ hp.sp.lt.2 (fun e=>by
  simp at e;obtain⟨D,⟨es,c2,h2,_⟩,_⟩:=hp.sp.map;rw [e,hb0] at h2;cases h2)
 have hR:W'.heap[y.R]?=W.heap[y.R]?:=by
  obtain⟨es,c2,h2⟩:=hp.mp.typ;exact g.block _ (lt_blk h2) (fun e=>by simp at e;rw [e,hb0] at h2;cases h2)
 refine⟨⟨hp.ap,Nat.le_trans hp.bW bl.size,hp.box.ky k (by decide),hp.ds.belowB bl hp.ap.da,hp.sp.ky k (by decide) hM,hp.pg.ky k (by decide),hp.bf,
 fun c s hc hs=>k.cells _ _ _ _ (hp.sl c s hc hs) (by decide),fun c s hc hs=>row_ky (hp.rw c s hc hs) k (by decide),fun c' s' j' hc' hs' hj'=>?_,
 fun c hc=>(hp.wt c hc).ky k (by decide) (by decide) (by decide),hp.mp.same hR,hp.lo,fun r hr=>by obtain ⟨g,h1,h2,h3⟩:=hp.lb r hr;exact⟨g,h1,h2,k.cells _ _ _ _ h3 (by decide)⟩,hp.li,hp.ro.ky k (by decide),own_ky hp.rl k (by decide),hp.rr,hp.tb.belowB bl hp.ap.b0⟩,Bi.ofGrown hb0 (.inr (.inr (.inr (.inr (.inl rfl))))) (hp.ap.bsm c s j hc hs hj) hp.bW g⟩
 show W'.heap[y.sm c' s' j']?=some (.cells (smC (upd3 h.st c s j st' c' s' j') (upd3 h.rq c s j rq' c' s' j') (y.sb c' s') j') 137 (0,0))
 by_cases e:c'=c∧s'=s∧j'=j
 ·obtain⟨rfl,rfl,rfl⟩:=e;rw [upd3_same,upd3_same];exact hb
 rw [upd3_ne _ _ e,upd3_ne _ _ e];have h2:=hp.sm c' s' j' hc' hs' hj';rw [g.block _ (lt_blk h2) (fun e2=>by
  simp at e2;exact e (hp.ap.ism c' s' j' c s j hc' hs' hj' hc hs hj e2))]
 exact h2
theorem Hp.setSt1 {B:Nat} {y:Ly} {d:Dy} {cf:Cf} {h:Hs} {W:World} (hp:Hp B y d cf h W) {c s j:Nat} (hc:c < 12) (hs:s < 6) (hj:j < slN c) (st':Int) :
  Hp B y d cf { h with st:=upd3 h.st c s j st' } (W.setCell ⟨y.sm c s j,0,none⟩ (Vi st'))∧Bi B W (W.setCell ⟨y.sm c s j,0,none⟩ (Vi st')):=by
 have h2:=hp.sm c s j hc hs hj;have:=hp.setSlot hc hs hj st' (h.rq c s j) (W':=W.setCell ⟨y.sm c s j,0,none⟩ (Vi st')) (grown_set (grown_refl W (y.sm c s j)) 0 _) (by simp [World.setCell,Array.getElem?_modify,h2,smC]);rw [upd3_self h.rq rfl] at this;exact this
theorem Hp.setRec {B:Nat} {y:Ly} {d:Dy} {cf:Cf} {h:Hs} {W:World} (hp:Hp B y d cf h W) {c s j:Nat} (hc:c < 12) (hs:s < 6) (hj:j < slN c) (st' rq':Int) :
  Hp B y d cf { h with st:=upd3 h.st c s j st',rq:=upd3 h.rq c s j rq' } (W.setCells (y.sm c s j) 0 [Vi st',Vi rq'])∧Bi B W (W.setCells (y.sm c s j) 0 [Vi st',Vi rq']):=by
 have h2:=hp.sm c s j hc hs hj;refine hp.setSlot hc hs hj st' rq' ?_ ?_
 ·simp only [World.setCells];exact grown_set (grown_set (grown_refl W (y.sm c s j)) 0 _) _ _
 simp [World.setCells,World.setCell,Array.getElem?_modify,h2,smC]
inductive TaR (B:Nat) (y:Ly) (cf:Cf) (an:Value) (lg:Nat→Option Nat):Option Nat×Hs→Ending→World→Prop
 | slot (c s j:Nat) (h1:Hs) (W':World) (hc:c < 12) (hs:s < 6) (hj:j < slN c) (hl:h1.st c s j=1) (hg:Hgl B y cf h1 an lg W'):TaR B y cf an lg (some (adr c s j),h1) (.returned (.iface 133 (Vp (y.sm c s j) 0))) W'
 | range (r:Rg9) (g:Nat) (d:Dy) (h1:Hs) (W':World) (hr:r∈h1.rg) (hl:r.st=1) (hd:d.lg r.base=some g) (hp:Hp B y d cf h1 W') (gd:Gd d h1 an) (kl:Kl lg d):TaR B y cf an lg (some r.base,h1) (.returned (.iface 145 (Vp g 0))) W'
 | no (h1:Hs) (W':World) (tk:Tk B y cf h1 an W'):TaR B y cf an lg (none,h1) (.panicked (refV 1)) W'
def TaW (B:Nat) (y:Ly) (cf:Cf) (an:Value) (lg:Nat→Option Nat) (W:World) (r:Option Nat×Hs) (e:Ending) (W':World):Prop:=TaR B y cf an lg r e W'∧Bi B W W'
theorem Gd.st {d:Dy} {h:Hs} {an:Value} (g:Gd d h an) {h':Hs} (hm:∀ k,(h'.m k).isSome=(h.m k).isSome):Gd d h' an:=⟨fun c s hc hs=>by rw [g.on c s hc hs];exact (hm _).symm,g.un,g.an⟩
end Go.Proofs.YtgandbaejlfppaaGreatDoor
namespace Go.Proofs.YtgandbaejlfppaaGreatDoor
set_option linter.unusedVariables false
set_option linter.unusedSimpArgs false
set_option maxRecDepth 20000
set_option maxHeartbeats 8000000
open Go.RowKit Go.Maps
theorem zero22 (w:World):(zeroValue 23).run Tryz.prog w=.ok (Vu 0) w:=by kernel_rfl
theorem setCells_grown (w:World) (g:Nat):∀ (vs:List Value) (o:Nat) (w0:World),w0.grownBy w (some g)→w0.grownBy (w.setCells g o vs) (some g)
 | [],o,w0,h=>h
 | v::vs,o,w0,h=>by
  show w0.grownBy ((w.setCell ⟨g,o,none⟩ v).setCells g (o+1) vs) (some g)
  exact setCells_grown _ g vs (o+1) w0 (grown_set h o v)
theorem Ct.cells {g cap n:Nat} {l is:List Nat} {j:Nat} : ∀ (vs:List Value) (o:Nat) {W:World},Ct g cap n l is j W→is.length≤o→n≤j→Ct g cap n l is j (W.setCells g o vs)
 | [],o,W,h,_,_=>h
 | v::vs,o,W,h,ho,hn=>by
  show Ct g cap n l is j ((W.setCell ⟨g,o,none⟩ v).setCells g (o+1) vs)
  refine Ct.cells vs (o+1) ?_ (by omega) hn
  obtain⟨c,a1,a2,a3,a4⟩:=h.row
  refine⟨c.setIfInBounds o v,by simp [World.setCell,Array.getElem?_modify,a1],by simpa using a2,fun q hq=>?_,fun q h1 h2=>by omega⟩
  rw [Array.getElem?_setIfInBounds,if_neg (by omega)]
  exact a3 q hq
theorem Ct.own {B g cap n:Nat} {l is:List Nat} {j:Nat} {W:World} (h:Ct g cap n l is j W) (hB:B≤g) (hi:is.length≤cap) (hc:cap≤maxLen):W.ownsRow B 23 1 (Vl g is.length cap) is.length (Us is):=by
 obtain⟨c,a1,a2,a3,a4⟩:=h.row;refine⟨by simp [Us],.inr ⟨g,cap,c,rfl,hB,a1,hi,hc,by omega,?_⟩⟩;rw [Nat.mul_one];apply List.ext_getElem?;intro q
 by_cases hq:q < is.length
 ·rw [List.getElem?_take_of_lt hq,Array.getElem?_toList,a3 q hq];simp [Us,hq]
 rw [List.getElem?_eq_none (by simp;omega),List.getElem?_eq_none (by simp [Us];omega)]
def DlR (B:Nat) (va:Option Addr) (vn vc:Nat) (l':List Nat) (W:World) (e:Ending) (W':World):Prop:=∃ v',e=.returned v'∧W'.ownsRow B 23 1 v' l'.length (Us l')∧W.grownBy W' (Value.slice va vn vc).ownBlock∧v'.ownBlock=(Value.slice va vn vc).ownBlock
theorem grown_below {W V V':World} {o:Option Nat} (h:W.grownBy V o) (b:Below V.heap.size V V'):W.grownBy V' o:=⟨b.os.trans h.os,b.tape.trans h.tape,b.output.trans h.output,Nat.le_trans h.size b.size,fun k hk hne=>(b.block k (Nat.lt_of_lt_of_le hk h.size)).trans (h.block k hk hne)⟩
theorem im_deleteFunc (B:Nat) (L:Nat) (r:Rg9) (va:Option Addr) (vn vc:Nat) (l:List Nat) (W:World) (h:W.ownsRow B 23 1 (.slice va vn vc) l.length (Us l)) (hl:l.length≤100000) (hx:∀ x∈l,x < 18446744073709551616) (lc:Lc L r W) (hL:∃ c,W.heap[L]?=some (.cells c 158 (0,0))) :
  Calls Tryz.prog 103 #[.slice va vn vc,.func (.func 104) #[Vp L 0] #[]] W (DlR B va vn vc (l.filter fun x => !cov r x) W):=by
 have IX:=hid (im_indexFunc B L r va vn vc l W h hl hx lc);have hvn:=(us_cells h).1;subst hvn;have HO:=hid h;have HX:=hid hx;have HLc:=hid lc;have HL:=hid hL;clear h hx lc hL;go_enter Tryz.func103,Tryz.ntmps103;go_wp2_with fail;refine (IX.out).mono ?_;rintro e V ⟨bV,⟨rfl,hno⟩|⟨k,hk,rfl,hcv,hfirst⟩⟩
 ·have HF:=hid (show l.filter (fun x => !cov r x)=l by rw [List.filter_eq_self];intro x hx;rw [hno x hx];rfl);have BV:=hid bV;clear bV IX hno;go_wp2;go_ret;rw [HF.out];exact⟨_,rfl,own_bel HO.out BV.out,grown_below ⟨rfl,rfl,rfl,Nat.le_refl _,fun _ _ _=>rfl⟩ BV.out,rfl⟩
 obtain⟨g,hg⟩:=own_at HO.out (by omega);subst hg;have hrow:∃ cap cur,vc=cap∧B≤g∧W.heap[g]?=some (.cells cur 23 (0,0))∧l.length≤cap∧cap≤maxLen∧cur.size=cap∧cur.toList.take l.length=Us l:=by
  rcases HO.out.2 with ⟨e,_⟩|⟨g',cap,cur,e,h1,h2,h3,h4,h5,h6⟩
  ·cases e
  cases e
  exact⟨vc,cur,rfl,h1,h2,h3,h4,by omega,by simpa using h6⟩
 obtain⟨cap,cur,rfl,hB,hcur,hlc,hcm,hcs,htk⟩:=hrow;have CT0:Ct g vc l.length l (keepJ r l k) (k+1) V:=by
  refine⟨cur,(bV.block _ (lt_blk hcur)).trans hcur,hcs,fun q hq=>?_,fun q h1 h2=>?_⟩
  ·rw [keepJ_first r l k (by omega) hfirst] at hq ⊢;rw [List.length_take] at hq;have e1:(cur.toList.take l.length)[q]?=(Us l)[q]?:=by rw [htk]
   rw [List.getElem?_take_of_lt (by omega),Array.getElem?_toList] at e1;rw [e1,List.getElem?_take_of_lt (by omega)];simp [Us,show q < l.length by omega]
  have e1:(cur.toList.take l.length)[q]?=(Us l)[q]?:=by rw [htk]
  rw [List.getElem?_take_of_lt (by omega),Array.getElem?_toList] at e1;rw [e1];simp [Us,h2]
 have hk1:keepJ r l (k+1)=keepJ r l k:=by rw [keepJ_succ r l k hk,if_pos hcv,List.append_nil]
 have hkl:(keepJ r l k).length=k:=by rw [keepJ_first r l k (by omega) hfirst,List.length_take];omega
 have KL:=hid (fun j (h1:k < j) (h2:j≤l.length)=>keepJ_lt r l k j h1 h2 hcv);have GR0:=hid (grown_below (grown_refl W g) bV);have CT1:=hid (show Ct g vc l.length l (keepJ r l (k+1)) (k+1) V by rw [hk1];exact CT0);have HKL:=hid (show (keepJ r l (k+1)).length=k by rw [hk1];exact hkl);have KS:=hid (fun j h1=>keepJ_succ r l j h1);have KW:=hid (show keepJ r l l.length=l.filter (fun x => !cov r x) by unfold keepJ;rw [List.take_length]);have CV:=hid (fun U (hU:W.grownBy U (some g)) x (hx9:x < 18446744073709551616)=>im_covers L x r U (by
  obtain⟨c,hc⟩:=HL.out;have hne:L≠g:=fun e=>by rw [e,hcur] at hc;simp at hc
  have e1:U.heap[L]?=W.heap[L]?:=hU.block L (lt_blk hc) (by simpa using hne);have cc:∀ i,U.cell? ⟨L,i,none⟩=W.cell? ⟨L,i,none⟩:=fun i=>by unfold World.cell?;rw [e1]
  exact⟨(cc 0).trans HLc.out.c0,(cc 1).trans HLc.out.c1,(cc 2).trans HLc.out.c2,(cc 3).trans HLc.out.c3,(cc 4).trans HLc.out.c4,HLc.out.hf,HLc.out.hu,HLc.out.hp⟩) hx9)
 clear CT0 hk1 hkl IX bV HO hcur htk hcs HL HLc hfirst hcv;generalize hn:l.length=n at *;have HN:=hid hn;clear hn;have hne1:((k:Int) == -1)=false:=by simp <;> omega
 go_wp2;go_loopw [5,6] (fun i j wr=>∃ jj:Nat,k < jj∧jj≤n∧j=Vi jj∧i=Vi ((keepJ r l jj).length:Nat)∧Hid (Ct g vc n l (keepJ r l jj) jj wr)∧Hid (W.grownBy wr (some g))) (fun _ j _=>n - (intOf j).toNat)
 case atStart=>exact ⟨k+1,by omega,by omega,by go_num,by rw [HKL.out],CT1,GR0⟩
 case round =>
  clear CT1 GR0;obtain⟨j,hkj,hj,rfl,rfl,CT,GR⟩:=hrel
  by_cases hlt:j < n
  ·have hcell:=CT.out.cell (Nat.le_refl j) hlt;have hq9:l[j]?.getD 0 < 18446744073709551616:=HX.out _ (by rw [List.getElem?_eq_getElem (by rw [HN.out];exact hlt)];exact List.getElem_mem _);have HS:=hid (KS.out j hlt);have hkl:=keepJ_len r l j;generalize hq:l[j]?.getD 0=q at *;clear hq;have CVq:=hid (CV.out wr GR.out q hq9);rw [show (decide (r.first≤q/1024) && decide (q/1024 < r.first+r.ext))=cov r q from rfl] at CVq;generalize hks:keepJ r l j=is at *;clear hks;go_wp2_with fail;refine (CVq.out).mono ?_;rintro e U ⟨rfl,bU⟩;have CT2:=hid (CT.out.same (bU.block _ CT.out.lt));have GR2:=hid (grown_below GR.out bU);clear bU CVq hcell CT GR
   cases hcv:cov r q with
   | true =>
    have HS2:=hid (show keepJ r l (j+1)=is by rw [HS.out,hcv];simp);clear HS;go_wp2;go_roundw
    case rel=>exact ⟨j+1,by omega,by omega,by go_num,by rw [HS2.out],hid (by rw [HS2.out];exact CT2.out.skip),GR2⟩
    case measure=>simp [intOf];omega
   | false =>
    have HS2:=hid (show keepJ r l (j+1)=is++[q] by rw [HS.out,hcv];simp);obtain⟨v0,c0⟩:=CT2.out.anyC (q:=is.length) (by omega);have f0:=CT2.out.free is.length;have CT3:=hid (CT2.out.put q hkl hlt hlc);have GR3:=hid (grown_set GR2.out is.length (Vu (q:Nat)));have hii:(is.length:Int) < (n:Int):=by omega
    clear HS CT2 GR2;generalize hil:is.length=il at *;have HIL:=hid hil;clear hil;go_wp2;go_roundw
    case rel=>exact ⟨j+1,by omega,by omega,by go_num,by rw [HS2.out,List.length_append,HIL.out];simp,hid (by rw [HS2.out];exact CT3.out),GR3⟩
    case measure=>simp [intOf];omega
  obtain rfl:j=n:=by omega
  have hlk:=KL.out j hkj (Nat.le_refl _);generalize hks:keepJ r l j=is at *;have HKS:=hid hks;clear hks;have hcl:∀ ty,(Builtin.clear_ #[35] ty #[.slice (some ⟨g,is.length,none⟩) (j - is.length) (vc - is.length)]).run Tryz.prog wr=.ok (.tuple #[]) (wr.setCells g is.length (List.replicate (j - is.length) (Vu 0))) :=
   fun ty=>Lib.run_clear_slice wr 35 23 ty (Vu 0) Tryz.underlying35 zero22 rfl rfl g is.length _ _ (by omega) (fun q hq=>by obtain ⟨v,hv⟩:=CT.out.anyC (q:=is.length+q) (by omega);rw [hv];rfl) (fun q hq=>CT.out.free _)
  have CT5:=hid (CT.out.cells (List.replicate (j - is.length) (Vu 0)) is.length (Nat.le_refl _) (Nat.le_refl _));have GR5:=hid (setCells_grown wr g (List.replicate (j - is.length) (Vu 0)) is.length W GR.out);clear CT GR;generalize hil:is.length=il at *;have HIL:=hid hil;clear hil;go_wp2;go_ret;refine⟨_,rfl,?_,GR5.out,rfl⟩;have ho:=CT5.out.own hB (by rw [HIL.out];omega) hcm;rw [HIL.out] at ho;rw [←KW.out,HIL.out];exact ho
end Go.Proofs.YtgandbaejlfppaaGreatDoor
namespace Go.Proofs.YtgandbaejlfppaaGreatDoor
set_option linter.unusedVariables false
set_option linter.unusedSimpArgs false
set_option maxRecDepth 20000
set_option maxHeartbeats 8000000
open Go.RowKit Go.Maps
theorem turned_fr {W W':World} {R:Nat} (mt:W.mapTurned W' R):Fr R R (fun _=>none) (fun _=>none) W W':=(Fr.refl R R (fun _=>none) W).turned mt
theorem turned_ky {W W':World} {R:Nat} (mt:W.mapTurned W' R) (hR:∃ es c,W.heap[R]?=some (.map es c)):Ky (fun _=>False) W W':=by
 have f:=turned_fr mt;obtain⟨es,c,h1⟩:=hR;refine⟨f.os,f.tape,f.output,f.size,fun g cc t fr hg _=>?_⟩;have hne:g≠R:=fun e=>by rw [e,h1] at hg;cases hg
 rw [f.block g (lt_blk hg) hne hne (fun k hk=>by cases hk)];exact hg
theorem wpo_delete (tm tx:TypeId) {o:Oper} {a:Act} {W W':World} {K:Act→World→Prop} {Q:Exit→Act→World→Prop} (m x:Operand) {vm vx v:Value} (hop:o.op=Op.call { callee:=Callee.builtin Builtin.delete,args:=#[m,x],argTypes:=#[tm,tx] }) (hm:a.eval m=vm) (hx:a.eval x=vx)
  (hrun:(Builtin.delete_ #[tm,tx] o.type #[vm,vx]).run Tryz.prog W=.ok v W') (hK:K (a.put o.dst v) W'):Oper.wp Tryz.prog o a W K Q:=by
 unfold Oper.wp;simp [execOp,hop,resolve,invoke,builtin,hm,hx,hrun,Result.andThen];exact hK
theorem wpo_update (tm:TypeId) {o:Oper} {a:Act} {W W':World} {K:Act→World→Prop} {Q:Exit→Act→World→Prop} (m x u:Operand) {vm vx vu:Value} (hop:o.op=Op.mapUpdate tm m x u) (hm:a.eval m=vm) (hx:a.eval x=vx) (hu:a.eval u=vu)
  (hrun:(Instr.mapUpdate tm vm vx vu).run Tryz.prog W=.ok () W') (hK:K (a.put o.dst undef) W'):Oper.wp Tryz.prog o a W K Q:=by
 unfold Oper.wp;simp [execOp,hop,hm,hx,hu,hrun,Result.andThen];exact hK
theorem Ky.cellK {W W':World} (k:Ky (fun _=>False) W W') {g i:Nat} {v:Value} (h:W.cell? ⟨g,i,none⟩=some v):W'.cell? ⟨g,i,none⟩=some v:=by
 unfold World.cell? at h ⊢
 split at h
 case h_1 c t f hg =>
  rw [k.cells g c t f hg (fun e=>e)];exact h
 case h_2=>cases h
theorem Hp.turn {B:Nat} {y:Ly} {d:Dy} {cf:Cf} {h:Hs} {W W':World} (hp:Hp B y d cf h W) (mt:W.mapTurned W' y.R) (lg':Nat→Option Nat) (rg':List Rg9) (mr:Mr y.R rg'.length lg' W') (lo:∀ k,(lg' k).isSome=rg'.any fun r=>r.base==k) (lb:∀ r∈rg',∃ g,lg' r.base=some g∧B≤g∧W.heap[g]?=some (.cells (lgC r) 158 (0,0))) (li:∀ k k' g,lg' k=some g→lg' k'=some g→k=k') :
  Hp B y { d with lg:=lg' } cf { h with rg:=rg' } W'∧Bi B W W':=by
 have f:=turned_fr mt;have k:=turned_ky mt hp.mp.typ;have bl:Below B W W':=⟨f.os,f.tape,f.output,f.size,fun g hg=>f.block g (Nat.lt_of_lt_of_le hg hp.bW) (by have:=hp.ap.bR;omega) (by have:=hp.ap.bR;omega) (fun j hj=>by cases hj)⟩;have hM:W'.heap[y.M]?=W.heap[y.M]?:=f.block _ hp.sp.lt.2 hp.ap.mr hp.ap.mr (fun j hj=>by cases hj);exact⟨⟨hp.ap,Nat.le_trans hp.bW bl.size,hp.box.ky k (fun e=>e),hp.ds.belowB bl hp.ap.da,hp.sp.ky k (fun e=>e) hM,hp.pg.ky k (fun e=>e),hp.bf,
 fun c s hc hs=>k.cells _ _ _ _ (hp.sl c s hc hs) (fun e=>e),fun c s hc hs=>row_ky (hp.rw c s hc hs) k (fun e=>e),fun c s j hc hs hj=>k.cells _ _ _ _ (hp.sm c s j hc hs hj) (fun e=>e),
 fun c hc=>(hp.wt c hc).ky k (fun e=>e) (fun e=>e) (fun e=>e),mr,lo,fun r hr=>by obtain ⟨g,h1,h2,h3⟩:=lb r hr;exact⟨g,h1,h2,k.cells _ _ _ _ h3 (fun e=>e)⟩,li,hp.ro.ky k (fun e=>e),own_ky hp.rl k (fun e=>e),hp.rr,hp.tb.belowB bl hp.ap.b0⟩,bl,k.more (fun t e=>e.elim)⟩
theorem Hp.addR {B:Nat} {y:Ly} {d:Dy} {cf:Cf} {h:Hs} {W W':World} (hp:Hp B y d cf h W) {r:Rg9} {L:Nat} (hL:W.heap[L]?=some (.cells (lgC r) 158 (0,0))) (hBL:B≤L) (hnew:∀ k,d.lg k≠some L) (h0:d.lg r.base=none) (mr:Mr y.R (h.rg.length+1) (upd d.lg r.base (some L)) W') (mt:W.mapTurned W' y.R) :
  Hp B y { d with lg:=upd d.lg r.base (some L) } cf { h with rg:=h.rg++[r] } W'∧Bi B W W':=by
 refine hp.turn mt _ (h.rg++[r]) (by rw [List.length_append];exact mr) (fun k=>?_) (fun r' hr'=>?_) (fun k k' g h1 h2=>?_)
 ·rw [List.any_append]
  by_cases e:k=r.base
  ·subst e;rw [upd_same];simp
  rw [upd_other _ _ _ _ e,hp.lo k];have:(r.base==k)=false:=by simp;omega
  simp [this]
 ·rcases List.mem_append.1 hr' with h1|h1
  ·obtain⟨g,a1,a2,a3⟩:=hp.lb r' h1;have hne:r'.base≠r.base:=fun e=>by rw [e,h0] at a1;cases a1
   exact⟨g,by rw [upd_other _ _ _ _ hne];exact a1,a2,a3⟩
  have:r'=r:=by simpa using h1
  subst this;exact⟨L,upd_same _ _ _,hBL,hL⟩
 by_cases e:k=r.base
 ·subst e;rw [upd_same] at h1
  cases h1
  by_cases e':k'=r.base
  ·exact e'.symm
  rw [upd_other _ _ _ _ e'] at h2;exact absurd h2 (hnew k')
 rw [upd_other _ _ _ _ e] at h1
 by_cases e':k'=r.base
 ·subst e';rw [upd_same] at h2
  cases h2
  exact absurd h1 (hnew k)
 rw [upd_other _ _ _ _ e'] at h2;exact hp.li k k' g h1 h2
theorem Hp.backR {B:Nat} {y:Ly} {d:Dy} {cf:Cf} {h:Hs} {W W':World} {r:Rg9} {L:Nat} {lg:Nat→Option Nat} (hp:Hp B y d cf { h with rg:=h.rg++[r] } W) (hd:d.lg=upd lg r.base (some L)) (h0:lg r.base=none) (lo:∀ k,(lg k).isSome=h.rg.any fun r=>r.base==k) (mr:Mr y.R h.rg.length (upd d.lg r.base none) W') (mt:W.mapTurned W' y.R) :
  Hp B y { d with lg:=lg } cf h W'∧Bi B W W':=by
 have e1:upd d.lg r.base none=lg:=by
  rw [hd]
  funext k
  by_cases e:k=r.base
  ·subst e;rw [upd_same,h0]
  rw [upd_other _ _ _ _ e,upd_other _ _ _ _ e]
 rw [e1] at mr;have ne:∀ r'∈h.rg,r'.base≠r.base:=fun r' hr' e=>by
  have:=lo r'.base;rw [e,h0] at this;have h2:h.rg.any (fun x=>x.base==r.base)=true:=List.any_eq_true.2 ⟨r',hr',by simp [e]⟩;rw [h2] at this
  cases this
 exact hp.turn mt lg h.rg mr lo (fun r' hr'=>by
  obtain⟨g,a1,a2,a3⟩:=hp.lb r' (List.mem_append_left _ hr');rw [hd,upd_other _ _ _ _ (ne r' hr')] at a1;exact⟨g,a1,a2,a3⟩) (fun k k' g h1 h2=>by
  have q:∀ k,lg k=some g→d.lg k=some g:=fun k hk=>by
   rw [hd]
   by_cases e:k=r.base
   ·subst e;rw [h0] at hk;cases hk
   rw [upd_other _ _ _ _ e];exact hk
  exact hp.li k k' g (q k h1) (q k' h2))
theorem im_undoR (B:Nat) (y:Ly) (d:Dy) (cf:Cf) (h:Hs) (r:Rg9) (L X2 X5:Nat) (lg:Nat→Option Nat) (W:World) (hp:Hp B y d cf { h with rg:=h.rg++[r] } W) (hd:d.lg=upd lg r.base (some L)) (h0:lg r.base=none) (lo:∀ k,(lg k).isSome=h.rg.any fun r=>r.base==k) (lc:Lc L r W) (hb:r.base < 18446744073709551616)
  (x2:W.cell? ⟨X2,0,none⟩=some (Vp y.P 0)) (x5:W.cell? ⟨X5,0,none⟩=some (Vp L 0)) :
  Calls Tryz.prog 102 #[Vp X2 0,Vp X5 0] W fun e W'=>e=.returned (.tuple #[])∧Hp B y { d with lg:=lg } cf h W'∧Bi B W W':=by
 have c115:W.cell? ⟨y.P,115,none⟩=some (.map (some y.R)):=hp.cell 115 (by omega) _ rfl;have LB:=hid (fun V (hV:Below W.heap.size W V)=>im_lbase L r V (lc.below hV));have HPB:=hid (fun V (hV:Below W.heap.size W V)=>hp.below hV);have BKR:=hid (fun V W' (hV:Below W.heap.size W V) (mr:Mr y.R h.rg.length (upd d.lg r.base none) W') (mt:V.mapTurned W' y.R)=>(hp.below hV).backR hd h0 lo mr mt);have HBW:=hid hp.bW;have HDL:=hid (show ((d.lg r.base).isSome=true) by rw [hd,upd_same];rfl);have CK:=hid (show ∀ V,Below W.heap.size W V→V.cell? ⟨X2,0,none⟩=some (Vp y.P 0)∧V.cell? ⟨X5,0,none⟩=some (Vp L 0)∧V.cell? ⟨y.P,115,none⟩=some (.map (some y.R)) from fun V hV=>⟨below_cell hV x2,below_cell hV x5,below_cell hV c115⟩);clear hp hd h0 lo lc x2 x5 c115;go_enter Tryz.func102,Tryz.ntmps102;go_wp2;refine wp_region_held (S:=fun W9=>W9.cell? ⟨X2,0,none⟩=some (Vp y.P 0)∧W9.cell? ⟨X5,0,none⟩=some (Vp L 0)∧W9.cell? ⟨y.P,115,none⟩=some (.map (some y.R))) (by kernel_rfl) ?_;simp only [List.size_toArray,List.length_cons,List.length_nil,Nat.reduceAdd,Array.replicate_succ,Array.replicate_zero,List.push_toArray,List.nil_append,List.cons_append];have hS:=CK.out _ (Below.refl _ _).drew
 iterate 5 (refine py hS ?_;simp only [f0,f1,Nat.reduceAdd,lz,l0,ls])
 refine po 5 fun K' hK=>?_
 go_simp;refine (LB.out _ (Below.refl _ _).drew).mono ?_;rintro e U1 ⟨rfl,rfl⟩;have h1:=CK.out W.drew.drew (Below.refl _ _).drew.drew;refine hK.out _ _ ⟨h1,?_⟩;clear hS;have hS:=h1;clear hK K';refine po 6 fun K' hK=>?_
 obtain⟨U2,hdel,mr2,mt2⟩:=(HPB.out W.drew.drew (Below.refl _ _).drew.drew).mp.del r.base hb 0;have K2:=hid ((turned_ky mt2 (HPB.out W.drew.drew (Below.refl _ _).drew.drew).mp.typ));have c1:=K2.out.cellK h1.1;have c2:=K2.out.cellK h1.2.1;have c3:=K2.out.cellK h1.2.2;refine wpo_delete 71 23 (.tmp 5) (.tmp 7) (vm:=.map (some y.R)) (vx:=Vu (r.base:Nat)) (by kernel_rfl) (by kernel_rfl) (by kernel_rfl) hdel ?_;refine hK.out _ _ ⟨⟨c1,c2,c3⟩,?_⟩;refine wpAnyH_done (by kernel_rfl) ?_ _;have FF:=hid (BKR.out _ U2 (Below.refl _ _).drew.drew (by
   have:=mr2;rw [if_pos HDL.out] at this;simpa using this) mt2)
 have F2:=hid (show Bi B W U2 from ((Bi.refl B W).add (Below.refl _ _).drew.drew HBW.out).trans FF.out.2);clear mr2 mt2 hdel K2 c1 c2 c3 h1 hS BKR CK LB HPB;go_wp2
 go_end0
 exact⟨rfl,FF.out.1,F2.out⟩
theorem im_takeBackR (B:Nat) (y:Ly) (d:Dy) (cf:Cf) (h:Hs) (r:Rg9) (L X2 X5:Nat) (lg:Nat→Option Nat) (W:World) (hp:Hp B y d cf { h with rg:=h.rg++[r] } W) (hd:d.lg=upd lg r.base (some L)) (h0:lg r.base=none) (lo:∀ k,(lg k).isSome=h.rg.any fun r=>r.base==k) (lc:Lc L r W) (hb:r.base < 18446744073709551616)
  (x2:W.cell? ⟨X2,0,none⟩=some (Vp y.P 0)) (x5:W.cell? ⟨X5,0,none⟩=some (Vp L 0)) (hu:d.un=.func (.func 102) #[] #[Vp X2 0,Vp X5 0]) :
  Calls Tryz.prog 31 #[Vp y.P 0] W fun e W'=>e=.returned (.tuple #[])∧Hp B y { d with lg:=lg,un:=.nilFunc } cf h W'∧Bi B W W':=by
 have UR:=hid (im_undoR B y d cf h r L X2 X5 lg W hp hd h0 lo lc hb x2 x5);have c120:=hp.cell 120 (by omega) _ rfl;have e120:∀ u,boxF cf y d u 120=d.un:=fun _=>rfl
 rw [e120,hu] at c120;have nq:=fun w=>neq_func (.func 102) #[] #[Vp X2 0,Vp X5 0] w
 have HU:=hid hu;clear hp hd h0 lo lc x2 x5 e120 hu;go_enter Tryz.func31,Tryz.ntmps31;go_wp2_with fail;refine (UR.out).mono ?_;rintro e W2 ⟨rfl,h2,b2⟩;have c1:=h2.cell 120 (by omega) (.func (.func 102) #[] #[Vp X2 0,Vp X5 0]) (by show d.un=_;exact HU.out);have st1:=storeNil _ _ y.P 120 c1 (h2.box.free 120);have H2:=hid (h2.setDy 120 .nilFunc { d with lg:=lg,un:=.nilFunc } (.inr ⟨rfl,rfl⟩));have B2:=hid (b2.trans (h2.bi118 120 .nilFunc));clear UR h2 b2;go_wp2
 go_end0
 exact⟨rfl,H2.out,B2.out⟩
theorem Hp.rows {B:Nat} {y:Ly} {d:Dy} {cf:Cf} {h:Hs} {W W':World} (hp:Hp B y d cf h W) (k:Ky (fun t=>t=23∨t=73) W W') (bl:Below B W W') (hM:W'.heap[y.M]?=W.heap[y.M]?) (hR:W'.heap[y.R]?=W.heap[y.R]?) (ro rl:Value) (row rel:List Nat) (bx:Bxh y.P (boxF cf y { d with ro:=ro,rl:=rl } h.used) W') (h1:Um B W' ro row) (h2:W'.ownsRow B 23 1 rl rel.length (Us rel)) (h3:∀ g,umBlock ro=some g→rl.ownBlock≠some g) :
  Hp B y { d with ro:=ro,rl:=rl } cf { h with row:=row,rel:=rel } W' :=
 ⟨hp.ap,Nat.le_trans hp.bW bl.size,bx,hp.ds.belowB bl hp.ap.da,hp.sp.ky k (by decide) hM,hp.pg.ky k (by decide),hp.bf,
 fun c s hc hs=>k.cells _ _ _ _ (hp.sl c s hc hs) (by decide),fun c s hc hs=>row_ky (hp.rw c s hc hs) k (by decide),fun c s j hc hs hj=>k.cells _ _ _ _ (hp.sm c s j hc hs hj) (by decide),
 fun c hc=>(hp.wt c hc).ky k (by decide) (by decide) (by decide),hp.mp.same hR,hp.lo,fun r hr=>by obtain ⟨g,h1,h2,h3⟩:=hp.lb r hr;exact⟨g,h1,h2,k.cells _ _ _ _ h3 (by decide)⟩,hp.li,h1,h2,h3,hp.tb.belowB bl hp.ap.b0⟩
theorem umBlock_um {B:Nat} {W:World} {v:Value} {l:List Nat} (h:Um B W v l) {g:Nat} (hg:umBlock v=some g):B≤g∧∃ c,W.heap[g]?=some (.cells c 23 (0,0)):=by
 rcases h with ⟨rfl,_⟩|⟨g',o,cap,c,rfl,h2,h3,_⟩
 ·cases hg
 cases hg
 exact⟨h2,c,h3⟩
theorem Um.kept {B:Nat} {W W':World} {v:Value} {l:List Nat} (h:Um B W v l) {r:Option Nat} (hg:W.grownBy W' r) (hne:∀ g,umBlock v=some g→r≠some g):Um B W' v l:=by
 rcases h with h|⟨g,o,cap,c,rfl,h2,h3,h4⟩
 ·exact .inl h
 exact .inr ⟨g,o,cap,c,rfl,h2,by rw [hg.block g (lt_blk h3) (fun e=>hne g rfl e.symm)];exact h3,h4⟩
structure Gw (B:Nat) (y:Ly) (W W1:World):Prop where
 k:Ky (· = 23) W W1
 bl:Below B W W1
 m:W1.heap[y.M]?=W.heap[y.M]?
 r:W1.heap[y.R]?=W.heap[y.R]?
theorem Hp.gw {B:Nat} {y:Ly} {d:Dy} {cf:Cf} {h:Hs} {W W1:World} (hp:Hp B y d cf h W) {o:Option Nat} (ho:∀ g,o=some g→B≤g∧∃ c,W.heap[g]?=some (.cells c 23 (0,0))) (g:W.grownBy W1 o):Gw B y W W1:=by
 refine⟨Ky.grownO (fun P hP=>by obtain ⟨_,c,hc⟩:=ho P hP;exact⟨c,23,(0,0),hc,rfl⟩) g,(Below.refl B W).grown g hp.bW (fun r hr=>(ho r hr).1),?_,?_⟩
 ·refine g.block _ hp.sp.lt.2 (fun e=>?_);obtain⟨_,c,hc⟩:=ho _ e.symm;obtain⟨D,⟨es,c2,h2,_⟩,_⟩:=hp.sp.map;rw [hc] at h2;cases h2
 obtain⟨es,c2,h2⟩:=hp.mp.typ;refine g.block _ (lt_blk h2) (fun e=>?_);obtain⟨_,c,hc⟩:=ho _ e.symm;rw [hc] at h2;cases h2
theorem Gw.bi {B:Nat} {y:Ly} {W W1:World} (g:Gw B y W W1):Bi B W W1:=⟨g.bl,g.k.more (fun t e=>by subst e;unfold hI;decide)⟩
theorem Hp.setRl {B:Nat} {y:Ly} {d:Dy} {cf:Cf} {h:Hs} {W W1:World} (hp:Hp B y d cf h W) {v':Value} {l':List Nat} (own:W1.ownsRow B 23 1 v' l'.length (Us l')) (g:W.grownBy W1 d.rl.ownBlock) (ho:∀ g,umBlock d.ro=some g→v'.ownBlock≠some g) :
  Hp B y { d with rl:=v' } cf { h with rel:=l' } (W1.setCell ⟨y.P,117,none⟩ v')∧Bi B W (W1.setCell ⟨y.P,117,none⟩ v')∧W1.cell? ⟨y.P,117,none⟩=some d.rl∧W1.frozen? ⟨y.P,117,none⟩=false:=by
 have gw:=hp.gw (fun g hg=>own_lt hp.rl hg) g;have bx:=hp.box.ky gw.k (by decide);have bx2:=bx.set 117 (by omega) v';rw [boxF_dy cf y d h.used 117 v' { d with rl:=v' } (.inr (.inl ⟨rfl,rfl⟩))] at bx2;have hu:=hp.ro.kept g (fun g1 hg1=>hp.rr g1 hg1);have kS:=bx.kyS 117 v';have bS:Below B W1 (W1.setCell ⟨y.P,117,none⟩ v'):=(Below.refl B W1).grown (grown_set (grown_refl W1 y.P) _ _) (Nat.le_trans hp.bW gw.bl.size) (fun r hr=>by simp at hr;have:=hp.ap.bP;omega);have hM:(W1.setCell ⟨y.P,117,none⟩ v').heap[y.M]?=W1.heap[y.M]?:=Below.heap_setCell _ _ _ _ (fun e=>by
  obtain⟨c,h1,_⟩:=hp.box;obtain⟨D,⟨es,c2,h2,_⟩,_⟩:=hp.sp.map;rw [e,h1] at h2;cases h2)
 have hR:(W1.setCell ⟨y.P,117,none⟩ v').heap[y.R]?=W1.heap[y.R]?:=Below.heap_setCell _ _ _ _ (fun e=>by
  obtain⟨c,h1,_⟩:=hp.box;obtain⟨es,c2,h2⟩:=hp.mp.typ;rw [e,h1] at h2;cases h2)
 have c0:=bx.cell 117 (by omega);refine⟨hp.rows ((gw.k.more (fun t e=>.inl e)).trans (kS.more (fun t e=>.inr e))) (gw.bl.trans bS) (hM.trans gw.m) (hR.trans gw.r) d.ro v' h.row l' bx2 (hu.ky kS (by decide)) (own_ky own kS (by decide)) ho,gw.bi.trans ⟨bS,kS.more (fun t e=>by subst e;unfold hI;decide)⟩,c0,bx.free 117⟩
end Go.Proofs.YtgandbaejlfppaaGreatDoor
namespace Go.Proofs.YtgandbaejlfppaaGreatDoor
set_option linter.unusedVariables false
set_option linter.unusedSimpArgs false
set_option maxRecDepth 20000
set_option maxHeartbeats 8000000
open Go.RowKit Go.Maps
theorem wpo_append (t:TypeId) {o:Oper} {a:Act} {W W':World} {K:Act→World→Prop} {Q:Exit→Act→World→Prop} (s x:Operand) {v v2 v':Value} (hop:o.op=.call { callee:=.builtin .append,args:=#[s,x],argTypes:=#[t,t] }) (ht:o.type=t) (hs:a.eval s=v) (hx:a.eval x=v2)
  (hr:(Builtin.append_ #[t,t] t #[v,v2]).run Tryz.prog W=.ok v' W') (hK:K (a.put o.dst v') W'):Oper.wp Tryz.prog o a W K Q:=by
 unfold Oper.wp;simp [execOp,hop,ht,resolve,invoke,builtin,hs,hx,hr,Result.andThen];exact hK
theorem um_new (W:World) (B:Nat) (l:List Nat) (cap:Nat) (hc:l.length≤cap) (hm:cap≤maxLen) (hB:B≤W.heap.size) :
  Um B (W.drew.alloc (.cells ((Us l).toArray++Builtin.zeroCells (Value.int .u64 0).cells (cap - l.length)) 23)) (Vl W.heap.size l.length cap) l:=by
 have hb:=al_last W.drew (.cells ((Us l).toArray++Builtin.zeroCells (Value.int .u64 0).cells (cap - l.length)) 23);have hz:(Builtin.zeroCells (Value.int .u64 0).cells (cap - l.length))=Array.replicate (cap - l.length) (Vu 0):=by
  apply Array.ext';simp [Builtin.zeroCells,Value.cells,Nat.mod_one];rw [List.map_const',List.length_range]
 refine .inr ⟨W.heap.size,0,cap,_,rfl,hB,hb,?_,hc,hm,?_,?_⟩
 ·simp [hz,Us_len];omega
 ·intro u hu;simp [hz,Us] at hu
  rcases hu with ⟨n,_,rfl⟩|⟨_,rfl⟩ <;> rfl
 intro i hi;rw [Nat.zero_add,Array.getElem?_append_left (by simp [Us_len];exact hi)];simp [Us,hi]
theorem um_app (B:Nat) (W:World) (v:Value) (l:List Nat) (x:Nat) (g c:Nat) (hu:Um B W v l) (hx:W.cell? ⟨g,0,none⟩=some (Vu (x:Nat))) (hl:l.length≤100000) (hB:B≤W.heap.size) :
  ∃ v' W',(Builtin.append_ #[35,35] 35 #[v,Vl g 1 c]).run Tryz.prog W=.ok v' W'∧Um B W' v' (l++[x])∧W.grownBy W' (umBlock v)∧(umBlock v'=umBlock v∨umBlock v'=some W.heap.size)∧∃ a cap,v'=.slice a (l.length+1) cap:=by
 obtain⟨i0,hi0,hz0,hz1,hz2⟩:=info_parts info22;have src:=Src.ofSlice (P:=Tryz.prog) W (size:=i0.size) Tryz.underlying35 ⟨g,0,none⟩ 1 c [Vu (x:Nat)] (by rw [hz1];rfl) (fun j u hj=>by
  cases j with
  | zero=>simp at hj;subst hj;rw [Addr.add_mid];exact hx
  | succ j=>simp at hj) (fun u hu=>by simp at hu;subst hu;rfl)
 have grow:∀ (base:Option Addr) (cap:Nat),(Builtin.firstCells i0.size l.length (.slice base l.length cap)).run Tryz.prog W.drew=.ok (Us l).toArray W.drew→cap < l.length+1→∀ row,
   ∃ v' W',(Builtin.append_ #[35,35] 35 #[.slice base l.length cap,Vl g 1 c]).run Tryz.prog W=.ok v' W'∧Um B W' v' (l++[x])∧W.grownBy W' row∧(umBlock v'=some W.heap.size)∧∃ a cap,v'=.slice a (l.length+1) cap:=fun base cap hold hg row=>by
  have hr:=run_append_grow_src (P:=Tryz.prog) W 35 35 35 23 i0 (Vu 0) Tryz.underlying35 hi0 hz0 base l.length cap (Us l) hold _ 1 _ src hg (by omega) (growslice_fits hg (by rw [hz2];omega))
  refine⟨_,_,hr,?_,?_,rfl,_,_,rfl⟩
  ·have:=um_new W B (l++[x]) (grownCap W (l.length+1) cap 23) (by rw [List.length_append];exact grownCap_ge _ _ _ _) (grownCap_le_maxLen _ _ _ _ (by unfold maxLen;omega)) hB;rw [Us_snoc,List.length_append] at this;exact this
  exact⟨rfl,rfl,rfl,by rw [al_size];exact Nat.le_succ _,fun k hk _=>al_old W.drew _ k hk⟩
 rcases hu with ⟨rfl,rfl⟩|⟨b,o,cap,cc,rfl,h2,h3,h4,h5,h6,h7,h8⟩
 ·obtain⟨v',W',e1,e2,e3,e4,e5⟩:=grow none 0 (run_firstCells_none W.drew i0.size 0 0 0) (by simp) none;exact⟨v',W',e1,e2,e3,.inr e4,e5⟩
 have cl:∀ i,i < l.length→W.cell? ⟨b,o+i,none⟩=some (Vu ((l[i]?.getD 0:Nat):Int)):=fun i hi=>by rw [cell_of_row _ _ _ _ _ _ h3];exact h8 i hi
 by_cases hroom:l.length+1≤cap
 ·have hr:=run_append_room_src (P:=Tryz.prog) W 35 35 35 23 i0 Tryz.underlying35 hi0 b o l.length cap _ 1 _ src hroom (fun j hj=>by
   have:j=0:=by simpa using hj
   subst this;rw [cell_of_row _ _ _ _ _ _ h3,hz1,Array.getElem?_eq_getElem (by omega)];rfl) (fun j hj=>by simp [World.frozen?,h3])
  refine⟨_,_,hr,?_,?_,.inl rfl,_,_,rfl⟩
  ·have hb:(W.setCell ⟨b,o+l.length,none⟩ (Vu (x:Nat))).heap[b]?=some (.cells (cc.setIfInBounds (o+l.length) (Vu (x:Nat))) 23 (0,0)):=by simp [World.setCell,Array.getElem?_modify,h3]
   rw [hz1,Nat.mul_one];refine .inr ⟨b,o,cap,_,by rw [List.length_append];rfl,h2,hb,by simpa using h4,by rw [List.length_append];exact hroom,h6,?_,?_⟩
   ·intro u hu;rw [Array.toList_setIfInBounds] at hu
    rcases List.mem_or_eq_of_mem_set hu with h|rfl
    ·exact h7 u h
    rfl
   intro i hi;rw [List.length_append,List.length_singleton] at hi;rw [Array.getElem?_setIfInBounds]
   by_cases e:o+l.length=o+i
   ·rw [if_pos e,if_pos (by omega)];have:i=l.length:=by omega
    subst this;simp
   rw [if_neg e,h8 i (by omega),List.getElem?_append_left (by omega)]
  rw [hz1,Nat.mul_one];exact grown_set (grown_refl W b) _ _
 obtain⟨v',W',e1,e2,e3,e4,e5⟩:=grow (some ⟨b,o,none⟩) cap (by
  rw [hz1];exact run_firstCells_some W.drew 1 l.length ⟨b,o,none⟩ l.length cap (Us l) (by rw [Us_len,Nat.mul_one]) (fun j u hj=>by
   rw [Addr.add_mid];have hjl:j < l.length:=by
    have:=(List.getElem?_eq_some_iff.1 hj).1;rw [Us_len] at this;exact this
   have:=cl j hjl;simp [Us,hjl] at hj this;rw [←hj];exact this)) (by omega) (some b)
 exact⟨v',W',e1,e2,e3,.inr e4,e5⟩
theorem um_tail {B:Nat} {W:World} {g o n cap:Nat} {l:List Nat} (hu:Um B W (.slice (some ⟨g,o,none⟩) n cap) l) (h2:2≤l.length):n=l.length∧n≤cap∧Um B W (.slice (some ⟨g,o+1,none⟩) (n - 1) (cap - 1)) l.tail∧W.cell? ⟨g,o,none⟩=some (Vu ((l[0]?.getD 0:Nat):Int)):=by
 rcases hu with ⟨e,rfl⟩|⟨b,o',cap',cc,e,h2,h3,h4,h5,h6,h7,h8⟩
 ·simp at h2
 simp at e;obtain⟨⟨rfl,rfl⟩,rfl,rfl⟩:=e;refine⟨rfl,h5,.inr ⟨g,o+1,cap - 1,cc,by rw [List.length_tail],h2,h3,by omega,by rw [List.length_tail];omega,by omega,h7,fun i hi=>?_⟩,?_⟩
 ·rw [List.length_tail] at hi;rw [show o+1+i=o+(i+1) by omega,h8 (i+1) (by omega)];simp
 rw [cell_of_row _ _ _ _ _ _ h3];have:=h8 0 (by omega);simpa using this
theorem um_slice {B:Nat} {W:World} {v:Value} {l:List Nat} (hu:Um B W v l) (h1:1≤l.length):∃ g o cap,v=.slice (some ⟨g,o,none⟩) l.length cap∧l.length≤cap:=by
 rcases hu with ⟨e,rfl⟩|⟨b,o',cap',cc,e,h2,h3,h4,h5,_⟩
 ·simp at h1
 exact⟨b,o',cap',e,h5⟩
theorem um_slice0 {B:Nat} {W:World} {v:Value} {l:List Nat} (hu:Um B W v l):∃ a cap,v=.slice a l.length cap:=by
 rcases hu with ⟨e,rfl⟩|⟨b,o',cap',cc,e,h2,h3,h4,h5,_⟩
 ·exact⟨none,0,e⟩
 exact⟨_,cap',e⟩
theorem Hp.setRo {B:Nat} {y:Ly} {d:Dy} {cf:Cf} {h:Hs} {W W1:World} (hp:Hp B y d cf h W) {v':Value} {row':List Nat} (um:Um B W1 v' row') (g:W.grownBy W1 (umBlock d.ro)) (ho:∀ g,umBlock v'=some g→d.rl.ownBlock≠some g) :
  Hp B y { d with ro:=v' } cf { h with row:=row' } (W1.setCell ⟨y.P,116,none⟩ v')∧Bi B W (W1.setCell ⟨y.P,116,none⟩ v')∧W1.cell? ⟨y.P,116,none⟩=some d.ro∧W1.frozen? ⟨y.P,116,none⟩=false:=by
 have gw:=hp.gw (fun g hg=>umBlock_um hp.ro hg) g;have bx:=hp.box.ky gw.k (by decide);have bx2:=bx.set 116 (by omega) v';rw [boxF_dy cf y d h.used 116 v' { d with ro:=v' } (.inl ⟨rfl,rfl⟩)] at bx2;have hu:=own_kept hp.rl g (fun g1 hg1 e=>hp.rr g1 e hg1);have kS:=bx.kyS 116 v';have bS:Below B W1 (W1.setCell ⟨y.P,116,none⟩ v'):=(Below.refl B W1).grown (grown_set (grown_refl W1 y.P) _ _) (Nat.le_trans hp.bW gw.bl.size) (fun r hr=>by simp at hr;have:=hp.ap.bP;omega);have hM:(W1.setCell ⟨y.P,116,none⟩ v').heap[y.M]?=W1.heap[y.M]?:=Below.heap_setCell _ _ _ _ (fun e=>by
  obtain⟨c,h1,_⟩:=hp.box;obtain⟨D,⟨es,c2,h2,_⟩,_⟩:=hp.sp.map;rw [e,h1] at h2;cases h2)
 have hR:(W1.setCell ⟨y.P,116,none⟩ v').heap[y.R]?=W1.heap[y.R]?:=Below.heap_setCell _ _ _ _ (fun e=>by
  obtain⟨c,h1,_⟩:=hp.box;obtain⟨es,c2,h2⟩:=hp.mp.typ;rw [e,h1] at h2;cases h2)
 exact⟨hp.rows ((gw.k.more (fun t e=>.inl e)).trans (kS.more (fun t e=>.inr e))) (gw.bl.trans bS) (hM.trans gw.m) (hR.trans gw.r) v' d.rl row' h.rel bx2 (um.ky kS (by decide)) (own_ky hu kS (by decide)) ho,gw.bi.trans ⟨bS,kS.more (fun t e=>by subst e;unfold hI;decide)⟩,bx.cell 116 (by omega),bx.free 116⟩
def setR (rg:List Rg9) (b:Nat) (st rq:Int):List Rg9:=rg.map fun x=>if x.base=b then { x with st:=st,rq:=rq } else x
theorem setR_base (b:Nat) (st rq:Int) (x:Rg9):(if x.base=b then { x with st:=st,rq:=rq } else x:Rg9).base=x.base:=by split <;> rfl
theorem Hp.setLg {B:Nat} {y:Ly} {d:Dy} {cf:Cf} {h:Hs} {W W':World} (hp:Hp B y d cf h W) {r:Rg9} (hr:r∈h.rg) (hu:∀ x∈h.rg,x.base=r.base→x=r) {L:Nat} (hL:d.lg r.base=some L) (st rq:Int) (g:W.grownBy W' (some L)) (hb:W'.heap[L]?=some (.cells (lgC { r with st:=st,rq:=rq }) 158 (0,0))) :
  Hp B y d cf { h with rg:=setR h.rg r.base st rq } W'∧Bi B W W':=by
 obtain⟨L',e1,hBL,hb0⟩:=hp.lb r hr;rw [hL] at e1
 cases e1
 have k:Ky (· = 158) W W':=Ky.grown hb0 rfl g;have bl:Below B W W':=(Below.refl B W).grown g hp.bW (fun r hr=>by simp at hr;omega);have hM:W'.heap[y.M]?=W.heap[y.M]?:=g.block _ hp.sp.lt.2 (fun e=>by
  simp at e;obtain⟨D,⟨es,c2,h2,_⟩,_⟩:=hp.sp.map;rw [e,hb0] at h2;cases h2)
 have hR:W'.heap[y.R]?=W.heap[y.R]?:=by
  obtain⟨es,c2,h2⟩:=hp.mp.typ;exact g.block _ (lt_blk h2) (fun e=>by simp at e;rw [e,hb0] at h2;cases h2)
 have hlen:(setR h.rg r.base st rq).length=h.rg.length:=by simp [setR]
 have mp9:=hp.mp.same hR;rw [←hlen] at mp9;refine⟨⟨hp.ap,Nat.le_trans hp.bW bl.size,hp.box.ky k (by decide),hp.ds.belowB bl hp.ap.da,hp.sp.ky k (by decide) hM,hp.pg.ky k (by decide),hp.bf,
 fun c s hc hs=>k.cells _ _ _ _ (hp.sl c s hc hs) (by decide),fun c s hc hs=>row_ky (hp.rw c s hc hs) k (by decide),fun c' s' j' hc' hs' hj'=>k.cells _ _ _ _ (hp.sm c' s' j' hc' hs' hj') (by decide),
 fun c hc=>(hp.wt c hc).ky k (by decide) (by decide) (by decide),mp9,fun q=>?_,fun x hx=>?_,hp.li,hp.ro.ky k (by decide),own_ky hp.rl k (by decide),hp.rr,hp.tb.belowB bl hp.ap.b0⟩,bl,k.more (fun t e=>by subst e;unfold hI;decide)⟩
 ·show (d.lg q).isSome=(setR h.rg r.base st rq).any fun r=>r.base==q
  rw [hp.lo q];unfold setR;rw [List.any_map];congr 1
  funext x
  show _=((if x.base=r.base then { x with st:=st,rq:=rq } else x:Rg9).base==q);rw [setR_base]
 obtain⟨x0,hx0,rfl⟩:=List.mem_map.1 hx;rw [setR_base]
 by_cases e:x0.base=r.base
 ·have:=hu x0 hx0 e;subst this;rw [if_pos rfl];exact⟨L,hL,hBL,hb⟩
 rw [if_neg e];obtain⟨g',a1,a2,a3⟩:=hp.lb x0 hx0;refine⟨g',a1,a2,?_⟩;rw [g.block _ (lt_blk a3) (fun e2=>by simp at e2;rw [e2] at a1;exact e (hp.li _ _ _ a1 hL))];exact a3
theorem Hp.cutR {B:Nat} {y:Ly} {d:Dy} {cf:Cf} {h:Hs} {W W':World} (hp:Hp B y d cf h W) (b:Nat) (hb:(d.lg b).isSome=true) (hnd:∃ r∈h.rg,r.base=b) (mr:Mr y.R (h.rg.length - 1) (upd d.lg b none) W') (mt:W.mapTurned W' y.R) (hlen:h.rg.length - 1≤(h.rg.filter fun x=>x.base≠b).length) :
  Hp B y { d with lg:=upd d.lg b none } cf { h with rg:=h.rg.filter fun x=>x.base≠b } W'∧Bi B W W':=by
 refine hp.turn mt _ (h.rg.filter fun x=>x.base≠b) ?_ (fun k=>?_) (fun r' hr'=>?_) (fun k k' g h1 h2=>?_)
 ·obtain⟨D,h1,h2,h3⟩:=mr.map;exact⟨D,h1,Nat.le_trans h2 hlen,h3⟩
 ·by_cases e:k=b
  ·subst e;rw [upd_same];simp
  rw [upd_other _ _ _ _ e,hp.lo k,List.any_filter];congr 1
  funext x
  by_cases e2:x.base=k
  ·have:x.base≠b:=fun e3=>e (e2.symm.trans e3)
   simp [e2,e]
  simp [e2]
 ·obtain⟨h1,h2⟩:=List.mem_filter.1 hr';have hne:r'.base≠b:=by simpa using h2
  rw [upd_other _ _ _ _ hne];exact hp.lb r' h1
 have q:∀ k,upd d.lg b none k=some g→d.lg k=some g:=fun k hk=>by
  by_cases e:k=b
  ·subst e;rw [upd_same] at hk;cases hk
  rw [upd_other _ _ _ _ e] at hk;exact hk
 exact hp.li k k' g (q k h1) (q k' h2)
theorem app_us_at (W:World) (B:Nat) (v:Value) (l:List Nat) (x:Nat) (g c:Nat) (hown:W.ownsRow B 23 1 v l.length (Us l)) (hx:W.cell? ⟨g,0,none⟩=some (Vu (x:Nat))) (hl:l.length≤100000) (hB:B≤W.heap.size) :
  ∃ v' w',(Builtin.append_ #[35,35] 35 #[v,Vl g 1 c]).run Tryz.prog W=.ok v' w'∧w'.ownsRow B 23 1 v' (l++[x]).length (Us (l++[x]))∧W.grownBy w' v.ownBlock∧(v'.ownBlock=v.ownBlock∨v'.ownBlock=some W.heap.size):=by
 obtain⟨i0,hi0,hz0,hz1,hz2⟩:=info_parts info22;obtain⟨v',w',e1,e2,e3,_,e5⟩:=run_append_own_at (P:=Tryz.prog) W B 35 35 23 i0 _ 1 8 Tryz.underlying35 hi0 hz0 hz1 hz2 rfl (by omega) v _ _ hown ⟨g,0,none⟩ 1 c [Vu (x:Nat)] rfl (fun j u hj=>by
  cases j with
  | zero=>simp at hj;subst hj;rw [Addr.add_mid];exact hx
  | succ j=>simp at hj) (fun u hu=>by simp at hu;subst hu;rfl) (by unfold maxLen;omega) (by omega) hB
 exact⟨v',w',e1,by rw [List.length_append,Us_snoc];exact e2,e3,e5⟩
theorem cut_len {rg:List Rg9} (hp:rg.Pairwise fun a b=>a.first+a.ext≤b.first∨b.first+b.ext≤a.first) (b:Nat):rg.length - 1≤(rg.filter fun x=>x.base≠b).length:=by
 induction rg with
 | nil=>simp
 | cons r l ih =>
  obtain⟨h1,h2⟩:=List.pairwise_cons.1 hp
  by_cases e:r.base=b
  ·have:(l.filter fun x=>x.base≠b)=l:=by
    rw [List.filter_eq_self];intro x hx;have:=h1 x hx;have e1:x.ext=x.guards+x.pages+1:=rfl;have e2:r.ext=r.guards+r.pages+1:=rfl;have hne:x.base≠b:=fun e3=>by
     have e4:(r.first+r.guards)*1024=(x.first+x.guards)*1024:=e.trans e3.symm;omega
    simpa using hne
   rw [List.filter_cons_of_neg (by simp [e]),this];simp
  rw [List.filter_cons_of_pos (by simp [e])];have:=ih h2;simp only [List.length_cons];omega
end Go.Proofs.YtgandbaejlfppaaGreatDoor
