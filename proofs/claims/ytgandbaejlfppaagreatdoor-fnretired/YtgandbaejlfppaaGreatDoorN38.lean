import Derived.Test.YtgandbaejlfppaaGreatDoorN31
namespace Go.Proofs.YtgandbaejlfppaaGreatDoor
set_option linter.unusedVariables false
set_option linter.unusedSimpArgs false
set_option maxRecDepth 20000
set_option maxHeartbeats 8000000
open Go.RowKit Go.Maps
def slV (sm:Nat→Nat) (n:Nat):List Value:=(List.range n).map fun j=>Vp (sm j) 0
theorem slV_snoc (sm:Nat→Nat) (n x:Nat):slV (fun k=>if k=n then x else sm k) (n+1)=slV sm n++[Vp x 0]:=by
 unfold slV;rw [List.range_succ,List.map_append];congr 1
 ·refine List.map_congr_left fun k hk=>?_
  have:=List.mem_range.1 hk;have e:¬k=n:=by omega
  simp [e]
 simp
structure Sl9 (B g c s n:Nat) (sm:Nat→Nat) (v:Value) (W:World):Prop where
 box:W.heap[g]?=some (.cells #[Vi (c:Nat),Vi (s:Nat),.bool false,v] 132 (0,0))
 row:W.ownsRow B 133 1 v n (slV sm n)
 sms:∀ j,j < n→W.heap[sm j]?=some (.cells (smC 0 0 g j) 137 (0,0))∧B≤sm j
 inj:∀ i j,i < n→j < n→sm i=sm j→i=j
 bg:B≤g
theorem Sl9.ky {S:TypeId→Prop} {B g c s n:Nat} {sm:Nat→Nat} {v:Value} {W W':World} (h:Sl9 B g c s n sm v W) (k:Ky S W W') (h1:¬S 132) (h2:¬S 133) (h3:¬S 137):Sl9 B g c s n sm v W' :=
 ⟨k.cells _ _ _ _ h.box h1,own_ky h.row k h2,fun j hj=>⟨k.cells _ _ _ _ (h.sms j hj).1 h3,(h.sms j hj).2⟩,h.inj,h.bg⟩
theorem Sl9.below {B g c s n:Nat} {sm:Nat→Nat} {v:Value} {W W':World} (h:Sl9 B g c s n sm v W) (b:Below W.heap.size W W'):Sl9 B g c s n sm v W' :=
 h.ky (Ky.below b:Ky (fun _=>False) W W') (fun e=>e) (fun e=>e) (fun e=>e)
theorem Sl9.add {B g c s n:Nat} {sm:Nat→Nat} {v:Value} {V:World} (h:Sl9 B g c s n sm v V) (hB:B≤V.heap.size) (hn:n≤100) :
  ∃ v' w4,(Builtin.append_ #[130,130] 130 #[v,Vl (V.heap.size+1) 1 1]).run Tryz.prog ((V.alloc (.cells (smC 0 0 g n) 137)).alloc (.cells #[Vp V.heap.size 0] 133))=.ok v' w4∧w4.cell? ⟨g,3,none⟩=some v∧w4.frozen? ⟨g,3,none⟩=false∧Sl9 B g c s (n+1) (fun k=>if k=n then V.heap.size else sm k) v' (w4.setCell ⟨g,3,none⟩ v')∧Below B V (w4.setCell ⟨g,3,none⟩ v'):=by
 obtain⟨i0,hi0,hz0,hz1,hz2⟩:=info_parts info186;obtain⟨V1,hV1⟩:∃ V1,V1=V.alloc (.cells (smC 0 0 g n) 137):=⟨_,rfl⟩;obtain⟨V2,hV2⟩:∃ V2,V2=V1.alloc (.cells #[Vp V.heap.size 0] 133):=⟨_,rfl⟩;have s1:V1.heap.size=V.heap.size+1:=by rw [hV1];exact al_size _ _
 have b1:Below V.heap.size V V1:=by rw [hV1];exact (Below.refl _ _).alloc (Nat.le_refl _) _
 have b2:Below V1.heap.size V1 V2:=by rw [hV2];exact (Below.refl _ _).alloc (Nat.le_refl _) _
 have l1:V1.heap[V.heap.size]?=some (.cells (smC 0 0 g n) 137 (0,0)):=by rw [hV1];exact al_last _ _
 have l2:V2.heap[V.heap.size]?=some (.cells (smC 0 0 g n) 137 (0,0)):=below_at l1 b2;have l3:V2.heap[V.heap.size+1]?=some (.cells #[Vp V.heap.size 0] 133 (0,0)):=by rw [hV2,←s1];exact al_last _ _
 have h2:=(h.below b1).below b2;have hB2:B≤V2.heap.size:=Nat.le_trans (Nat.le_trans hB b1.size) b2.size;rw [←hV1,←hV2];obtain⟨v',w4,e4,o4,g4,_⟩:=run_append_own (P:=Tryz.prog) V2 B 130 130 133 i0 (.pointer none) 1 8 Tryz.underlying130 hi0 hz0 hz1 hz2 rfl (by omega) v n (slV sm n) h2.row ⟨V.heap.size+1,0,none⟩ 1 1 [Vp V.heap.size 0] rfl (fun j u hj=>by
  cases j with
  | zero=>simp at hj;subst hj;rw [Addr.add_mid];exact one_of l3
  | succ j=>simp at hj) (fun u hu=>by simp at hu;subst hu;rfl) (by unfold maxLen;omega) (by omega) hB2
 have k4:Ky (· = 133) V2 w4:=Ky.grownO (fun P hP=>by obtain ⟨_,c,hc⟩:=own_lt h2.row hP;exact⟨c,133,_,hc,rfl⟩) g4;have bx4:=k4.cells _ _ _ _ h2.box (by decide);have k5:Ky (· = 132) w4 (w4.setCell ⟨g,3,none⟩ v'):=Ky.grown bx4 rfl (grown_set (grown_refl w4 g) 3 v');refine⟨v',w4,e4,by simp [World.cell?,bx4],by simp [World.frozen?,bx4],⟨by simp [World.setCell,Array.getElem?_modify,bx4],?_,fun j hj=>?_,fun i j hi hj e=>?_,h.bg⟩,?_⟩
 ·rw [slV_snoc];exact own_ky o4 k5 (by decide)
 ·by_cases e:j=n
  ·rw [if_pos e,e];exact⟨k5.cells _ _ _ _ (k4.cells _ _ _ _ l2 (by decide)) (by decide),hB⟩
  rw [if_neg e];have:=h2.sms j (by omega);exact⟨k5.cells _ _ _ _ (k4.cells _ _ _ _ this.1 (by decide)) (by decide),this.2⟩
 ·by_cases e1:i=n
  ·by_cases e2:j=n
   ·omega
   rw [if_pos e1,if_neg e2] at e;have:=lt_blk (h.sms j (by omega)).1;omega
  by_cases e2:j=n
  ·rw [if_neg e1,if_pos e2] at e;have:=lt_blk (h.sms i (by omega)).1;omega
  rw [if_neg e1,if_neg e2] at e;exact h.inj i j (by omega) (by omega) e
 exact (((b1.mono hB).trans (b2.mono (Nat.le_trans hB b1.size))).grown g4 hB2 (fun P hP=>(own_lt h2.row hP).1)).setCell h.bg _
structure Slb (B:Nat) (W:World) (c s g r cap:Nat) (sm:Nat→Nat):Prop where
 box:W.heap[g]?=some (.cells (sbC c s false r (slN c) cap) 132 (0,0))
 row:RowV W r 133 ((List.range (slN c)).map fun j=>Vp (sm j) 0)
 sms:∀ j,j < slN c→W.heap[sm j]?=some (.cells (smC 0 0 g j) 137 (0,0))∧B≤sm j
 inj:∀ i j,i < slN c→j < slN c→sm i=sm j→i=j
 bg:B≤g
 br:B≤r
theorem Sl9.done {B g c s:Nat} {sm:Nat→Nat} {v:Value} {W:World} (h:Sl9 B g c s (slN c) sm v W) (hc:c < 12):∃ r cap,Slb B W c s g r cap sm:=by
 have hz:=szN_in hc
 rcases h.row.2 with ⟨_,h0⟩|⟨r,cap,cur,rfl,h1,h2,h3,h4,h5,h6⟩
 ·omega
 exact⟨r,cap,h.box,RowV.ofOwns h.row,h.sms,h.inj,h.bg,h1⟩
theorem im_newSlab (c s:Nat) (hc:c < 12) (W:World) (tb:Tb W) :
  Calls Tryz.prog 29 #[Vi (c:Nat),Vi (s:Nat)] W fun e W'=>∃ g r cap sm,e=.returned (Vp g 0)∧Slb W.heap.size W' c s g r cap sm∧Below W.heap.size W W':=by
 have hz:=szN_in hc;have SS:=hid (fun V (hV:Below W.heap.size W V)=>im_SlabSlots (c:Nat) V (tb.ofBelow hV));rw [sl_c hc] at SS;have HD:=hid (fun B g sm v V (h:Sl9 B g c s (slN c) sm v V)=>h.done hc);have N0:=hid (show Sl9 W.heap.size W.heap.size c s 0 (fun _=>0) (Vn) (W.alloc (.cells #[Vi (c:Nat),Vi (s:Nat),.bool false,Vn] 132)) from ⟨al_last W _,⟨rfl,.inl ⟨rfl,rfl⟩⟩,fun j hj=>by omega,fun i j hi=>by omega,Nat.le_refl _⟩);have b0:Below W.heap.size W (W.alloc (.cells #[Vi (c:Nat),Vi (s:Nat),.bool false,Vn] 132)):=(Below.refl _ _).alloc (Nat.le_refl _) _;have B0:=hid b0;clear b0 tb;have hle:slN c≤64:=by omega
 generalize slN c=n at *;clear hz;go_enter Tryz.func29,Tryz.ntmps29;go_wp2_with fail;refine (SS.out _ B0.out).mono ?_;rintro e V ⟨rfl,hVV⟩;rw [hVV];clear hVV V SS;generalize W.alloc (.cells #[Vi (c:Nat),Vi (s:Nat),.bool false,Vn] 132)=V0 at *;obtain⟨g,hg⟩:∃ g,g=W.heap.size:=⟨_,rfl⟩;rw [←hg];have N1:=hid (show Sl9 W.heap.size g c s 0 (fun _=>0) (Vn) V0 by rw [hg];exact N0.out);clear N0 hg;go_wp2;go_loopw [13] (fun i wr=>∃ (k:Nat) (sm:Nat→Nat) (v:Value),k≤n∧i=Vi k∧Hid (Sl9 W.heap.size g c s k sm v wr)∧Hid (Below W.heap.size W wr)) (fun i _=>n - (intOf i).toNat)
 case atStart=>exact ⟨0,_,_,Nat.zero_le _,rfl,N1,B0⟩
 case round =>
  clear N1 B0;obtain⟨k,sm,v,hk,rfl,HS,HB⟩:=hrel
  by_cases hlt:k < n
  ·obtain⟨va,vn,vc,rfl⟩:=own_sl4 HS.out.row;obtain⟨v',w4,happ,c3,f3,S4,b4⟩:=HS.out.add HB.out.size (by omega);obtain⟨wa,wn,wc,rfl⟩:=own_sl4 S4.row;have HN:=hid (And.intro S4 (HB.out.trans b4));have c30:wr.cell? ⟨g,3,none⟩=some (.slice va vn vc):=by simp [World.cell?,HS.out.box]
   clear S4 b4;unfold smC at happ;go_wp2_with (at_builtin;refine list_app rfl _ _ rfl rfl rfl rfl happ ?_);go_wp2;go_roundw
   case rel=>exact ⟨k+1,_,_,by omega,by go_num,hid HN.out.1,hid HN.out.2⟩
   case measure=>simp [intOf];omega
  obtain rfl:k=n:=by omega
  go_wp2;go_ret;obtain⟨r,cap,hd⟩:=HD.out _ _ _ _ _ HS.out;exact⟨g,r,cap,sm,rfl,hd,HB.out⟩
end Go.Proofs.YtgandbaejlfppaaGreatDoor
namespace Go.Proofs.YtgandbaejlfppaaGreatDoor
set_option linter.unusedVariables false
set_option linter.unusedSimpArgs false
set_option maxRecDepth 20000
set_option maxHeartbeats 8000000
open Go.RowKit Go.Maps
structure Sb9 where
 g:Nat
 r:Nat
 cap:Nat
 sm:Nat→Nat
structure Qb9 where
 m:Nat
 r:Nat
 g:Nat
 q:Nat
def qcN (mix:Nat) (q:Qb9) (k:Nat):Value:=if k=0 then Vp q.m 0 else if k=1 then Vp q.g 0 else if mix=0 then .iface 65 (Vp q.g 0) else .iface 64 (Vp q.m 0)
def boxN (cf:Cf) (da:Option Addr) (dc S R:Nat) (fl:Nat→Sb9) (qs:Nat→Qb9) (k w:Nat) (i:Nat):Value :=
 if i < 7 then ([Vi (cf.mix:Nat),Vi (cf.fifo:Nat),Vi (cf.large:Nat),Vi (cf.bud:Nat),Vu cf.key,.slice da cf.ds.length dc,Vp S 0]:List Value)[i]?.getD undef
 else if i < 79 then (if i - 7 < k then Vp ((fl (i - 7)).g) 0 else .pointer none)
 else if i < 115 then (if (i - 79)/3 < w then qcN cf.mix (qs ((i - 79)/3)) ((i - 79) % 3) else if (i - 79) % 3=2 then .nilIface else .pointer none)
 else ([.map (some R),Vn,Vn,Vi 0,Vn,.nilFunc]:List Value)[i - 115]?.getD undef
structure Nh (B P S M R:Nat) (da:Option Addr) (dc:Nat) (cf:Cf) (fl:Nat→Sb9) (qs:Nat→Qb9) (k w:Nat) (W:World):Prop where
 box:Bxh P (boxN cf da dc S R fl qs k w) W
 bW:B≤W.heap.size
 ds:Sl W da cf.ds
 dab:∀ a,da=some a→a.block < B
 sp:Im S M 0 283 (cf.bud:Nat) (fun _=>none) W
 mp:Mr R 0 (fun _=>none) W
 bP:B≤P
 bS:B≤S
 bM:B≤M
 bR:B≤R
 mr:M≠R
 sl:∀ i,i < k→Slb B W (i/6) (i % 6) (fl i).g (fl i).r (fl i).cap (fl i).sm
 is:∀ i j,i < k→j < k→i≠j→(fl i).g≠(fl j).g∧∀ a b,a < slN (i/6)→b < slN (j/6)→(fl i).sm a≠(fl j).sm b
 wt:∀ c,c < w→Qr W (qs c).m (qs c).r (qs c).g (qs c).q cf.fifo (List.replicate cf.mix (-1)) []∧B≤(qs c).m∧B≤(qs c).r∧B≤(qs c).g∧B≤(qs c).q
 iq:∀ c c',c < w→c' < w→c≠c'→(qs c).r≠(qs c').r∧(qs c).r≠(qs c').q∧(qs c).q≠(qs c').q∧(qs c).g≠(qs c').g
 tb:Tb W
 b0:0 < B
theorem Slb.ky {S:TypeId→Prop} {B:Nat} {W W':World} {c s g r cap:Nat} {sm:Nat→Nat} (h:Slb B W c s g r cap sm) (k:Ky S W W') (h1:¬S 132) (h2:¬S 133) (h3:¬S 137):Slb B W' c s g r cap sm :=
 ⟨k.cells _ _ _ _ h.box h1,row_ky h.row k h2,fun j hj=>⟨k.cells _ _ _ _ (h.sms j hj).1 h3,(h.sms j hj).2⟩,h.inj,h.bg,h.br⟩
theorem Slb.mono {B B':Nat} {W:World} {c s g r cap:Nat} {sm:Nat→Nat} (h:Slb B W c s g r cap sm) (hb:B'≤B):Slb B' W c s g r cap sm :=
 ⟨h.box,h.row,fun j hj=>⟨(h.sms j hj).1,Nat.le_trans hb (h.sms j hj).2⟩,h.inj,Nat.le_trans hb h.bg,Nat.le_trans hb h.br⟩
theorem Nh.below {B P S M R:Nat} {da:Option Addr} {dc:Nat} {cf:Cf} {fl:Nat→Sb9} {qs:Nat→Qb9} {k w:Nat} {W W':World} (h:Nh B P S M R da dc cf fl qs k w W) (b:Below W.heap.size W W'):Nh B P S M R da dc cf fl qs k w W':=by
 have ky:Ky (fun _=>False) W W':=Ky.below b;obtain⟨es,c,hR⟩:=h.mp.typ;exact⟨h.box.ky ky (fun e=>e),Nat.le_trans h.bW b.size,h.ds.below b,h.dab,h.sp.ky ky (fun e=>e) (b.block _ h.sp.lt.2),h.mp.same (b.block _ (lt_blk hR)),h.bP,h.bS,h.bM,h.bR,h.mr,fun i hi=>(h.sl i hi).ky ky (fun e=>e) (fun e=>e) (fun e=>e),h.is,fun c hc=>⟨(h.wt c hc).1.ky ky (fun e=>e) (fun e=>e) (fun e=>e),(h.wt c hc).2⟩,h.iq,h.tb.ofBelow b,h.b0⟩
theorem Nh.setP {B P S M R:Nat} {da:Option Addr} {dc:Nat} {cf:Cf} {fl:Nat→Sb9} {qs:Nat→Qb9} {k w:Nat} {W:World} (h:Nh B P S M R da dc cf fl qs k w W) (j:Nat) (v:Value):Ky (· = 73) W (W.setCell ⟨P,j,none⟩ v)∧Below B W (W.setCell ⟨P,j,none⟩ v)∧(W.setCell ⟨P,j,none⟩ v).heap[M]?=W.heap[M]?∧(W.setCell ⟨P,j,none⟩ v).heap[R]?=W.heap[R]?:=by
 have nM:M≠P:=fun e=>by
  obtain⟨c,h1,_⟩:=h.box;obtain⟨D,⟨es,c2,h2,_⟩,_⟩:=h.sp.map;rw [e,h1] at h2;cases h2
 have nR:R≠P:=fun e=>by
  obtain⟨c,h1,_⟩:=h.box;obtain⟨es,c2,h2⟩:=h.mp.typ;rw [e,h1] at h2;cases h2
 exact⟨h.box.kyS j v,(Below.refl B W).setCell h.bP _,Below.heap_setCell _ _ _ _ nM,Below.heap_setCell _ _ _ _ nR⟩
theorem Nh.addS {B P S M R:Nat} {da:Option Addr} {dc:Nat} {cf:Cf} {fl:Nat→Sb9} {qs:Nat→Qb9} {k w:Nat} {V W:World} (h:Nh B P S M R da dc cf fl qs k w V) (b:Below V.heap.size V W) {g r cap:Nat} {sm:Nat→Nat} (hs:Slb V.heap.size W (k/6) (k % 6) g r cap sm) (hk:k < 72) :
  Nh B P S M R da dc cf (fun i=>if i=k then ⟨g,r,cap,sm⟩ else fl i) qs (k+1) w (W.setCell ⟨P,7+k,none⟩ (Vp g 0)):=by
 have h2:=h.below b;obtain⟨k1,b1,m1,r1⟩:=h2.setP (7+k) (Vp g 0);have hB:=h.bW;have bx:=h2.box.set (7+k) (by omega) (Vp g 0);have eF:updF (boxN cf da dc S R fl qs k w) (7+k) (Vp g 0)=boxN cf da dc S R (fun i=>if i=k then ⟨g,r,cap,sm⟩ else fl i) qs (k+1) w:=by
  funext i
  unfold updF boxN
  by_cases e:i=7+k
  ·subst e;rw [if_pos rfl,if_neg (by omega),if_pos (by omega),if_pos (by omega)];simp
  rw [if_neg e]
  by_cases h7:i < 7
  ·rw [if_pos h7,if_pos h7]
  rw [if_neg h7,if_neg h7]
  by_cases h79:i < 79
  ·rw [if_pos h79,if_pos h79]
   by_cases hlt:i - 7 < k
   ·rw [if_pos hlt,if_pos (by omega)];simp [show ¬(i - 7=k) by omega]
   rw [if_neg hlt,if_neg (by omega)]
  rw [if_neg h79,if_neg h79]
 rw [eF] at bx;refine⟨bx,Nat.le_trans h2.bW b1.size,h2.ds.belowB b1 h.dab,h.dab,h2.sp.ky k1 (by decide) m1,h2.mp.same r1,h.bP,h.bS,h.bM,h.bR,h.mr,fun i hi=>?_,fun i j hi hj hne=>?_,fun c hc=>⟨(h2.wt c hc).1.ky k1 (by decide) (by decide) (by decide),(h2.wt c hc).2⟩,h.iq,h2.tb.belowB b1 h.b0,h.b0⟩
 ·by_cases e:i=k
  ·subst e;simp only [if_pos];exact (hs.mono hB).ky k1 (by decide) (by decide) (by decide)
  simp only [if_neg e];exact (h2.sl i (by omega)).ky k1 (by decide) (by decide) (by decide)
 have old:∀ i,i < k→(fl i).g < V.heap.size∧∀ a,a < slN (i/6)→(fl i).sm a < V.heap.size:=fun i hi=>⟨lt_blk (h.sl i hi).box,fun a ha=>lt_blk ((h.sl i hi).sms a ha).1⟩
 by_cases e1:i=k
 ·have e2:¬j=k:=by omega
  have:=old j (by omega);simp only [if_pos e1,if_neg e2];refine⟨by have:=hs.bg;omega,fun a b ha hb=>?_⟩;have h1:=(hs.sms a (by rw [←e1];exact ha)).2;have h3:=this.2 b hb;omega
 by_cases e2:j=k
 ·have:=old i (by omega);simp only [if_neg e1,if_pos e2];refine⟨by have:=hs.bg;omega,fun a b ha hb=>?_⟩;have h1:=(hs.sms b (by rw [←e2];exact hb)).2;have h3:=this.2 a ha;omega
 simp only [if_neg e1,if_neg e2];exact h.is i j (by omega) (by omega) hne
theorem Nh.addW {B P S M R:Nat} {da:Option Addr} {dc:Nat} {cf:Cf} {fl:Nat→Sb9} {qs:Nat→Qb9} {k w:Nat} {V W:World} (h:Nh B P S M R da dc cf fl qs k w V) (b:Below V.heap.size V W) {m r g q:Nat} (hq:Qr W m r g q cf.fifo (List.replicate cf.mix (-1)) []) (hb:V.heap.size≤m∧V.heap.size≤r∧V.heap.size≤g∧V.heap.size≤q) (hw:w < 12) {W':World} (hW:W'=((W.setCell ⟨P,79+w*3,none⟩ (Vp m 0)).setCell ⟨P,79+w*3+1,none⟩ (Vp g 0)).setCell ⟨P,79+w*3+2,none⟩ (if cf.mix=0 then .iface 65 (Vp g 0) else .iface 64 (Vp m 0))) :
  Nh B P S M R da dc cf fl (fun i=>if i=w then ⟨m,r,g,q⟩ else qs i) k (w+1) W':=by
 have h2:=h.below b;obtain⟨c,hc,hcs,hci⟩:=h2.box;obtain⟨v3,hv3⟩:∃ v3,v3=(if cf.mix=0 then .iface 65 (Vp g 0) else .iface 64 (Vp m 0):Value):=⟨_,rfl⟩;rw [←hv3] at hW;have bx:=((h2.box.set (79+w*3) (by omega) (Vp m 0)).set (79+w*3+1) (by omega) (Vp g 0)).set (79+w*3+2) (by omega) v3;rw [←hW] at bx;have gr:W.grownBy W' (some P):=by rw [hW];exact grown_set (grown_set (grown_set (grown_refl W P) _ _) _ _) _ _
 have k1:Ky (· = 73) W W':=Ky.grown hc rfl gr;have b1:Below B W W':=(Below.refl B W).grown gr h2.bW (fun r hr=>by simp at hr;have:=h.bP;omega);have nM:M≠P:=fun e=>by
  obtain⟨D,⟨es,c2,h2,_⟩,_⟩:=h2.sp.map;rw [e,hc] at h2;cases h2
 have nR:R≠P:=fun e=>by
  obtain⟨es,c2,h2⟩:=h2.mp.typ;rw [e,hc] at h2;cases h2
 have m1:W'.heap[M]?=W.heap[M]?:=gr.block _ h2.sp.lt.2 (by simpa using nM);have r1:W'.heap[R]?=W.heap[R]?:=by
  obtain⟨es,c2,h3⟩:=h2.mp.typ;exact gr.block _ (lt_blk h3) (by simpa using nR)
 have eF:updF (updF (updF (boxN cf da dc S R fl qs k w) (79+w*3) (Vp m 0)) (79+w*3+1) (Vp g 0)) (79+w*3+2) v3=boxN cf da dc S R fl (fun i=>if i=w then ⟨m,r,g,q⟩ else qs i) k (w+1):=by
  funext i
  unfold updF boxN
  by_cases e2:i=79+w*3+2
  ·rw [if_pos e2,if_neg (by omega),if_neg (by omega),if_pos (by omega),if_pos (by omega),show (i - 79)/3=w by omega,show (i - 79) % 3=2 by omega,hv3];simp [qcN]
  rw [if_neg e2]
  by_cases e1:i=79+w*3+1
  ·rw [if_pos e1,if_neg (by omega),if_neg (by omega),if_pos (by omega),if_pos (by omega),show (i - 79)/3=w by omega,show (i - 79) % 3=1 by omega];simp [qcN]
  rw [if_neg e1]
  by_cases e0:i=79+w*3
  ·rw [if_pos e0,if_neg (by omega),if_neg (by omega),if_pos (by omega),if_pos (by omega),show (i - 79)/3=w by omega,show (i - 79) % 3=0 by omega];simp [qcN]
  rw [if_neg e0]
  by_cases h7:i < 7
  ·rw [if_pos h7,if_pos h7]
  rw [if_neg h7,if_neg h7]
  by_cases h79:i < 79
  ·rw [if_pos h79,if_pos h79]
  rw [if_neg h79,if_neg h79]
  by_cases h115:i < 115
  ·rw [if_pos h115,if_pos h115]
   by_cases hlt:(i - 79)/3 < w
   ·rw [if_pos hlt,if_pos (by omega)];simp [show ¬((i - 79)/3=w) by omega]
   rw [if_neg hlt,if_neg (show ¬(i - 79)/3 < w+1 by omega)]
  rw [if_neg h115,if_neg h115]
 rw [eF] at bx;have old:∀ c,c < w→(qs c).r < V.heap.size∧(qs c).g < V.heap.size∧(qs c).q < V.heap.size:=fun c hc=>by
  obtain⟨⟨q1,q2⟩,⟨ps,o,hh,q3,q4,_⟩,_⟩:=(h.wt c hc).1;exact⟨q2.lt,lt_blk q3,q4.lt⟩
 have hB:=h.bW;refine⟨bx,Nat.le_trans h2.bW b1.size,h2.ds.belowB b1 h.dab,h.dab,h2.sp.ky k1 (by decide) m1,h2.mp.same r1,h.bP,h.bS,h.bM,h.bR,h.mr,fun i hi=>(h2.sl i hi).ky k1 (by decide) (by decide) (by decide),h.is,fun c hc=>?_,fun c c' hc hc' hne=>?_,h2.tb.belowB b1 h.b0,h.b0⟩
 ·by_cases e:c=w
  ·subst e;simp only [if_pos];exact⟨hq.ky k1 (by decide) (by decide) (by decide),by omega,by omega,by omega,by omega⟩
  simp only [if_neg e];exact⟨(h2.wt c (by omega)).1.ky k1 (by decide) (by decide) (by decide),(h2.wt c (by omega)).2⟩
 by_cases e1:c=w
 ·have e2:¬c'=w:=by omega
  have:=old c' (by omega);simp only [if_pos e1,if_neg e2];exact⟨by omega,by omega,by omega,by omega⟩
 by_cases e2:c'=w
 ·have:=old c (by omega);simp only [if_neg e1,if_pos e2];exact⟨by omega,by omega,by omega,by omega⟩
 simp only [if_neg e1,if_neg e2];exact h.iq c c' (by omega) (by omega) hne
def lyN (P S M R:Nat) (da:Option Addr) (dc:Nat) (fl:Nat→Sb9) (qs:Nat→Qb9):Ly where
 P:=P
 S:=S
 M:=M
 R:=R
 sb:=fun c s=>(fl (c*6+s)).g
 sr:=fun c s=>(fl (c*6+s)).r
 sc:=fun c s=>(fl (c*6+s)).cap
 sm:=fun c s j=>(fl (c*6+s)).sm j
 qm:=fun c=>(qs c).m
 qr:=fun c=>(qs c).r
 qg:=fun c=>(qs c).g
 qq:=fun c=>(qs c).q
 da:=da
 dc:=dc
def dyN:Dy where
 f:=fun _=>none
 on:=fun _ _=>false
 lg:=fun _=>none
 ro:=Vn
 rl:=Vn
 an:=Vn
 un:=.nilFunc
theorem Nh.made {B P S M R:Nat} {da:Option Addr} {dc:Nat} {cf:Cf} {fl:Nat→Sb9} {qs:Nat→Qb9} {W:World} (h:Nh B P S M R da dc cf fl qs 72 12 W):Hp B (lyN P S M R da dc fl qs) dyN cf (newH cf) W∧Gd dyN (newH cf) (Vn):=by
 have ix:∀ c s:Nat,c < 12→s < 6→c*6+s < 72∧(c*6+s)/6=c∧(c*6+s) % 6=s:=fun c s hc hs=>by omega
 refine⟨⟨⟨h.b0,h.bP,h.bS,h.bM,h.bR,h.mr,fun c s hc hs=>?_,fun c s hc hs=>?_,fun c s j hc hs hj=>?_,fun c hc=>(h.wt c hc).2,fun c s c' s' hc hs hc' hs' e=>?_,fun c s j c' s' j' hc hs hj hc' hs' hj' e=>?_,fun c c' hc hc' hne=>h.iq c c' hc hc' hne,h.dab⟩,h.bW,?_,h.ds,h.sp,?_,(fun k g e=>by cases e),fun c s hc hs=>?_,fun c s hc hs=>?_,fun c s j hc hs hj=>?_,fun c hc=>?_,h.mp,(fun k=>rfl),(fun r hr=>by cases hr),(fun k k' g e=>by cases e),?_,?_,?_,h.tb⟩,?_⟩
 ·obtain⟨i1,i2,i3⟩:=ix c s hc hs;exact (h.sl _ i1).bg
 ·obtain⟨i1,i2,i3⟩:=ix c s hc hs;exact (h.sl _ i1).br
 ·obtain⟨i1,i2,i3⟩:=ix c s hc hs;exact ((h.sl _ i1).sms j (by rw [i2];exact hj)).2
 ·by_cases e9:c*6+s=c'*6+s'
  ·exact⟨by omega,by omega⟩
  exact absurd e (h.is _ _ (ix c s hc hs).1 (ix c' s' hc' hs').1 e9).1
 ·obtain⟨i1,i2,i3⟩:=ix c s hc hs;obtain⟨i1',i2',i3'⟩:=ix c' s' hc' hs'
  by_cases e9:c*6+s=c'*6+s'
  ·obtain⟨rfl,rfl⟩:c=c'∧s=s':=⟨by omega,by omega⟩;exact⟨rfl,rfl,(h.sl _ i1).inj j j' (by rw [i2];exact hj) (by rw [i2];exact hj') e⟩
  exact absurd e ((h.is _ _ i1 i1' e9).2 j j' (by rw [i2];exact hj) (by rw [i2'];exact hj'))
 ·obtain⟨c,h1,h2,h3⟩:=h.box;refine⟨c,h1,h2,fun i hi=>?_⟩;rw [h3 i hi];unfold boxN boxF;congr 1
  by_cases h7:i < 7
  ·rw [if_pos h7,if_pos h7];rfl
  rw [if_neg h7,if_neg h7]
  by_cases h79:i < 79
  ·rw [if_pos h79,if_pos h79,if_pos (by omega)];show _=Vp ((fl ((i - 7)/6*6+(i - 7) % 6)).g) 0;rw [show (i - 7)/6*6+(i - 7) % 6=i - 7 by omega]
  rw [if_neg h79,if_neg h79]
  by_cases h115:i < 115
  ·rw [if_pos h115,if_pos h115,if_pos (by omega)];rfl
  rw [if_neg h115,if_neg h115];rfl
 ·exact⟨fun k=>.inl ⟨rfl,rfl⟩,fun k k' b e=>by cases e⟩
 ·obtain⟨i1,i2,i3⟩:=ix c s hc hs;have:=(h.sl _ i1).box;rw [i2,i3] at this;exact this
 ·obtain⟨i1,i2,i3⟩:=ix c s hc hs;have:=(h.sl _ i1).row;rw [i2] at this;exact this
 ·obtain⟨i1,i2,i3⟩:=ix c s hc hs;exact ((h.sl _ i1).sms j (by rw [i2];exact hj)).1
 ·exact (h.wt c hc).1
 ·exact .inl ⟨rfl,rfl⟩
 ·exact⟨rfl,.inl ⟨rfl,rfl⟩⟩
 ·intro g e;cases e
 exact⟨fun c s hc hs=>rfl,rfl,rfl⟩
end Go.Proofs.YtgandbaejlfppaaGreatDoor
namespace Go.Proofs.YtgandbaejlfppaaGreatDoor
set_option linter.unusedVariables false
set_option linter.unusedSimpArgs false
set_option maxRecDepth 20000
set_option maxHeartbeats 8000000
open Go.RowKit Go.Maps
def cfA (cf:Cf) (da:Option Addr) (dc:Nat):Array Value:=#[Vi (cf.mix:Nat),Vi (cf.fifo:Nat),Vi (cf.large:Nat),Vi (cf.bud:Nat),Vu cf.key,.slice da cf.ds.length dc]
def hp0 (mix fifo large bud key:Int) (da:Option Addr) (dl dc S R:Nat):Array Value :=
 ([Vi mix,Vi fifo,Vi large,Vi bud,Vu key,.slice da dl dc,Vp S 0]++List.replicate 72 (.pointer none)++(List.replicate 12 [.pointer none,.pointer none,.nilIface]).flatten++[.map (some R),Vn,Vn,Vi 0,Vn,.nilFunc]:List Value).toArray
theorem box79 (mix fifo large bud key:Int) (da:Option Addr) (dl dc S R:Nat) (w:World):(Instr.box 73 (.agg (hp0 mix fifo large bud key da dl dc S R))).run Tryz.prog w=.ok (Vp w.heap.size 0) (w.alloc (.cells (hp0 mix fifo large bud key da dl dc S R) 73)):=by kernel_rfl
theorem hp0_at (cf:Cf) (da:Option Addr) (dc S R:Nat) (fl:Nat→Sb9) (qs:Nat→Qb9):(hp0 (cf.mix:Nat) (cf.fifo:Nat) (cf.large:Nat) (cf.bud:Nat) cf.key da cf.ds.length dc S R).size=121∧∀ i,i < 121→(hp0 (cf.mix:Nat) (cf.fifo:Nat) (cf.large:Nat) (cf.bud:Nat) cf.key da cf.ds.length dc S R)[i]?=some (boxN cf da dc S R fl qs 0 0 i):=by
 have e:hp0 (cf.mix:Nat) (cf.fifo:Nat) (cf.large:Nat) (cf.bud:Nat) cf.key da cf.ds.length dc S R=((List.range 121).map (boxN cf da dc S R fl qs 0 0)).toArray:=by kernel_rfl
 rw [e];exact⟨by simp,fun i hi=>by simp [hi]⟩
theorem wpo_box {tt:TypeId} {o:Oper} {a:Act} {W W':World} {K:Act→World→Prop} {Q:Exit→Act→World→Prop} (x:Operand) {v v':Value} (hop:o.op=Op.box tt x) (hx:a.eval x=v) (hr:(Instr.box tt v).run Tryz.prog W=.ok v' W') (hK:K (a.put o.dst v') W'):Oper.wp Tryz.prog o a W K Q:=by
 unfold Oper.wp;simp [execOp,hop,hx,hr,Result.andThen];exact hK
structure Cx (X:Nat) (cf:Cf) (da:Option Addr) (dc:Nat) (W V:World):Prop where
 bx:V.heap[X]?=some (.cells (cfA cf da dc) 26 (0,0))
 c0:V.cell? ⟨X,0,none⟩=some (Vi (cf.mix:Nat))
 c1:V.cell? ⟨X,1,none⟩=some (Vi (cf.fifo:Nat))
 c2:V.cell? ⟨X,2,none⟩=some (Vi (cf.large:Nat))
 c3:V.cell? ⟨X,3,none⟩=some (Vi (cf.bud:Nat))
 c4:V.cell? ⟨X,4,none⟩=some (Vu cf.key)
 c5:V.cell? ⟨X,5,none⟩=some (.slice da cf.ds.length dc)
 tb:Tb V
 bel:Below W.heap.size W V
theorem Cx.at {X:Nat} {cf:Cf} {da:Option Addr} {dc:Nat} {W V:World} (h:V.heap[X]?=some (.cells (cfA cf da dc) 26 (0,0))) (tb:Tb V) (b:Below W.heap.size W V):Cx X cf da dc W V:=by
 refine⟨h,?_,?_,?_,?_,?_,?_,tb,b⟩ <;> (rw [cell_of_row _ _ _ _ _ _ h];rfl)
theorem Cx.turn {X:Nat} {cf:Cf} {da:Option Addr} {dc:Nat} {W V V':World} (h:Cx X cf da dc W V) (k:Ky (· = 73) V V') (b:Below W.heap.size V V') (h0:0 < W.heap.size):Cx X cf da dc W V' :=
 Cx.at (k.cells _ _ _ _ h.bx (by decide)) (h.tb.belowB b h0) (h.bel.trans b)
theorem Nh.turn {B P S M R:Nat} {da:Option Addr} {dc:Nat} {cf:Cf} {fl:Nat→Sb9} {qs:Nat→Qb9} {k w:Nat} {W W':World} (h:Nh B P S M R da dc cf fl qs k w W) (g:W.grownBy W' (some P)):Ky (· = 73) W W'∧Below B W W':=by
 obtain⟨c,h1,_⟩:=h.box;exact⟨Ky.grown h1 rfl g,(Below.refl B W).grown g h.bW (fun r hr=>by simp at hr;have:=h.bP;omega)⟩
theorem setc3 (W:World) (P o:Nat) (a b c:Value):W.setCells P o [a,b,c]=((W.setCell ⟨P,o,none⟩ a).setCell ⟨P,o+1,none⟩ b).setCell ⟨P,o+2,none⟩ c:=by
 simp [World.setCells]
def v3of (n m g:Nat):Value:=if n=0 then .iface 65 (Vp g 0) else .iface 64 (Vp m 0)
theorem v3of_one (n m g:Nat):(v3of n m g).oneCell'=true:=by unfold v3of;split <;> rfl
theorem qv9 (n m g:Nat):qv m g (List.replicate n (-1))=.agg #[Vp m 0,Vp g 0,v3of n m g]:=by unfold qv v3of;simp
theorem Cx.below {X:Nat} {cf:Cf} {da:Option Addr} {dc:Nat} {W V V':World} (h:Cx X cf da dc W V) (b:Below V.heap.size V V'):Cx X cf da dc W V' :=
 ⟨below_at h.bx b,below_cell b h.c0,below_cell b h.c1,below_cell b h.c2,below_cell b h.c3,below_cell b h.c4,below_cell b h.c5,h.tb.ofBelow b,h.bel.trans (b.mono h.bel.size)⟩
theorem Cx.of {cf:Cf} {da:Option Addr} {dc:Nat} {W:World} (tb:Tb W):Cx W.heap.size cf da dc W (W.alloc (.cells (cfA cf da dc) 26)):=by
 have h:=al_last W (.cells (cfA cf da dc) 26);have b:Below W.heap.size W (W.alloc (.cells (cfA cf da dc) 26)):=(Below.refl _ _).alloc (Nat.le_refl _) _;exact Cx.at h (tb.ofBelow b) b
theorem Mr.bel9 {R n:Nat} {lo:Nat→Option Nat} {W W':World} (h:Mr R n lo W) (b:Below W.heap.size W W'):Mr R n lo W':=by
 obtain⟨es,c,hR⟩:=h.typ;exact h.same (b.block _ (lt_blk hR))
theorem Mr.made (W:World):Mr W.heap.size 0 (fun _=>none) (W.alloc (.map #[] 0)) :=
 ⟨.map [],(World.ownsMap_made W Tryz.prog 23 ptrE).mono (Nat.zero_le _),Nat.le_refl _,fun k hk=>rfl,fun k hk=>rfl⟩
theorem Cx.mapped {X:Nat} {cf:Cf} {da:Option Addr} {dc:Nat} {W V:World} (h:Cx X cf da dc W V):∃ R,V.heap.size=R∧Cx X cf da dc W (V.alloc (.map #[] 0))∧Mr R 0 (fun _=>none) (V.alloc (.map #[] 0))∧W.heap.size≤R∧R < (V.alloc (.map #[] 0)).heap.size∧Below V.heap.size V (V.alloc (.map #[] 0)) :=
 ⟨_,rfl,h.below ((Below.refl _ _).alloc (Nat.le_refl _) _),Mr.made V,h.bel.size,by rw [al_size];omega,(Below.refl _ _).alloc (Nat.le_refl _) _⟩
theorem Nh.first {cf:Cf} {da:Option Addr} {dc X S M R:Nat} {W U:World} (hX:Cx X cf da dc W U) (ds:Sl W da cf.ds) (dab:∀ a,da=some a→a.block < W.heap.size) (h0:0 < W.heap.size) (hI:Im S M 0 283 (cf.bud:Nat) (fun _=>none) U) (bS:W.heap.size≤S) (bM:W.heap.size≤M) (hM:Mr R 0 (fun _=>none) U) (bR:W.heap.size≤R) (hne:M≠R) (fl:Nat→Sb9) (qs:Nat→Qb9) :
  ∃ P,U.heap.size=P∧Nh W.heap.size P S M R da dc cf fl qs 0 0 (U.alloc (.cells (hp0 (cf.mix:Nat) (cf.fifo:Nat) (cf.large:Nat) (cf.bud:Nat) cf.key da cf.ds.length dc S R) 73))∧Cx X cf da dc W (U.alloc (.cells (hp0 (cf.mix:Nat) (cf.fifo:Nat) (cf.large:Nat) (cf.bud:Nat) cf.key da cf.ds.length dc S R) 73)):=by
 have b:Below U.heap.size U (U.alloc (.cells (hp0 (cf.mix:Nat) (cf.fifo:Nat) (cf.large:Nat) (cf.bud:Nat) cf.key da cf.ds.length dc S R) 73)):=(Below.refl _ _).alloc (Nat.le_refl _) _;have hx:=hX.below b;obtain⟨e1,e2⟩:=hp0_at cf da dc S R fl qs;refine⟨_,rfl,⟨⟨_,al_last _ _,e1,e2⟩,Nat.le_trans hX.bel.size b.size,(ds.below hX.bel).below b,dab,hI.ky (Ky.below b:Ky (fun _=>False) _ _) (fun e=>e) (b.block _ hI.lt.2),hM.bel9 b,hX.bel.size,bS,bM,bR,hne,(fun i hi=>by omega),(fun i j hi=>by omega),(fun c hc=>by omega),(fun c c' hc=>by omega),hx.tb,h0⟩,hx⟩
def NhR (cf:Cf) (da:Option Addr) (dc:Nat) (W:World) (e:Ending) (W':World):Prop:=∃ y,e=.returned (Vp y.P 0)∧y.da=da∧Hp W.heap.size y dyN cf (newH cf) W'∧Gd dyN (newH cf) (Vn)∧Below W.heap.size W W'
theorem im_newHeap (cf:Cf) (da:Option Addr) (dc:Nat) (W:World) (dk:Dok cf) (tb:Tb W) (ds:Sl W da cf.ds) (dab:∀ a,da=some a→a.block < W.heap.size) (h0:0 < W.heap.size) :
    Calls Tryz.prog 16 #[cfgV cf da dc] W (NhR cf da dc W):=by
  have HX:=hid (Cx.of (cf:=cf) (da:=da) (dc:=dc) tb)
  have DS:=hid ds
  have DAB:=hid dab
  have H0:=hid h0
  have hfi:=dk.fifo1
  have hfm:=dk.fifo
  have hmx:=dk.mix
  have hbu:=dk.bud
  unfold cfgV
  clear tb ds dab h0
  go_enter Tryz.func16,Tryz.ntmps16
  go_upto_region 1 with fail
  have HD:=hid (show Cx W.heap.size cf da dc W ((W.alloc (.cells (cfA cf da dc) 26)).drew) from HX.out.below (Below.refl _ _).drew)
  unfold cfA at HD
  generalize W.alloc _=V0 at HD ⊢
  obtain⟨X,hX⟩:∃ X,X=W.heap.size:=⟨_,rfl⟩
  rw [←hX] at HD ⊢
  clear hX HX
  go_cut [3] (fun s3 w'=>∃ P S M R,s3=.pointer (some ⟨P,0,none⟩)∧Hid (Nh W.heap.size P S M R da dc cf (fun _=>⟨0,0,0,fun _=>0⟩) (fun _=>⟨0,0,0,0⟩) 0 0 w')∧Hid (Cx X cf da dc W w'))
  case first =>
    refine wp_region_held (S:=Cx X cf da dc W) (by kernel_rfl) ?_
    simp only [List.size_toArray,List.length_cons,List.length_nil,Nat.reduceAdd,Array.replicate_succ,Array.replicate_zero,List.push_toArray,List.nil_append,List.cons_append]
    generalize hV1:V0.drew=V1 at HD
    have hV1':({ heap:=V0.heap,tape:=V0.tape,drawn:=V0.drawn+1,os:=V0.os,output:=V0.output } : World)=V1:=hV1
    rw [hV1']
    clear hV1 hV1'
    have hS:=HD.out
    refine wpAnyH_put (i:=0) (d:=6) (v:=.agg #[.int .i64 (cf.mix:Nat),.int .i64 (cf.fifo:Nat),.int .i64 (cf.large:Nat),.int .i64 (cf.bud:Nat),.int .u64 cf.key,.slice da cf.ds.length dc]) rfl (by kernel_rfl) (by kernel_rfl) (by kernel_rfl) (by kernel_rfl) (fun _ _ _ h=>h) (Or.inl ⟨by kernel_rfl,fun W hS=>by obtain ⟨_,y0,y1,y2,y3,y4,y5,y6,y7⟩:=hS;first|(go_simp;done)|(go_simp;omega)⟩) hS ?_
    simp only [List.setIfInBounds_toArray,List.set_cons_zero,List.set_cons_succ]
    refine wpAnyH_put (i:=2) (d:=8) (v:=.pointer (some ⟨X,3,none⟩)) rfl (by kernel_rfl) (by kernel_rfl) (by kernel_rfl) (by kernel_rfl) (fun _ _ _ h=>h) (Or.inl ⟨by kernel_rfl,fun _ _=>by kernel_rfl⟩) hS ?_
    simp only [List.setIfInBounds_toArray,List.set_cons_zero,List.set_cons_succ]
    refine wpAnyH_put (i:=3) (d:=9) (v:=.int .i64 (cf.bud:Nat)) rfl (by kernel_rfl) (by kernel_rfl) (by kernel_rfl) (by kernel_rfl) (fun _ _ _ h=>h) (Or.inl ⟨by kernel_rfl,fun W hS=>by obtain ⟨_,y0,y1,y2,y3,y4,y5,y6,y7⟩:=hS;first|(go_simp;done)|(go_simp;omega)⟩) hS ?_
    simp only [List.setIfInBounds_toArray,List.set_cons_zero,List.set_cons_succ]
    refine wpAnyH_all (rs:=[1,5]) (by kernel_rfl) (by simp) (fun i9 hi9=>?_)
    rcases (by simpa using hi9:i9=1∨i9=5) with hi9|hi9
    · subst hi9
      refine wpOp_do rfl (by kernel_rfl) (fun K' hK=>?_)
      go_simp
      refine (im_ArenaPages _ hS.tb).mono ?_
      rintro e U ⟨rfl,bU⟩
      have hU:=hS.below bU
      refine hK.out _ _ ⟨hU,?_⟩
      clear hS
      have hS:=hU
      clear hU
      try have HM:=hid (And.intro (HM.out.1.bel9 bU) (And.intro HM.out.2.1 (Nat.lt_of_lt_of_le HM.out.2.2 bU.size)))
      clear bU
      clear hK K'
      refine wpAnyH_all (rs:=[4,5]) (by kernel_rfl) (by simp) (fun i9 hi9=>?_)
      rcases (by simpa using hi9:i9=4∨i9=5) with hi9|hi9
      · subst hi9
        refine wpOp_do rfl (by kernel_rfl) (fun K' hK=>?_)
        go_simp
        refine (im_new 283 (cf.bud:Nat) _).mono ?_
        rintro e U ⟨S,M,rfl,hI,bU,hbS,hbM,hne⟩
        have hsz:=hS.bel.size
        have hU:=hS.below bU
        refine hK.out _ _ ⟨hU,?_⟩
        clear hS
        have hS:=hU
        clear hU
        try have HNE:=hid (show M≠R by have:=HM.out.2.2;omega)
        have HI:=hid (And.intro hI (And.intro (Nat.le_trans hsz hbS) (Nat.le_trans hsz hbM)))
        try have HM:=hid (And.intro (HM.out.1.bel9 bU) (And.intro HM.out.2.1 (Nat.lt_of_lt_of_le HM.out.2.2 bU.size)))
        clear bU hI hbS hbM hne hsz
        clear hK K'
        refine wpAnyH_one (r:=5) (by kernel_rfl) ?_
        refine wpOp_do rfl (by kernel_rfl) (fun K' hK=>?_)
        have hmm:=@run_makeMap Tryz.prog
        go_simp
        clear hmm
        obtain⟨R,hR,hC,hMr,hbR,hlR,bU⟩:=hS.mapped
        rw [hR]
        refine hK.out _ _ ⟨hC,?_⟩
        try have HNE:=hid (show M≠R by have:=HI.out.1.lt.2;omega)
        try have HI:=hid (And.intro (HI.out.1.ky (Ky.below bU:Ky (fun _=>False) _ _) (fun e=>e) (bU.block _ HI.out.1.lt.2)) HI.out.2)
        have HM:=hid (And.intro hMr (And.intro hbR hlR))
        clear hS hMr hbR hlR hR bU
        have hS:=hC
        clear hC hK K'
        refine wpAnyH_put (i:=6) (d:=12) (v:=.agg (hp0 (cf.mix:Nat) (cf.fifo:Nat) (cf.large:Nat) (cf.bud:Nat) cf.key da cf.ds.length dc S R)) rfl (by kernel_rfl) (by kernel_rfl) (by kernel_rfl) (by kernel_rfl) (fun _ _ _ h=>h) (Or.inl ⟨by kernel_rfl,fun _ _=>by kernel_rfl⟩) hS ?_
        simp only [List.setIfInBounds_toArray,List.set_cons_zero,List.set_cons_succ]
        refine wpAnyH_one (r:=7) (by kernel_rfl) ?_
        refine wpOp_do rfl (by kernel_rfl) (fun K' hK=>?_)
        refine wpo_box (.tmp 12) (by kernel_rfl) (by kernel_rfl) (box79 (cf.mix:Nat) (cf.fifo:Nat) (cf.large:Nat) (cf.bud:Nat) cf.key da cf.ds.length dc S R _) ?_
        obtain⟨P,hP,hN,hC⟩:=Nh.first hS DS.out DAB.out H0.out HI.out.1 HI.out.2.1 HI.out.2.2 HM.out.1 HM.out.2.1 HNE.out (fun _=>⟨0,0,0,fun _=>0⟩) (fun _=>⟨0,0,0,0⟩)
        rw [hP]
        refine hK.out _ _ ⟨hC,?_⟩
        have HN:=hid hN
        clear hS
        have hS:=hC
        clear hC hN hP hK K'
        refine wpAnyH_put (i:=8) (d:=3) (v:=.pointer (some ⟨P,0,none⟩)) rfl (by kernel_rfl) (by kernel_rfl) (by kernel_rfl) (by kernel_rfl) (fun _ _ _ h=>h) (Or.inl ⟨by kernel_rfl,fun _ _=>by kernel_rfl⟩) hS ?_
        simp only [List.setIfInBounds_toArray,List.set_cons_zero,List.set_cons_succ]
        refine wpAnyH_done (by kernel_rfl) ?_ _
        go_wp2_with fail
        go_meet
        case rel=>exact ⟨P,S,M,R,rfl,HN,hid hS⟩
      · subst hi9
        refine wpOp_do rfl (by kernel_rfl) (fun K' hK=>?_)
        have hmm:=@run_makeMap Tryz.prog
        go_simp
        clear hmm
        obtain⟨R,hR,hC,hMr,hbR,hlR,bU⟩:=hS.mapped
        rw [hR]
        refine hK.out _ _ ⟨hC,?_⟩
        try have HNE:=hid (show M≠R by have:=HI.out.1.lt.2;omega)
        try have HI:=hid (And.intro (HI.out.1.ky (Ky.below bU:Ky (fun _=>False) _ _) (fun e=>e) (bU.block _ HI.out.1.lt.2)) HI.out.2)
        have HM:=hid (And.intro hMr (And.intro hbR hlR))
        clear hS hMr hbR hlR hR bU
        have hS:=hC
        clear hC hK K'
        refine wpAnyH_one (r:=4) (by kernel_rfl) ?_
        refine wpOp_do rfl (by kernel_rfl) (fun K' hK=>?_)
        go_simp
        refine (im_new 283 (cf.bud:Nat) _).mono ?_
        rintro e U ⟨S,M,rfl,hI,bU,hbS,hbM,hne⟩
        have hsz:=hS.bel.size
        have hU:=hS.below bU
        refine hK.out _ _ ⟨hU,?_⟩
        clear hS
        have hS:=hU
        clear hU
        try have HNE:=hid (show M≠R by have:=HM.out.2.2;omega)
        have HI:=hid (And.intro hI (And.intro (Nat.le_trans hsz hbS) (Nat.le_trans hsz hbM)))
        try have HM:=hid (And.intro (HM.out.1.bel9 bU) (And.intro HM.out.2.1 (Nat.lt_of_lt_of_le HM.out.2.2 bU.size)))
        clear bU hI hbS hbM hne hsz
        clear hK K'
        refine wpAnyH_put (i:=6) (d:=12) (v:=.agg (hp0 (cf.mix:Nat) (cf.fifo:Nat) (cf.large:Nat) (cf.bud:Nat) cf.key da cf.ds.length dc S R)) rfl (by kernel_rfl) (by kernel_rfl) (by kernel_rfl) (by kernel_rfl) (fun _ _ _ h=>h) (Or.inl ⟨by kernel_rfl,fun _ _=>by kernel_rfl⟩) hS ?_
        simp only [List.setIfInBounds_toArray,List.set_cons_zero,List.set_cons_succ]
        refine wpAnyH_one (r:=7) (by kernel_rfl) ?_
        refine wpOp_do rfl (by kernel_rfl) (fun K' hK=>?_)
        refine wpo_box (.tmp 12) (by kernel_rfl) (by kernel_rfl) (box79 (cf.mix:Nat) (cf.fifo:Nat) (cf.large:Nat) (cf.bud:Nat) cf.key da cf.ds.length dc S R _) ?_
        obtain⟨P,hP,hN,hC⟩:=Nh.first hS DS.out DAB.out H0.out HI.out.1 HI.out.2.1 HI.out.2.2 HM.out.1 HM.out.2.1 HNE.out (fun _=>⟨0,0,0,fun _=>0⟩) (fun _=>⟨0,0,0,0⟩)
        rw [hP]
        refine hK.out _ _ ⟨hC,?_⟩
        have HN:=hid hN
        clear hS
        have hS:=hC
        clear hC hN hP hK K'
        refine wpAnyH_put (i:=8) (d:=3) (v:=.pointer (some ⟨P,0,none⟩)) rfl (by kernel_rfl) (by kernel_rfl) (by kernel_rfl) (by kernel_rfl) (fun _ _ _ h=>h) (Or.inl ⟨by kernel_rfl,fun _ _=>by kernel_rfl⟩) hS ?_
        simp only [List.setIfInBounds_toArray,List.set_cons_zero,List.set_cons_succ]
        refine wpAnyH_done (by kernel_rfl) ?_ _
        go_wp2_with fail
        go_meet
        case rel=>exact ⟨P,S,M,R,rfl,HN,hid hS⟩
    · subst hi9
      refine wpOp_do rfl (by kernel_rfl) (fun K' hK=>?_)
      have hmm:=@run_makeMap Tryz.prog
      go_simp
      clear hmm
      obtain⟨R,hR,hC,hMr,hbR,hlR,bU⟩:=hS.mapped
      rw [hR]
      refine hK.out _ _ ⟨hC,?_⟩
      try have HNE:=hid (show M≠R by have:=HI.out.1.lt.2;omega)
      try have HI:=hid (And.intro (HI.out.1.ky (Ky.below bU:Ky (fun _=>False) _ _) (fun e=>e) (bU.block _ HI.out.1.lt.2)) HI.out.2)
      have HM:=hid (And.intro hMr (And.intro hbR hlR))
      clear hS hMr hbR hlR hR bU
      have hS:=hC
      clear hC hK K'
      refine wpAnyH_one (r:=1) (by kernel_rfl) ?_
      refine wpOp_do rfl (by kernel_rfl) (fun K' hK=>?_)
      go_simp
      refine (im_ArenaPages _ hS.tb).mono ?_
      rintro e U ⟨rfl,bU⟩
      have hU:=hS.below bU
      refine hK.out _ _ ⟨hU,?_⟩
      clear hS
      have hS:=hU
      clear hU
      try have HM:=hid (And.intro (HM.out.1.bel9 bU) (And.intro HM.out.2.1 (Nat.lt_of_lt_of_le HM.out.2.2 bU.size)))
      clear bU
      clear hK K'
      refine wpAnyH_one (r:=4) (by kernel_rfl) ?_
      refine wpOp_do rfl (by kernel_rfl) (fun K' hK=>?_)
      go_simp
      refine (im_new 283 (cf.bud:Nat) _).mono ?_
      rintro e U ⟨S,M,rfl,hI,bU,hbS,hbM,hne⟩
      have hsz:=hS.bel.size
      have hU:=hS.below bU
      refine hK.out _ _ ⟨hU,?_⟩
      clear hS
      have hS:=hU
      clear hU
      try have HNE:=hid (show M≠R by have:=HM.out.2.2;omega)
      have HI:=hid (And.intro hI (And.intro (Nat.le_trans hsz hbS) (Nat.le_trans hsz hbM)))
      try have HM:=hid (And.intro (HM.out.1.bel9 bU) (And.intro HM.out.2.1 (Nat.lt_of_lt_of_le HM.out.2.2 bU.size)))
      clear bU hI hbS hbM hne hsz
      clear hK K'
      refine wpAnyH_put (i:=6) (d:=12) (v:=.agg (hp0 (cf.mix:Nat) (cf.fifo:Nat) (cf.large:Nat) (cf.bud:Nat) cf.key da cf.ds.length dc S R)) rfl (by kernel_rfl) (by kernel_rfl) (by kernel_rfl) (by kernel_rfl) (fun _ _ _ h=>h) (Or.inl ⟨by kernel_rfl,fun _ _=>by kernel_rfl⟩) hS ?_
      simp only [List.setIfInBounds_toArray,List.set_cons_zero,List.set_cons_succ]
      refine wpAnyH_one (r:=7) (by kernel_rfl) ?_
      refine wpOp_do rfl (by kernel_rfl) (fun K' hK=>?_)
      refine wpo_box (.tmp 12) (by kernel_rfl) (by kernel_rfl) (box79 (cf.mix:Nat) (cf.fifo:Nat) (cf.large:Nat) (cf.bud:Nat) cf.key da cf.ds.length dc S R _) ?_
      obtain⟨P,hP,hN,hC⟩:=Nh.first hS DS.out DAB.out H0.out HI.out.1 HI.out.2.1 HI.out.2.2 HM.out.1 HM.out.2.1 HNE.out (fun _=>⟨0,0,0,fun _=>0⟩) (fun _=>⟨0,0,0,0⟩)
      rw [hP]
      refine hK.out _ _ ⟨hC,?_⟩
      have HN:=hid hN
      clear hS
      have hS:=hC
      clear hC hN hP hK K'
      refine wpAnyH_put (i:=8) (d:=3) (v:=.pointer (some ⟨P,0,none⟩)) rfl (by kernel_rfl) (by kernel_rfl) (by kernel_rfl) (by kernel_rfl) (fun _ _ _ h=>h) (Or.inl ⟨by kernel_rfl,fun _ _=>by kernel_rfl⟩) hS ?_
      simp only [List.setIfInBounds_toArray,List.set_cons_zero,List.set_cons_succ]
      refine wpAnyH_done (by kernel_rfl) ?_ _
      go_wp2_with fail
      go_meet
      case rel=>exact ⟨P,S,M,R,rfl,HN,hid hS⟩
  case rest =>
    obtain⟨P,S,M,R,rfl,HN,HC⟩:=hcut
    clear HD
    go_wp2
    go_loopw [14] (fun i wr=>∃ (c:Nat) (fl:Nat→Sb9) (qs:Nat→Qb9),c≤12∧i=.int .i64 c∧Hid (Nh W.heap.size P S M R da dc cf fl qs (c*6) c wr)∧Hid (Cx X cf da dc W wr)) (fun i _=>12 - (intOf i).toNat)
    case atStart=>exact ⟨0,_,_,by omega,rfl,HN,HC⟩
    case round =>
      clear HN HC
      obtain⟨c,fl,qs,hc,rfl,HN,HC⟩:=hrel
      by_cases hlt:c < 12
      · have hcl:(c:Int) < 12:=by omega
        have hc0:(0:Int)≤(c:Int):=by omega
        go_upto_region 5 with fail
        have HND:=hid (HN.out.below (Below.refl _ wr).drew)
        have HCD:=hid (HC.out.below (Below.refl _ wr).drew)
        go_cut [] (fun w'=>∃ qs',Hid (Nh W.heap.size P S M R da dc cf fl qs' (c*6) (c+1) w')∧Hid (Cx X cf da dc W w'))
        case first =>
          refine wp_region_held (S:=Cx X cf da dc W) (by kernel_rfl) ?_
          simp only [List.size_toArray,List.length_cons,List.length_nil,Nat.reduceAdd,Array.replicate_succ,Array.replicate_zero,List.push_toArray,List.nil_append,List.cons_append]
          generalize hV1:wr.drew=V1 at HND HCD
          have hV1':({ heap:=wr.heap,tape:=wr.tape,drawn:=wr.drawn+1,os:=wr.os,output:=wr.output } : World)=V1:=hV1
          rw [hV1']
          clear hV1 hV1' HN HC
          have hS:=HCD.out
          refine wpAnyH_put (i:=0) (d:=17) (v:=.pointer (some ⟨P,0,none⟩)) rfl (by kernel_rfl) (by kernel_rfl) (by kernel_rfl) (by kernel_rfl) (fun _ _ _ h=>h) (Or.inl ⟨by kernel_rfl,fun _ _=>by kernel_rfl⟩) hS ?_
          simp only [List.setIfInBounds_toArray,List.set_cons_zero,List.set_cons_succ]
          refine wpAnyH_put (i:=1) (d:=18) (v:=.int .i64 (c:Nat)) rfl (by kernel_rfl) (by kernel_rfl) (by kernel_rfl) (by kernel_rfl) (fun _ _ _ h=>h) (Or.inl ⟨by kernel_rfl,fun _ _=>by kernel_rfl⟩) hS ?_
          simp only [List.setIfInBounds_toArray,List.set_cons_zero,List.set_cons_succ]
          refine wpAnyH_put (i:=2) (d:=19) (v:=.pointer (some ⟨X,0,none⟩)) rfl (by kernel_rfl) (by kernel_rfl) (by kernel_rfl) (by kernel_rfl) (fun _ _ _ h=>h) (Or.inl ⟨by kernel_rfl,fun _ _=>by kernel_rfl⟩) hS ?_
          simp only [List.setIfInBounds_toArray,List.set_cons_zero,List.set_cons_succ]
          refine wpAnyH_put (i:=3) (d:=20) (v:=.int .i64 (cf.mix:Nat)) rfl (by kernel_rfl) (by kernel_rfl) (by kernel_rfl) (by kernel_rfl) (fun _ _ _ h=>h) (Or.inl ⟨by kernel_rfl,fun W hS=>by obtain ⟨_,y0,y1,y2,y3,y4,y5,y6,y7⟩:=hS;first|(go_simp;done)|(go_simp;omega)⟩) hS ?_
          simp only [List.setIfInBounds_toArray,List.set_cons_zero,List.set_cons_succ]
          refine wpAnyH_put (i:=4) (d:=21) (v:=.pointer (some ⟨X,1,none⟩)) rfl (by kernel_rfl) (by kernel_rfl) (by kernel_rfl) (by kernel_rfl) (fun _ _ _ h=>h) (Or.inl ⟨by kernel_rfl,fun _ _=>by kernel_rfl⟩) hS ?_
          simp only [List.setIfInBounds_toArray,List.set_cons_zero,List.set_cons_succ]
          refine wpAnyH_put (i:=5) (d:=22) (v:=.int .i64 (cf.fifo:Nat)) rfl (by kernel_rfl) (by kernel_rfl) (by kernel_rfl) (by kernel_rfl) (fun _ _ _ h=>h) (Or.inl ⟨by kernel_rfl,fun W hS=>by obtain ⟨_,y0,y1,y2,y3,y4,y5,y6,y7⟩:=hS;first|(go_simp;done)|(go_simp;omega)⟩) hS ?_
          simp only [List.setIfInBounds_toArray,List.set_cons_zero,List.set_cons_succ]
          refine wpAnyH_put (i:=8) (d:=25) (v:=.pointer (some ⟨P,0,none⟩)) rfl (by kernel_rfl) (by kernel_rfl) (by kernel_rfl) (by kernel_rfl) (fun _ _ _ h=>h) (Or.inl ⟨by kernel_rfl,fun _ _=>by kernel_rfl⟩) hS ?_
          simp only [List.setIfInBounds_toArray,List.set_cons_zero,List.set_cons_succ]
          refine wpAnyH_put (i:=9) (d:=26) (v:=.pointer (some ⟨P,79,none⟩)) rfl (by kernel_rfl) (by kernel_rfl) (by kernel_rfl) (by kernel_rfl) (fun _ _ _ h=>h) (Or.inl ⟨by kernel_rfl,fun _ _=>by kernel_rfl⟩) hS ?_
          simp only [List.setIfInBounds_toArray,List.set_cons_zero,List.set_cons_succ]
          refine wpAnyH_one (r:=6) (by kernel_rfl) ?_
          refine wpOp_do rfl (by kernel_rfl) (fun K' hK=>?_)
          go_simp
          refine (empty_in cf.mix (cf.fifo:Nat) _ hmx).mono ?_
          rintro e U1 ⟨gm,rfl,rw1,hg1,b1⟩
          have hU:=hS.below b1
          refine hK.out _ _ ⟨hU,?_⟩
          clear hS
          have hS:=hU
          have B1:=hid b1
          have RW1:=hid rw1
          clear hU b1 rw1 hg1
          clear hK K'
          refine wpAnyH_one (r:=7) (by kernel_rfl) ?_
          refine wpOp_do rfl (by kernel_rfl) (fun K' hK=>?_)
          go_simp
          refine (newQ_in (some ⟨gm,0,none⟩) cf.mix cf.mix none 0 0 cf.fifo (List.replicate cf.mix (-1)) [] _ ⟨.inr ⟨gm,rfl,RW1.out⟩,by simp,.inl ⟨rfl,rfl⟩,rfl⟩ hmx ⟨hfi,hfm⟩ (Nat.zero_le _)).mono ?_
          rintro e U2 ⟨m9,r9,g9,q9,rfl,hQ,hb,b2⟩
          have hU:=hS.below b2
          rw [qv9]
          refine hK.out _ _ ⟨hU,?_⟩
          clear hS
          have hS:=hU
          have HQ:=hid hQ
          have HB:=hid (show V1.heap.size≤m9∧V1.heap.size≤r9∧V1.heap.size≤g9∧V1.heap.size≤q9 by have:=B1.out.size;omega)
          have BT:=hid (B1.out.trans (b2.mono B1.out.size))
          clear hU b2 hQ hb B1 RW1
          clear hK K'
          refine wpAnyH_put (i:=10) (d:=27) (v:=.pointer (some ⟨P,79+c*3,none⟩)) rfl (by kernel_rfl) (by kernel_rfl) (by kernel_rfl) (by kernel_rfl) (fun _ _ _ h=>h) (Or.inl ⟨by kernel_rfl,fun W hS=>by obtain ⟨_,y0,y1,y2,y3,y4,y5,y6,y7⟩:=hS;first|(go_simp;done)|(go_simp;omega)⟩) hS ?_
          simp only [List.setIfInBounds_toArray,List.set_cons_zero,List.set_cons_succ]
          refine wpAnyH_one (r:=11) (by kernel_rfl) ?_
          refine wpOp_do rfl (by kernel_rfl) (fun K' hK=>?_)
          have hN2:=HND.out.below BT.out
          refine wp_store_mid 69 (.tmp 27) (.tmp 24) (by kernel_rfl) P (79+c*3) #[.pointer (some ⟨m9,0,none⟩),.pointer (some ⟨g9,0,none⟩),v3of cf.mix m9 g9] (by kernel_rfl) (by kernel_rfl) (fun j hj=>⟨by rw [hN2.box.cell _ (by simp at hj;omega)];rfl,hN2.box.free _⟩) (by kernel_rfl) (all_oneCell_toArray (fun v hv=>by simp at hv;rcases hv with rfl|rfl|rfl;rfl;rfl;exact v3of_one _ _ _)) ?_
          have es:=setc3 U2 P (79+c*3) (.pointer (some ⟨m9,0,none⟩)) (.pointer (some ⟨g9,0,none⟩)) (v3of cf.mix m9 g9)
          obtain⟨U3,hU3⟩:∃ U3,U3=((U2.setCell ⟨P,79+c*3,none⟩ (.pointer (some ⟨m9,0,none⟩))).setCell ⟨P,79+c*3+1,none⟩ (.pointer (some ⟨g9,0,none⟩))).setCell ⟨P,79+c*3+2,none⟩ (v3of cf.mix m9 g9):=⟨_,rfl⟩
          rw [←hU3] at es
          simp only [es]
          have hA:=HND.out.addW BT.out HQ.out HB.out hlt (W':=U3) (by rw [hU3];unfold v3of;rfl)
          obtain⟨ky9,be9⟩:=hN2.turn (W':=U3) (by rw [hU3];exact grown_set (grown_set (grown_set (grown_refl U2 P) _ _) _ _) _ _)
          clear es hU3
          have hC:=hS.turn ky9 be9 H0.out
          refine hK.out _ _ ⟨hC,?_⟩
          have HA:=hid hA
          have HC:=hid hC
          clear hA hC ky9 be9 hK K' hS
          refine wpAnyH_done (by kernel_rfl) ?_ _
          go_wp2_with fail
          go_meet
          case rel=>exact ⟨_,HA,HC⟩
        case rest =>
          obtain⟨qs2,HN2,HC2⟩:=hcut
          clear HND HCD HN HC
          go_wp2
          go_loopw [28] (fun i wq=>∃ (j:Nat) (fl:Nat→Sb9),j≤6∧i=.int .i64 j∧Hid (Nh W.heap.size P S M R da dc cf fl qs2 (c*6+j) (c+1) wq)∧Hid (Cx X cf da dc W wq)) (fun i _=>6 - (intOf i).toNat)
          case atStart=>exact ⟨0,_,by omega,rfl,HN2,HC2⟩
          case round =>
            clear HN2 HC2
            obtain⟨j,fl2,hj,rfl,HN,HC⟩:=hrel
            by_cases hjt:j < 6
            · have hjl:(j:Int) < 6:=by omega
              have hj0:(0:Int)≤(j:Int):=by omega
              go_upto_region 9 with fail
              have HND:=hid (HN.out.below (Below.refl _ wr).drew)
              have HCD:=hid (HC.out.below (Below.refl _ wr).drew)
              refine wp_region_held (S:=Cx X cf da dc W) (by kernel_rfl) ?_
              simp only [List.size_toArray,List.length_cons,List.length_nil,Nat.reduceAdd,Array.replicate_succ,Array.replicate_zero,List.push_toArray,List.nil_append,List.cons_append]
              generalize hV1:wr.drew=V1 at HND HCD
              have hV1':({ heap:=wr.heap,tape:=wr.tape,drawn:=wr.drawn+1,os:=wr.os,output:=wr.output } : World)=V1:=hV1
              rw [hV1']
              clear hV1 hV1' HN HC
              have hS:=HCD.out
              refine wpAnyH_put (i:=0) (d:=31) (v:=.pointer (some ⟨P,0,none⟩)) rfl (by kernel_rfl) (by kernel_rfl) (by kernel_rfl) (by kernel_rfl) (fun _ _ _ h=>h) (Or.inl ⟨by kernel_rfl,fun _ _=>by kernel_rfl⟩) hS ?_
              simp only [List.setIfInBounds_toArray,List.set_cons_zero,List.set_cons_succ]
              refine wpAnyH_put (i:=1) (d:=32) (v:=.int .i64 (c:Nat)) rfl (by kernel_rfl) (by kernel_rfl) (by kernel_rfl) (by kernel_rfl) (fun _ _ _ h=>h) (Or.inl ⟨by kernel_rfl,fun _ _=>by kernel_rfl⟩) hS ?_
              simp only [List.setIfInBounds_toArray,List.set_cons_zero,List.set_cons_succ]
              refine wpAnyH_put (i:=2) (d:=33) (v:=.int .i64 (j:Nat)) rfl (by kernel_rfl) (by kernel_rfl) (by kernel_rfl) (by kernel_rfl) (fun _ _ _ h=>h) (Or.inl ⟨by kernel_rfl,fun _ _=>by kernel_rfl⟩) hS ?_
              simp only [List.setIfInBounds_toArray,List.set_cons_zero,List.set_cons_succ]
              refine wpAnyH_put (i:=3) (d:=34) (v:=.int .i64 (c:Nat)) rfl (by kernel_rfl) (by kernel_rfl) (by kernel_rfl) (by kernel_rfl) (fun _ _ _ h=>h) (Or.inl ⟨by kernel_rfl,fun _ _=>by kernel_rfl⟩) hS ?_
              simp only [List.setIfInBounds_toArray,List.set_cons_zero,List.set_cons_succ]
              refine wpAnyH_put (i:=4) (d:=35) (v:=.int .i64 (j:Nat)) rfl (by kernel_rfl) (by kernel_rfl) (by kernel_rfl) (by kernel_rfl) (fun _ _ _ h=>h) (Or.inl ⟨by kernel_rfl,fun _ _=>by kernel_rfl⟩) hS ?_
              simp only [List.setIfInBounds_toArray,List.set_cons_zero,List.set_cons_succ]
              refine wpAnyH_put (i:=6) (d:=37) (v:=.pointer (some ⟨P,0,none⟩)) rfl (by kernel_rfl) (by kernel_rfl) (by kernel_rfl) (by kernel_rfl) (fun _ _ _ h=>h) (Or.inl ⟨by kernel_rfl,fun _ _=>by kernel_rfl⟩) hS ?_
              simp only [List.setIfInBounds_toArray,List.set_cons_zero,List.set_cons_succ]
              refine wpAnyH_put (i:=7) (d:=38) (v:=.pointer (some ⟨P,7,none⟩)) rfl (by kernel_rfl) (by kernel_rfl) (by kernel_rfl) (by kernel_rfl) (fun _ _ _ h=>h) (Or.inl ⟨by kernel_rfl,fun _ _=>by kernel_rfl⟩) hS ?_
              simp only [List.setIfInBounds_toArray,List.set_cons_zero,List.set_cons_succ]
              refine wpAnyH_put (i:=8) (d:=39) (v:=.pointer (some ⟨P,7+c*6,none⟩)) rfl (by kernel_rfl) (by kernel_rfl) (by kernel_rfl) (by kernel_rfl) (fun _ _ _ h=>h) (Or.inl ⟨by kernel_rfl,fun W hS=>by obtain ⟨_,y0,y1,y2,y3,y4,y5,y6,y7⟩:=hS;first|(go_simp;done)|(go_simp;omega)⟩) hS ?_
              simp only [List.setIfInBounds_toArray,List.set_cons_zero,List.set_cons_succ]
              refine wpAnyH_one (r:=5) (by kernel_rfl) ?_
              refine wpOp_do rfl (by kernel_rfl) (fun K' hK=>?_)
              go_simp
              refine (im_newSlab c j hlt _ hS.tb).mono ?_
              rintro e U1 ⟨g9,r9,cap9,sm9,rfl,hs9,b1⟩
              have hU:=hS.below b1
              refine hK.out _ _ ⟨hU,?_⟩
              clear hS
              have hS:=hU
              have hN2:=HND.out.below b1
              have hA:=HND.out.addS b1 (k:=c*6+j) (by rw [show (c*6+j)/6=c by omega,show (c*6+j) % 6=j by omega];exact hs9) (by omega)
              rw [show 7+(c*6+j)=7+c*6+j by omega] at hA
              obtain⟨ky9,be9⟩:=hN2.turn (grown_set (grown_refl U1 P) (7+c*6+j) (.pointer (some ⟨g9,0,none⟩)))
              have c9:=hN2.box.cell (7+c*6+j) (by omega)
              have f9:=hN2.box.free (7+c*6+j)
              have HA:=hid hA
              have HC:=hid (hS.turn ky9 be9 H0.out)
              clear hU b1 hN2 hA ky9 be9 hs9
              clear hK K'
              refine wpAnyH_put (i:=9) (d:=40) (v:=.pointer (some ⟨P,7+c*6+j,none⟩)) rfl (by kernel_rfl) (by kernel_rfl) (by kernel_rfl) (by kernel_rfl) (fun _ _ _ h=>h) (Or.inl ⟨by kernel_rfl,fun W hS=>by obtain ⟨_,y0,y1,y2,y3,y4,y5,y6,y7⟩:=hS;first|(go_simp;done)|(go_simp;omega)⟩) hS ?_
              simp only [List.setIfInBounds_toArray,List.set_cons_zero,List.set_cons_succ]
              refine wpAnyH_one (r:=10) (by kernel_rfl) ?_
              refine wpOp_do rfl (by kernel_rfl) (fun K' hK=>?_)
              go_simp
              refine hK.out _ _ ⟨HC.out,?_⟩
              clear hS
              clear hK K'
              refine wpAnyH_done (by kernel_rfl) ?_ _
              go_wp2
              go_roundw
              case rel=>exact ⟨j+1,_,by omega,by go_num,HA,HC⟩
              case measure=>simp [intOf];omega
            · obtain rfl:j=6:=by omega
              go_wp2
              go_roundw
              case rel=>exact ⟨c+1,fl2,qs2,by omega,by go_num,hid (by have:=HN.out;rw [show c*6+6=(c+1)*6 by omega] at this;exact this),HC⟩
              case measure=>simp [intOf];omega
      · obtain rfl:c=12:=by omega
        go_wp2
        go_ret
        obtain⟨h1,h2⟩:=HN.out.made
        exact⟨lyN P S M R da dc fl qs,rfl,rfl,h1,h2,HC.out.bel⟩
end Go.Proofs.YtgandbaejlfppaaGreatDoor
namespace Go.Proofs.YtgandbaejlfppaaGreatDoor
set_option linter.unusedVariables false
set_option linter.unusedSimpArgs false
set_option maxRecDepth 20000
set_option maxHeartbeats 8000000
open Go.RowKit Go.Maps
def I3 (h:Hs) (c s j:Nat):List (Nat×Nat×Nat):=((List.range j).filter fun k=>decide (h.st c s k≠0)).map fun k=>(c,s,k)
def I2 (h:Hs) (c s:Nat):List (Nat×Nat×Nat):=(List.range s).flatMap fun s'=>I3 h c s' (slN c)
def I1 (h:Hs) (c:Nat):List (Nat×Nat×Nat):=(List.range c).flatMap fun c'=>I2 h c' 6
def inC (h:Hs) (x:Nat×Nat×Nat):List Value:=[Vi (x.1:Nat),Vi (x.2.1:Nat),Vi (x.2.2:Nat),Vi (h.st x.1 x.2.1 x.2.2),Vi (h.rq x.1 x.2.1 x.2.2)]
def flatI (h:Hs) (l:List (Nat×Nat×Nat)):List Value:=l.flatMap (inC h)
theorem flatI_snoc (h:Hs) (l:List (Nat×Nat×Nat)) (x:Nat×Nat×Nat):flatI h (l++[x])=flatI h l++inC h x:=by simp [flatI]
theorem I3_yes (h:Hs) (c s j:Nat) (hs:h.st c s j≠0):I3 h c s (j+1)=I3 h c s j++[(c,s,j)]:=by
 unfold I3;rw [List.range_succ,List.filter_append,List.map_append];simp [hs]
theorem I3_no (h:Hs) (c s j:Nat) (hs:h.st c s j=0):I3 h c s (j+1)=I3 h c s j:=by
 unfold I3;rw [List.range_succ,List.filter_append,List.map_append];simp [hs]
theorem I3_zero (h:Hs) (c s:Nat):I3 h c s 0=[]:=rfl
theorem I3_len (h:Hs) (c s j:Nat):(I3 h c s j).length≤j:=by
 unfold I3;rw [List.length_map];have:=List.length_filter_le (fun k=>decide (h.st c s k≠0)) (List.range j);simpa using this
theorem I2_succ (h:Hs) (c s:Nat):I2 h c (s+1)=I2 h c s++I3 h c s (slN c):=by
 unfold I2;rw [List.range_succ,List.flatMap_append];simp
theorem I1_succ (h:Hs) (c:Nat):I1 h (c+1)=I1 h c++I2 h c 6:=by
 unfold I1;rw [List.range_succ,List.flatMap_append];simp
theorem I2_len (h:Hs) (c s:Nat) (hc:c < 12):(I2 h c s).length≤s*64:=by
 induction s with
 | zero=>simp [I2]
 | succ s ih =>
  rw [I2_succ,List.length_append];have h1:=I3_len h c s (slN c);have h2:=szN_in hc;omega
theorem I1_len (h:Hs) (c:Nat) (hc:c≤12):(I1 h c).length≤c*384:=by
 induction c with
 | zero=>simp [I1]
 | succ c ih =>
  rw [I1_succ,List.length_append];have h1:=I2_len h c 6 (by omega);have h2:=ih (by omega);omega
theorem info102:(Tryz.prog.info? 53).map (fun i=>(i.zero,i.size,i.bytes))=some (some (.agg #[Vi 0,Vi 0,Vi 0,Vi 0,Vi 0]),5,40):=by kernel_rfl
theorem app_in (W:World) (B:Nat) (v:Value) (h:Hs) (l:List (Nat×Nat×Nat)) (x:Nat×Nat×Nat) (g c:Nat) (hown:W.ownsRow B 53 5 v l.length (flatI h l)) (hg:W.heap[g]?=some (.cells (inC h x).toArray 53 (0,0))) (hl:l.length≤100000) (hB:B≤W.heap.size) :
  ∃ v' w',(Builtin.append_ #[32,32] 32 #[v,Vl g 1 c]).run Tryz.prog W=.ok v' w'∧w'.ownsRow B 53 5 v' (l++[x]).length (flatI h (l++[x]))∧W.grownBy w' v.ownBlock:=by
 obtain⟨i0,hi0,hz0,hz1,hz2⟩:=info_parts info102;have hnw:∀ j u,(inC h x)[j]?=some u→W.cell? ((⟨g,0,none⟩:Addr).add j)=some u:=fun j u hj=>by
  rw [Addr.add_mid,Nat.zero_add,cell_of_row _ _ j _ _ _ hg];simpa using hj
 have h1:∀ u∈inC h x,u.oneCell'=true:=fun u hu=>by
  simp only [inC,List.mem_cons,List.not_mem_nil,or_false] at hu
  rcases hu with rfl|rfl|rfl|rfl|rfl <;> rfl
 obtain⟨v',w',e1,e2,e3,_⟩:=run_append_own (P:=Tryz.prog) W B 32 32 53 i0 _ 5 40 Tryz.underlying32 hi0 hz0 hz1 hz2 rfl (by omega) v _ _ hown ⟨g,0,none⟩ 1 c (inC h x) rfl hnw h1 (by unfold maxLen;omega) (by omega) hB;exact⟨v',w',e1,by rw [flatI_snoc,List.length_append];exact e2,e3⟩
def slab72 (y:Ly):List Value:=(List.range 72).map fun i=>Vp (y.sb (i/6) (i % 6)) 0
theorem Hp.range72 {B:Nat} {y:Ly} {d:Dy} {cf:Cf} {h:Hs} {W:World} (hp:Hp B y d cf h W):W.rangeAt y.P 7 (slab72 y):=by
 intro j v hv;have hj:j < 72:=by have:=(List.getElem?_eq_some_iff.1 hv).1;simpa [slab72] using this
 rw [hp.cell (7+j) (by omega) _ rfl];unfold boxF;rw [if_neg (by omega),if_pos (by omega),show 7+j - 7=j by omega];rw [←hv];simp [slab72,hj]
theorem ix69 (y:Ly) (k:Nat) (hk:k < 12) (w:World):(Instr.index 63 (.agg (slab72 y).toArray) (Vi (k:Nat))).run Tryz.prog w=.ok (.agg (slab6 y k).toArray) w:=by
 rcases (show k=0∨k=1∨k=2∨k=3∨k=4∨k=5∨k=6∨k=7∨k=8∨k=9∨k=10∨k=11 by omega) with rfl|rfl|rfl|rfl|rfl|rfl|rfl|rfl|rfl|rfl|rfl|rfl <;> kernel_rfl
theorem ix68 (y:Ly) (c k:Nat) (hk:k < 6) (w:World):(Instr.index 62 (.agg (slab6 y c).toArray) (Vi (k:Nat))).run Tryz.prog w=.ok (Vp (y.sb c k) 0) w:=by
 rcases (show k=0∨k=1∨k=2∨k=3∨k=4∨k=5 by omega) with rfl|rfl|rfl|rfl|rfl|rfl <;> kernel_rfl
structure Sv (b g:Nat) (s j:Nat) (st rq:Int) (V:World):Prop where
 c0:V.cell? ⟨b,1,none⟩=some (Vi (s:Nat))
 c1:V.cell? ⟨g,3,none⟩=some (Vi (j:Nat))
 c2:V.cell? ⟨g,0,none⟩=some (Vi st)
 c3:V.cell? ⟨g,1,none⟩=some (Vi rq)
theorem Sv.at {b g s j:Nat} {st rq:Int} {c:Nat} {on:Bool} {r n cap:Nat} {V:World} (h1:V.heap[b]?=some (.cells (sbC c s on r n cap) 132 (0,0))) (h2:V.heap[g]?=some (.cells (smC st rq b j) 137 (0,0))):Sv b g s j st rq V :=
 ⟨by rw [cell_of_row _ _ _ _ _ _ h1];rfl,by rw [cell_of_row _ _ _ _ _ _ h2];rfl,by rw [cell_of_row _ _ _ _ _ _ h2];rfl,by rw [cell_of_row _ _ _ _ _ _ h2];rfl⟩
theorem Sv.below {b g s j:Nat} {st rq:Int} {V V':World} (h:Sv b g s j st rq V) (k:Below V.heap.size V V'):Sv b g s j st rq V':=⟨below_cell k h.c0,below_cell k h.c1,below_cell k h.c2,below_cell k h.c3⟩
theorem im_toldSlots (B:Nat) (y:Ly) (d:Dy) (cf:Cf) (h:Hs) (W:World) (hp:Hp B y d cf h W) :
  Calls Tryz.prog 42 #[Vp y.P 0] W fun e W'=>∃ v,e=.returned v∧W'.ownsRow W.heap.size 53 5 v (I1 h 12).length (flatI h (I1 h 12))∧Below W.heap.size W W':=by
 have RG:=hid hp.range72;have I69:=hid (fun k hk w=>ix69 y k hk w);have I68:=hid (fun c k hk w=>ix68 y c k hk w);unfold slab6 at I69 I68;have HPB:=hid (fun V (hV:Below W.heap.size W V)=>hp.below hV);have SN:=hid (fun c (hc:c < 12)=>(szN_in hc));clear hp;go_enter Tryz.func42,Tryz.ntmps42;go_wp2_with (refine wpList_load_mid rfl 63 _ rfl _ _ rfl _ _ RG.out Tryz.underlying63 rfl (by kernel_rfl) ?_);generalize hA72:(slab72 y).toArray=A72 at *;clear hA72 RG;go_loopw [3,14] (fun v i wr=>∃ c:Nat,c≤12∧i=Vi c∧Hid (wr.ownsRow W.heap.size 53 5 v (I1 h c).length (flatI h (I1 h c)))∧Hid (Below W.heap.size W wr)) (fun _ i _=>12 - (intOf i).toNat)
 case atStart=>exact ⟨0,by omega,rfl,hid ⟨rfl,.inl ⟨rfl,rfl⟩⟩,hid (Below.refl _ _)⟩
 case round =>
  obtain⟨c,hc,rfl,HO,HB⟩:=hrel;obtain⟨va,vb,vc,rfl⟩:=own_sl4 HO.out
  by_cases hlt:c < 12
  ·have hcl:(c:Int) < 12:=by omega
   have i69:=fun w=>I69.out c hlt w
   have bA:Below wr.heap.size wr (wr.alloc (.cells #[Vp (y.sb c 0) 0,Vp (y.sb c 1) 0,Vp (y.sb c 2) 0,Vp (y.sb c 3) 0,Vp (y.sb c 4) 0,Vp (y.sb c 5) 0] 62)):=(Below.refl _ _).alloc (Nat.le_refl _) _;have O1:=hid (own_bel HO.out bA);have B1:=hid (HB.out.trans (bA.mono HB.out.size));have hsn:=SN.out c hlt;have hI1:=I1_len h c (by omega);clear HO HB bA;go_wp2_with fail;generalize wr.alloc _=V1 at O1 B1 ⊢;go_loopw [3,19] (fun v i wr=>∃ s:Nat,s≤6∧i=Vi s∧Hid (wr.ownsRow W.heap.size 53 5 v (I1 h c++I2 h c s).length (flatI h (I1 h c++I2 h c s)))∧Hid (Below W.heap.size W wr)) (fun _ i _=>6 - (intOf i).toNat)
   case atStart=>exact ⟨0,by omega,rfl,hid (by rw [show I2 h c 0=[] from rfl,List.append_nil];exact O1.out),B1⟩
   case round =>
    clear O1 B1;obtain⟨s,hs,rfl,HO,HB⟩:=hrel;obtain⟨va,vb,vc,rfl⟩:=own_sl4 HO.out
    by_cases hst:s < 6
    ·have hsl:(s:Int) < 6:=by omega
     have i68:=fun w=>I68.out c s hst w
     have d3:=(HPB.out wr HB.out).bc c s hlt hst |>.d3
     have hI2:=I2_len h c s hlt;have HR:=hid (fun V (hV:Below W.heap.size W V) j (hj:j < slN c)=>And.intro ((HPB.out V hV).rowAt c s j hlt hst hj) (Sv.at ((HPB.out V hV).sl c s hlt hst) ((HPB.out V hV).sm c s j hlt hst hj)));have HY:=hid (fun j (hj:h.st c s j≠0)=>I3_yes h c s j hj);have HN:=hid (fun j (hj:h.st c s j=0)=>I3_no h c s j hj);have HL:=hid (fun j=>I3_len h c s j);obtain⟨n,hn⟩:∃ n,slN c=n:=⟨_,rfl⟩;have HNE:=hid hn;rw [hn] at d3 HR hsn;generalize y.sr c s=r at *;generalize y.sc c s=cap9 at *;go_wp2_with fail;go_loopw [3,27] (fun v i wr=>∃ j:Nat,j≤n∧i=Vi j∧Hid (wr.ownsRow W.heap.size 53 5 v (I1 h c++I2 h c s++I3 h c s j).length (flatI h (I1 h c++I2 h c s++I3 h c s j)))∧Hid (Below W.heap.size W wr)) (fun _ i _=>n - (intOf i).toNat)
     case atStart=>exact ⟨0,by omega,rfl,hid (by rw [I3_zero,List.append_nil];exact HO.out),HB⟩
     case round =>
      clear HO HB d3;obtain⟨j,hj,rfl,HO,HB⟩:=hrel;obtain⟨va,vb,vc,rfl⟩:=own_sl4 HO.out
      by_cases hjt:j < n
      ·obtain⟨r0,sv⟩:=HR.out wr HB.out j hjt;have st0:=sv.c2;have hlen:(I1 h c++I2 h c s++I3 h c s j).length≤100000:=by
        rw [List.length_append,List.length_append];have:=HL.out j;omega
       by_cases h0:h.st c s j=0
       ·have EN:=hid (HN.out j h0);rw [h0] at st0;clear sv;go_wp2;go_roundw
        case rel=>exact ⟨j+1,by omega,by go_num,hid (by rw [EN.out];exact HO.out),HB⟩
        case measure=>simp [intOf];omega
       have EY:=hid (HY.out j h0);have h0':(h.st c s j==0)=false:=by simpa using h0
       have h0'':(h.st c s j != 0)=true:=by simpa using h0
       have SD:=hid (sv.below (Below.refl _ wr).drew);have bD:Below wr.heap.size wr wr.drew:=(Below.refl _ _).drew;have bA:Below wr.drew.heap.size wr.drew (wr.drew.alloc (.cells (inC h (c,s,j)).toArray 53)):=(Below.refl _ _).alloc (Nat.le_refl _) _;have BA:=hid ((HB.out.trans (bD.mono HB.out.size)).trans (bA.mono (Nat.le_trans HB.out.size bD.size)));obtain⟨v',U,happ,o9,g9⟩:=app_in _ W.heap.size (.slice va vb vc) h (I1 h c++I2 h c s++I3 h c s j) (c,s,j) wr.drew.heap.size 1 (own_bel (own_bel HO.out bD) bA) (al_last wr.drew _) hlen BA.out.size;obtain⟨wa,wb,wc,rfl⟩:=own_sl4 o9;have BU:=hid (BA.out.grown g9 BA.out.size (fun p hp=>(own_lt (own_bel (own_bel HO.out bD) bA) hp).1));have SA:=hid (SD.out.below bA);have SU:=hid (show Sv (y.sb c s) (y.sm c s j) s j (h.st c s j) (h.rq c s j) U from (HR.out U BU.out j hjt).2);have O9:=hid o9;clear o9 g9 bA bD sv HO HB BA;unfold inC at happ SA;go_upto_region 12 with fail
       refine wp_region_held (S:=Sv (y.sb c s) (y.sm c s j) s j (h.st c s j) (h.rq c s j)) (by kernel_rfl) ?_;simp only [List.size_toArray,List.length_cons,List.length_nil,Nat.reduceAdd,Array.replicate_succ,Array.replicate_zero,List.push_toArray,List.nil_append,List.cons_append];generalize hV1:wr.drew=V1 at SD SA happ;have hV1':({ heap:=wr.heap,tape:=wr.tape,drawn:=wr.drawn+1,os:=wr.os,output:=wr.output } : World)=V1:=hV1;rw [hV1'];clear hV1 hV1' r0 st0 i68 i69;have hS:=SD.out
       iterate 21 (refine py hS ?_;simp only [f0,f1,Nat.reduceAdd,lz,l0,ls])
       refine po 21 fun K' hK=>?_
       go_simp;refine hK.out _ _ ⟨SA.out,?_⟩;clear hS;have hS:=SA.out;clear hK K';refine po 22 fun K' hK=>?_
       refine wpo_append 32 (.tmp 37) (.tmp 58) (v:=.slice va vb vc) (v2:=Vl V1.heap.size 1 1) (by kernel_rfl) (by kernel_rfl) (by kernel_rfl) (by kernel_rfl) happ ?_;refine hK.out _ _ ⟨SU.out,?_⟩;clear hS;have hS:=SU.out;clear hK K';refine py hS ?_;simp only [f0,f1,Nat.reduceAdd,lz,l0,ls];refine wpAnyH_done (by kernel_rfl) ?_ _;go_wp2;go_roundw
       case rel=>exact ⟨j+1,by omega,by go_num,hid (by rw [EY.out,←List.append_assoc];exact O9.out),BU⟩
       case measure=>simp [intOf];omega
      obtain rfl:j=n:=by omega
      go_wp2;go_roundw
      case rel=>exact ⟨s+1,by omega,by go_num,hid (by rw [I2_succ,HNE.out,←List.append_assoc];exact HO.out),HB⟩
      case measure=>simp [intOf];omega
    obtain rfl:s=6:=by omega
    go_wp2;go_roundw
    case rel=>exact ⟨c+1,by omega,by go_num,hid (by rw [I1_succ];exact HO.out),HB⟩
    case measure=>simp [intOf];omega
  obtain rfl:c=12:=by omega
  go_wp2;go_ret;exact⟨_,rfl,HO.out,HB.out⟩
end Go.Proofs.YtgandbaejlfppaaGreatDoor
