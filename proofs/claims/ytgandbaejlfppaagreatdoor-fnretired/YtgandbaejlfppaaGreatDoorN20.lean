import Derived.Test.YtgandbaejlfppaaGreatDoorN18
import Derived.Test.YtgandbaejlfppaaGreatDoorN16
namespace Go.Proofs.YtgandbaejlfppaaGreatDoor
set_option linter.unusedVariables false
set_option linter.unusedSimpArgs false
set_option maxRecDepth 20000
set_option maxHeartbeats 8000000
open Go.RowKit
def hI (t:TypeId):Prop:=t=73∨t=121∨t=155∨t=132∨t=137∨t=158∨t=126∨t=128∨t=3∨t=23
structure Bi (B:Nat) (W W':World):Prop where
 bel:Below B W W'
 ky:Ky hI W W'
theorem Bi.refl (B:Nat) (W:World):Bi B W W:=⟨Below.refl _ _,Ky.refl _ _⟩
theorem Bi.trans {B:Nat} {a b c:World} (h:Bi B a b) (k:Bi B b c):Bi B a c:=⟨h.bel.trans k.bel,h.ky.trans k.ky⟩
theorem Bi.ofBelow {B:Nat} {W W':World} (b:Below W.heap.size W W') (hB:B≤W.heap.size):Bi B W W':=⟨b.mono hB,Ky.below b⟩
theorem Bi.add {B:Nat} {W V V':World} (h:Bi B W V) (b:Below V.heap.size V V') (hB:B≤V.heap.size):Bi B W V':=h.trans (Bi.ofBelow b hB)
theorem Bi.ofGrown {B P:Nat} {W W':World} {c:Array Value} {t:TypeId} {f:Nat×Nat} (hP:W.heap[P]?=some (.cells c t f)) (ht:hI t) (hB:B≤P) (hW:B≤W.heap.size) (hg:W.grownBy W' (some P)):Bi B W W' :=
 ⟨(Below.refl B W).grown hg hW (fun r hr=>by simp at hr;omega),Ky.grown hP ht hg⟩
def refV (code:Int):List PanicEntry:=[{ v:=.iface 92 (.agg #[Vi code]),recovered:=false }]
theorem Hp.usedP {B:Nat} {y:Ly} {d:Dy} {cf:Cf} {h:Hs} {W:World} (hp:Hp B y d cf h W) (u:Nat):Hp B y d cf { h with used:=u } (W.setCell ⟨y.P,118,none⟩ (Vi (u:Nat))):=by
 have k:=hp.box.kyS 118 (Vi (u:Nat));have hb:Below B W (W.setCell ⟨y.P,118,none⟩ (Vi (u:Nat))):=(Below.refl B W).grown (grown_set (grown_refl W y.P) _ _) hp.bW (fun r hr=>by simp at hr;have:=hp.ap.bP;omega);have bx:=hp.box.set 118 (by omega) (Vi (u:Nat));rw [boxF_used] at bx;have hM:(W.setCell ⟨y.P,118,none⟩ (Vi (u:Nat))).heap[y.M]?=W.heap[y.M]?:=Below.heap_setCell _ _ _ _ (fun e=>by
  obtain⟨c,h1,_⟩:=hp.box;obtain⟨D,⟨es,c2,h2,_⟩,_⟩:=hp.sp.map;rw [e,h1] at h2;cases h2)
 have hR:(W.setCell ⟨y.P,118,none⟩ (Vi (u:Nat))).heap[y.R]?=W.heap[y.R]?:=Below.heap_setCell _ _ _ _ (fun e=>by
  obtain⟨c,h1,_⟩:=hp.box;obtain⟨es,c2,h2⟩:=hp.mp.typ;rw [e,h1] at h2;cases h2)
 exact⟨hp.ap,Nat.le_trans hp.bW hb.size,bx,hp.ds.belowB hb hp.ap.da,hp.sp.ky k (by decide) hM,hp.pg.ky k (by decide),hp.bf,
 fun c s hc hs=>k.cells _ _ _ _ (hp.sl c s hc hs) (by decide),fun c s hc hs=>row_ky (hp.rw c s hc hs) k (by decide),fun c s j hc hs hj=>k.cells _ _ _ _ (hp.sm c s j hc hs hj) (by decide),
 fun c hc=>(hp.wt c hc).ky k (by decide) (by decide) (by decide),hp.mp.same hR,hp.lo,fun r hr=>by obtain ⟨g,h1,h2,h3⟩:=hp.lb r hr;exact⟨g,h1,h2,k.cells _ _ _ _ h3 (by decide)⟩,hp.li,hp.ro.ky k (by decide),own_ky hp.rl k (by decide),hp.rr,hp.tb.belowB hb hp.ap.b0⟩
theorem Hp.bi118 {B:Nat} {y:Ly} {d:Dy} {cf:Cf} {h:Hs} {W:World} (hp:Hp B y d cf h W) (i:Nat) (v:Value):Bi B W (W.setCell ⟨y.P,i,none⟩ v):=by
 obtain⟨c,h1,_⟩:=hp.box;exact Bi.ofGrown h1 (.inl rfl) hp.ap.bP hp.bW (grown_set (grown_refl W y.P) _ _)
theorem im_draw (B:Nat) (y:Ly) (d:Dy) (cf:Cf) (h:Hs) (n:Nat) (W:World) (hp:Hp B y d cf h W) (hn:1≤n) (hn2:n≤1000000) (hu:h.used≤1000000) (hd:cf.ds.length≤20000) :
  Calls Tryz.prog 95 #[Vp y.P 0,Vi n] W fun e W'=>e=.returned (Vi (dr cf h n:Nat))∧Hp B y d cf { h with used:=h.used+1 } W'∧Bi B W W':=by
 have c118:W.cell? ⟨y.P,118,none⟩=some (Vi (h.used:Nat)):=hp.cell 118 (by omega) _ rfl;have c5:W.cell? ⟨y.P,5,none⟩=some (.slice y.da cf.ds.length y.dc):=hp.cell 5 (by omega) _ rfl;have f118:W.frozen? ⟨y.P,118,none⟩=false:=hp.box.free 118;have ec:((h.used+1:Nat):Int)=(h.used:Int)+1:=by omega
 have H1:=hid (hp.usedP (h.used+1));have G1:=hid (hp.bi118 118 (Vi (h.used+1:Nat)));rw [ec] at H1 G1;clear ec
 by_cases hlt:h.used < cf.ds.length
 ·obtain⟨g,hda,hc⟩:=hp.ds.cells h.used hlt;rw [hda] at c5;have HE:=hid (show dr cf h n=md (cf.ds[h.used]?.getD 0) n from rfl);generalize cf.ds[h.used]?.getD 0=q at HE hc;have M:=hid (fun W'=>modulo_in q n W' hn (by omega));generalize cf.ds.length=dl at *;generalize hus:h.used=us at c118 hc hlt H1 G1 hu;clear hp hda;have hlt':(us:Int) < (dl:Int):=by omega
  go_enter Tryz.func95,Tryz.ntmps95;go_wp2;go_region;go_wp2;go_region;go_wp2_with fail;refine (M.out _).mono ?_;rintro e W2 ⟨rfl,rfl⟩;go_wp2;go_ret;refine⟨?_,H1.out.below (Below.refl _ _).drew.drew,⟨G1.out.bel.os,G1.out.bel.tape,G1.out.bel.output,G1.out.bel.size,G1.out.bel.block⟩,⟨G1.out.ky.os,G1.out.ky.tape,G1.out.ky.output,G1.out.ky.size,G1.out.ky.cells⟩⟩;rw [HE.out];rfl
 have HE:=hid (show dr cf h n=md 0 n by unfold dr md;rw [List.getElem?_eq_none (by omega)];rfl);have M:=hid (fun W'=>modulo_in 0 n W' hn (by omega));generalize cf.ds.length=dl at *;generalize hus:h.used=us at c118 hlt H1 G1 hu;clear hp;have hlt':¬((us:Int) < (dl:Int)):=by omega
 go_enter Tryz.func95,Tryz.ntmps95;go_wp2;go_region;go_wp2_with fail;refine (M.out _).mono ?_;rintro e W2 ⟨rfl,rfl⟩;go_wp2;go_ret;refine⟨?_,H1.out.below (Below.refl _ _).drew,⟨G1.out.bel.os,G1.out.bel.tape,G1.out.bel.output,G1.out.bel.size,G1.out.bel.block⟩,⟨G1.out.ky.os,G1.out.ky.tape,G1.out.ky.output,G1.out.ky.size,G1.out.ky.cells⟩⟩;rw [HE.out];rfl
theorem Fr.kt {S M:Nat} {st n bud:Int} {f f':Nat→Option Nat} {m:Nat→Option (Bool×List Int)} {W W':World} (hi:Im S M st n bud f W) (hp:Pg f m W) (h:Fr S M f f' W W'):Ky (fun t=>t=121∨t=155) W W':=by
 refine⟨h.os,h.tape,h.output,h.size,fun g c t fr hg ht=>?_⟩;rw [h.block g (lt_blk hg) ?_ ?_ ?_]
 ·exact hg
 ·rintro rfl;rw [hi.box] at hg;simp at hg;exact ht (.inl hg.2.1.symm)
 ·rintro rfl;obtain⟨D,⟨es,c2,h2,_⟩,_⟩:=hi.map;rw [h2] at hg;cases hg
 intro k hk
 rcases hp.at' k with ⟨e1,_⟩|⟨b',l,xs,e1,_,_,e4⟩
 ·rw [hk] at e1;cases e1
 rw [hk] at e1;cases e1;rw [e4] at hg;simp at hg;exact ht (.inr hg.2.1.symm)
theorem Hp.space {B:Nat} {y:Ly} {d:Dy} {cf:Cf} {h:Hs} {W W':World} {f':Nat→Option Nat} {m':Nat→Option (Bool×List Int)} (hp:Hp B y d cf h W) (hi:Im y.S y.M 0 283 (cf.bud:Nat) f' W') (hg:Pg f' m' W') (hf:Fr y.S y.M d.f f' W W') :
  Hp B y { d with f:=f' } cf { h with m:=m' } W'∧Bi B W W':=by
 have k:=hf.kt hp.sp hp.pg;have hb:Below B W W':=⟨hf.os,hf.tape,hf.output,hf.size,fun g hg'=>hf.block g (Nat.lt_of_lt_of_le hg' hp.bW) (by have:=hp.ap.bS;omega) (by have:=hp.ap.bM;omega) (fun j hj=>by have:=hp.bf j g hj;omega)⟩;have hR:W'.heap[y.R]?=W.heap[y.R]?:=by
  obtain⟨es,c2,h2⟩:=hp.mp.typ;refine hf.block _ (lt_blk h2) (fun e=>?_) (fun e=>hp.ap.mr e.symm) (fun j hj=>?_)
  ·rw [e,hp.sp.box] at h2;cases h2
  rcases hp.pg.at' j with ⟨e1,_⟩|⟨b',l,xs,e1,_,_,e4⟩
  ·rw [hj] at e1;cases e1
  rw [hj] at e1;cases e1;rw [e4] at h2;cases h2
 refine⟨⟨hp.ap,Nat.le_trans hp.bW hb.size,hp.box.ky k (by decide),hp.ds.belowB hb hp.ap.da,hi,hg,fun j g hj=>?_,
 fun c s hc hs=>?_,fun c s hc hs=>row_ky (hp.rw c s hc hs) k (by decide),fun c s j hc hs hj=>k.cells _ _ _ _ (hp.sm c s j hc hs hj) (by decide),
 fun c hc=>(hp.wt c hc).ky k (by decide) (by decide) (by decide),hp.mp.same hR,hp.lo,fun r hr=>by obtain ⟨g,h1,h2,h3⟩:=hp.lb r hr;exact⟨g,h1,h2,k.cells _ _ _ _ h3 (by decide)⟩,hp.li,hp.ro.ky k (by decide),own_ky hp.rl k (by decide),hp.rr,hp.tb.belowB hb hp.ap.b0⟩,hb,k.more (fun t ht=>by unfold hI;rcases ht with e|e <;> simp [e])⟩
 ·rcases hf.made j g hj with ⟨i,hi9⟩|h9
  ·exact hp.bf i g hi9
  exact Nat.le_trans hp.bW h9
 exact k.cells _ _ _ _ (hp.sl c s hc hs) (by decide)
end Go.Proofs.YtgandbaejlfppaaGreatDoor
namespace Go.Proofs.YtgandbaejlfppaaGreatDoor
set_option linter.unusedVariables false
set_option linter.unusedSimpArgs false
set_option maxRecDepth 20000
set_option maxHeartbeats 8000000
open Go.RowKit
theorem not202:¬hI 151:=by unfold hI;decide
theorem not157:¬hI 183:=by unfold hI;decide
theorem own_sl4 {W:World} {base:Nat} {e:TypeId} {size:Nat} {v:Value} {n:Nat} {xs:List Value} (h:W.ownsRow base e size v n xs):∃ a n c,v=.slice a n c:=by
 obtain⟨a,c,h⟩:=own_sl2 h;exact⟨a,n,c,h⟩
theorem Hp.off {B:Nat} {y:Ly} {d:Dy} {cf:Cf} {h:Hs} {W W':World} (hp:Hp B y d cf h W) {t:TypeId} (ht:t≠73∧t≠121∧t≠155∧t≠132∧t≠133∧t≠137∧t≠128∧t≠126∧t≠3∧t≠158∧t≠23) {Y:Nat} {c:Array Value} (hY:W.heap[Y]?=some (.cells c t (0,0))) (b:Below B W W') (g:W.grownBy W' (some Y)):Hp B y d cf h W':=by
 refine hp.keep ⟨(Ky.grown hY rfl g:Ky (· = t) W W').more (fun u hu=>by subst hu;exact ht),?_,?_⟩ b
 ·obtain⟨D,⟨es,c2,h2,_⟩,_⟩:=hp.sp.map;exact g.block _ (lt_blk h2) (fun e=>by simp at e;rw [e,hY] at h2;cases h2)
 obtain⟨es,c2,h2⟩:=hp.mp.typ;exact g.block _ (lt_blk h2) (fun e=>by simp at e;rw [e,hY] at h2;cases h2)
theorem Bi.loc {B Y:Nat} {W V V':World} (h:Bi B W V) (g:V.grownBy V' (some Y)) (hY:W.heap.size≤Y) (hB:B≤W.heap.size):Bi B W V' :=
 ⟨h.bel.trans ((Below.refl B V).grown g (Nat.le_trans hB h.bel.size) (fun r hr=>by simp at hr;omega)),g.os.trans h.ky.os,g.tape.trans h.ky.tape,g.output.trans h.ky.output,Nat.le_trans h.ky.size g.size,fun gg c u f hg hu=>by
  rw [g.block gg (Nat.lt_of_lt_of_le (lt_blk hg) h.ky.size) (fun e=>by simp at e;have:=lt_blk hg;omega)]
  exact h.ky.cells gg c u f hg hu⟩
def AskR (B:Nat) (y:Ly) (d:Dy) (cf:Cf) (h:Hs) (W:World) (m':Nat→Option (Bool×List Int)) (code:Int) (data:List Int) (e:Ending) (W':World):Prop :=
 ∃ f',Hp B y { d with f:=f' } cf { h with m:=m' } W'∧Bi B W W'∧((code=0∧∃ v,e=.returned v∧W'.ownsRow W.heap.size 5 1 v data.length (Ns .u8 data))∨(code≠0∧e=.panicked (refV code)))
theorem own_bel {W W':World} {B:Nat} {e:TypeId} {sz:Nat} {v:Value} {n:Nat} {xs:List Value} (h:W.ownsRow B e sz v n xs) (b:Below W.heap.size W W'):W'.ownsRow B e sz v n xs:=own_ky h (Ky.below b:Ky (fun _=>False) W W') (fun e=>e)
theorem Da.belowD {S M:Nat} {f:Nat→Option Nat} {w w':World} {p:Option Addr} {n:Nat} {ys:List Int} (h:Da S M f w p n ys) (b:Below w.heap.size w w'):Da S M f w' p n ys :=
 ⟨h.1,fun i hi=>by obtain ⟨x,h1,h2,h3,h4⟩:=h.2 i hi;exact⟨x,h1,below_cell b h2,Nat.lt_of_lt_of_le h3 b.size,h4⟩⟩
theorem im_ask (B:Nat) (y:Ly) (d:Dy) (cf:Cf) (h:Hs) (kd p c:Int) (a:Nat) (n:Int) (da:Option Addr) (dl dc:Nat) (ys:List Int) (W:World) (hp:Hp B y d cf h W) (hout:∀ k,283≤k→h.m k=none) (ha:a < 18446744073709551616) (hpm:p≤9223372036854775807) (hd:Da y.S y.M d.f W da dl ys) (hdc:dl≤dc) :
  Calls Tryz.prog 75 #[Vp y.P 0,opV kd p c a n da dl dc] W (AskR B y d cf h W (stepM 283 (cf.bud:Nat) h.m kd p c a n ys).1 (stepM 283 (cf.bud:Nat) h.m kd p c a n ys).2.1 (stepM 283 (cf.bud:Nat) h.m kd p c a n ys).2.2):=by
 have DO:=hid (fun V (hV:Below W.heap.size W V)=>im_do y.S y.M 283 (cf.bud:Nat) d.f h.m kd p c a n da dl dc ys V (hp.below hV).sp (hp.below hV).pg hout (by omega) ha hpm (hd.belowD hV) hdc);have FI:=hid (fun V V' f' m' (hV:Below W.heap.size W V) (hi:Im y.S y.M 0 283 (cf.bud:Nat) f' V') (hg:Pg f' m' V') (hf:Fr y.S y.M d.f f' V V')=>(hp.below hV).space hi hg hf);have C6:=hp.cell 6 (by omega) _ rfl;have BW:=hid hp.bW;generalize stepM 283 (cf.bud:Nat) h.m kd p c a n ys=r at *;obtain⟨m',code,data⟩:=r;dsimp only at *;unfold opV at DO ⊢;obtain⟨V,hV⟩:∃ V,V=W.alloc (.cells #[Vi kd,Vi p,Vi c,Vu (a:Nat),Vi n,.slice da dl dc] 151):=⟨_,rfl⟩;have bV:Below W.heap.size W V:=by rw [hV];exact (Below.refl _ _).alloc (Nat.le_refl _) _
 have X:=(show V.heap[W.heap.size]?=some (.cells #[Vi kd,Vi p,Vi c,Vu (a:Nat),Vi n,.slice da dl dc] 151 (0,0)) by rw [hV];exact al_last W _);have C6V:=below_cell bV C6;have BV:=hid bV;obtain⟨SP,hSP⟩:∃ SP,SP=y.S:=⟨_,rfl⟩;obtain⟨PP,hPP⟩:∃ PP,PP=y.P:=⟨_,rfl⟩;have e6:boxF cf y d h.used 6=Vp y.S 0:=rfl;rw [e6] at C6V;rw [←hSP] at DO C6V;rw [←hPP] at C6V ⊢;clear hp hd C6 bV e6;obtain⟨XX,hXX⟩:∃ XX,XX=W.heap.size:=⟨_,rfl⟩;have CK:=hid (show ∀ W9:World,W9.cell? ⟨PP,6,none⟩=some (Vp SP 0)→W9.heap[XX]?=some (.cells #[Vi kd,Vi p,Vi c,Vu (a:Nat),Vi n,.slice da dl dc] 151 (0,0))→W9.cell? ⟨PP,6,none⟩=some (Vp SP 0)∧W9.cell? ⟨XX,0,none⟩=some (Vi kd)∧W9.cell? ⟨XX,1,none⟩=some (Vi p)∧W9.cell? ⟨XX,2,none⟩=some (Vi c)∧W9.cell? ⟨XX,3,none⟩=some (Vu (a:Nat))∧W9.cell? ⟨XX,4,none⟩=some (Vi n)∧W9.cell? ⟨XX,5,none⟩=some (.slice da dl dc) from fun W9 c6 x=>by
  exact⟨c6,by rw [cell_of_row _ _ _ _ _ _ x];rfl,by rw [cell_of_row _ _ _ _ _ _ x];rfl,by rw [cell_of_row _ _ _ _ _ _ x];rfl,by rw [cell_of_row _ _ _ _ _ _ x];rfl,by rw [cell_of_row _ _ _ _ _ _ x];rfl,by rw [cell_of_row _ _ _ _ _ _ x];rfl⟩)
 have HSP:=hid hSP;have HPP:=hid hPP;rw [←hXX] at X;have HXX:=hid hXX;have XV:=hid X;have C6W:=hid C6V;clear C6V X hSP hPP;go_enter Tryz.func75,Tryz.ntmps75;go_upto_region 1 with fail
 refine Eq.mp (congrArg _ hV) ?_;clear hV;rw [←hXX];clear hXX;refine wp_region_held (S:=fun W9=>W9.cell? ⟨PP,6,none⟩=some (Vp SP 0)∧W9.cell? ⟨XX,0,none⟩=some (Vi kd)∧W9.cell? ⟨XX,1,none⟩=some (Vi p)∧W9.cell? ⟨XX,2,none⟩=some (Vi c)∧W9.cell? ⟨XX,3,none⟩=some (Vu (a:Nat))∧W9.cell? ⟨XX,4,none⟩=some (Vi n)∧W9.cell? ⟨XX,5,none⟩=some (.slice da dl dc)) (by kernel_rfl) ?_;simp only [List.size_toArray,List.length_cons,List.length_nil,Nat.reduceAdd,Array.replicate_succ,Array.replicate_zero,List.push_toArray,List.nil_append,List.cons_append];have hS:=CK.out V.drew C6W.out XV.out
 iterate 5 (refine py hS ?_;simp only [f0,f1,Nat.reduceAdd,lz,l0,ls])
 refine wpAnyH_all (rs:=[5,6]) (by kernel_rfl) (by simp) (fun i9 hi9=>?_)
 rcases (by simpa using hi9:i9=5∨i9=6) with hi9|hi9
 ·subst hi9;refine wpOp_do rfl (by kernel_rfl) (fun K' hK=>?_);go_simp;refine (DO.out _ (BV.out.drew)).mono ?_;rintro e V1 ⟨v,rfl,own1,f',i1,g1,fr1⟩;rw [HSP.out] at i1 fr1;obtain⟨hp1,bi1⟩:=FI.out _ V1 f' m' (BV.out.drew) i1 g1 fr1;have kt1:=bi1.ky;obtain⟨va,vn,vc,rfl⟩:=own_sl4 own1;have x1:V1.heap[XX]?=some (.cells #[Vi kd,Vi p,Vi c,Vu (a:Nat),Vi n,.slice da dl dc] 151 (0,0)):=kt1.cells _ _ _ _ (show V.drew.heap[XX]?=_ from XV.out) not202;have p1:V1.cell? ⟨PP,6,none⟩=some (Vp SP 0):=by rw [HPP.out,HSP.out];exact hp1.cell 6 (by omega) _ rfl
  have h1:=CK.out _ p1 x1;refine hK.out _ _ ⟨h1,?_⟩;clear hS;have hS:=h1;clear hK K';refine po 6 fun K' hK=>?_
  go_simp;have b2:Below V1.heap.size V1 (V1.alloc (.cells #[Vi 0,Vn] 183)):=(Below.refl _ _).alloc (Nat.le_refl _) _;have Y2:=al_last V1 (.cells #[Vi 0,Vn] 183);have h2:=CK.out _ (below_cell b2 p1) ((b2.block _ (lt_blk x1)).trans x1);refine hK.out _ _ ⟨h2,?_⟩;clear hS hK K';have hS:=h2;have BI:=(Bi.ofBelow BV.out.drew BW.out).trans (bi1.add b2 (Nat.le_trans BW.out (Nat.le_trans BV.out.size bi1.bel.size)));have HP2:=hp1.below b2;have OW2:=own_bel (own_mono own1 (BV.out.size)) b2;have X2b:=(b2.block _ (lt_blk x1)).trans x1;generalize V1.alloc _=V2 at *;generalize hYe:V1.heap.size=Y at *;have BY:W.heap.size≤Y:=by rw [←hYe];exact Nat.le_trans BV.out.size bi1.bel.size
  have X2:=X2b;clear hYe;refine po 7 fun K' hK=>?_
  refine wp_store_row 183 _ _ rfl Y _ rfl rfl 183 _ Y2 (by kernel_rfl) rfl (by simp [Value.oneCell']) ?_;have g3:=grown_setRow V2 Y #[Vi code,.slice va vn vc];have k3:Ky (· = 183) V2 (V2.setRow Y #[Vi code,.slice va vn vc]):=Ky.grown Y2 rfl g3;have x2:V2.heap[XX]?=some (.cells #[Vi kd,Vi p,Vi c,Vu (a:Nat),Vi n,.slice da dl dc] 151 (0,0)):=X2;have hYB:B≤Y:=Nat.le_trans BW.out BY;have b3:Below B V2 (V2.setRow Y #[Vi code,.slice va vn vc]):=(Below.refl _ _).grown g3 HP2.bW (fun r hr=>by simp at hr;omega);have HP3:=HP2.off (by decide) Y2 b3 g3;have h3:=CK.out _ (show (V2.setRow Y #[Vi code,.slice va vn vc]).cell? ⟨PP,6,none⟩=_ by rw [HPP.out,HSP.out];exact HP3.cell 6 (by omega) _ rfl) (k3.cells _ _ _ _ x2 (by decide));refine hK.out _ _ ⟨h3,?_⟩;clear hS hK K';have hS:=h3;refine wpAnyH_done (by kernel_rfl) ?_ _;have XU:=setRow_at (v:=V2) Y2 #[Vi code,.slice va vn vc];have HU:=And.intro HP3 (And.intro (BI.loc g3 BY BW.out) (own_ky OW2 k3 (by decide)));clear h3 x2 X2 k3 g3 b3 HP2 HP3 BI OW2 Y2 hYB BY;generalize V2.setRow Y #[Vi code,.slice va vn vc]=U at *;have HF:=hid (show Hp B y { d with f:=f' } cf { h with m:=m' } U∧Bi B W U∧U.ownsRow W.heap.size 5 1 (.slice va vn vc) data.length (Ns .u8 data) from HU);have y0:U.cell? ⟨Y,0,none⟩=some (Vi code):=by rw [cell_of_row _ _ _ _ _ _ XU];rfl
  have y1:U.cell? ⟨Y,1,none⟩=some (.slice va vn vc):=by rw [cell_of_row _ _ _ _ _ _ XU];rfl
  clear HU XU hS
  by_cases hc0:code=0
  ·subst hc0;go_wp2;go_ret;exact⟨f',HF.out.1,HF.out.2.1,.inl ⟨rfl,_,rfl,HF.out.2.2⟩⟩
  have hc0':(code != 0)=true:=by simpa using hc0
  go_wp2;exact⟨rfl,f',HF.out.1,HF.out.2.1,.inr ⟨hc0,rfl⟩⟩
 subst hi9;refine wpOp_do rfl (by kernel_rfl) (fun K' hK=>?_);go_simp;have b2:Below V.heap.size V (V.alloc (.cells #[Vi 0,Vn] 183)).drew:=((Below.refl _ _).alloc (Nat.le_refl _) _).drew;have Y1:(V.alloc (.cells #[Vi 0,Vn] 183)).drew.heap[V.heap.size]?=_:=al_last V (.cells #[Vi 0,Vn] 183);have h2:=CK.out _ (below_cell b2 C6W.out) ((b2.block _ (lt_blk XV.out)).trans XV.out);refine hK.out _ _ ⟨h2,?_⟩;clear hS hK K';have hS:=h2;have x0:=(b2.block _ (lt_blk XV.out)).trans XV.out;have BV2:=BV.out.trans (b2.mono BV.out.size);have SZ:=b2.size;generalize World.drew (V.alloc _)=V0 at *;generalize hYe:V.heap.size=Y at *;refine po 5 fun K' hK=>?_
 go_simp;refine (DO.out _ (BV2)).mono ?_;rintro e V1 ⟨v,rfl,own1,f',i1,g1,fr1⟩;rw [HSP.out] at i1 fr1;obtain⟨hp1,bi1⟩:=FI.out _ V1 f' m' (BV2) i1 g1 fr1;have kt1:=bi1.ky;obtain⟨va,vn,vc,rfl⟩:=own_sl4 own1;have x1:V1.heap[XX]?=some (.cells #[Vi kd,Vi p,Vi c,Vu (a:Nat),Vi n,.slice da dl dc] 151 (0,0)):=kt1.cells _ _ _ _ x0 not202;have p1:V1.cell? ⟨PP,6,none⟩=some (Vp SP 0):=by rw [HPP.out,HSP.out];exact hp1.cell 6 (by omega) _ rfl
 have h1:=CK.out _ p1 x1;refine hK.out _ _ ⟨h1,?_⟩;clear hS;have hS:=h1;clear hK K';have Y2:=kt1.cells _ _ _ _ Y1 not157;have BI:=(Bi.ofBelow BV2 BW.out).trans bi1;have HP2:=hp1;have OW2:=own_mono own1 BV2.size;have BY:W.heap.size≤Y:=by rw [←hYe];exact BV.out.size
 have X2:=x1;clear hYe;generalize hVe:V1=V2 at *;clear hVe;refine po 7 fun K' hK=>?_
 refine wp_store_row 183 _ _ rfl Y _ rfl rfl 183 _ Y2 (by kernel_rfl) rfl (by simp [Value.oneCell']) ?_;have g3:=grown_setRow V2 Y #[Vi code,.slice va vn vc];have k3:Ky (· = 183) V2 (V2.setRow Y #[Vi code,.slice va vn vc]):=Ky.grown Y2 rfl g3;have x2:V2.heap[XX]?=some (.cells #[Vi kd,Vi p,Vi c,Vu (a:Nat),Vi n,.slice da dl dc] 151 (0,0)):=X2;have hYB:B≤Y:=Nat.le_trans BW.out BY;have b3:Below B V2 (V2.setRow Y #[Vi code,.slice va vn vc]):=(Below.refl _ _).grown g3 HP2.bW (fun r hr=>by simp at hr;omega);have HP3:=HP2.off (by decide) Y2 b3 g3;have h3:=CK.out _ (show (V2.setRow Y #[Vi code,.slice va vn vc]).cell? ⟨PP,6,none⟩=_ by rw [HPP.out,HSP.out];exact HP3.cell 6 (by omega) _ rfl) (k3.cells _ _ _ _ x2 (by decide));refine hK.out _ _ ⟨h3,?_⟩;clear hS hK K';have hS:=h3;refine wpAnyH_done (by kernel_rfl) ?_ _;have XU:=setRow_at (v:=V2) Y2 #[Vi code,.slice va vn vc];have HU:=And.intro HP3 (And.intro (BI.loc g3 BY BW.out) (own_ky OW2 k3 (by decide)));clear h3 x2 X2 k3 g3 b3 HP2 HP3 BI OW2 Y2 hYB BY;generalize V2.setRow Y #[Vi code,.slice va vn vc]=U at *;have HF:=hid (show Hp B y { d with f:=f' } cf { h with m:=m' } U∧Bi B W U∧U.ownsRow W.heap.size 5 1 (.slice va vn vc) data.length (Ns .u8 data) from HU);have y0:U.cell? ⟨Y,0,none⟩=some (Vi code):=by rw [cell_of_row _ _ _ _ _ _ XU];rfl
 have y1:U.cell? ⟨Y,1,none⟩=some (.slice va vn vc):=by rw [cell_of_row _ _ _ _ _ _ XU];rfl
 clear HU XU hS
 by_cases hc0:code=0
 ·subst hc0;go_wp2;go_ret;exact⟨f',HF.out.1,HF.out.2.1,.inl ⟨rfl,_,rfl,HF.out.2.2⟩⟩
 have hc0':(code != 0)=true:=by simpa using hc0
 go_wp2;exact⟨rfl,f',HF.out.1,HF.out.2.1,.inr ⟨hc0,rfl⟩⟩
end Go.Proofs.YtgandbaejlfppaaGreatDoor
namespace Go.Proofs.YtgandbaejlfppaaGreatDoor
set_option linter.unusedVariables false
set_option linter.unusedSimpArgs false
set_option maxRecDepth 20000
set_option maxHeartbeats 8000000
open Go.RowKit
theorem Da.nil (S M:Nat) (f:Nat→Option Nat) (w:World):Da S M f w none 0 []:=⟨rfl,fun i hi=>by omega⟩
theorem im_hload (B:Nat) (y:Ly) (d:Dy) (cf:Cf) (h:Hs) (a n:Nat) (W:World) (hp:Hp B y d cf h W) (hout:∀ k,283≤k→h.m k=none) (ha:a < 18446744073709551616) (hn:n < 18446744073709551616) :
  Calls Tryz.prog 39 #[Vp y.P 0,Vu (a:Nat),Vu (n:Nat)] W (AskR B y d cf h W h.m (accC h.m a ((min n 4097:Nat):Int)) (if accC h.m a ((min n 4097:Nat):Int)=0 then loadB h.m a (min n 4097) else [])):=by
 have C:=hid (im_ask B y d cf h 4 0 0 a ((min n 4097:Nat):Int) none 0 0 [] W hp hout ha (by omega) (Da.nil _ _ _ _) (Nat.le_refl _));unfold stepM at C;simp only [if_pos] at C;rw [Int.toNat_natCast] at C;unfold opV at C;generalize (if accC h.m a ((min n 4097:Nat):Int)=0 then loadB h.m a (min n 4097) else [])=data at *;generalize accC h.m a ((min n 4097:Nat):Int)=code at *;clear hp hout;generalize y.P=P at *
 by_cases hle:n≤4097
 ·rw [Nat.min_eq_left hle] at C;go_enter Tryz.func39,Tryz.ntmps39;go_wp2_with fail;refine (C.out).mono ?_;rintro e W' ⟨f',hp1,bi,⟨hc,v,rfl,own⟩|⟨hc,rfl⟩⟩
  ·have HF:=hid (And.intro hp1 (And.intro bi own));clear hp1 bi own C;go_wp2;go_ret;exact⟨f',HF.out.1,HF.out.2.1,.inl ⟨hc,v,rfl,HF.out.2.2⟩⟩
  exact⟨rfl,f',hp1,bi,.inr ⟨hc,rfl⟩⟩
 rw [Nat.min_eq_right (by omega)] at C;go_enter Tryz.func39,Tryz.ntmps39;go_wp2_with fail;refine (C.out).mono ?_;rintro e W' ⟨f',hp1,bi,⟨hc,v,rfl,own⟩|⟨hc,rfl⟩⟩
 ·have HF:=hid (And.intro hp1 (And.intro bi own));clear hp1 bi own C;go_wp2;go_ret;exact⟨f',HF.out.1,HF.out.2.1,.inl ⟨hc,v,rfl,HF.out.2.2⟩⟩
 exact⟨rfl,f',hp1,bi,.inr ⟨hc,rfl⟩⟩
def StoR (B:Nat) (y:Ly) (d:Dy) (cf:Cf) (h:Hs) (W:World) (m':Nat→Option (Bool×List Int)) (code:Int) (e:Ending) (W':World):Prop :=
 ∃ f',Hp B y { d with f:=f' } cf { h with m:=m' } W'∧Bi B W W'∧((code=0∧e=.returned (.tuple #[]))∨(code≠0∧e=.panicked (refV code)))
theorem im_hstore (B:Nat) (y:Ly) (d:Dy) (cf:Cf) (h:Hs) (a:Nat) (da:Option Addr) (dl dc:Nat) (ys:List Int) (W:World) (hp:Hp B y d cf h W) (hout:∀ k,283≤k→h.m k=none) (ha:a < 18446744073709551616) (hd:Da y.S y.M d.f W da dl ys) (hdc:dl≤dc) :
  Calls Tryz.prog 40 #[Vp y.P 0,Vu (a:Nat),.slice da dl dc] W (StoR B y d cf h W (if accC h.m a (ys.length:Int)=0 then storeM h.m a ys ys.length else h.m) (accC h.m a (ys.length:Int))):=by
 have C:=hid (im_ask B y d cf h 5 0 0 a 0 da dl dc ys W hp hout ha (by omega) hd hdc);unfold stepM at C;rw [if_neg (by decide),if_pos rfl] at C;unfold opV at C;dsimp only at C;generalize (if accC h.m a (ys.length:Int)=0 then storeM h.m a ys ys.length else h.m)=m' at *;generalize accC h.m a (ys.length:Int)=code at *;clear hp hout hd;generalize y.P=P at *;go_enter Tryz.func40,Tryz.ntmps40;go_wp2_with fail;refine (C.out).mono ?_;rintro e W' ⟨f',hp1,bi,⟨hc,v,rfl,own⟩|⟨hc,rfl⟩⟩
 ·have HF:=hid (And.intro hp1 (And.intro bi own));clear hp1 bi own C;go_wp2
  go_end0
  exact⟨f',HF.out.1,HF.out.2.1,.inl ⟨hc,rfl⟩⟩
 exact⟨rfl,f',hp1,bi,.inr ⟨hc,rfl⟩⟩
end Go.Proofs.YtgandbaejlfppaaGreatDoor
