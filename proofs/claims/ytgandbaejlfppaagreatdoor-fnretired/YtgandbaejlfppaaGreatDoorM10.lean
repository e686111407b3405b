import Derived.Test.YtgandbaejlfppaaGreatDoorM07
import Derived.Test.YtgandbaejlfppaaGreatDoorM09
namespace Go.Proofs.YtgandbaejlfppaaGreatDoor
set_option linter.unusedVariables false
set_option linter.unusedSimpArgs false
set_option maxRecDepth 20000
set_option maxHeartbeats 8000000
open Go.RowKit Go.Shelf
def cntM (m:Nat→Option (Bool×List Int)):Nat→Nat
 | 0=>0
 | k+1=>cntM m k+(m k).isSome.toNat
theorem cntM_held {f:Nat→Option Nat} {m:Nat→Option (Bool×List Int)} (h:∀ k,(f k).isSome=(m k).isSome):∀ k,heldN f 0 k=cntM m k
 | 0=>rfl
 | k+1=>by simp only [heldN,cntM];rw [cntM_held h k,Nat.zero_add,h k]
theorem cntM_out {m:Nat→Option (Bool×List Int)} {n:Nat} (h:∀ k,n≤k→m k=none):∀ k,cntM m (n+k)=cntM m n
 | 0=>rfl
 | k+1=>by rw [←Nat.add_assoc];simp only [cntM];rw [cntM_out h k,h (n+k) (by omega)];rfl
end Go.Proofs.YtgandbaejlfppaaGreatDoor
namespace Go.Proofs.YtgandbaejlfppaaGreatDoor
set_option linter.unusedVariables false
set_option linter.unusedSimpArgs false
set_option maxRecDepth 20000
set_option maxHeartbeats 8000000
open Go.RowKit Go.Shelf
def allBb (m:Nat→Option (Bool×List Int)) (p:Nat) (b:Bool):Nat→Bool
 | 0=>true
 | k+1=>allBb m p b k && ((m (p+k)).isSome==b)
instance (nn:Nat) (p c:Int):Decidable (okP nn p c):=by unfold okP;infer_instance
def pageM (n:Nat) (bud:Int) (m:Nat→Option (Bool×List Int)) (kd:Int) (p c:Nat):(Nat→Option (Bool×List Int))×Int :=
 if kd=0 then
  if allBb m p false c=false then (m,6) else if bud < (cntM m n:Int)+c then (m,1) else (freshM m p c,0)
 else if allBb m p true c=false then (m,6)
 else if kd=1 then (goneM m p c,0)
 else if kd=2 then (lockedM m p true c,0) else (lockedM m p false c,0)
def stepM (n:Nat) (bud:Int) (m:Nat→Option (Bool×List Int)) (kd p c:Int) (a:Nat) (len:Int) (ys:List Int):(Nat→Option (Bool×List Int))×Int×List Int :=
 if kd=4 then (m,accC m a len,if accC m a len=0 then loadB m a len.toNat else [])
 else if kd=5 then (if accC m a (ys.length:Int)=0 then storeM m a ys ys.length else m,accC m a (ys.length:Int),[])
 else if kd < 0∨5 < kd then (m,6,[])
 else if okP n p c then ((pageM n bud m kd p.toNat c.toNat).1,(pageM n bud m kd p.toNat c.toNat).2,[])
 else (m,6,[])
end Go.Proofs.YtgandbaejlfppaaGreatDoor
namespace Go.Proofs.YtgandbaejlfppaaGreatDoor
set_option linter.unusedVariables false
set_option linter.unusedSimpArgs false
set_option maxRecDepth 20000
set_option maxHeartbeats 8000000
open Go.RowKit Go.Shelf
theorem run_store (S M:Nat) (nn bud:Int) (f:Nat→Option Nat) (m m':Nat→Option (Bool×List Int)) (code:Int) (p c:Int) (a:Nat) (n:Int) (d:Option Addr) (dl dc:Nat) (w:World) (h:Im S M 0 nn bud f w) (hp:Pg f m w)
  (hc:∀ V,Im S M 1 nn bud f V→Pg f m V→Fr S M f f w V→Calls Tryz.prog 129 #[Vp S 0,Vu a,.slice d dl dc] V fun e w'=>e=.returned (Vi code)∧∃ f',Im S M 1 nn bud f' w'∧Pg f' m' w'∧Fr S M f f' V w') :
  Calls Tryz.prog 110 #[Vp S 0,opV 5 p c a n d dl dc] w fun e w'=>e=.returned (.agg #[Vi code,Vn])∧Ims S M nn bud f m' w w':=by
 have HI:=hid h;have HP:=hid hp;have HC:=hid hc;clear h hp hc;unfold opV
 go_enter_defers Tryz.func110,Tryz.ntmps110
 go_wp2_with fail;refine (im_lock ((HI.out.alloc _).alloc _)).mono ?_;rintro e V ⟨rfl,hV⟩;have D0:=hid (Dl.first HI.out HP.out #[Vi 5,Vi p,Vi c,Vu a,Vi n,.slice d dl dc]);rw [←hV] at D0;clear hV HI HP;generalize hRe:w.heap.size+1=Rb at D0 ⊢;generalize w.heap.size=O at D0 ⊢;have cK:V.cell? ⟨O,0,none⟩=some (Vi 5):=by simp [World.cell?,D0.out.o]
 have cA:V.cell? ⟨O,3,none⟩=some (Vu a):=by simp [World.cell?,D0.out.o]
 have cD:V.cell? ⟨O,5,none⟩=some (.slice d dl dc):=by simp [World.cell?,D0.out.o]
 go_wp2_with fail;refine (HC.out V D0.out.im D0.out.pg D0.out.fr).mono ?_;rintro e V2 ⟨rfl,f',i2,p2,r2⟩;have D2:=hid (D0.out.move i2 p2 r2);clear i2 p2 r2 D0 HC cK cA cD;go_wp2_with (refine wpList_store_row rfl 183 _ _ rfl _ _ rfl rfl 183 _ D2.out.r (by kernel_rfl) rfl (by simp [Value.oneCell']) ?_);have E0:=D2.out.done #[Vi code,Vn];refine leaves_cons (f:=77) (args:=#[Vp S 0]) (by simp) (by simp [go_sem]) ?_;refine (Go.MuLone.unlock_deferred muLib ⟨S,0,none⟩ .returning _ E0.1 E0.2.1).mono ?_;rintro e u' w'' ⟨rfl,rfl,rfl⟩;exact⟨_,results_cell_row (by rfl) _ _ Rb 183 _ (0,0) _ (by rfl) E0.2.2.1 Tryz.underlying183 rfl (by kernel_rfl),rfl,E0.2.2.2⟩
theorem Dl.own {S M O Rb:Nat} {n bud:Int} {f f':Nat→Option Nat} {m:Nat→Option (Bool×List Int)} {w V:World} {op:Array Value} (h:Dl w op S M n bud f f' m O Rb V) {B:Nat} {v:Value} {k:Nat} {xs:List Value} (ho:V.ownsRow B 5 1 v k xs) (hB:w.heap.size≤B) (cs:Array Value):((V.setRow Rb cs).setCell ⟨S,0,none⟩ (.int .i32 0)).ownsRow w.heap.size 5 1 v k xs:=by
 obtain⟨n1,n2,n3⟩:=h.im.apartT h.pg h.r (by decide) (by decide);have i2:=h.im.setRow n1 n2 cs;refine own_mono ?_ hB;refine (ho.kept (grown_setRow V Rb cs) (.inr fun e=>?_)).kept (grown_set (grown_refl _ S) 0 _) (.inr fun e=>?_)
 ·obtain⟨c',hc'⟩:=own_type ho e;rw [h.r] at hc';simp at hc'
 obtain⟨c',hc'⟩:=own_type ho e;rw [h.im.box] at hc';simp at hc'
theorem run_load (S M:Nat) (nn bud:Int) (f:Nat→Option Nat) (m:Nat→Option (Bool×List Int)) (code:Int) (xs:List Int) (p c:Int) (a:Nat) (n:Int) (d:Option Addr) (dl dc:Nat) (w:World) (h:Im S M 0 nn bud f w) (hp:Pg f m w)
  (hc:∀ V,Im S M 1 nn bud f V→Pg f m V→Calls Tryz.prog 128 #[Vp S 0,Vu a,Vi n] V fun e w'=>∃ v,e=.returned (.agg #[Vi code,v])∧w'.ownsRow V.heap.size 5 1 v xs.length (Ns .u8 xs)∧Im S M 1 nn bud f w'∧Pg f m w'∧Fr S M f f V w') :
  Calls Tryz.prog 110 #[Vp S 0,opV 4 p c a n d dl dc] w fun e w'=>∃ v,e=.returned (.agg #[Vi code,v])∧w'.ownsRow w.heap.size 5 1 v xs.length (Ns .u8 xs)∧Ims S M nn bud f m w w':=by
 have HI:=hid h;have HP:=hid hp;have HC:=hid hc;clear h hp hc;unfold opV
 go_enter_defers Tryz.func110,Tryz.ntmps110
 go_wp2_with fail;refine (im_lock ((HI.out.alloc _).alloc _)).mono ?_;rintro e V ⟨rfl,hV⟩;have D0:=hid (Dl.first HI.out HP.out #[Vi 4,Vi p,Vi c,Vu a,Vi n,.slice d dl dc]);rw [←hV] at D0;clear hV HI HP;generalize hRe:w.heap.size+1=Rb at D0 ⊢;generalize hOe:w.heap.size=O at D0 ⊢;have cK:V.cell? ⟨O,0,none⟩=some (Vi 4):=by simp [World.cell?,D0.out.o]
 have cA:V.cell? ⟨O,3,none⟩=some (Vu a):=by simp [World.cell?,D0.out.o]
 have cD:V.cell? ⟨O,4,none⟩=some (Vi n):=by simp [World.cell?,D0.out.o]
 have HZ:=hid D0.out.fr.size;go_wp2_with fail;refine (HC.out V D0.out.im D0.out.pg).mono ?_;rintro e V2 ⟨v,rfl,ho,i2,p2,r2⟩;have D2:=hid (D0.out.move i2 p2 r2);have HW:=hid ho;clear i2 p2 r2 D0 HC cK cA cD ho;go_wp2_with (refine wpList_store_row rfl 183 _ _ rfl _ _ rfl rfl 183 _ D2.out.r (by kernel_rfl) rfl (own_one HW.out _) ?_);have E0:=D2.out.done #[Vi code,v];have E1:=D2.out.own HW.out HZ.out #[Vi code,v];refine leaves_cons (f:=77) (args:=#[Vp S 0]) (by simp) (by simp [go_sem]) ?_;refine (Go.MuLone.unlock_deferred muLib ⟨S,0,none⟩ .returning _ E0.1 E0.2.1).mono ?_;rintro e u' w'' ⟨rfl,rfl,rfl⟩;exact⟨_,results_cell_row (by rfl) _ _ Rb 183 _ (0,0) _ (by rfl) E0.2.2.1 Tryz.underlying183 rfl (by kernel_rfl),v,rfl,E1,E0.2.2.2⟩
end Go.Proofs.YtgandbaejlfppaaGreatDoor
namespace Go.Proofs.YtgandbaejlfppaaGreatDoor
set_option linter.unusedVariables false
set_option linter.unusedSimpArgs false
set_option maxRecDepth 20000
set_option maxHeartbeats 8000000
open Go.RowKit Go.Shelf
attribute [local go_sem] Oper.semAt_some
def Da (S M:Nat) (f:Nat→Option Nat) (w:World) (p:Option Addr) (n:Nat) (ys:List Int):Prop :=
 ys.length=n∧∀ i,i < n→∃ x,p=some x∧w.cell? (x.add i)=some (.int .u8 (ys[i]?.getD 0))∧(x.add i).block < w.heap.size∧(x.add i).block≠S∧(x.add i).block≠M∧∀ k,f k≠some (x.add i).block
theorem Da.cell {S M:Nat} {f f':Nat→Option Nat} {w W:World} {p:Option Addr} {n:Nat} {ys:List Int} (h:Da S M f w p n ys) (hf:Fr S M f f' w W):∀ i,i < n→∃ x,p=some x∧W.cell? (x.add i)=some (.int .u8 (ys[i]?.getD 0)):=by
 intro i hi;obtain⟨x,e,c,l,h1,h2,h3⟩:=h.2 i hi;refine⟨x,e,?_⟩;unfold World.cell? at c ⊢;rw [hf.block _ l h1 h2 h3];exact c
structure Sd (S M:Nat) (st nn bud:Int) (f:Nat→Option Nat) (mm:Nat→Option (Bool×List Int)) (w:World) (DB:Nat) (p:Option Addr) (n cap c:Nat) (W:World):Prop where
 im:Im S M st nn bud f W
 pg:Pg f mm W
 fr:Fr S M f f w W
 box:∃ pd,W.heap[DB]?=some (.cells #[.slice pd (n - c) (cap - c)] 22 (0,0))∧(c < n→∃ x,p=some x∧pd=some (x.add c))
 mlt:M < w.heap.size
 dge:w.heap.size≤DB
theorem copy_run22 (w:World) (dp sp:Option Addr) (dLen dCap sLen sCap g off:Nat) (cur:List Value) (t:TypeId) (hg:w.heap[g]?=some (.cells cur.toArray t (0,0))) (cs:List Value) (hn:cs.length=Nat.min sLen dLen)
  (hpos:0 < cs.length→dp=some ⟨g,off,none⟩∧∃ ad,sp=some ad∧∀ j v,cs[j]?=some v→w.cell? (ad.add j)=some v)
  (hfit:off+cs.length≤cur.length) (h1:∀ v∈cs,v.oneCell'=true) :
  ∃ w',(Builtin.copy_ #[22,22] 3 #[.slice dp dLen dCap,.slice sp sLen sCap]).run Tryz.prog w=.ok (Vi (cs.length:Nat)) w'∧w'.heap[g]?=some (.cells (splice cur off cs).toArray t (0,0))∧w.grownBy w' (some g):=by
 by_cases h0:cs.length=0
 ·obtain rfl:cs=[]:=List.eq_nil_of_length_eq_zero h0;refine⟨w,run_copy_none (P:=Tryz.prog) w 22 22 3 5 dp sp dLen dCap sLen sCap Tryz.underlying22 (by kernel_rfl) (by simpa using hn.symm),by simpa [splice] using hg,grown_refl w g⟩
 obtain⟨rfl,ad,rfl,hsrc⟩:=hpos (by omega);refine⟨_,run_copy_row (P:=Tryz.prog) w 22 22 3 5 g off dLen dCap ad sLen sCap cur.toArray t cs Tryz.underlying22 (by kernel_rfl) hg hn hsrc (by simpa using hfit) h1,?_,grown_setRow w g _⟩;simpa [splice] using setRow_heap w g _ _ t _ hg
theorem sliced22 (pd:Option Addr) (l len cap:Nat) (hl:l≤len) (hc:len≤cap):∃ dp,(∀ w:World,(Instr.slice 22 (.slice pd len cap) (some (Vi (l:Nat))) none none).run Tryz.prog w=.ok (.slice dp (len - l) (cap - l)) w)∧(l < len→dp=pd.map fun x=>x.add l):=by
 have he:Tryz.prog.elem 22=5:=by kernel_rfl
 have h:=fun w=>run_slice_l (P:=Tryz.prog) w 22 pd len cap (by rw [he];exact Tryz.underlying22) .i64 (l:Int) (by omega) (by omega)
 have hs:∀ w:World,(sizeOf (Tryz.prog.elem 22)).run Tryz.prog w=.ok 1 w:=fun w=>by kernel_rfl
 refine⟨if cap=l then pd else pd.map fun x=>x.add l,fun w=>?_,fun h=>?_⟩
 ·rw [h w,hs];simp [sliced,Result.andThen]
 rw [if_neg (by omega)]
theorem Pg.lay {f:Nat→Option Nat} {mm:Nat→Option (Bool×List Int)} {W W':World} (h:Pg f mm W) {k g:Nat} (hf:f k=some g) {l:Bool} {xs:List Int} (hx:xs.length=1024) (hb:W'.heap[g]?=some (.cells (pageC l xs) 155 (0,0))) (hg:W.grownBy W' (some g)):Pg f (updM mm k (some (l,xs))) W':=by
 refine⟨?_,h.inj⟩;intro j
 by_cases e:j=k
 ·subst e;exact .inr ⟨g,l,xs,hf,updM_same _ _ _,hx,hb⟩
 rw [updM_other mm k j _ e]
 rcases h.at' j with h1|⟨b2,l2,xs2,h1,h2,h3,h4⟩
 ·exact .inl h1
 refine .inr ⟨b2,l2,xs2,h1,h2,h3,?_⟩;rw [hg.block b2 (lt_of_block h4) (fun e2=>by cases e2;exact e (h.inj j k _ h1 hf))];exact h4
theorem Im.grownAt {S M:Nat} {st n bud:Int} {f:Nat→Option Nat} {W W':World} (h:Im S M st n bud f W) {g:Nat} (hg:W.grownBy W' (some g)) (h1:g≠S) (h2:g≠M):Im S M st n bud f W':=by
 obtain⟨D,⟨es,clock,hb,r1⟩,r⟩:=h.map;refine⟨by rw [hg.block S (lt_of_block h.box) (by simpa using h1.symm)];exact h.box,D,⟨es,clock,?_,r1⟩,r⟩;have hlt:M < W.heap.size:=by
  by_cases hl:M < W.heap.size
  ·exact hl
  rw [Array.getElem?_eq_none (by omega)] at hb;cases hb
 rw [hg.block M hlt (by simpa using h2.symm)];exact hb
theorem Fr.grownAt {S M:Nat} {f:Nat→Option Nat} {w W W':World} (h:Fr S M f f w W) {g:Nat} (hg:W.grownBy W' (some g)) (hk:(∃ k,f k=some g)∨w.heap.size≤g):Fr S M f f w W' :=
 ⟨hg.os.trans h.os,hg.tape.trans h.tape,hg.output.trans h.output,Nat.le_trans h.size hg.size,fun j h0 h1 h2 h3=>by
  rw [hg.block j (Nat.lt_of_lt_of_le h0 h.size) (fun e=>by
   cases e
   rcases hk with ⟨k,hk⟩|hk
   ·exact h3 k hk
   omega)]
  exact h.block j h0 h1 h2 h3,h.made⟩
end Go.Proofs.YtgandbaejlfppaaGreatDoor
namespace Go.Proofs.YtgandbaejlfppaaGreatDoor
set_option linter.unusedVariables false
set_option linter.unusedSimpArgs false
set_option maxRecDepth 20000
set_option maxHeartbeats 8000000
open Go.ChangeShapes Go.WideShapes Go.ChangeAt Go.RowKit
theorem rsN_12:rsN 12=187:=by decide
theorem sp_LargeStart (w:World) :
  Calls Tryz.prog 25 #[] w fun e w'=>e=.returned (Vi 187)∧Below w.heap.size w w':=by
 have e1:rs 11=157:=by decide
 have e2:rp 11=30:=by decide
 have HS:Hid (∀ w,_):=fun w=>sp_RegionStart 11 w
 have HP:Hid (∀ w,_):=fun w=>sp_RegionPages 11 w
 rw [e1] at HS;rw [e2] at HP;go_enter Tryz.func25,Tryz.ntmps25;go_wp2_with fail;refine (HS.out _).mono ?_;rintro e w1 ⟨rfl,b1⟩;go_wp2_with fail;refine (HP.out _).mono ?_;rintro e w2 ⟨rfl,b2⟩;go_wp2;go_ret;exact⟨rfl,bl_transR b1 b2⟩
theorem sp_ArenaPages (w:World) :
  Calls Tryz.prog 14 #[] w fun e w'=>e=.returned (Vi 283)∧Below w.heap.size w w':=by
 have HS:=hidR sp_LargeStart;go_enter Tryz.func14,Tryz.ntmps14;go_wp2_with fail;refine (HS.out _).mono ?_;rintro e w1 ⟨rfl,b1⟩;go_wp2;go_ret;exact⟨rfl,b1⟩
theorem rs_le (c:Int) : -1≤rs c∧rs c≤361:=by
 by_cases h:0≤c∧c < 12
 ·have:=rsN_le c.toNat;rw [rs_in h];omega
 rw [rs_out h];omega
theorem sp_l4Slab (c s:Int) (h0 : -1000≤s) (h1:s≤1000) (w:World) :
  Calls Tryz.prog 88 #[Vi c,Vi s] w fun e w'=>e=.returned (Vi (rs c+s*(pg c+1)))∧Below w.heap.size w w':=by
 have HS:=hidR (sp_RegionStart c);have HP:=hidR (sp_SlabPages c);have hr:=rs_le c;have hp:=pg_le c;generalize rs c=r at HS hr ⊢;generalize pg c=p at HP hp ⊢;have hm : -5000≤s*(p+1)∧s*(p+1)≤5000:=by
  have:p=0∨p=1∨p=2∨p=3∨p=4:=by omega
  rcases this with rfl|rfl|rfl|rfl|rfl <;> omega
 go_enter Tryz.func88,Tryz.ntmps88;go_wp2_with fail;refine (HS.out _).mono ?_;rintro e w1 ⟨rfl,b1⟩;go_wp2_with fail;refine (HP.out _).mono ?_;rintro e w2 ⟨rfl,b2⟩;go_wp2;go_ret;exact⟨rfl,bl_transR b1 b2⟩
end Go.Proofs.YtgandbaejlfppaaGreatDoor
namespace Go.Proofs.YtgandbaejlfppaaGreatDoor
set_option linter.unusedVariables false
set_option linter.unusedSimpArgs false
set_option maxRecDepth 20000
set_option maxHeartbeats 8000000
open Go.ChangeShapes Go.WideShapes Go.ChangeAt Go.RowKit
theorem run_index13 (w:World) (k:Nat) (hk:k < 13):(Instr.index 77 (.agg (stA 12)) (Vi k)).run Tryz.prog w=.ok (Vi (rsN k)) w:=by
 have h:=stA_get 12 k hk;rw [if_pos (by omega)] at h;simp [Instr.index,run_underlying Tryz.underlying77,asIntOf,hk,go_sem,h]
theorem im_RegionStart (c:Int) (w:World) (ht:Tb w) :
  Calls Tryz.prog 124 #[Vi c] w fun e w'=>e=.returned (Vi (rs c))∧Below w.heap.size w w':=by
 have HS:=hidR (im_regionStarts w ht)
 by_cases h:0≤c∧c < 12
 ·have HC:=hidR (im_isClass_yes _ w h);rw [rs_in h];obtain⟨m,rfl⟩:=Int.eq_ofNat_of_zero_le h.1;have hm:m < 13:=by omega
  simp only [Int.toNat_natCast];have HX:=hidR (fun W=>run_index13 W m hm);clear ht h;generalize stA 12=S at HS HX;go_enter Tryz.func124,Tryz.ntmps124;go_wp2_with fail;refine (HC.out).mono ?_;rintro e w' ⟨rfl,rfl⟩;go_wp2_with fail;refine (HS.out).mono ?_;rintro e w1 ⟨rfl,b1⟩;have hx:=HX.out w1;go_wp2;go_ret;exact⟨rfl,b1⟩
 rw [rs_out h];have HC:=hidR (im_isClass_no _ w h);clear ht h HS;go_enter Tryz.func124,Tryz.ntmps124;go_wp2_with fail;refine (HC.out).mono ?_;rintro e w' ⟨rfl,rfl⟩;go_wp2;go_ret;exact⟨rfl,Below.refl _ _⟩
theorem im_LargeStart (w:World) (ht:Tb w) :
  Calls Tryz.prog 48 #[] w fun e w'=>e=.returned (Vi 187)∧Below w.heap.size w w':=by
 have HS:=hidR (im_regionStarts w ht);have HX:Hid (∀ W:World,(Instr.index 77 (.agg (stA 12)) (Vi 12)).run Tryz.prog W=.ok (Vi 187) W):=fun W=>by
  have:=run_index13 W 12 (by omega);rw [rsN_12] at this;exact this
 clear ht;generalize stA 12=S at HS HX;go_enter Tryz.func48,Tryz.ntmps48;go_wp2_with fail;refine (HS.out).mono ?_;rintro e w1 ⟨rfl,b1⟩;have hx:=HX.out w1;go_wp2;go_ret;exact⟨rfl,b1⟩
theorem im_ArenaPages (w:World) (ht:Tb w) :
  Calls Tryz.prog 19 #[] w fun e w'=>e=.returned (Vi 283)∧Below w.heap.size w w':=by
 have HS:=hidR (im_LargeStart w ht);clear ht;go_enter Tryz.func19,Tryz.ntmps19;go_wp2_with fail;refine (HS.out).mono ?_;rintro e w1 ⟨rfl,b1⟩;go_wp2;go_ret;exact⟨rfl,b1⟩
end Go.Proofs.YtgandbaejlfppaaGreatDoor
namespace Go.Proofs.YtgandbaejlfppaaGreatDoor
set_option linter.unusedVariables false
set_option linter.unusedSimpArgs false
set_option maxRecDepth 20000
set_option maxHeartbeats 8000000
open Go.RowKit
def szN (c:Nat):Nat:=[16,32,48,64,96,128,192,256,384,512,768,1024].getD c 0
def pgN (c:Nat):Nat:=[1,1,1,1,1,1,1,1,2,2,3,4].getD c 0
def slN (c:Nat):Nat:=[64,32,21,16,10,8,5,4,5,4,4,4].getD c 0
def usN (c:Nat):Nat:=szN c - 8
def rgN:Nat→Nat
 | 0=>1
 | c+1=>rgN c+6*(pgN c+1)
def slabP (c s:Nat):Nat:=rgN c+s*(pgN c+1)
def adr (c s j:Nat):Nat:=slabP c s*1024+j*szN c
def coN (a:Nat):Nat:=((List.range 12).find? fun c=>a+8≤szN c).getD 12
def allS:List (Nat×Nat×Nat):=(List.range 12).flatMap fun c=>(List.range 6).flatMap fun s=>(List.range (slN c)).map fun j=>(c,s,j)
structure Cf where
 mix:Nat
 fifo:Nat
 large:Nat
 bud:Nat
 key:Int
 ds:List Int
structure Rg9 where
 first:Nat
 guards:Nat
 pages:Nat
 st:Int
 rq:Int
def Rg9.base (r:Rg9):Nat:=(r.first+r.guards)*1024
def Rg9.ext (r:Rg9):Nat:=r.guards+r.pages+1
structure Hs where
 m:Nat→Option (Bool×List Int)
 st:Nat→Nat→Nat→Int
 rq:Nat→Nat→Nat→Int
 mx:Nat→List Int
 ff:Nat→List Int
 rg:List Rg9
 row:List Nat
 rel:List Nat
 used:Nat
def newH (cf:Cf):Hs:=⟨fun _=>none,fun _ _ _=>0,fun _ _ _=>0,fun _=>List.replicate cf.mix (-1),fun _=>[],[],[],[],0⟩
def upd3 (f:Nat→Nat→Nat→Int) (c s j:Nat) (v:Int):Nat→Nat→Nat→Int:=fun c' s' j'=>if c'=c∧s'=s∧j'=j then v else f c' s' j'
def updL (f:Nat→List Int) (c:Nat) (v:List Int):Nat→List Int:=fun c'=>if c'=c then v else f c'
def dr (cf:Cf) (h:Hs) (n:Nat):Nat:=((cf.ds[h.used]?.getD 0) % (n:Int)).toNat
def isFree (x:Int):Bool:=x==0 || x==3
def freeS (h:Hs) (c s:Nat):List Nat:=(List.range (slN c)).filter fun j=>isFree (h.st c s j)
def onS (h:Hs) (c s:Nat):Bool:=(h.m (slabP c s)).isSome
def pickS (h:Hs) (c:Nat):Option Nat:=(List.range 6).find? fun s=>onS h c s && !(freeS h c s).isEmpty
def offS (h:Hs) (c:Nat):Option Nat:=(List.range 6).find? fun s => !onS h c s
def roomS (cf:Cf) (h:Hs) (c:Nat):Option (Nat×Hs) :=
 match pickS h c with
 | some s=>some (s,h)
 | none=>match offS h c with
  | none=>none
  | some s=>if cf.bud < cntM h.m 283+pgN c then none else some (s,{ h with m:=freshM h.m (slabP c s) (pgN c) })
def clean (m:Nat→Option (Bool×List Int)) (a n:Nat):Bool:=(loadB m a n).all (· == 0)
def smallM (cf:Cf) (c:Nat):Nat→Hs→Option (Nat×Nat)×Hs
 | 0,h=>(none,h)
 | f+1,h=>match roomS cf h c with
  | none=>(none,h)
  | some (s,h1) =>
   let j:=(freeS h1 c s)[dr cf h1 (freeS h1 c s).length]?.getD 0
   if clean h1.m (adr c s j) (szN c) then (some (s,j),{ h1 with used:=h1.used+1 })
   else smallM cf c f { h1 with used:=h1.used+1,st:=upd3 h1.st c s j 4 }
def can (cf:Cf) (a:Nat):List Int:=cRow (cx cf.key (a:Int))
def pagesN (a:Nat):Nat:=a/1024+(if a % 1024 > 0 then 1 else 0)
def roomL (h:Hs) (n:Nat):Option Nat:=((List.range 97).find? fun i=>decide (i+n≤96) && h.rg.all fun r=>decide (187+i+n≤r.first) || decide (r.first+r.ext≤187+i)).map (187 + ·)
def mallocM (cf:Cf) (h:Hs) (a:Nat):Option Nat×Hs :=
 if a≤1016 then
  match smallM cf (coN a) 2000 h with
  | (none,h1)=>(none,h1)
  | (some (s,j),h1)=>(some (adr (coN a) s j),{ h1 with st:=upd3 h1.st (coN a) s j 1,rq:=upd3 h1.rq (coN a) s j a,m:=storeM h1.m (adr (coN a) s j+usN (coN a)) (can cf (adr (coN a) s j)) 8 })
 else
  let g:=1+dr cf h 3
  let h1:={ h with used:=h.used+1 }
  let p:=pagesN a
  if 96 < p then (none,h1) else
  match roomL h1 (g+p+1) with
  | none=>(none,h1)
  | some s=>if cf.bud < cntM h1.m 283+p then (none,h1)
   else (some ((s+g)*1024),{ h1 with m:=freshM h1.m (s+g) p,rg:=h1.rg++[⟨s,g,p,1,a⟩],rel:=h1.rel.filter fun b=>b/1024 < s || s+(g+p+1)≤b/1024 })
inductive Fd where
 | slot (c s j:Nat)
 | range (r:Rg9)
 | no (code:Int)
def slotAt (p:Nat):Option (Nat×Nat×Nat):=allS.find? fun t=>adr t.1 t.2.1 t.2.2==p
def findM (h:Hs) (p:Nat):Fd :=
 match slotAt p with
 | some (c,s,j)=>if h.st c s j=1 then .slot c s j else if h.st c s j=0 then .no 3 else .no 4
 | none=>match h.rg.find? fun r=>r.base==p with
  | some r=>if r.st=1 then .range r else .no 4
  | none=>if h.rel.contains p then .no 4 else .no 3
def sound (cf:Cf) (h:Hs) (c s j:Nat):Bool:=loadB h.m (adr c s j+usN c) 8==can cf (adr c s j)
def releaseM (h:Hs) (c s j:Nat):Hs :=
 let h1:={ h with st:=upd3 h.st c s j 3 }
 if (freeS h1 c s).length=slN c then { h1 with m:=goneM h1.m (slabP c s) (pgN c) } else h1
def freeSlot (cf:Cf) (h:Hs) (c s j:Nat):Hs :=
 let h1:={ h with m:=storeM h.m (adr c s j) (List.replicate (szN c) 0) (szN c),st:=upd3 h.st c s j 2,rq:=upd3 h.rq c s j 0 }
 let d:Nat:=if cf.mix=0 then 0 else dr cf h1 cf.mix
 let h2:=if cf.mix=0 then h1 else { h1 with used:=h1.used+1 }
 let r:=wpM cf.fifo (h2.mx c) (h2.ff c) ((s*slN c+j:Nat):Int) (d:Int)
 let h3:={ h2 with mx:=updL h2.mx c r.1,ff:=updL h2.ff c r.2.1 }
 if r.2.2 = -1 then h3 else releaseM h3 c (r.2.2.toNat/slN c) (r.2.2.toNat % slN c)
def freeRange (cf:Cf) (h:Hs) (r:Rg9):Hs :=
 let h1:={ h with m:=goneM h.m (r.first+r.guards) r.pages,rg:=h.rg.map fun x=>if x.base=r.base then { x with st:=2,rq:=0 } else x,row:=h.row++[r.base] }
 if cf.large < h1.row.length then { h1 with rg:=h1.rg.filter fun x=>x.base≠h1.row[0]?.getD 0,rel:=h1.rel++[h1.row[0]?.getD 0],row:=h1.row.tail } else h1
structure An4 where
 code:Int
 addr:Nat
 size:Nat
 data:List Int
def An4.no (c:Int):An4:=⟨c,0,0,[]⟩
def freeM (cf:Cf) (h:Hs):Fd→Hs
 | .slot c s j=>freeSlot cf h c s j
 | .range r=>freeRange cf h r
 | .no _=>h
def copyM (m:Nat→Option (Bool×List Int)) (p q n:Nat):Nat→Option (Bool×List Int):=storeM m q (loadB m p n) n
def reallocM (cf:Cf) (h:Hs) (p a:Nat):An4×Hs :=
 let take (old:Nat):An4×Hs :=
  match mallocM cf h a with
  | (none,h1)=>(.no 1,h1)
  | (some q,h1)=>let h2:={ h1 with m:=copyM h1.m p q (min old a) }
   (⟨0,q,0,[]⟩,freeM cf h2 (findM h2 p))
 if p=0 then
  match mallocM cf h a with
  | (none,h1)=>(.no 1,h1)
  | (some q,h1)=>(⟨0,q,0,[]⟩,h1)
 else match findM h p with
  | .no code=>(.no code,h)
  | .slot c s j=>if sound cf h c s j=false then (.no 5,h)
   else if a≤1016∧coN a=c then (⟨0,p,0,[]⟩,{ h with rq:=upd3 h.rq c s j a })
   else take (h.rq c s j).toNat
  | .range r=>if 1016 < a∧pagesN a=r.pages then (⟨0,p,0,[]⟩,{ h with rg:=h.rg.map fun x=>if x.base=r.base then { x with rq:=a } else x })
   else take r.rq.toNat
structure Op6 where
 kd:Int
 ref:Int
 p:Nat
 a:Nat
 b:Nat
 ys:List Int
def doM (cf:Cf) (h:Hs) (o:Op6) (p:Nat):An4×Hs :=
 let mal (n:Nat):An4×Hs:=match mallocM cf h n with
  | (none,h1)=>(.no 1,h1)
  | (some q,h1)=>(⟨0,q,0,[]⟩,h1)
 if o.kd=0 then mal o.a
 else if o.kd=1 then (if 18446744073709551616≤o.a*o.b then (.no 1,h) else mal (o.a*o.b))
 else if o.kd=2 then reallocM cf h p o.a
 else if o.kd=3 then
  match findM h p with
  | .no code=>(.no code,h)
  | .slot c s j=>if sound cf h c s j=false then (.no 5,h) else (.no 0,freeSlot cf h c s j)
  | .range r=>(.no 0,freeRange cf h r)
 else if o.kd=4 then
  match findM h p with
  | .no code=>(.no code,h)
  | .slot c s j=>(⟨0,0,usN c,[]⟩,h)
  | .range r=>(⟨0,0,r.pages*1024,[]⟩,h)
 else if o.kd=5 then (if 4096 < o.a then (.no 6,h) else (⟨accC h.m p (o.a:Int),0,0,if accC h.m p (o.a:Int)=0 then loadB h.m p o.a else []⟩,h))
 else if o.kd=6 then (.no (accC h.m p (o.ys.length:Int)),{ h with m:=if accC h.m p (o.ys.length:Int)=0 then storeM h.m p o.ys o.ys.length else h.m })
 else (.no 6,h)
def stepH (cf:Cf) (h:Hs) (an:List An4) (o:Op6):An4×Hs :=
 if o.ref=0 then doM cf h o o.p
 else if o.ref < 0∨(an.length:Int) < o.ref then (.no 6,h)
 else doM cf h o ((o.p+((an[o.ref.toNat - 1]?.map An4.addr).getD 0)) % 18446744073709551616)
def runH (cf:Cf):List Op6→Hs→List An4→Hs×List An4
 | [],h,an=>(h,an)
 | o::r,h,an=>runH cf r (stepH cf h an o).2 (an++[(stepH cf h an o).1])
end Go.Proofs.YtgandbaejlfppaaGreatDoor
namespace Go.Proofs.YtgandbaejlfppaaGreatDoor
set_option linter.unusedVariables false
set_option linter.unusedSimpArgs false
set_option maxRecDepth 20000
set_option maxHeartbeats 8000000
open Go.RowKit
theorem own_sl2 {W:World} {base:Nat} {e:TypeId} {size:Nat} {v:Value} {n:Nat} {xs:List Value} (h:W.ownsRow base e size v n xs):∃ a c,v=.slice a n c:=by
 rcases h.2 with ⟨rfl,h0⟩|⟨g,cap,cur,rfl,_⟩
 ·subst h0;exact⟨_,_,rfl⟩
 exact⟨_,_,rfl⟩
theorem own_at {W:World} {B:Nat} {e:TypeId} {sz:Nat} {a:Option Addr} {n cap:Nat} {xs:List Value} (h:W.ownsRow B e sz (.slice a n cap) n xs) (hn:0 < n):∃ G,a=some ⟨G,0,none⟩:=by
 rcases h.2 with ⟨_,h0⟩|⟨g,cap',cur,e,_⟩
 ·omega
 simp at e;exact⟨g,e.1⟩
end Go.Proofs.YtgandbaejlfppaaGreatDoor
