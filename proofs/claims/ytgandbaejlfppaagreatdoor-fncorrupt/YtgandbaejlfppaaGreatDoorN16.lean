import Derived.Test.YtgandbaejlfppaaGreatDoorN15
import Derived.Test.YtgandbaejlfppaaGreatDoorM15
namespace Go.Proofs.YtgandbaejlfppaaGreatDoor
set_option linter.unusedVariables false
set_option linter.unusedSimpArgs false
set_option maxRecDepth 20000
set_option maxHeartbeats 8000000
open Go.RowKit Go.Shelf
attribute [local go_sem] Oper.semAt_some
theorem Sd.init {S M:Nat} {st nn bud:Int} {f:Nat→Option Nat} {m:Nat→Option (Bool×List Int)} {w:World} (hi:Im S M st nn bud f w) (hp:Pg f m w) (p:Option Addr) (n cap:Nat) (hnz:0 < n→∃ x,p=some x):Sd S M st nn bud f m w w.heap.size p n cap 0 (w.alloc (.cells #[.slice p n cap] 22)):=by
 have hw:=World.grownBy_alloc w (.cells #[.slice p n cap] 22) none;refine⟨hi.grown hw,hp.grown hw,Fr.ofGrown hw,⟨p,(MapKept.heap_alloc w _).1,fun h=>?_⟩,?_,Nat.le_refl _⟩
 ·obtain⟨x,e⟩:=hnz h;exact⟨x,e,by rw [e];simp [Addr.add]⟩
 obtain⟨D,hown,_⟩:=hi.map;exact hown.lt
theorem store_in (S M:Nat) (st nn bud:Int) (f:Nat→Option Nat) (m:Nat→Option (Bool×List Int)) (a n cap:Nat) (p:Option Addr) (ys:List Int) (w:World) (hi:Im S M st nn bud f w) (hp:Pg f m w) (hn:n≤4096) (hcap:n≤cap) (ha:n=0∨a+n≤4611686018427387904) (hd:Da S M f w p n ys) (hpg:∀ d,d < n→∃ g,f ((a+d)/1024)=some g)
  (h:∀ w,Im S M st nn bud f w→Pg f m w→Calls Tryz.prog 168 #[Vp S 0,Vu a,Vi n] w fun e w'=>e=.returned (Vi 0)∧w'=w) :
  CallsIn Fence.wide 5 Tryz.prog 129 #[Vp S 0,Vu a,.slice p n cap] w fun e w'=>e=.returned (Vi 0)∧Im S M st nn bud f w'∧Pg f (storeM m a ys n) w'∧Fr S M f f w w':=by
 have H1:=hid h;have HI:=hid (And.intro hi hp);have HP:=hid hpg;have HD:=hid hd;have FU:=hid (show Full m from fun k q e=>by
  rcases hp.at' k with ⟨_,h2⟩|⟨b,l,xs,_,h2,h3,_⟩
  ·rw [h2] at e;cases e
  rw [h2] at e;cases e;exact h3)
 have SO:=hid (show ∀ d,d < n→(m ((a+d)/1024)).isSome=true from fun d hd=>by
  obtain⟨g,hg⟩:=hpg d hd;rw [←hp.none_iff,hg];rfl)
 have hnz:0 < n→∃ x,p=some x:=fun h0=>by obtain ⟨x,e,_⟩:=hd.2 0 h0;exact⟨x,e⟩
 have S0:=hid (Sd.init hi hp p n cap hnz);clear h hi hp hpg hd hnz;refine callsIn_of_wp_marks Tryz.func129 rfl trivial ?_ rfl;simp only [Tryz.ntmps129,List.size_toArray,List.length_cons,List.length_nil,Nat.reduceAdd,Nat.reduceSub,Array.replicate_succ,Array.replicate_zero,List.push_toArray,List.append_toArray,List.nil_append,List.cons_append]
 gi_wp2_with fail
 refine⟨trivial,?_⟩;refine ((callsIn_wide (n:=4)).2 (H1.out _ (HI.out.1.alloc _) (HI.out.2.alloc _))).mono ?_;rintro _ _ ⟨rfl,rfl⟩
 gi_wp2_with fail
 refine⟨trivial,?_⟩;obtain⟨W3,hW3⟩:∃ W3,w.alloc (.cells #[.slice p n cap] 22)=W3:=⟨_,rfl⟩;obtain⟨DB,hDB⟩:∃ DB,w.heap.size=DB:=⟨_,rfl⟩;have hsz3:W3.heap.size=DB+1:=by rw [←hW3,←hDB];simp
 have HZ:=hid hsz3;clear hsz3;rw [hW3,hDB] at S0;rw [hW3,hDB];clear hW3;refine ((callsIn_wide (n:=4)).2 (pieces_mk _ _ _ _)).mono ?_;rintro e w4 ⟨rfl,rfl⟩
 gi_wp2
 have HC:=hid (Cl.made S a n W3);have g4:=grown_trans (World.grownBy_alloc W3 (.cells #[Vp S 0] 60) none) (grown_trans (World.grownBy_alloc _ (.cells #[Vu a] 23) none) (World.grownBy_alloc _ (.cells #[Vi n] 3) none));have S4:=hid (S0.out.keep g4 (fun r e=>by cases e));have h4:W3.heap.size+1+1+1=(((W3.alloc (.cells #[Vp S 0] 60)).alloc (.cells #[Vu a] 23)).alloc (.cells #[Vi n] 3)).heap.size:=by simp
 have hS:=Nat.lt_of_lt_of_le (lt_of_block HI.out.1.box) S0.out.fr.size;have hM:=Nat.lt_of_lt_of_le S0.out.mlt S0.out.fr.size;obtain⟨W4,hW4⟩:∃ W4,((W3.alloc (.cells #[Vp S 0] 60)).alloc (.cells #[Vu a] 23)).alloc (.cells #[Vi n] 3)=W4:=⟨_,rfl⟩;rw [hW4] at HC S4 h4;rw [hW4];clear g4 hW4 S0;have hsz3:=HZ.out;refine wpIn_rangeFunc_ownF rfl (by omega) (gf:=190) (lb:=#[Vp (W3.heap.size+1+1) 0,Vp (W3.heap.size+1) 0,Vp W3.heap.size 0]) rfl trivial (enters_of Tryz.func190 (by kernel_rfl) rfl)
  (encs:=fun x : { d:Nat // d < n }=>encP f a n x.1) (Kp:=Kp S M W3.heap.size) (S:=fun ys=>Got a n ys n) (Sp:=fun pre=>∃ d,Got a n pre d) (N:=n) (w0:=W4)
  (fun l J Jx W hW hJ hJx hY h0=>pieces_in S M st nn bud f a n l W3.heap.size 4 (by omega) hn ha HP.out J Jx W hJ hY (HC.out.kp (Kp.below (M:=M) (N:=W4.heap.size) hW (by omega) (by omega) (by omega))) (S4.out.im.kp (Kp.below (N:=W4.heap.size) (b:=W3.heap.size) hW (by omega) (by omega) (by omega))) h0)
  Kp.trans (fun W l o o' hl h _ _=>kp_put (S:=S) (M:=M) (b:=W3.heap.size) (N:=W4.heap.size) (by omega) (by omega) (by omega) W l o o' hl h) (Below.refl _ _) (fun _=>rfl)
  (fun pre W=>Sd S M st nn bud f (stF m a n ys pre).2 w DB p n cap (stF m a n ys pre).1 W∧Cl S W3.heap.size a n W)
  (fun c pre W=>False)
  ?own (fun c s A B row hs hg hr=>hs) ⟨S4.out,HC.out⟩
  (fun x=>{ tmps:=#[Vp S 0,Vu a,.slice p n cap,undef,undef,Vp DB 0,Vi 0,Vi 0,.slice (some ⟨(f ((a+x.1)/1024)).getD 0,(a+x.1) % 1024,none⟩) (plen a n x.1) (1024 - (a+x.1) % 1024),Vp S 0,Vu a,.slice p n cap,Vi n,Vi 0,Vi 0,.bool false,undef,Vp S 0,Vu a,.slice p n cap,Vi n,.func (.func 190) #[] #[Vp (W3.heap.size+1+1) 0,Vp (W3.heap.size+1) 0,Vp W3.heap.size 0],.slice (some ⟨(f ((a+x.1)/1024)).getD 0,(a+x.1) % 1024,none⟩) (plen a n x.1) (1024 - (a+x.1) % 1024),undef,undef,undef,undef,undef],defers:=[] }) ?assign ?body ?done ?stop
 case own =>
  rintro s A B row ⟨hl,hc⟩ hg hr;have hb:∀ r,row=some r→w.heap.size≤r∧∀ cs t z,A.heap[r]?≠some (.cells cs t z):=by
   intro r e;obtain⟨h1,o,h2,h3⟩:=hr r e;refine⟨by omega,fun cs t z h5=>?_⟩;rw [h5] at h2
   cases h2
   cases h3
  have hk:∀ (b:Nat) (cs:Array Value) (t:TypeId) (z:Nat×Nat),A.heap[b]?=some (Obj.cells cs t z)→B.heap[b]?=A.heap[b]?:=fun b cs t z hb'=>hg.block b (lt_of_block hb') (fun e=>(hb b e.symm).2 cs t z hb')
  exact⟨hl.keep hg hb,(hk _ _ _ _ hc.s).trans hc.s,(hk _ _ _ _ hc.a).trans hc.a,(hk _ _ _ _ hc.n).trans hc.n⟩
 case assign =>
  intro l x W K hK;clear hsz3;unfold encP
  gi_wp2
  exact hK
 case stop =>
  intro D c pre W _ _ h;exact h.elim
 case body =>
  rintro l pre x W ⟨hl,hc⟩ hlt;obtain⟨g,hg⟩:=HP.out x.1 x.2;obtain⟨pd,hbox,W1,pd',hcp,hsl,hc1,hf1,hsd,hkp,hko⟩:=hl.piece (stF_le m a n ys pre) hcap HD.out hg x.2 hc;have HR:=hid (And.intro hsd (And.intro hkp (And.intro hko (hc.kp hkp))));have c0:W.cell? ⟨DB,0,none⟩=some (.slice pd (n - (stF m a n ys pre).1) (cap - (stF m a n ys pre).1)):=by simp [World.cell?,hbox]
  rw [hg];simp only [Option.getD_some];have ES:=hid (stF_snoc m a n ys pre x);clear hl hc hbox hsd hkp hko S4 HC hsz3 h4
  gi_wp2
  gi_region
  all_goals
   gi_wp2
   refine⟨HR.out.2.2.1,HR.out.2.1,?_,HR.out.2.2.2⟩
   rw [ES.out]
   exact HR.out.1
 case done =>
  rintro D xs W hD hgot ⟨hl,hc⟩ hK;rw [Got.stF HD.out.1 FU.out SO.out hgot] at hl;have g3:=grownBy_putObj' W D (.deferred none);have hl3:=hl.keep g3 (fun r e=>by cases e;exact⟨by omega,fun cs t z h5=>by rw [hK] at h5;cases h5⟩);have HF:=hid hl3;clear hl hc hl3 g3 S4 HC hsz3 h4
  gi_wp2
  refine⟨by simp,.inl ⟨_,_,rfl,run_takeDeferred hK,?_⟩⟩;refine⟨Vi 0,?_,rfl,HF.out.im,HF.out.pg,HF.out.fr⟩;simp [results,Tryz.f129,go_sem]
end Go.Proofs.YtgandbaejlfppaaGreatDoor
namespace Go.Proofs.YtgandbaejlfppaaGreatDoor
set_option linter.unusedVariables false
set_option linter.unusedSimpArgs false
set_option maxRecDepth 20000
set_option maxHeartbeats 8000000
open Go.RowKit Go.Shelf
theorem Da.keep {S M:Nat} {f:Nat→Option Nat} {w V:World} {p:Option Addr} {n:Nat} {ys:List Int} (h:Da S M f w p n ys) (hf:Fr S M f f w V):Da S M f V p n ys:=by
 refine⟨h.1,fun i hi=>?_⟩;obtain⟨x,e,c,l,h1,h2,h3⟩:=h.2 i hi;refine⟨x,e,?_,Nat.lt_of_lt_of_le l hf.size,h1,h2,h3⟩;unfold World.cell? at c ⊢;rw [hf.block _ l h1 h2 h3];exact c
theorem im_store (S M nn:Nat) (bud:Int) (f:Nat→Option Nat) (m:Nat→Option (Bool×List Int)) (p c:Int) (a:Nat) (n:Int) (d:Option Addr) (dl dc:Nat) (ys:List Int) (w:World) (h:Im S M 0 nn bud f w) (hp:Pg f m w) (ha:a < 18446744073709551616) (hd:Da S M f w d dl ys) (hdc:dl≤dc) :
  Calls Tryz.prog 110 #[Vp S 0,opV 5 p c a n d dl dc] w fun e w'=>e=.returned (.agg #[Vi (stepM nn bud m 5 p c a n ys).2.1,Vn])∧Ims S M nn bud f (stepM nn bud m 5 p c a n ys).1 w w':=by
 have es:stepM nn bud m 5 p c a n ys=(if accC m a (ys.length:Int)=0 then storeM m a ys ys.length else m,accC m a (ys.length:Int),[]):=by unfold stepM;rw [if_neg (by decide),if_pos rfl]
 rw [es,hd.1];refine run_store S M nn bud f m _ _ p c a n d dl dc w h hp (fun V i q r=>?_)
 by_cases hz:accC m a (dl:Int)=0
 ·rw [hz,if_pos rfl];obtain⟨k,hk,h1,h2,h3⟩:=acc_zero hz;obtain rfl:dl=k:=by omega
  have hl:=store_in S M 1 nn bud f m a dl dc d ys V i q h1 hdc h2 (hd.keep r) (fun d hd=>open_some q (h3 d hd)) (fun W iW qW=>by
   have:=im_access S M 1 nn bud f m a (dl:Nat) W iW qW ha
   rwa [hz] at this)
  refine ((callsIn_wide (n:=5)).1 hl).mono ?_;rintro e w' ⟨rfl,r1,r2,r3⟩;exact⟨rfl,f,r1,r2,r3⟩
 rw [if_neg hz];refine (store_no1 S a _ dl dc d V (by simpa using hz) (im_access S M 1 nn bud f m a dl _ (i.alloc _) (q.alloc _) ha)).mono ?_;rintro e w' ⟨rfl,rfl⟩;exact⟨rfl,f,i.alloc _,q.alloc _,Fr.ofGrown (World.grownBy_alloc _ _ none)⟩
theorem im_do (S M nn:Nat) (bud:Int) (f:Nat→Option Nat) (m:Nat→Option (Bool×List Int)) (kd p c:Int) (a:Nat) (n:Int) (d:Option Addr) (dl dc:Nat) (ys:List Int) (w:World) (h:Im S M 0 nn bud f w) (hp:Pg f m w) (hout:∀ k,nn≤k→m k=none) (hnn:nn≤4096) (ha:a < 18446744073709551616) (hpm:p≤9223372036854775807) (hd:Da S M f w d dl ys) (hdc:dl≤dc) :
  Calls Tryz.prog 110 #[Vp S 0,opV kd p c a n d dl dc] w fun e w'=>∃ v,e=.returned (.agg #[Vi (stepM nn bud m kd p c a n ys).2.1,v])∧w'.ownsRow w.heap.size 5 1 v (stepM nn bud m kd p c a n ys).2.2.length (Ns .u8 (stepM nn bud m kd p c a n ys).2.2)∧Ims S M nn bud f (stepM nn bud m kd p c a n ys).1 w w':=by
 have key:∀ (e:Ending) (w':World),(stepM nn bud m kd p c a n ys).2.2=[]→(e=.returned (.agg #[Vi (stepM nn bud m kd p c a n ys).2.1,Vn])∧Ims S M nn bud f (stepM nn bud m kd p c a n ys).1 w w')→∃ v,e=.returned (.agg #[Vi (stepM nn bud m kd p c a n ys).2.1,v])∧w'.ownsRow w.heap.size 5 1 v (stepM nn bud m kd p c a n ys).2.2.length (Ns .u8 (stepM nn bud m kd p c a n ys).2.2)∧Ims S M nn bud f (stepM nn bud m kd p c a n ys).1 w w':=by
  rintro e w' h0 ⟨rfl,r⟩;exact⟨_,rfl,by rw [h0];exact⟨rfl,.inl ⟨rfl,rfl⟩⟩,r⟩
 by_cases h4:kd=4
 ·subst h4;exact im_load S M nn bud f m p c a n d dl dc ys w h hp ha
 by_cases h5:kd=5
 ·subst h5;refine (im_store S M nn bud f m p c a n d dl dc ys w h hp ha hd hdc).mono (fun e w'=>key e w' ?_);unfold stepM;rw [if_neg (by decide),if_pos rfl]
 by_cases hk:kd < 0∨5 < kd
 ·refine (im_none S M nn bud f m kd p c a n d dl dc ys w h hp hk).mono (fun e w'=>key e w' ?_);unfold stepM;rw [if_neg h4,if_neg h5,if_pos hk]
 refine (im_page S M nn bud f m kd p c a n d dl dc ys w h hp hout hnn hpm (by omega)).mono (fun e w'=>key e w' ?_);unfold stepM;rw [if_neg h4,if_neg h5,if_neg hk];split <;> rfl
theorem freshM_at (m:Nat→Option (Bool×List Int)) (p:Nat):∀ k j,p+k≤j→freshM m p k j=m j
 | 0,j,h=>rfl
 | k+1,j,h=>by
  show updM (freshM m p k) (p+k) _ j=m j
  rw [updM_other _ _ _ _ (by omega)]
  exact freshM_at m p k j (by omega)
theorem goneM_at (m:Nat→Option (Bool×List Int)) (p:Nat):∀ k j,p+k≤j→goneM m p k j=m j
 | 0,j,h=>rfl
 | k+1,j,h=>by
  show updM (goneM m p k) (p+k) _ j=m j
  rw [updM_other _ _ _ _ (by omega)]
  exact goneM_at m p k j (by omega)
end Go.Proofs.YtgandbaejlfppaaGreatDoor
namespace Go.Proofs.YtgandbaejlfppaaGreatDoor
set_option linter.unusedVariables false
set_option linter.unusedSimpArgs false
set_option maxRecDepth 20000
set_option maxHeartbeats 8000000
open Go.RowKit
def okSt (h:Hs):Prop:=∀ c s j,0≤h.st c s j∧h.st c s j≤4
end Go.Proofs.YtgandbaejlfppaaGreatDoor
namespace Go.Proofs.YtgandbaejlfppaaGreatDoor
set_option linter.unusedVariables false
set_option linter.unusedSimpArgs false
set_option maxRecDepth 20000
set_option maxHeartbeats 8000000
open Go.RowKit
theorem wrapU9 (x:Int) (h1:0≤x) (h2:x < 18446744073709551616):IntKind.u64.wrap x=x:=by
 rw [wrap_u64x];omega
theorem sp_usN (c:Nat) (W:World) (hc:c < 12):Calls Tryz.prog 7 #[Vi c] W fun e W'=>e=.returned (Vi (usN c:Nat))∧Below W.heap.size W W':=by
 refine (sp_Usable (c:Int) W).mono ?_;rintro e W' ⟨rfl,b⟩;exact⟨ret_int (us_c hc),b⟩
end Go.Proofs.YtgandbaejlfppaaGreatDoor
namespace Go.Proofs.YtgandbaejlfppaaGreatDoor
set_option linter.unusedVariables false
set_option linter.unusedSimpArgs false
set_option maxRecDepth 20000
set_option maxHeartbeats 8000000
open Go.RowKit
theorem freshM_in (m:Nat→Option (Bool×List Int)) (p:Nat):∀ k j,p≤j→j < p+k→freshM m p k j=some (false,List.replicate 1024 0)
 | 0,j,h1,h2=>by omega
 | k+1,j,h1,h2=>by
  show updM (freshM m p k) (p+k) _ j=_
  by_cases e:j=p+k
  ·subst e;rw [updM_same]
  rw [updM_other _ _ _ _ e];exact freshM_in m p k j h1 (by omega)
theorem freshM_lo (m:Nat→Option (Bool×List Int)) (p:Nat):∀ k j,j < p→freshM m p k j=m j
 | 0,j,h=>rfl
 | k+1,j,h=>by
  show updM (freshM m p k) (p+k) _ j=m j
  rw [updM_other _ _ _ _ (by omega)]
  exact freshM_lo m p k j h
theorem freshM_eq (m:Nat→Option (Bool×List Int)) (p k j:Nat):freshM m p k j=if p≤j∧j < p+k then some (false,List.replicate 1024 0) else m j:=by
 split
 ·rename_i h;exact freshM_in m p k j h.1 h.2
 rename_i h
 by_cases e:j < p
 ·exact freshM_lo m p k j e
 exact freshM_at m p k j (by omega)
theorem goneM_in (m:Nat→Option (Bool×List Int)) (p:Nat):∀ k j,p≤j→j < p+k→goneM m p k j=none
 | 0,j,h1,h2=>by omega
 | k+1,j,h1,h2=>by
  show updM (goneM m p k) (p+k) _ j=_
  by_cases e:j=p+k
  ·subst e;rw [updM_same]
  rw [updM_other _ _ _ _ e];exact goneM_in m p k j h1 (by omega)
theorem goneM_lo (m:Nat→Option (Bool×List Int)) (p:Nat):∀ k j,j < p→goneM m p k j=m j
 | 0,j,h=>rfl
 | k+1,j,h=>by
  show updM (goneM m p k) (p+k) _ j=m j
  rw [updM_other _ _ _ _ (by omega)]
  exact goneM_lo m p k j h
theorem goneM_eq (m:Nat→Option (Bool×List Int)) (p k j:Nat):goneM m p k j=if p≤j∧j < p+k then none else m j:=by
 split
 ·rename_i h;exact goneM_in m p k j h.1 h.2
 rename_i h
 by_cases e:j < p
 ·exact goneM_lo m p k j e
 exact goneM_at m p k j (by omega)
theorem putM_some (m:Nat→Option (Bool×List Int)) (p:Nat) (x:Int) (j:Nat):(putM m p x j).isSome=(m j).isSome:=by
 unfold putM
 by_cases e:j=p/1024
 ·subst e;rw [updM_same,Option.isSome_map]
 rw [updM_other _ _ _ _ e]
theorem storeM_is (m:Nat→Option (Bool×List Int)) (a:Nat) (ys:List Int):∀ k j,(storeM m a ys k j).isSome=(m j).isSome
 | 0,j=>rfl
 | k+1,j=>by simp only [storeM];rw [putM_some];exact storeM_is m a ys k j
def Fine (m:Nat→Option (Bool×List Int)):Prop:=∀ k q,m k=some q→q.1=false∧q.2.length=1024
theorem Fine.put {m:Nat→Option (Bool×List Int)} (h:Fine m) (p:Nat) (x:Int):Fine (putM m p x):=by
 intro k q hq;unfold putM at hq
 by_cases e:k=p/1024
 ·subst e;rw [updM_same] at hq
  cases hm:m (p/1024) with
  | none=>rw [hm] at hq;cases hq
  | some r =>
   rw [hm] at hq;simp at hq;subst hq;have:=h _ _ hm;exact⟨this.1,by simp [this.2]⟩
 rw [updM_other _ _ _ _ e] at hq;exact h k q hq
theorem Fine.store {m:Nat→Option (Bool×List Int)} (h:Fine m) (a:Nat) (ys:List Int):∀ k,Fine (storeM m a ys k)
 | 0=>h
 | k+1=>(Fine.store h a ys k).put _ _
theorem Fine.fresh {m:Nat→Option (Bool×List Int)} (h:Fine m) (p k:Nat):Fine (freshM m p k):=by
 intro j q hq;rw [freshM_eq] at hq
 split at hq
 ·injection hq with hq
  subst hq;exact⟨rfl,List.length_replicate⟩
 exact h j q hq
theorem Fine.gone {m:Nat→Option (Bool×List Int)} (h:Fine m) (p k:Nat):Fine (goneM m p k):=by
 intro j q hq;rw [goneM_eq] at hq
 split at hq
 ·cases hq
 exact h j q hq
theorem Fine.open {m:Nat→Option (Bool×List Int)} (h:Fine m) (k:Nat):isOpen (m k)=(m k).isSome:=by
 cases hm:m k with
 | none=>rfl
 | some q=>obtain ⟨l,xs⟩:=q;have:=(h k _ hm).1;simp at this;subst this;rfl
/-! slabs lie apart -/
theorem rgN_mono {c d:Nat} (h:c < d) (hd:d < 12):rgN c+6*(pgN c+1)≤rgN d:=by
 have key:∀ d:Fin 12,∀ c:Fin 12,c.val < d.val→rgN c.val+6*(pgN c.val+1)≤rgN d.val:=by decide +kernel
 exact key ⟨d,hd⟩ ⟨c,by omega⟩ h
theorem slab_apart {c s c' s':Nat} (hc:c < 12) (hs:s < 6) (hc':c' < 12) (hs':s' < 6) (hne:¬(c=c'∧s=s')):slabP c s+(pgN c+1)≤slabP c' s'∨slabP c' s'+(pgN c'+1)≤slabP c s:=by
 unfold slabP;have m1:s*(pgN c+1)≤5*(pgN c+1):=Nat.mul_le_mul_right _ (by omega);have m2:s'*(pgN c'+1)≤5*(pgN c'+1):=Nat.mul_le_mul_right _ (by omega)
 rcases Nat.lt_trichotomy c c' with h|h|h
 ·have:=rgN_mono h hc';omega
 ·subst h
  rcases Nat.lt_trichotomy s s' with h2|h2|h2
  ·have:(s+1)*(pgN c+1)≤s'*(pgN c+1):=Nat.mul_le_mul_right _ h2;rw [Nat.add_mul,Nat.one_mul] at this;omega
  ·exact absurd ⟨rfl,h2⟩ hne
  have:(s'+1)*(pgN c+1)≤s*(pgN c+1):=Nat.mul_le_mul_right _ h2;rw [Nat.add_mul,Nat.one_mul] at this;omega
 have:=rgN_mono h hc;omega
def inQ (h:Hs) (c:Nat):List Int:=(h.mx c++h.ff c).filter fun v=>decide (v ≠ -1)
structure Inv (cf:Cf) (h:Hs):Prop where
 st:okSt h
 fine:Fine h.m
 out:∀ k,283≤k→h.m k=none
 slab:∀ c s,c < 12→s < 6→∀ i,i < pgN c→(h.m (slabP c s+i)).isSome=onS h c s
 off:∀ c s,c < 12→s < 6→onS h c s=false→∀ j,j < slN c→isFree (h.st c s j)=true
 req:∀ c s j,c < 12→s < 6→j < slN c→(h.st c s j=1→0≤h.rq c s j∧h.rq c s j≤usN c)∧(h.st c s j≠1→h.rq c s j=0)
 mxl:∀ c,c < 12→(h.mx c).length=cf.mix
 ffl:∀ c,c < 12→(h.ff c).length≤cf.fifo
 ffn:∀ c,c < 12→∀ v∈h.ff c,0≤v
 mxn:∀ c,c < 12→∀ v∈h.mx c,-1≤v
 wait:∀ c s j,c < 12→s < 6→j < slN c→(h.st c s j=2↔((s*slN c+j:Nat):Int)∈inQ h c)
 wlt:∀ c,c < 12→∀ v∈inQ h c,v < 6*slN c
 wnd:∀ c,c < 12→(inQ h c).Nodup
 rgs:∀ r∈h.rg,187≤r.first∧r.first+r.ext≤283∧1≤r.guards∧r.guards≤3∧1≤r.pages∧(r.st=1∧1016 < r.rq∧pagesN r.rq.toNat=r.pages∨r.st=2∧r.rq=0)
 apart:h.rg.Pairwise fun a b=>a.first+a.ext≤b.first∨b.first+b.ext≤a.first
 big:∀ k,187≤k→((h.m k).isSome=true↔∃ r∈h.rg,r.st=1∧r.first+r.guards≤k∧k < r.first+r.guards+r.pages)
 low:∀ k,k < 187→(h.m k).isSome=true→∃ c s,c < 12∧s < 6∧slabP c s≤k∧k < slabP c s+pgN c
 row:∀ b,b∈h.row↔∃ r∈h.rg,r.st=2∧r.base=b
 rownd:h.row.Nodup
 rowl:h.row.length≤cf.large
 rel:∀ b∈h.rel,b % 1024=0∧187≤b/1024∧b/1024 < 283∧∀ r∈h.rg,b/1024 < r.first∨r.first+r.ext≤b/1024
theorem inQ_new (cf:Cf) (c:Nat):inQ (newH cf) c=[]:=by
 unfold inQ newH;simp
theorem Inv.new (cf:Cf):Inv cf (newH cf):=by
 refine⟨fun c s j=>⟨by simp [newH],by simp [newH]⟩,fun k q hq=>by simp [newH] at hq,fun k hk=>rfl,fun c s hc hs i hi=>rfl,fun c s hc hs ho j hj=>rfl,fun c s j hc hs hj=>⟨by simp [newH],fun _=>rfl⟩,fun c hc=>by simp [newH],fun c hc=>by simp [newH],fun c hc v hv=>by simp [newH] at hv,fun c hc v hv=>?_,fun c s j hc hs hj=>?_,fun c hc v hv=>?_,fun c hc=>?_,fun r hr=>by simp [newH] at hr,by simp [newH],fun k hk=>by simp [newH],fun k hk hx=>by simp [newH] at hx,fun b=>by simp [newH],by simp [newH],by simp [newH],fun b hb=>by simp [newH] at hb⟩
 ·simp [newH] at hv;omega
 ·rw [inQ_new];simp [newH]
 ·rw [inQ_new] at hv;cases hv
 rw [inQ_new];exact List.nodup_nil
theorem Inv.used {cf:Cf} {h:Hs} (i:Inv cf h) (u:Nat):Inv cf { h with used:=u } :=
 ⟨i.st,i.fine,i.out,i.slab,i.off,i.req,i.mxl,i.ffl,i.ffn,i.mxn,i.wait,i.wlt,i.wnd,i.rgs,i.apart,i.big,i.low,i.row,i.rownd,i.rowl,i.rel⟩
theorem Inv.bytes {cf:Cf} {h:Hs} (i:Inv cf h) (a:Nat) (ys:List Int) (n:Nat):Inv cf { h with m:=storeM h.m a ys n }:=by
 have on:∀ c s,onS { h with m:=storeM h.m a ys n } c s=onS h c s:=fun c s=>storeM_is _ _ _ _ _
 refine⟨i.st,i.fine.store _ _ _,fun k hk=>?_,fun c s hc hs j hj=>?_,fun c s hc hs ho=>i.off c s hc hs ((on c s).symm.trans ho),i.req,i.mxl,i.ffl,i.ffn,i.mxn,i.wait,i.wlt,i.wnd,i.rgs,i.apart,fun k hk=>?_,fun k hk hx=>?_,i.row,i.rownd,i.rowl,i.rel⟩
 ·have:=storeM_is h.m a ys n k;rw [i.out k hk] at this;simpa using this
 ·rw [on];exact (storeM_is _ _ _ _ _).trans (i.slab c s hc hs j hj)
 ·have:=i.big k hk;rw [←storeM_is h.m a ys n k] at this;exact this
 exact i.low k hk ((storeM_is h.m a ys n k)▸hx)
theorem Inv.fresh {cf:Cf} {h:Hs} (i:Inv cf h) {c s:Nat} (hc:c < 12) (hs:s < 6):Inv cf { h with m:=freshM h.m (slabP c s) (pgN c) }:=by
 have hp:=slabP_in hc hs;have hz:=szN_in hc;have on:∀ c' s',c' < 12→s' < 6→∀ k,k < pgN c'→freshM h.m (slabP c s) (pgN c) (slabP c' s'+k)=if c'=c∧s'=s then some (false,List.replicate 1024 0) else h.m (slabP c' s'+k):=fun c' s' hc' hs' k hk=>by
  rw [freshM_eq]
  by_cases e:c'=c∧s'=s
  ·obtain⟨rfl,rfl⟩:=e;rw [if_pos (by omega),if_pos ⟨rfl,rfl⟩]
  rw [if_neg e,if_neg];have:=slab_apart hc' hs' hc hs e;omega
 have onx:∀ c' s',c' < 12→s' < 6→onS { h with m:=freshM h.m (slabP c s) (pgN c) } c' s'=if c'=c∧s'=s then true else onS h c' s':=fun c' s' hc' hs'=>by
  have:=szN_in hc';have h0:=on c' s' hc' hs' 0 (by omega);unfold onS;rw [Nat.add_zero] at h0;show (freshM h.m (slabP c s) (pgN c) (slabP c' s')).isSome=_;rw [h0]
  split <;> rfl
 refine⟨i.st,i.fine.fresh _ _,fun k hk=>?_,fun c' s' hc' hs' j hj=>?_,fun c' s' hc' hs' ho=>?_,i.req,i.mxl,i.ffl,i.ffn,i.mxn,i.wait,i.wlt,i.wnd,i.rgs,i.apart,fun k hk=>?_,fun k hk hx=>?_,i.row,i.rownd,i.rowl,i.rel⟩
 ·show freshM h.m _ _ k=none;rw [freshM_eq,if_neg (by omega)];exact i.out k hk
 ·rw [onx c' s' hc' hs'];show (freshM h.m _ _ _).isSome=_;rw [on c' s' hc' hs' j hj]
  split
  ·rfl
  exact i.slab c' s' hc' hs' j hj
 ·rw [onx c' s' hc' hs'] at ho
  split at ho
  ·cases ho
  exact i.off c' s' hc' hs' ho
 ·show (freshM h.m _ _ k).isSome=true↔_;rw [freshM_eq,if_neg (by omega)];exact i.big k hk
 have hx':(freshM h.m (slabP c s) (pgN c) k).isSome=true:=hx;rw [freshM_eq] at hx'
 split at hx'
 ·rename_i e;exact⟨c,s,hc,hs,e.1,e.2⟩
 exact i.low k hk hx'
end Go.Proofs.YtgandbaejlfppaaGreatDoor
namespace Go.Proofs.YtgandbaejlfppaaGreatDoor
set_option linter.unusedVariables false
set_option linter.unusedSimpArgs false
set_option maxRecDepth 20000
set_option maxHeartbeats 8000000
open Go.RowKit Go.Shelf Go.Maps
def blkOf (n : Nat) : Code → Option Code
  | .block k c => if k = n then some (.block k c) else blkOf n c
  | .seq a b => match blkOf n a with
    | some c => some c
    | none => blkOf n b
  | .scope c => blkOf n c
  | .loop c => blkOf n c
  | .cond _ a b => match blkOf n a with
    | some c => some c
    | none => blkOf n b
  | _ => none
theorem own_lenD {W : World} {b : Nat} {e : TypeId} {sz : Nat} {d : Option Addr} {l c : Nat} {n : Nat} {xs : List Value} (h : W.ownsRow b e sz (.slice d l c) n xs) : l = n := by
  rcases h.2 with ⟨h2, h3⟩ | ⟨g, cap, cur, h1, _⟩
  · simp at h2; omega
  · simp at h1; omega
theorem own_downD {W : World} {b b' : Nat} {e : TypeId} {sz : Nat} {v : Value} {n : Nat} {xs : List Value} (hb : b' ≤ b) (h : W.ownsRow b e sz v n xs) : W.ownsRow b' e sz v n xs := by
  refine ⟨h.1, ?_⟩
  rcases h.2 with h2 | ⟨g, cap, cur, h1, h2, h3⟩
  · exact .inl h2
  · exact .inr ⟨g, cap, cur, h1, Nat.le_trans hb h2, h3⟩
def B0 (w0 : World) (a : Option Addr) (len cap R : Nat) (gv : Nat) (tt : Bool) (W : World) (X Y k : Nat) (Pm : Int → Prop) : Prop := ∀ (m : Int) (K : Act → World → Prop) (Q : Exit → Act → World → Prop) (q : Oin) (w : World) (u9 u10 u11 u12 u13 u14 u15 u16 u17 u18 u19 u20 u21 u22 u23 u24 u25 u26 u27 u28 u29 u32 u33 u34 u35 u36 u37 u38 u39 u40 u41 u42 u43 u44 u45 u46 u47 u48 u49 u50 u51 u52 u53 u54 u55 u56 u57 u58 u59 u60 u61 u62 u63 u64 u65 u66 u67 u68 u69 u70 u71 u72 u73 u74 u75 u76 u77 u78 u79 u80 u81 u82 u83 u84 u85 u86 u87 u88 u89 u90 u91 u92 u93 u94 u95 u96 u97 u98 u99 u100 u101 u102 u103 u104 u105 u106 u107 u108 u109 u110 u111 u112 u113 u114 u115 u116 u117 u118 u119 u120 u121 u122 u123 u124 u125 u126 u127 u128 u129 u130 u131 u132 u133 u134 u135 u136 u137 u138 u139 u140 u141 u142 u143 u144 u145 u146 u147 u148 : Value), Pm m → Hid (Ob6 w0 a len cap R W X Y q w) →
  (∀ (v9 v10 v11 v12 v13 v14 v15 v16 v17 v18 v19 v20 v21 v22 v23 v24 v25 v26 v27 v28 v29 v32 v33 v34 v35 v36 v37 v38 v39 v40 v41 v42 v43 v44 v45 v46 v47 v48 v49 v50 v51 v52 v53 v54 v55 v56 v57 v58 v59 v60 v61 v62 v63 v64 v65 v66 v67 v68 v69 v70 v71 v72 v73 v74 v75 v76 v77 v78 v79 v80 v81 v82 v83 v84 v85 v86 v87 v88 v89 v90 v91 v92 v93 v94 v95 v96 v97 v98 v99 v100 v101 v102 v103 v104 v105 v106 v107 v108 v109 v110 v111 v112 v113 v114 v115 v116 v117 v118 v119 v120 v121 v122 v123 v124 v125 v126 v127 v128 v129 v130 v131 v132 v133 v134 v135 v136 v137 v138 v139 v140 v141 v142 v143 v144 v145 v146 v147 v148 : Value) (q' : Oin) (w' : World), Hid (Ob6 w0 a len cap R W X Y q' w') → K ⟨#[.pointer (some ⟨R, 0, none⟩), .int .i64 (gv : Nat), .bool tt, undef, undef, undef, .pointer (some ⟨Y, 0, none⟩), .int .i64 (k : Nat), .pointer (some ⟨X, 0, none⟩), v9, v10, v11, v12, v13, v14, v15, v16, v17, v18, v19, v20, v21, v22, v23, v24, v25, v26, v27, v28, v29, .int .i64 (k : Nat), .int .i64 m, v32, v33, v34, v35, v36, v37, v38, v39, v40, v41, v42, v43, v44, v45, v46, v47, v48, v49, v50, v51, v52, v53, v54, v55, v56, v57, v58, v59, v60, v61, v62, v63, v64, v65, v66, v67, v68, v69, v70, v71, v72, v73, v74, v75, v76, v77, v78, v79, v80, v81, v82, v83, v84, v85, v86, v87, v88, v89, v90, v91, v92, v93, v94, v95, v96, v97, v98, v99, v100, v101, v102, v103, v104, v105, v106, v107, v108, v109, v110, v111, v112, v113, v114, v115, v116, v117, v118, v119, v120, v121, v122, v123, v124, v125, v126, v127, v128, v129, v130, v131, v132, v133, v134, v135, v136, v137, v138, v139, v140, v141, v142, v143, v144, v145, v146, v147, v148], []⟩ w') → Code.wp Tryz.prog ((Tryz.f24.body.bind (blkOf 0)).getD .skip) (Exit.then K Q) ⟨#[.pointer (some ⟨R, 0, none⟩), .int .i64 (gv : Nat), .bool tt, undef, undef, undef, .pointer (some ⟨Y, 0, none⟩), .int .i64 (k : Nat), .pointer (some ⟨X, 0, none⟩), u9, u10, u11, u12, u13, u14, u15, u16, u17, u18, u19, u20, u21, u22, u23, u24, u25, u26, u27, u28, u29, .int .i64 (k : Nat), .int .i64 m, u32, u33, u34, u35, u36, u37, u38, u39, u40, u41, u42, u43, u44, u45, u46, u47, u48, u49, u50, u51, u52, u53, u54, u55, u56, u57, u58, u59, u60, u61, u62, u63, u64, u65, u66, u67, u68, u69, u70, u71, u72, u73, u74, u75, u76, u77, u78, u79, u80, u81, u82, u83, u84, u85, u86, u87, u88, u89, u90, u91, u92, u93, u94, u95, u96, u97, u98, u99, u100, u101, u102, u103, u104, u105, u106, u107, u108, u109, u110, u111, u112, u113, u114, u115, u116, u117, u118, u119, u120, u121, u122, u123, u124, u125, u126, u127, u128, u129, u130, u131, u132, u133, u134, u135, u136, u137, u138, u139, u140, u141, u142, u143, u144, u145, u146, u147, u148], []⟩ w
end Go.Proofs.YtgandbaejlfppaaGreatDoor
