import Derived.Deep.RegionHeld
import Derived.Test.YtgandbaejlfppaaGreatDoorM10
import Derived.Test.YtgandbaejlfppaaGreatDoorM11
namespace Go.Proofs.YtgandbaejlfppaaGreatDoor
set_option linter.unusedVariables false
set_option linter.unusedSimpArgs false
set_option maxRecDepth 20000
set_option maxHeartbeats 8000000
open Go.RowKit Go.Shelf
theorem heldN_none:∀ k,heldN (fun _=>none) 0 k=0
 | 0=>rfl
 | k+1=>by simp [heldN,heldN_none k]
theorem im_new (n bud:Int) (w:World) :
  Calls Tryz.prog 26 #[Vi n,Vi bud] w fun e w'=>∃ S M,e=.returned (Vp S 0)∧Im S M 0 n bud (fun _=>none) w'∧Below w.heap.size w w'∧w.heap.size≤S∧w.heap.size≤M∧S≠M:=by
 have hmm:=@run_makeMap Tryz.prog;go_enter Tryz.func26,Tryz.ntmps26;go_wp2;go_ret;refine⟨w.heap.size+1,w.heap.size,rfl,⟨by rw [←al_size w (.map #[] 0)];exact al_last _ _,.map [],((World.ownsMap_made w Tryz.prog 3 ptrE).alloc _).mono (Nat.zero_le _),by rw [heldN_none];rfl,fun k hk=>?_,fun k hk=>?_⟩,((Below.refl _ _).alloc (Nat.le_refl _) _).alloc (by rw [al_size];omega) _,by omega,by omega,by omega⟩
 ·rfl
 rfl
end Go.Proofs.YtgandbaejlfppaaGreatDoor
namespace Go.Proofs.YtgandbaejlfppaaGreatDoor
set_option linter.unusedVariables false
set_option linter.unusedSimpArgs false
set_option maxRecDepth 20000
set_option maxHeartbeats 8000000
open Go.RowKit Go.Shelf
theorem held_all {f:Nat→Option Nat} {m:Nat→Option (Bool×List Int)} (h:∀ k,(f k).isSome=(m k).isSome) (p:Nat):∀ c,heldN f p c=c↔allBb m p true c=true
 | 0=>by simp [heldN,allBb]
 | k+1=>by
  have ih:=held_all h p k
  have h1:=heldN_le f p k
  simp only [heldN,allBb,Bool.and_eq_true,beq_iff_eq,←h (p+k),←ih]
  cases (f (p+k)).isSome <;> simp <;> omega
theorem held_no {f:Nat→Option Nat} {m:Nat→Option (Bool×List Int)} (h:∀ k,(f k).isSome=(m k).isSome) (p:Nat):∀ c,heldN f p c=0↔allBb m p false c=true
 | 0=>by simp [heldN,allBb]
 | k+1=>by
  have ih:=held_no h p k
  simp only [heldN,allBb,Bool.and_eq_true,beq_iff_eq,←h (p+k),←ih]
  cases (f (p+k)).isSome <;> simp
theorem inside_ok (nn:Nat) (p c:Int):insideB nn p c=true↔okP nn p c:=by
 unfold insideB okP;rw [decide_eq_true_eq];omega
theorem im_page (S M nn:Nat) (bud:Int) (f:Nat→Option Nat) (m:Nat→Option (Bool×List Int)) (kd p c:Int) (a:Nat) (n:Int) (d:Option Addr) (dl dc:Nat) (ys:List Int) (w:World) (h:Im S M 0 nn bud f w) (hp:Pg f m w) (hout:∀ k,nn≤k→m k=none) (hnn:nn≤4096) (hpm:p≤9223372036854775807) (hk:kd=0∨kd=1∨kd=2∨kd=3) :
  Calls Tryz.prog 110 #[Vp S 0,opV kd p c a n d dl dc] w fun e w'=>e=.returned (.agg #[Vi (stepM nn bud m kd p c a n ys).2.1,Vn])∧Ims S M nn bud f (stepM nn bud m kd p c a n ys).1 w w':=by
 have hn0:(0:Int)≤nn:=by omega
 have hn1:(nn:Int)≤4096:=by omega
 have e4:¬kd=4:=by omega
 have e5:¬kd=5:=by omega
 have e6:¬(kd < 0∨5 < kd):=by omega
 have his:=hp.none_iff;have hcnt:heldN f 0 4096=cntM m nn:=by
  rw [cntM_held his 4096,show 4096=nn+(4096 - nn) by omega,cntM_out hout]
 unfold stepM;rw [if_neg e4,if_neg e5,if_neg e6]
 by_cases hin:okP nn p c
 ·rw [if_pos hin];have hin':=(inside_ok nn p c).2 hin;obtain⟨g1,g2,g3,g4⟩:=hin;obtain⟨p,rfl⟩:=Int.eq_ofNat_of_zero_le g2;obtain⟨c,rfl⟩:=Int.eq_ofNat_of_zero_le (show 0≤c by omega);simp only [Int.toNat_natCast];have hle:=heldN_le f p c
  rcases hk with rfl|rfl|rfl|rfl
  ·refine run_commit S M nn bud f m _ _ p c a n d dl dc w h hp (fun V i q=>?_);simp only [pageM,if_true]
   cases hb:allBb m p false c with
   | false =>
    simp only [if_true];refine (commit_part S M 1 nn bud f p c _ V i hn0 hn1 hin' rfl (by
     have:=(held_no his p c);rw [hb] at this;have h2:heldN f p c≠0:=fun e=>by simpa using this.1 e
     omega)).mono ?_
    rintro e w' ⟨rfl,rfl⟩;exact⟨rfl,f,i,q,Fr.refl _ _ _ _⟩
   | true =>
    have hz:=(held_no his p c).2 hb
    by_cases hbd:bud < (cntM m nn:Int)+c
    ·simp only [if_pos hbd,Bool.true_eq_false,if_false];refine (commit_full S M 1 nn bud f p c _ V i hn0 hn1 hin' hz hcnt hbd).mono ?_;rintro e w' ⟨rfl,rfl⟩;exact⟨rfl,f,i.drew,q.drew,(Fr.refl _ _ _ _).drew⟩
    simp only [if_neg hbd,Bool.true_eq_false,if_false];exact commit_yes S M 1 nn bud f m p c _ V i q hn0 hn1 hin' hz hcnt (by omega)
  ·refine run_decommit S M nn bud f m _ _ p c a n d dl dc w h hp (fun V i q=>?_);simp only [pageM,show ¬((1:Int)=0) by omega,if_false,if_true]
   cases hb:allBb m p true c with
   | false =>
    simp only [if_true];refine (decommit_part S M 1 nn bud f p c _ V i hn0 hn1 hin' rfl (by
     have:=(held_all his p c);rw [hb] at this;have h2:heldN f p c≠c:=fun e=>by simpa using this.1 e
     omega)).mono ?_
    rintro e w' ⟨rfl,rfl⟩;exact⟨rfl,f,i,q,Fr.refl _ _ _ _⟩
   | true =>
    simp only [Bool.true_eq_false,if_false];exact decommit_all S M 1 nn bud f m p c V i q hn0 hn1 hin' ((held_all his p c).2 hb)
  ·refine run_lock S M nn bud f m _ _ p c a n d dl dc w h hp (fun V i q=>?_);simp only [pageM,show ¬((2:Int)=0) by omega,show ¬((2:Int)=1) by omega,if_false,if_true]
   cases hb:allBb m p true c with
   | false =>
    simp only [if_true];refine (setLock_part S M 1 nn bud f p c _ true V i hn0 hn1 hin' rfl (by
     have:=(held_all his p c);rw [hb] at this;have h2:heldN f p c≠c:=fun e=>by simpa using this.1 e
     omega)).mono ?_
    rintro e w' ⟨rfl,rfl⟩;exact⟨rfl,f,i,q,Fr.refl _ _ _ _⟩
   | true =>
    simp only [Bool.true_eq_false,if_false];refine (setLock_yes S M 1 nn bud f m p c true V i q hn0 hn1 hin' ((held_all his p c).2 hb)).mono ?_;rintro e w' ⟨rfl,h1,h2,h3⟩;exact⟨rfl,f,h1,h2,h3⟩
  refine run_unlock S M nn bud f m _ _ p c a n d dl dc w h hp (fun V i q=>?_);simp only [pageM,show ¬((3:Int)=0) by omega,show ¬((3:Int)=1) by omega,show ¬((3:Int)=2) by omega,if_false]
  cases hb:allBb m p true c with
  | false =>
   simp only [if_true];refine (setLock_part S M 1 nn bud f p c _ false V i hn0 hn1 hin' rfl (by
    have:=(held_all his p c);rw [hb] at this;have h2:heldN f p c≠c:=fun e=>by simpa using this.1 e
    omega)).mono ?_
   rintro e w' ⟨rfl,rfl⟩;exact⟨rfl,f,i,q,Fr.refl _ _ _ _⟩
  | true =>
   simp only [Bool.true_eq_false,if_false];refine (setLock_yes S M 1 nn bud f m p c false V i q hn0 hn1 hin' ((held_all his p c).2 hb)).mono ?_;rintro e w' ⟨rfl,h1,h2,h3⟩;exact⟨rfl,f,h1,h2,h3⟩
 rw [if_neg hin];have hno:insideB nn p c=false:=by
  cases hb:insideB nn p c with
  | false=>rfl
  | true=>exact absurd ((inside_ok nn p c).1 hb) hin
 rcases hk with rfl|rfl|rfl|rfl
 ·refine run_commit S M nn bud f m _ _ p c a n d dl dc w h hp (fun V i q=>(commit_no S M 1 nn bud f p c V i hn0 hn1 hpm hno).mono ?_);rintro e w' ⟨rfl,rfl⟩;exact⟨rfl,f,i,q,Fr.refl _ _ _ _⟩
 ·refine run_decommit S M nn bud f m _ _ p c a n d dl dc w h hp (fun V i q=>(decommit_no S M 1 nn bud f p c V i hn0 hn1 hpm hno).mono ?_);rintro e w' ⟨rfl,rfl⟩;exact⟨rfl,f,i,q,Fr.refl _ _ _ _⟩
 ·refine run_lock S M nn bud f m _ _ p c a n d dl dc w h hp (fun V i q=>(setLock_no S M 1 nn bud f p c true V i hn0 hn1 hpm hno).mono ?_);rintro e w' ⟨rfl,rfl⟩;exact⟨rfl,f,i,q,Fr.refl _ _ _ _⟩
 refine run_unlock S M nn bud f m _ _ p c a n d dl dc w h hp (fun V i q=>(setLock_no S M 1 nn bud f p c false V i hn0 hn1 hpm hno).mono ?_);rintro e w' ⟨rfl,rfl⟩;exact⟨rfl,f,i,q,Fr.refl _ _ _ _⟩
end Go.Proofs.YtgandbaejlfppaaGreatDoor
namespace Go.Proofs.YtgandbaejlfppaaGreatDoor
set_option linter.unusedVariables false
set_option linter.unusedSimpArgs false
set_option maxRecDepth 20000
set_option maxHeartbeats 8000000
open Go.RowKit Go.Shelf
theorem im_access (S M:Nat) (st nn bud:Int) (f:Nat→Option Nat) (m:Nat→Option (Bool×List Int)) (a:Nat) (n:Int) (w:World) (hi:Im S M st nn bud f w) (hp:Pg f m w) (ha:a < 18446744073709551616) :
  Calls Tryz.prog 168 #[Vp S 0,Vu a,Vi n] w fun e w'=>e=.returned (Vi (accC m a n))∧w'=w:=by
 unfold accC
 by_cases h1:n < 0∨4096 < n
 ·rw [if_pos h1];exact access_range S a n w h1
 rw [if_neg h1]
 by_cases h2:n=0
 ·subst h2;rw [if_pos rfl];exact access_zero S a w
 rw [if_neg h2]
 by_cases h3:4611686018427387904≤(a:Int)+(n - 1)
 ·rw [if_pos h3];exact access_far S a n w (by omega) (by omega) (by omega) (by omega) h3
 rw [if_neg h3];obtain⟨k,rfl⟩:=Int.eq_ofNat_of_zero_le (show 0≤n by omega);rw [Int.toNat_natCast,←reach_open m a k (by omega)];exact access_near S M st nn bud f m a k _ _ w hi hp (by omega) (by omega) (by omega) rfl rfl
theorem im_none (S M nn:Nat) (bud:Int) (f:Nat→Option Nat) (m:Nat→Option (Bool×List Int)) (kd p c:Int) (a:Nat) (n:Int) (d:Option Addr) (dl dc:Nat) (ys:List Int) (w:World) (h:Im S M 0 nn bud f w) (hp:Pg f m w) (hk:kd < 0∨5 < kd) :
  Calls Tryz.prog 110 #[Vp S 0,opV kd p c a n d dl dc] w fun e w'=>e=.returned (.agg #[Vi (stepM nn bud m kd p c a n ys).2.1,Vn])∧Ims S M nn bud f (stepM nn bud m kd p c a n ys).1 w w':=by
 unfold stepM;rw [if_neg (show ¬kd=4 by omega),if_neg (show ¬kd=5 by omega),if_pos hk];exact run_none S M nn bud f m kd p c a n d dl dc w h hp hk
end Go.Proofs.YtgandbaejlfppaaGreatDoor
namespace Go.Proofs.YtgandbaejlfppaaGreatDoor
set_option linter.unusedVariables false
set_option linter.unusedSimpArgs false
set_option maxRecDepth 20000
set_option maxHeartbeats 8000000
open Go.RowKit Go.Shelf
theorem acc_zero {m:Nat→Option (Bool×List Int)} {a:Nat} {n:Int} (h:accC m a n=0):∃ k:Nat,n=k∧k≤4096∧(k=0∨a+k≤4611686018427387904)∧∀ d,d < k→isOpen (m ((a+d)/1024))=true:=by
 unfold accC at h
 by_cases h1:n < 0∨4096 < n
 ·rw [if_pos h1] at h;cases h
 rw [if_neg h1] at h;obtain⟨k,rfl⟩:=Int.eq_ofNat_of_zero_le (show 0≤n by omega);refine⟨k,rfl,by omega,?_⟩
 by_cases h2:(k:Int)=0
 ·exact⟨.inl (by omega),fun d hd=>by omega⟩
 rw [if_neg h2] at h
 by_cases h3:4611686018427387904≤(a:Int)+((k:Int) - 1)
 ·rw [if_pos h3] at h;cases h
 rw [if_neg h3] at h;refine⟨.inr (by omega),?_⟩
 cases hr:reachN m a k with
 | false=>simp [hr,accCode] at h
 | true=>exact reachN_all hr
theorem open_some {f:Nat→Option Nat} {m:Nat→Option (Bool×List Int)} {W:World} (hp:Pg f m W) {k:Nat} (h:isOpen (m k)=true):∃ g,f k=some g:=by
 rcases hp.at' k with ⟨h1,h2⟩|⟨b,l,xs,h1,_⟩
 ·rw [h2] at h;cases h
 exact⟨b,h1⟩
theorem load_no1 (S:Nat) (a n c:Int) (w:World) (hc:(c != 0)=true) (h:Calls Tryz.prog 168 #[Vp S 0,Vu a,Vi n] (w.alloc (.cells #[Vi 0,Vn] 183)) fun e w'=>e=.returned (Vi c)∧w'=w.alloc (.cells #[Vi 0,Vn] 183)) :
  Calls Tryz.prog 128 #[Vp S 0,Vu a,Vi n] w fun e w'=>e=.returned (.agg #[Vi c,Vn])∧w'=w.alloc (.cells #[Vi c,Vn] 183):=by
 have H1:=hid h;clear h;go_enter Tryz.func128,Tryz.ntmps128;go_wp2_with fail;refine (H1.out).mono ?_;rintro _ _ ⟨rfl,rfl⟩;go_wp2_with fail;refine bodyPost_ret (v:=.agg #[Vi c,Vn]) (by simp [results,Tryz.results128,go_sem]) rfl ⟨rfl,rfl⟩
theorem store_no1 (S:Nat) (a c:Int) (n cap:Nat) (p:Option Addr) (w:World) (hc:(c != 0)=true) (h:Calls Tryz.prog 168 #[Vp S 0,Vu a,Vi n] (w.alloc (.cells #[.slice p n cap] 22)) fun e w'=>e=.returned (Vi c)∧w'=w.alloc (.cells #[.slice p n cap] 22)) :
  Calls Tryz.prog 129 #[Vp S 0,Vu a,.slice p n cap] w fun e w'=>e=.returned (Vi c)∧w'=w.alloc (.cells #[.slice p n cap] 22):=by
 have H1:=hid h;clear h;go_enter Tryz.func129,Tryz.ntmps129;go_wp2_with fail;refine (H1.out).mono ?_;rintro _ _ ⟨rfl,rfl⟩;go_wp2_with fail;go_ret;exact⟨rfl,rfl⟩
theorem im_load (S M nn:Nat) (bud:Int) (f:Nat→Option Nat) (m:Nat→Option (Bool×List Int)) (p c:Int) (a:Nat) (n:Int) (d:Option Addr) (dl dc:Nat) (ys:List Int) (w:World) (h:Im S M 0 nn bud f w) (hp:Pg f m w) (ha:a < 18446744073709551616) :
  Calls Tryz.prog 110 #[Vp S 0,opV 4 p c a n d dl dc] w fun e w'=>∃ v,e=.returned (.agg #[Vi (stepM nn bud m 4 p c a n ys).2.1,v])∧w'.ownsRow w.heap.size 5 1 v (stepM nn bud m 4 p c a n ys).2.2.length (Ns .u8 (stepM nn bud m 4 p c a n ys).2.2)∧Ims S M nn bud f (stepM nn bud m 4 p c a n ys).1 w w':=by
 have es:stepM nn bud m 4 p c a n ys=(m,accC m a n,if accC m a n=0 then loadB m a n.toNat else []):=by unfold stepM;rw [if_pos rfl]
 rw [es];refine run_load S M nn bud f m _ _ p c a n d dl dc w h hp (fun V i q=>?_)
 by_cases hz:accC m a n=0
 ·rw [hz,if_pos rfl];obtain⟨k,rfl,h1,h2,h3⟩:=acc_zero hz;have hl:=load_in S M 1 nn bud f m a k V i q h1 h2 (fun d hd=>open_some q (h3 d hd)) (fun W iW qW=>by
   have:=im_access S M 1 nn bud f m a (k:Nat) W iW qW ha
   rwa [hz] at this)
  refine ((callsIn_wide (n:=5)).1 hl).mono ?_;rintro e w' ⟨v,rfl,ho,r⟩;refine⟨v,rfl,?_,r⟩;simp only [Int.toNat_natCast];have el:(loadB m a k).length=k:=by simp [loadB]
  rw [el];exact ho
 rw [if_neg hz];refine (load_no1 S a n _ V (by simpa using hz) (im_access S M 1 nn bud f m a n _ (i.alloc _) (q.alloc _) ha)).mono ?_;rintro e w' ⟨rfl,rfl⟩;exact⟨_,rfl,⟨rfl,.inl ⟨rfl,rfl⟩⟩,i.alloc _,q.alloc _,Fr.ofGrown (World.grownBy_alloc _ _ none)⟩
theorem updM_twice (m:Nat→Option (Bool×List Int)) (k:Nat) (u v:Option (Bool×List Int)):updM (updM m k u) k v=updM m k v:=by
 funext j
 unfold updM
 split <;> rfl
theorem updM_self (m:Nat→Option (Bool×List Int)) (k:Nat) (v:Option (Bool×List Int)) (h:m k=v):updM m k v=m:=by
 funext j
 unfold updM
 split
 ·rename_i e;rw [e,h]
 rfl
theorem splice_snoc (xs zs:List Int) (off:Nat) (z:Int) (h:off+zs.length < xs.length):(splice xs off zs).set (off+zs.length) z=splice xs off (zs++[z]):=by
 have hl:(xs.take off).length=off:=by simp;omega
 have hd:xs.drop (off+zs.length)=xs[off+zs.length]::xs.drop (off+zs.length+1):=List.drop_eq_getElem_cons h;unfold splice;rw [hd,List.set_append_right _ _ (by omega),hl,Nat.add_sub_cancel_left,List.set_append_right _ _ (Nat.le_refl _),Nat.sub_self,List.set_cons_zero];simp [Nat.add_assoc]
theorem storeM_piece (m:Nat→Option (Bool×List Int)) (a:Nat) (ys:List Int) (d:Nat) (lk:Bool) (xs:List Int) (hx:xs.length=1024) (hm:storeM m a ys d ((a+d)/1024)=some (lk,xs)) :
  ∀ l,(a+d) % 1024+l≤1024→d+l≤ys.length→storeM m a ys (d+l)=updM (storeM m a ys d) ((a+d)/1024) (some (lk,splice xs ((a+d) % 1024) ((ys.drop d).take l)))
 | 0,_,_=>by
  have e:splice xs ((a+d) % 1024) ((ys.drop d).take 0)=xs:=by simp [splice]
  rw [e,Nat.add_zero,updM_self _ _ _ hm]
 | l+1,h1,h2=>by
  have ih:=storeM_piece m a ys d lk xs hx hm l (by omega) (by omega)
  have e0:storeM m a ys (d+(l+1))=putM (storeM m a ys (d+l)) (a+(d+l)) (ys[d+l]?.getD 0):=rfl
  have e1:(a+(d+l))/1024=(a+d)/1024:=by omega
  have e2:(a+(d+l)) % 1024=(a+d) % 1024+l:=by omega
  rw [e0,ih]
  unfold putM
  rw [e1,e2,updM_same,updM_twice]
  simp only [Option.map_some]
  have hlen:((ys.drop d).take l).length=l:=by simp;omega
  have e3:(ys.drop d).take (l+1)=(ys.drop d).take l++[ys[d+l]?.getD 0]:=by
   rw [List.take_add_one,List.getElem?_drop,List.getElem?_eq_getElem (by omega)];rfl
  rw [e3,←splice_snoc _ _ _ _ (by rw [hlen,hx];omega),hlen]
theorem pageC_splice (l:Bool) (xs zs:List Int) (off:Nat) (hx:xs.length=1024) (h:off+zs.length≤1024):(splice (pageC l xs).toList off (Ns .u8 zs)).toArray=pageC l (splice xs off zs):=by
 unfold pageC splice;have h1:off≤(Ns .u8 xs).length:=by simp [Ns];omega
 have h2:off+zs.length≤(Ns .u8 xs).length:=by simp [Ns];omega
 dsimp only;rw [List.take_append_of_le_length h1,Ns_len,List.drop_append_of_le_length h2];simp [Ns]
end Go.Proofs.YtgandbaejlfppaaGreatDoor
namespace Go.Proofs.YtgandbaejlfppaaGreatDoor
set_option linter.unusedVariables false
set_option linter.unusedSimpArgs false
set_option maxRecDepth 20000
set_option maxHeartbeats 8000000
open Go.RowKit Go.Shelf
attribute [local go_sem] Oper.semAt_some
def layM (m:Nat→Option (Bool×List Int)) (p:Nat) (bs:List Int):Nat→Option (Bool×List Int):=updM m (p/1024) ((m (p/1024)).map fun q=>(q.1,splice q.2 (p % 1024) bs))
def stF (m:Nat→Option (Bool×List Int)) (a n:Nat) (ys:List Int) (pre:List { d:Nat // d < n }):Nat×(Nat→Option (Bool×List Int)) :=
 pre.foldl (fun s x=>(s.1+min (plen a n x.1) (n - s.1),layM s.2 (a+x.1) ((ys.drop s.1).take (min (plen a n x.1) (n - s.1))))) (0,m)
theorem stF_snoc (m:Nat→Option (Bool×List Int)) (a n:Nat) (ys:List Int) (pre:List { d:Nat // d < n }) (x : { d:Nat // d < n }) :
  stF m a n ys (pre++[x])=((stF m a n ys pre).1+min (plen a n x.1) (n - (stF m a n ys pre).1),layM (stF m a n ys pre).2 (a+x.1) ((ys.drop (stF m a n ys pre).1).take (min (plen a n x.1) (n - (stF m a n ys pre).1)))):=by
 simp [stF]
theorem stF_le0 (a n:Nat) (ys:List Int):∀ (pre:List { d:Nat // d < n }) (s:Nat×(Nat→Option (Bool×List Int))),s.1≤n→(pre.foldl (fun s x=>(s.1+min (plen a n x.1) (n - s.1),layM s.2 (a+x.1) ((ys.drop s.1).take (min (plen a n x.1) (n - s.1))))) s).1≤n
 | [],s,h=>h
 | x::pre,s,h=>by
  rw [List.foldl_cons]
  exact stF_le0 a n ys pre _ (by dsimp only;omega)
theorem stF_le (m:Nat→Option (Bool×List Int)) (a n:Nat) (ys:List Int) (pre:List { d:Nat // d < n }):(stF m a n ys pre).1≤n:=stF_le0 a n ys pre _ (Nat.zero_le _)
theorem plen_page (a n d:Nat):(a+d) % 1024+plen a n d≤1024:=by unfold plen;omega
def Full (m:Nat→Option (Bool×List Int)):Prop:=∀ k q,m k=some q→q.2.length=1024
theorem splice_len (xs zs:List Int) (off:Nat) (h:off+zs.length≤xs.length):(splice xs off zs).length=xs.length:=length_splice _ _ _ h
theorem Full.store {m:Nat→Option (Bool×List Int)} (h:Full m) (a:Nat) (ys:List Int):∀ k,Full (storeM m a ys k)
 | 0=>h
 | k+1=>by
  intro j q e
  have ih:=Full.store h a ys k
  have e':putM (storeM m a ys k) (a+k) (ys[k]?.getD 0) j=some q:=e
  unfold putM at e'
  by_cases hk:j=(a+k)/1024
  ·subst hk
   rw [updM_same] at e'
   cases hm:storeM m a ys k ((a+k)/1024) with
   | none=>rw [hm] at e';cases e'
   | some r =>
    rw [hm] at e'
    simp only [Option.map_some,Option.some.injEq] at e'
    subst e'
    simp
    exact ih _ _ hm
  rw [updM_other _ _ _ _ hk] at e'
  exact ih j q e'
theorem Got.stF {m:Nat→Option (Bool×List Int)} {a n:Nat} {ys:List Int} {pre:List { d:Nat // d < n }} {d:Nat} (hl:ys.length=n) (hm:Full m) (hs:∀ d,d < n→(m ((a+d)/1024)).isSome=true) (h:Got a n pre d):stF m a n ys pre=(d,storeM m a ys d):=by
 induction h with
 | zero=>rfl
 | @next pre d h hd ih =>
  rw [stF_snoc,ih];have h1:=plen_le (a:=a) hd;have e1:min (plen a n d) (n - d)=plen a n d:=by omega
  dsimp only;rw [e1];congr 1;have hsome:(storeM m a ys d ((a+d)/1024)).isSome=true:=by
   have:∀ k j,(storeM m a ys k j).isSome=(m j).isSome:=by
    intro k
    induction k with
    | zero=>intro j;rfl
    | succ k ih =>
     intro j;show (putM (storeM m a ys k) (a+k) (ys[k]?.getD 0) j).isSome=_;unfold putM
     by_cases e:j=(a+k)/1024
     ·subst e;rw [updM_same,Option.isSome_map];exact ih _
     rw [updM_other _ _ _ _ e];exact ih j
   rw [this];exact hs d hd
  obtain⟨q,hq⟩:=Option.isSome_iff_exists.1 hsome;obtain⟨lk,xs⟩:=q;have hx:=(hm.store a ys d) _ _ hq;rw [storeM_piece m a ys d lk xs hx hq (plen a n d) (plen_page a n d) (by omega)];unfold layM;rw [hq];rfl
end Go.Proofs.YtgandbaejlfppaaGreatDoor
namespace Go.Proofs.YtgandbaejlfppaaGreatDoor
set_option linter.unusedVariables false
set_option linter.unusedSimpArgs false
set_option maxRecDepth 20000
set_option maxHeartbeats 8000000
open Go.RowKit Go.Shelf
attribute [local go_sem] Oper.semAt_some
theorem Sd.keep {S M:Nat} {st nn bud:Int} {f:Nat→Option Nat} {mm:Nat→Option (Bool×List Int)} {w W W':World} {DB:Nat} {p:Option Addr} {n cap c:Nat} {row:Option Nat} (h:Sd S M st nn bud f mm w DB p n cap c W) (hg:W.grownBy W' row)
  (hr:∀ r,row=some r→w.heap.size≤r∧∀ cs t z,W.heap[r]?≠some (.cells cs t z)):Sd S M st nn bud f mm w DB p n cap c W':=by
 have hc:∀ (b:Nat) (cs:Array Value) (t:TypeId) (z:Nat×Nat),W.heap[b]?=some (Obj.cells cs t z)→W'.heap[b]?=some (Obj.cells cs t z):=by
  intro b cs t z hb;rw [hg.block b (lt_of_block hb) (fun e=>(hr b e.symm).2 cs t z hb)];exact hb
 have hM:W'.heap[M]?=W.heap[M]?:=hg.block M (Nat.lt_of_lt_of_le h.mlt h.fr.size) (fun e=>by have:=(hr M e.symm).1;have:=h.mlt;omega);refine⟨⟨hc _ _ _ _ h.im.box,?_⟩,⟨?_,h.pg.inj⟩,?_,?_,h.mlt,h.dge⟩
 ·obtain⟨D,⟨es,clock,hb,r1⟩,r⟩:=h.im.map;exact⟨D,⟨es,clock,hM.trans hb,r1⟩,r⟩
 ·intro j
  rcases h.pg.at' j with h1|⟨b,l,xs,h1,h2,h3,h4⟩
  ·exact .inl h1
  exact .inr ⟨b,l,xs,h1,h2,h3,hc _ _ _ _ h4⟩
 ·exact⟨hg.os.trans h.fr.os,hg.tape.trans h.fr.tape,hg.output.trans h.fr.output,Nat.le_trans h.fr.size hg.size,fun j h0 h1 h2 h3=>by
   rw [hg.block j (Nat.lt_of_lt_of_le h0 h.fr.size) (fun e=>by have:=(hr j e.symm).1;omega)];exact h.fr.block j h0 h1 h2 h3,h.fr.made⟩
 obtain⟨pd,h1,h2⟩:=h.box;exact⟨pd,hc _ _ _ _ h1,h2⟩
theorem Sd.piece {S M:Nat} {st nn bud:Int} {f:Nat→Option Nat} {mm:Nat→Option (Bool×List Int)} {w W:World} {DB:Nat} {p:Option Addr} {n cap c:Nat} {ys:List Int} {a b:Nat} {x:Nat} {g:Nat} (h:Sd S M st nn bud f mm w DB p n cap c W) (hc:c≤n) (hcap:n≤cap) (hd:Da S M f w p n ys) (hg:f ((a+x)/1024)=some g) (hx:x < n) (hC:Cl S b a n W) :
  ∃ pd,W.heap[DB]?=some (.cells #[.slice pd (n - c) (cap - c)] 22 (0,0))∧∃ W1 pd',(Builtin.copy_ #[22,22] 3 #[.slice (some ⟨g,(a+x) % 1024,none⟩) (plen a n x) (1024 - (a+x) % 1024),.slice pd (n - c) (cap - c)]).run Tryz.prog W.drew=.ok (Vi (min (plen a n x) (n - c):Nat)) W1 ∧
   (∀ w:World,(Instr.slice 22 (.slice pd (n - c) (cap - c)) (some (Vi (min (plen a n x) (n - c):Nat))) none none).run Tryz.prog w=.ok (.slice pd' (n - (c+min (plen a n x) (n - c))) (cap - (c+min (plen a n x) (n - c)))) w) ∧
   W1.cell? ⟨DB,0,none⟩=some (.slice pd (n - c) (cap - c))∧W1.frozen? ⟨DB,0,none⟩=false ∧
   Sd S M st nn bud f (layM mm (a+x) ((ys.drop c).take (min (plen a n x) (n - c)))) w DB p n cap (c+min (plen a n x) (n - c)) (W1.setCell ⟨DB,0,none⟩ (.slice pd' (n - (c+min (plen a n x) (n - c))) (cap - (c+min (plen a n x) (n - c))))) ∧
   Kp S M b W (W1.setCell ⟨DB,0,none⟩ (.slice pd' (n - (c+min (plen a n x) (n - c))) (cap - (c+min (plen a n x) (n - c)))))∧KeepsOthers W (W1.setCell ⟨DB,0,none⟩ (.slice pd' (n - (c+min (plen a n x) (n - c))) (cap - (c+min (plen a n x) (n - c))))):=by
 obtain⟨pd,hbox,hpd⟩:=h.box;obtain⟨k,hk⟩:∃ k,k=min (plen a n x) (n - c):=⟨_,rfl⟩;rw [←hk];have hpp:=plen_page a n x;have hl1:=plen_pos (a:=a) hx;obtain⟨l,xs,hm,hxl,hb⟩:=h.pg.cell hg;have hlen:((ys.drop c).take k).length=k:=by rw [List.length_take,List.length_drop,hd.1];omega
 obtain⟨W1,hr,hg1,hgr⟩:=copy_run22 W.drew (some ⟨g,(a+x) % 1024,none⟩) pd (plen a n x) (1024 - (a+x) % 1024) (n - c) (cap - c) g ((a+x) % 1024) (pageC l xs).toList 155 (by rw [show W.drew.heap=W.heap from rfl];simpa using hb) (Ns .u8 ((ys.drop c).take k)) (by rw [Ns_len,hlen,hk];exact Nat.min_comm _ _) (fun h0=>by
  rw [Ns_len,hlen] at h0;obtain⟨x0,e1,e2⟩:=hpd (by omega);refine⟨rfl,_,e2,fun j v hv=>?_⟩;have hj:j < k:=by
   by_cases hj:j < k
   ·exact hj
   rw [List.getElem?_eq_none (by rw [Ns_len,hlen];omega)] at hv;cases hv
  obtain⟨x1,e3,e4⟩:=hd.cell h.fr (c+j) (by omega);rw [e1] at e3
  cases e3
  rw [Addr.add_add];have:W.drew.cell? (x0.add (c+j))=W.cell? (x0.add (c+j)):=rfl;rw [this,e4,←hv];simp [Ns,hj];have:c+j < ys.length:=by rw [hd.1];omega
  simp [this]) (by rw [Ns_len,hlen];simp [pageC,Ns,hxl];omega) (fun v hv=>by
   simp only [Ns,List.mem_map] at hv;obtain⟨z,_,rfl⟩:=hv;rfl)
 rw [Ns_len,hlen] at hr;rw [pageC_splice _ _ _ _ hxl (by rw [hlen];omega)] at hg1;obtain⟨pd',hsl,hpd'⟩:=sliced22 pd k (n - c) (cap - c) (by omega) (by omega);obtain⟨a1,a2⟩:=h.pg.apart h.im hg;have hgd:g≠DB:=fun e=>by subst e;rw [hb] at hbox;simp at hbox
 have hgr':W.grownBy W1 (some g):=⟨hgr.os,hgr.tape,hgr.output,hgr.size,hgr.block⟩;have hbox1:W1.heap[DB]?=some (.cells #[.slice pd (n - c) (cap - c)] 22 (0,0)):=by rw [hgr'.block DB (lt_of_block hbox) (by simpa using hgd.symm)];exact hbox
 have g2:W1.grownBy (W1.setCell ⟨DB,0,none⟩ (.slice pd' (n - (c+k)) (cap - (c+k)))) (some DB):=grown_set (grown_refl W1 DB) 0 _;have hDS:DB≠S:=fun e=>by rw [e,h.im.box] at hbox;simp at hbox
 have hDM:DB≠M:=by have:=h.mlt;have:=h.dge;omega
 have e1:n - c - k=n - (c+k):=by omega
 have e2:cap - c - k=cap - (c+k):=by omega
 refine⟨pd,hbox,W1,pd',hr,fun W=>by rw [hsl W,e1,e2],by simp [World.cell?,hbox1],by simp [World.frozen?,hbox1],⟨?_,?_,?_,?_,h.mlt,h.dge⟩,⟨?_,?_⟩,?_⟩
 ·exact (h.im.grownAt hgr' a1 a2).grownAt g2 hDS hDM
 ·have q:=h.pg.lay hg (l:=l) (xs:=splice xs ((a+x) % 1024) ((ys.drop c).take k)) (by rw [splice_len _ _ _ (by rw [hlen,hxl];omega),hxl]) hg1 hgr';have e3:layM mm (a+x) ((ys.drop c).take k)=updM mm ((a+x)/1024) (some (l,splice xs ((a+x) % 1024) ((ys.drop c).take k))):=by
   unfold layM;rw [hm];rfl
  rw [e3];refine⟨?_,q.inj⟩;intro j
  rcases q.at' j with h1|⟨b2,l2,xs2,h1,h2,h3,h4⟩
  ·exact .inl h1
  refine .inr ⟨b2,l2,xs2,h1,h2,h3,?_⟩;rw [g2.block b2 (lt_of_block h4) (fun e=>by cases e;rw [h4] at hbox1;simp at hbox1)];exact h4
 ·exact (h.fr.grownAt hgr' (.inl ⟨_,hg⟩)).grownAt g2 (.inr h.dge)
 ·refine⟨pd',by rw [heap_set_at hbox1];rfl,fun hlt=>?_⟩;obtain⟨x0,e3,e4⟩:=hpd (by omega);refine⟨x0,e3,?_⟩;rw [hpd' (by omega),e4];simp [Addr.add_add]
 ·exact Nat.le_trans hgr'.size g2.size
 ·have hk2:∀ (b:Nat) (cs:Array Value) (t:TypeId) (z:Nat×Nat),W.heap[b]?=some (Obj.cells cs t z)→t≠155→t≠22→(W1.setCell ⟨DB,0,none⟩ (.slice pd' (n - (c+k)) (cap - (c+k)))).heap[b]?=W.heap[b]?:=by
   intro b' cs t z hb' h85 h22;have n1:b'≠g:=fun e=>by subst e;rw [hb] at hb';cases hb';exact h85 rfl
   have n2:b'≠DB:=fun e=>by subst e;rw [hbox] at hb';cases hb';exact h22 rfl
   rw [g2.block b' (Nat.lt_of_lt_of_le (lt_of_block hb') hgr'.size) (by simpa using n2),hgr'.block b' (lt_of_block hb') (by simpa using n1)]
  rintro g' (rfl|rfl|rfl|rfl|rfl)
  ·exact hk2 _ _ _ _ h.im.box (by decide) (by decide)
  ·have hlt:=Nat.lt_of_lt_of_le h.mlt h.fr.size;rw [g2.block _ (Nat.lt_of_lt_of_le hlt hgr'.size) (by simpa using hDM.symm),hgr'.block _ hlt (by simpa using a2.symm)]
  ·exact hk2 _ _ _ _ hC.s (by decide) (by decide)
  ·exact hk2 _ _ _ _ hC.a (by decide) (by decide)
  exact hk2 _ _ _ _ hC.n (by decide) (by decide)
 exact (KeepsOthers.of_grownBy hgr' (fun j o e ho=>by cases e;rw [hb] at ho;cases ho;rfl)).trans (KeepsOthers.setCell _ _ _)
end Go.Proofs.YtgandbaejlfppaaGreatDoor
namespace Go.Proofs.YtgandbaejlfppaaGreatDoor
set_option linter.unusedVariables false
set_option linter.unusedSimpArgs false
set_option maxRecDepth 20000
set_option maxHeartbeats 8000000
open Go.RowKit
theorem cls {c:Nat} (h:c < 12):c=0∨c=1∨c=2∨c=3∨c=4∨c=5∨c=6∨c=7∨c=8∨c=9∨c=10∨c=11:=by omega
theorem sz_c {c:Nat} (h:c < 12):sz (c:Int)=(szN c:Nat):=by
 rcases cls h with rfl|rfl|rfl|rfl|rfl|rfl|rfl|rfl|rfl|rfl|rfl|rfl <;> decide
theorem pg_c {c:Nat} (h:c < 12):pg (c:Int)=(pgN c:Nat):=by
 rcases cls h with rfl|rfl|rfl|rfl|rfl|rfl|rfl|rfl|rfl|rfl|rfl|rfl <;> decide
theorem sl_c {c:Nat} (h:c < 12):sl (c:Int)=(slN c:Nat):=by
 rcases cls h with rfl|rfl|rfl|rfl|rfl|rfl|rfl|rfl|rfl|rfl|rfl|rfl <;> decide
theorem us_c {c:Nat} (h:c < 12):us (c:Int)=(usN c:Nat):=by
 rcases cls h with rfl|rfl|rfl|rfl|rfl|rfl|rfl|rfl|rfl|rfl|rfl|rfl <;> decide
theorem rs_c {c:Nat} (h:c < 12):rs (c:Int)=(rgN c:Nat):=by
 rcases cls h with rfl|rfl|rfl|rfl|rfl|rfl|rfl|rfl|rfl|rfl|rfl|rfl <;> decide
theorem szN_in {c:Nat} (h:c < 12):16≤szN c∧szN c≤1024∧1≤pgN c∧pgN c≤4∧4≤slN c∧slN c≤64∧slN c*szN c≤pgN c*1024∧usN c+8=szN c∧rgN c+6*(pgN c+1)≤187∧1≤rgN c:=by
 rcases cls h with rfl|rfl|rfl|rfl|rfl|rfl|rfl|rfl|rfl|rfl|rfl|rfl <;> decide
theorem slabP_in {c s:Nat} (h:c < 12) (hs:s < 6):1≤slabP c s∧slabP c s+pgN c < 187:=by
 have:=szN_in h;unfold slabP;have:s*(pgN c+1)≤5*(pgN c+1):=Nat.mul_le_mul_right _ (by omega);omega
theorem adr_in {c s j:Nat} (h:c < 12) (hs:s < 6) (hj:j < slN c):1024≤adr c s j∧adr c s j+szN c≤(slabP c s+pgN c)*1024∧adr c s j+szN c < 191488:=by
 have h1:=szN_in h;have h2:=slabP_in h hs;have h3:j*szN c+szN c≤slN c*szN c:=by
  have:(j+1)*szN c≤slN c*szN c:=Nat.mul_le_mul_right _ hj;rw [Nat.add_mul,Nat.one_mul] at this;exact this
 unfold adr;omega
theorem co_c {a:Nat} (h:a≤1016):co (a:Int)=(coN a:Nat)∧coN a < 12∧a+8≤szN (coN a):=by
 have key:∀ a:Fin 1017,co ((a.val:Nat):Int)=(coN a.val:Nat)∧coN a.val < 12∧a.val+8≤szN (coN a.val):=by decide +kernel
 exact key ⟨a,by omega⟩
end Go.Proofs.YtgandbaejlfppaaGreatDoor
namespace Go.Proofs.YtgandbaejlfppaaGreatDoor
set_option linter.unusedVariables false
set_option linter.unusedSimpArgs false
set_option maxRecDepth 20000
set_option maxHeartbeats 8000000
open Go.RowKit
theorem flat_at {α:Type} (f:α→List Value) (n:Nat) (hf:∀ a,(f a).length=n):∀ (l:List α) (i:Nat) (a:α),l[i]?=some a→∀ r,r < n→(l.flatMap f)[i*n+r]?=(f a)[r]?
 | [],i,a,h=>by simp at h
 | x::l,0,a,h=>fun r hr=>by
  simp at h
  subst h
  rw [List.flatMap_cons,Nat.zero_mul,Nat.zero_add,List.getElem?_append_left (by rw [hf];exact hr)]
 | x::l,i+1,a,h=>fun r hr=>by
  simp at h
  have hi:(i+1)*n=i*n+n:=by rw [Nat.add_mul,Nat.one_mul]
  rw [List.flatMap_cons,List.getElem?_append_right (by rw [hf];omega),hf,show (i+1)*n+r - n=i*n+r by omega]
  exact flat_at f n hf l i a h r hr
theorem own_cell {W:World} {B:Nat} {e:TypeId} {sz:Nat} {G n cap:Nat} {xs:List Value} (h:W.ownsRow B e sz (Vl G n cap) n xs) (i:Nat) (v:Value) (hv:xs[i]?=some v):W.cell? ⟨G,i,none⟩=some v:=by
 rcases h.2 with ⟨e,_⟩|⟨g,cap',cur,e,h1,h2,h3,h4,h5,h6⟩
 ·simp at e
 simp at e;obtain⟨rfl,rfl⟩:=e;have hi:=(List.getElem?_eq_some_iff.1 hv).1;rw [←h6,List.getElem?_take_of_lt (by rw [←h.1];exact hi),Array.getElem?_toList] at hv;simp [World.cell?,h2,hv]
theorem allS_len:allS.length=1062:=by decide +kernel
def sA (k:Nat):Nat×Nat×Nat:=(allS[k]?).getD (0,0,0)
theorem sA_some {k:Nat} (h:k < 1062):allS[k]?=some (sA k):=by
 unfold sA;rw [List.getElem?_eq_getElem (by rw [allS_len];exact h)];rfl
def adA (k:Nat):Nat:=adr (sA k).1 (sA k).2.1 (sA k).2.2
end Go.Proofs.YtgandbaejlfppaaGreatDoor
namespace Go.Proofs.YtgandbaejlfppaaGreatDoor
set_option linter.unusedVariables false
set_option linter.unusedSimpArgs false
set_option maxRecDepth 20000
set_option maxHeartbeats 8000000
open Go.RowKit Go.Maps
structure Ly where
 P:Nat
 S:Nat
 M:Nat
 R:Nat
 sb:Nat→Nat→Nat
 sr:Nat→Nat→Nat
 sc:Nat→Nat→Nat
 sm:Nat→Nat→Nat→Nat
 qm:Nat→Nat
 qr:Nat→Nat
 qg:Nat→Nat
 qq:Nat→Nat
 da:Option Addr
 dc:Nat
structure Dy where
 f:Nat→Option Nat
 on:Nat→Nat→Bool
 lg:Nat→Option Nat
 ro:Value
 rl:Value
 an:Value
 un:Value
def sbC (c s:Nat) (on:Bool) (r n cap:Nat):Array Value:=#[Vi (c:Nat),Vi (s:Nat),.bool on,Vl r n cap]
def smC (st rq:Int) (b j:Nat):Array Value:=#[Vi st,Vi rq,Vp b 0,Vi (j:Nat)]
def lgC (r:Rg9):Array Value:=#[Vi r.st,Vi r.rq,Vi (r.first:Nat),Vi (r.guards:Nat),Vi (r.pages:Nat)]
def qcV (cf:Cf) (y:Ly) (c k:Nat):Value:=if k=0 then Vp (y.qm c) 0 else if k=1 then Vp (y.qg c) 0 else if cf.mix=0 then .iface 65 (Vp (y.qg c) 0) else .iface 64 (Vp (y.qm c) 0)
def boxF (cf:Cf) (y:Ly) (d:Dy) (used:Nat) (i:Nat):Value :=
 if i < 7 then ([Vi (cf.mix:Nat),Vi (cf.fifo:Nat),Vi (cf.large:Nat),Vi (cf.bud:Nat),Vu cf.key,.slice y.da cf.ds.length y.dc,Vp y.S 0]:List Value)[i]?.getD undef
 else if i < 79 then Vp (y.sb ((i - 7)/6) ((i - 7) % 6)) 0
 else if i < 115 then qcV cf y ((i - 79)/3) ((i - 79) % 3)
 else ([.map (some y.R),d.ro,d.rl,Vi (used:Nat),d.an,d.un]:List Value)[i - 115]?.getD undef
def Bxh (P:Nat) (F:Nat→Value) (W:World):Prop:=∃ c,W.heap[P]?=some (.cells c 73 (0,0))∧c.size=121∧∀ i,i < 121→c[i]?=some (F i)
theorem Bxh.cell {P:Nat} {F:Nat→Value} {W:World} (h:Bxh P F W) (i:Nat) (hi:i < 121):W.cell? ⟨P,i,none⟩=some (F i):=by
 obtain⟨c,h1,h2,h3⟩:=h;rw [cell_of_row _ _ _ _ _ _ h1];exact h3 i hi
theorem Bxh.free {P:Nat} {F:Nat→Value} {W:World} (h:Bxh P F W) (i:Nat):W.frozen? ⟨P,i,none⟩=false:=by
 obtain⟨c,h1,h2,h3⟩:=h;simp [World.frozen?,h1]
theorem Bxh.lt {P:Nat} {F:Nat→Value} {W:World} (h:Bxh P F W):P < W.heap.size:=by
 obtain⟨c,h1,_⟩:=h;exact lt_blk h1
theorem Bxh.ky {S:TypeId→Prop} {P:Nat} {F:Nat→Value} {W W':World} (h:Bxh P F W) (k:Ky S W W') (hs:¬S 73):Bxh P F W':=by
 obtain⟨c,h1,h2⟩:=h;exact⟨c,k.cells _ _ _ _ h1 hs,h2⟩
def updF (F:Nat→Value) (i:Nat) (v:Value):Nat→Value:=fun j=>if j=i then v else F j
theorem Bxh.set {P:Nat} {F:Nat→Value} {W:World} (h:Bxh P F W) (i:Nat) (hi:i < 121) (v:Value):Bxh P (updF F i v) (W.setCell ⟨P,i,none⟩ v):=by
 obtain⟨c,h1,h2,h3⟩:=h;refine⟨c.setIfInBounds i v,by simp [World.setCell,Array.getElem?_modify,h1],by simpa using h2,fun j hj=>?_⟩;rw [Array.getElem?_setIfInBounds];unfold updF
 by_cases e:i=j
 ·subst e;simp [h2,hi]
 rw [if_neg e,if_neg (fun e2=>e e2.symm)];exact h3 j hj
theorem Bxh.kyS {P:Nat} {F:Nat→Value} {W:World} (h:Bxh P F W) (i:Nat) (v:Value):Ky (· = 73) W (W.setCell ⟨P,i,none⟩ v):=by
 obtain⟨c,h1,_⟩:=h;exact Ky.grown h1 rfl (grown_set (grown_refl W P) i v)
theorem boxF_used (cf:Cf) (y:Ly) (d:Dy) (u u':Nat):updF (boxF cf y d u) 118 (Vi (u':Nat))=boxF cf y d u':=by
 funext i
 unfold updF boxF
 by_cases e:i=118
 ·subst e;rfl
 rw [if_neg e]
 by_cases h1:i < 7
 ·simp [h1]
 by_cases h2:i < 79
 ·simp [h1,h2]
 by_cases h3:i < 115
 ·simp [h1,h2,h3]
 simp only [h1,h2,h3,if_false]
 rcases (show i=115∨i=116∨i=117∨i=119∨i=120∨121≤i by omega) with rfl|rfl|rfl|rfl|rfl|h4
 ·rfl
 ·rfl
 ·rfl
 ·rfl
 ·rfl
 rw [List.getElem?_eq_none (by simp;omega),List.getElem?_eq_none (by simp;omega)]
theorem boxF_dy (cf:Cf) (y:Ly) (d:Dy) (u i:Nat) (v:Value) (d':Dy) (hi:(i=116∧d'={ d with ro:=v })∨(i=117∧d'={ d with rl:=v })∨(i=119∧d'={ d with an:=v })∨(i=120∧d'={ d with un:=v })):updF (boxF cf y d u) i v=boxF cf y d' u:=by
 funext j
 unfold updF boxF
 by_cases h1:j < 7
 ·have:j≠i:=by rcases hi with ⟨h,_⟩|⟨h,_⟩|⟨h,_⟩|⟨h,_⟩ <;> omega
  rw [if_neg this];simp [h1]
 by_cases h2:j < 79
 ·have:j≠i:=by rcases hi with ⟨h,_⟩|⟨h,_⟩|⟨h,_⟩|⟨h,_⟩ <;> omega
  rw [if_neg this];simp [h1,h2]
 by_cases h3:j < 115
 ·have:j≠i:=by rcases hi with ⟨h,_⟩|⟨h,_⟩|⟨h,_⟩|⟨h,_⟩ <;> omega
  rw [if_neg this];simp [h1,h2,h3]
 simp only [h1,h2,h3,if_false]
 by_cases h4:121≤j
 ·rw [if_neg (by rcases hi with ⟨h,_⟩|⟨h,_⟩|⟨h,_⟩|⟨h,_⟩ <;> omega),List.getElem?_eq_none (by simp;omega),List.getElem?_eq_none (by simp;omega)]
 rcases hi with ⟨rfl,rfl⟩|⟨rfl,rfl⟩|⟨rfl,rfl⟩|⟨rfl,rfl⟩ <;> rcases (show j=115∨j=116∨j=117∨j=118∨j=119∨j=120 by omega) with rfl|rfl|rfl|rfl|rfl|rfl <;> rfl
structure Mr (R n:Nat) (lo:Nat→Option Nat) (W:World):Prop where
 map:∃ D:DataW Unit,W.ownsMap Tryz.prog 23 ptrE R 4096 D∧Maps.size D≤n∧(∀ k:Nat,k < 18446744073709551616→D.atKey (.int .u64 k) .nil=asD (lo k))∧∀ k:Nat,k < 18446744073709551616→has D (.int .u64 k)=(lo k).isSome
theorem Mr.same {R n:Nat} {lo:Nat→Option Nat} {W W':World} (h:Mr R n lo W) (hR:W'.heap[R]?=W.heap[R]?):Mr R n lo W':=by
 obtain⟨D,⟨es,c,h1,h2⟩,h3⟩:=h.map;exact⟨D,⟨es,c,hR.trans h1,h2⟩,h3⟩
theorem Mr.typ {R n:Nat} {lo:Nat→Option Nat} {W:World} (h:Mr R n lo W):∃ es c,W.heap[R]?=some (.map es c):=by
 obtain⟨D,⟨es,c,h1,h2⟩,h3⟩:=h.map;exact⟨es,c,h1⟩
def Um (B:Nat) (W:World) (v:Value) (l:List Nat):Prop:=(v=Vn∧l=[])∨∃ (g o cap:Nat) (c:Array Value),v=.slice (some ⟨g,o,none⟩) l.length cap∧B≤g∧W.heap[g]?=some (.cells c 23 (0,0))∧o+cap=c.size∧l.length≤cap∧cap≤maxLen∧(∀ u∈c.toList,u.oneCell'=true)∧∀ i,i < l.length→c[o+i]?=some (Vu ((l[i]?.getD 0:Nat):Int))
theorem Um.ky {S:TypeId→Prop} {B:Nat} {W W':World} {v:Value} {l:List Nat} (h:Um B W v l) (k:Ky S W W') (hs:¬S 23):Um B W' v l:=by
 rcases h with h|⟨g,o,cap,c,h1,h2,h3,h4⟩
 ·exact .inl h
 exact .inr ⟨g,o,cap,c,h1,h2,k.cells _ _ _ _ h3 hs,h4⟩
def umBlock:Value→Option Nat
 | .slice (some a) _ _=>some a.block
 | _=>none
structure Aps (B:Nat) (y:Ly):Prop where
 b0:0 < B
 bP:B≤y.P
 bS:B≤y.S
 bM:B≤y.M
 bR:B≤y.R
 mr:y.M≠y.R
 bsb:∀ c s,c < 12→s < 6→B≤y.sb c s
 bsr:∀ c s,c < 12→s < 6→B≤y.sr c s
 bsm:∀ c s j,c < 12→s < 6→j < slN c→B≤y.sm c s j
 bq:∀ c,c < 12→B≤y.qm c∧B≤y.qr c∧B≤y.qg c∧B≤y.qq c
 isb:∀ c s c' s',c < 12→s < 6→c' < 12→s' < 6→y.sb c s=y.sb c' s'→c=c'∧s=s'
 ism:∀ c s j c' s' j',c < 12→s < 6→j < slN c→c' < 12→s' < 6→j' < slN c'→y.sm c s j=y.sm c' s' j'→c=c'∧s=s'∧j=j'
 iq:∀ c c',c < 12→c' < 12→c≠c'→y.qr c≠y.qr c'∧y.qr c≠y.qq c'∧y.qq c≠y.qq c'∧y.qg c≠y.qg c'
 da:∀ a,y.da=some a→a.block < B
structure Hp (B:Nat) (y:Ly) (d:Dy) (cf:Cf) (h:Hs) (W:World):Prop where
 ap:Aps B y
 bW:B≤W.heap.size
 box:Bxh y.P (boxF cf y d h.used) W
 ds:Sl W y.da cf.ds
 sp:Im y.S y.M 0 283 (cf.bud:Nat) d.f W
 pg:Pg d.f h.m W
 bf:∀ k g,d.f k=some g→B≤g
 sl:∀ c s,c < 12→s < 6→W.heap[y.sb c s]?=some (.cells (sbC c s (d.on c s) (y.sr c s) (slN c) (y.sc c s)) 132 (0,0))
 rw:∀ c s,c < 12→s < 6→RowV W (y.sr c s) 133 ((List.range (slN c)).map fun j=>Vp (y.sm c s j) 0)
 sm:∀ c s j,c < 12→s < 6→j < slN c→W.heap[y.sm c s j]?=some (.cells (smC (h.st c s j) (h.rq c s j) (y.sb c s) j) 137 (0,0))
 wt:∀ c,c < 12→Qr W (y.qm c) (y.qr c) (y.qg c) (y.qq c) cf.fifo (h.mx c) (h.ff c)
 mp:Mr y.R h.rg.length d.lg W
 lo:∀ k,(d.lg k).isSome=h.rg.any fun r=>r.base==k
 lb:∀ r∈h.rg,∃ g,d.lg r.base=some g∧B≤g∧W.heap[g]?=some (.cells (lgC r) 158 (0,0))
 li:∀ k k' g,d.lg k=some g→d.lg k'=some g→k=k'
 ro:Um B W d.ro h.row
 rl:W.ownsRow B 23 1 d.rl h.rel.length (Us h.rel)
 rr:∀ g,umBlock d.ro=some g→d.rl.ownBlock≠some g
 tb:Tb W
def Tied (d:Dy) (h:Hs):Prop:=∀ c s,c < 12→s < 6→d.on c s=onS h c s
structure Kt9 (S:TypeId→Prop) (y:Ly) (W W':World):Prop where
 ky:Ky S W W'
 m:W'.heap[y.M]?=W.heap[y.M]?
 r:W'.heap[y.R]?=W.heap[y.R]?
theorem Im.ky {S:TypeId→Prop} {A M:Nat} {st n bud:Int} {f:Nat→Option Nat} {W W':World} (h:Im A M st n bud f W) (k:Ky S W W') (hs:¬S 121) (hm:W'.heap[M]?=W.heap[M]?):Im A M st n bud f W':=by
 obtain⟨D,⟨es,c,h1,h2⟩,h3⟩:=h.map;exact⟨k.cells _ _ _ _ h.box hs,D,⟨es,c,hm.trans h1,h2⟩,h3⟩
theorem Pg.ky {S:TypeId→Prop} {f:Nat→Option Nat} {m:Nat→Option (Bool×List Int)} {W W':World} (h:Pg f m W) (k:Ky S W W') (hs:¬S 155):Pg f m W':=by
 refine h.other (fun j b hb=>?_)
 rcases h.at' j with ⟨e1,_⟩|⟨b',l,xs,e1,_,_,e4⟩
 ·rw [hb] at e1;cases e1
 rw [hb] at e1;cases e1;rw [k.cells _ _ _ _ e4 hs,e4]
theorem Qr.ky {S:TypeId→Prop} {W W':World} {M rm G rq n:Nat} {mix fifo:List Int} (h:Qr W M rm G rq n mix fifo) (k:Ky S W W') (h1:¬S 128) (h2:¬S 126) (h3:¬S 3):Qr W' M rm G rq n mix fifo:=by
 obtain⟨⟨a,b⟩,⟨ps,o,hh,c,e,g⟩,ne⟩:=h;exact⟨⟨k.cells _ _ _ _ a h1,row_ky b k h3⟩,⟨ps,o,hh,k.cells _ _ _ _ c h2,row_ky e k h3,g⟩,ne⟩
theorem Tb.belowB {B:Nat} {W W':World} (h:Tb W) (hb:Below B W W') (h0:0 < B):Tb W':=by
 obtain⟨t,fr,h⟩:=h.row;exact⟨t,fr,by rw [hb.block 0 h0];exact h⟩
theorem Sl.belowB {B:Nat} {W W':World} {a:Option Addr} {zs:List Int} (h:Sl W a zs) (hb:Below B W W') (ha:∀ x,a=some x→x.block < B):Sl W' a zs:=by
 rcases h with h|⟨g,e,c,h1,h2⟩
 ·exact .inl h
 exact .inr ⟨g,e,c,by rw [hb.block g (ha _ e)];exact h1,h2⟩
theorem Hp.keep {B:Nat} {y:Ly} {d:Dy} {cf:Cf} {h:Hs} {W W':World} (hp:Hp B y d cf h W) (k:Kt9 (fun t=>t≠73∧t≠121∧t≠155∧t≠132∧t≠133∧t≠137∧t≠128∧t≠126∧t≠3∧t≠158∧t≠23) y W W') (b:Below B W W'):Hp B y d cf h W' :=
 ⟨hp.ap,Nat.le_trans hp.bW b.size,hp.box.ky k.ky (by decide),hp.ds.belowB b hp.ap.da,hp.sp.ky k.ky (by decide) k.m,hp.pg.ky k.ky (by decide),hp.bf,
 fun c s hc hs=>k.ky.cells _ _ _ _ (hp.sl c s hc hs) (by decide),fun c s hc hs=>row_ky (hp.rw c s hc hs) k.ky (by decide),fun c s j hc hs hj=>k.ky.cells _ _ _ _ (hp.sm c s j hc hs hj) (by decide),
 fun c hc=>(hp.wt c hc).ky k.ky (by decide) (by decide) (by decide),hp.mp.same k.r,hp.lo,fun r hr=>by obtain ⟨g,h1,h2,h3⟩:=hp.lb r hr;exact⟨g,h1,h2,k.ky.cells _ _ _ _ h3 (by decide)⟩,hp.li,hp.ro.ky k.ky (by decide),own_ky hp.rl k.ky (by decide),hp.rr,hp.tb.belowB b hp.ap.b0⟩
theorem Hp.below {B:Nat} {y:Ly} {d:Dy} {cf:Cf} {h:Hs} {W W':World} (hp:Hp B y d cf h W) (b:Below W.heap.size W W'):Hp B y d cf h W':=by
 obtain⟨es,c,hR⟩:=hp.mp.typ;exact hp.keep ⟨Ky.below b,b.block _ hp.sp.lt.2,b.block _ (lt_blk hR)⟩ (b.mono hp.bW)
theorem Hp.cell {B:Nat} {y:Ly} {d:Dy} {cf:Cf} {h:Hs} {W:World} (hp:Hp B y d cf h W) (i:Nat) (hi:i < 121) (v:Value) (hv:boxF cf y d h.used i=v):W.cell? ⟨y.P,i,none⟩=some v:=by rw [hp.box.cell i hi,hv]
end Go.Proofs.YtgandbaejlfppaaGreatDoor
namespace Go.Proofs.YtgandbaejlfppaaGreatDoor
set_option linter.unusedVariables false
set_option linter.unusedSimpArgs false
set_option maxRecDepth 20000
set_option maxHeartbeats 8000000
open Go.RowKit
def putL (cf:Cf) (h1:Hs) (g p a:Nat):Option Nat→Option Nat×Hs
 | none=>(none,h1)
 | some s=>if cf.bud < cntM h1.m 283+p then (none,h1)
   else (some ((s+g)*1024),{ h1 with m:=freshM h1.m (s+g) p,rg:=h1.rg++[⟨s,g,p,1,a⟩],rel:=h1.rel.filter fun b=>b/1024 < s || s+(g+p+1)≤b/1024 })
theorem mallocM_large (cf:Cf) (h:Hs) {a:Nat} (ha:1016 < a):mallocM cf h a=if 96 < pagesN a then (none,{ h with used:=h.used+1 }) else putL cf { h with used:=h.used+1 } (1+dr cf h 3) (pagesN a) a (roomL { h with used:=h.used+1 } (1+dr cf h 3+pagesN a+1)):=by
 unfold mallocM;rw [if_neg (by omega)];dsimp only
 split
 ·rfl
 cases roomL { h with used:=h.used+1 } (1+dr cf h 3+pagesN a+1) with
 | none=>rfl
 | some s=>rfl
end Go.Proofs.YtgandbaejlfppaaGreatDoor
namespace Go.Proofs.YtgandbaejlfppaaGreatDoor
set_option linter.unusedVariables false
set_option linter.unusedSimpArgs false
set_option maxRecDepth 20000
set_option maxHeartbeats 8000000
open Go.RowKit Go.Maps
theorem us_cells {W:World} {B:Nat} {va:Option Addr} {vn vc:Nat} {l:List Nat} (h:W.ownsRow B 23 1 (.slice va vn vc) l.length (Us l)):vn=l.length∧∀ i,i < l.length→∃ g,va=some ⟨g,0,none⟩∧W.cell? ⟨g,i,none⟩=some (Vu ((l[i]?.getD 0:Nat):Int)):=by
 have hv:vn=l.length:=by
  obtain⟨a,c,e⟩:=own_sl2 h;injection e with _ e2 _
 subst hv;refine⟨rfl,fun i hi=>?_⟩;obtain⟨g,hg⟩:=own_at h (by omega);subst hg;refine⟨g,rfl,own_cell h i _ ?_⟩;simp [Us,hi]
theorem im_index (B:Nat) (va:Option Addr) (vn vc p:Nat) (l:List Nat) (W:World) (h:W.ownsRow B 23 1 (.slice va vn vc) l.length (Us l)) (hl:l.length≤100000) :
  Calls Tryz.prog 109 #[.slice va vn vc,Vu (p:Nat)] W fun e W'=>(∃ i:Int,e=.returned (Vi i)∧(decide (0≤i)=l.contains p))∧W'=W:=by
 obtain⟨rfl,hc⟩:=us_cells h;have HC:=hid hc;clear hc h;obtain⟨n,hn⟩:∃ n,l.length=n:=⟨_,rfl⟩;rw [hn] at hl ⊢;have HN:=hid hn;clear hn;go_enter Tryz.func109,Tryz.ntmps109;go_wp2;go_loopw [8] (fun i wr=>∃ k:Nat,k≤n∧i=Vi k∧wr=W∧Hid (∀ j,j < k→l[j]?.getD 0≠p)) (fun i _=>n - (intOf i).toNat)
 case atStart=>exact ⟨0,Nat.zero_le _,rfl,rfl,hid (fun j hj=>by omega)⟩
 case round =>
  obtain⟨k,hk,rfl,rfl,HJ⟩:=hrel
  by_cases hlt:k < n
  ·obtain⟨g,rfl,hcell⟩:=HC.out k (by rw [HN.out];exact hlt);have HM:=hid (show l[k]?.getD 0∈l by rw [List.getElem?_eq_getElem (by rw [HN.out];exact hlt)];exact List.getElem_mem _);generalize hq:l[k]?.getD 0=q at *;have HQ:=hid hq;clear hq
   by_cases he:p=q
   ·subst he;go_wp2;go_ret;refine⟨⟨_,rfl,?_⟩,rfl⟩;rw [List.contains_iff_mem.2 HM.out];simp
   have he':((p:Int)==(q:Int))=false:=by simp;omega
   go_wp2;go_roundw
   case rel=>exact ⟨k+1,by omega,by go_num,trivial,hid (fun j hj=>by
    rcases Nat.lt_succ_iff_lt_or_eq.1 hj with h1|h1
    ·exact HJ.out j h1
    subst h1;rw [HQ.out];exact fun e=>he e.symm)⟩
   case measure=>simp [intOf];omega
  obtain rfl:k=n:=by omega
  go_wp2;go_ret;refine⟨⟨-1,rfl,?_⟩,rfl⟩;have:l.contains p=false:=by
   cases hc:l.contains p with
   | false=>rfl
   | true =>
    exfalso;have hm:=List.contains_iff_mem.1 hc;obtain⟨j,hj⟩:=List.getElem?_of_mem hm;have hjl:=(List.getElem?_eq_some_iff.1 hj).1;exact HJ.out j (by rw [←HN.out];exact hjl) (by rw [hj];rfl)
  rw [this];rfl
theorem im_contains (B:Nat) (va:Option Addr) (vn vc p:Nat) (l:List Nat) (W:World) (h:W.ownsRow B 23 1 (.slice va vn vc) l.length (Us l)) (hl:l.length≤100000) :
  Calls Tryz.prog 73 #[.slice va vn vc,Vu (p:Nat)] W fun e W'=>e=.returned (.bool (l.contains p))∧W'=W:=by
 have C:=hid (im_index B va vn vc p l W h hl);clear h;go_enter Tryz.func73,Tryz.ntmps73;go_wp2_with fail;refine (C.out).mono ?_;rintro e W2 ⟨⟨i,rfl,hi⟩,rfl⟩;have HI:=hid hi;clear hi C;go_wp2;go_ret;rw [←HI.out];exact⟨rfl,rfl⟩
end Go.Proofs.YtgandbaejlfppaaGreatDoor
namespace Go.Proofs.YtgandbaejlfppaaGreatDoor
set_option linter.unusedVariables false
set_option linter.unusedSimpArgs false
set_option maxRecDepth 20000
set_option maxHeartbeats 8000000
open Go.RowKit
def frn (tk:Nat→Bool):Nat→Nat
 | 0=>0
 | k+1=>if tk k then 0 else frn tk k+1
theorem frn_le (tk:Nat→Bool):∀ k,frn tk k≤k
 | 0=>Nat.le_refl _
 | k+1=>by have:=frn_le tk k;unfold frn;split <;> omega
theorem frn_spec (tk:Nat→Bool):∀ k n,n≤frn tk k↔n≤k∧∀ q,k - n≤q→q < k→tk q=false
 | 0,n=>by
  simp only [frn]
  exact⟨fun h=>⟨h,fun q _ hq=>by omega⟩,fun h=>h.1⟩
 | k+1,n=>by
  have ih:=frn_spec tk k
  simp only [frn]
  cases ht:tk k with
  | true =>
   simp only [if_true]
   constructor
   ·intro h
    exact⟨by omega,fun q h1 h2=>by omega⟩
   intro ⟨h1,h2⟩
   by_cases h0:n=0
   ·omega
   have:=h2 k (by omega) (by omega)
   rw [ht] at this;cases this
  | false =>
   simp only [Bool.false_eq_true,if_false]
   constructor
   ·intro h
    refine⟨by have:=frn_le tk k;omega,fun q h1 h2=>?_⟩
    by_cases e:q=k
    ·subst e;exact ht
    exact ((ih (n - 1)).1 (by omega)).2 q (by omega) (by omega)
   intro ⟨h1,h2⟩
   by_cases h0:n=0
   ·omega
   have:=(ih (n - 1)).2 ⟨by omega,fun q h3 h4=>h2 q (by omega) (by omega)⟩
   omega
theorem find_range {N k:Nat} {p:Nat→Bool} (h1:k < N) (h2:p k=true) (h3:∀ i,i < k→p i=false):(List.range N).find? p=some k:=by
 rw [List.find?_range_eq_some];exact⟨h2,List.mem_range.2 h1,fun j hj=>by rw [h3 j hj];rfl⟩
def tkn (rg:List Rg9) (q:Nat):Bool:=rg.any fun r=>decide (r.first≤187+q) && decide (187+q < r.first+r.ext)
theorem win_iff (rg:List Rg9) (hr:∀ r∈rg,187≤r.first∧1≤r.ext) {i n:Nat} (hn:1≤n):(rg.all fun r=>decide (187+i+n≤r.first) || decide (r.first+r.ext≤187+i))=true↔∀ q,i≤q→q < i+n→tkn rg q=false:=by
 rw [List.all_eq_true];constructor
 ·intro h q h1 h2;unfold tkn
  cases e:rg.any _ with
  | false=>rfl
  | true =>
   exfalso;obtain⟨r,hm,hx⟩:=List.any_eq_true.1 e;have:=h r hm;simp at this hx;omega
 intro h r hm;have h0:=hr r hm;simp
 by_cases h1:187+i+n≤r.first
 ·exact .inl h1
 by_cases h2:r.first+r.ext≤187+i
 ·exact .inr h2
 exfalso;have key:∀ q,i≤q→q < i+n→¬(r.first≤187+q∧187+q < r.first+r.ext):=fun q a b hc=>by
  have:=h q a b;unfold tkn at this;have h3:(rg.any fun r=>decide (r.first≤187+q) && decide (187+q < r.first+r.ext))=true:=List.any_eq_true.2 ⟨r,hm,by simp;exact hc⟩;rw [h3] at this
  cases this
 by_cases h3:r.first≤187+i
 ·exact key i (Nat.le_refl _) (by omega) ⟨h3,by omega⟩
 exact key (r.first - 187) (by omega) (by omega) ⟨by omega,by omega⟩
theorem roomL_some {h:Hs} (hr:∀ r∈h.rg,187≤r.first∧1≤r.ext) {k n:Nat} (hn:1≤n) (hk:k < 96) (h1:frn (tkn h.rg) (k+1)=n) (h2:∀ j,j≤k→frn (tkn h.rg) j < n):roomL h n=some (187+(k+1 - n)):=by
 have hle:=frn_le (tkn h.rg) (k+1);unfold roomL;rw [find_range (k:=k+1 - n) (by omega) ?_ ?_]
 ·rfl
 ·simp only [Bool.and_eq_true,decide_eq_true_eq];refine⟨by omega,(win_iff h.rg hr hn).2 (fun q a b=>?_)⟩;exact ((frn_spec (tkn h.rg) (k+1) n).1 (by omega)).2 q a (by omega)
 intro i hi
 cases e:(decide (i+n≤96) && h.rg.all fun r=>decide (187+i+n≤r.first) || decide (r.first+r.ext≤187+i)) with
 | false=>rfl
 | true =>
  exfalso;simp only [Bool.and_eq_true,decide_eq_true_eq] at e;have hw:=(win_iff h.rg hr hn).1 e.2;have:=(frn_spec (tkn h.rg) (i+n) n).2 ⟨by omega,fun q a b=>hw q (by omega) b⟩;have:=h2 (i+n) (by omega);omega
theorem roomL_none {h:Hs} (hr:∀ r∈h.rg,187≤r.first∧1≤r.ext) {n:Nat} (hn:1≤n) (h2:∀ j,j≤96→frn (tkn h.rg) j < n):roomL h n=none:=by
 unfold roomL;rw [List.find?_eq_none.2]
 ·rfl
 intro i hi e;simp only [Bool.and_eq_true,decide_eq_true_eq] at e;have hw:=(win_iff h.rg hr hn).1 e.2;have:=(frn_spec (tkn h.rg) (i+n) n).2 ⟨by omega,fun q a b=>hw q (by omega) b⟩;have:=h2 (i+n) (by omega);omega
end Go.Proofs.YtgandbaejlfppaaGreatDoor
