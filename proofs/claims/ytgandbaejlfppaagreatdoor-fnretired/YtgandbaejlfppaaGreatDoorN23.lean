import Derived.Maps.RangeWalk
import Derived.Test.YtgandbaejlfppaaGreatDoorN20
import Derived.Test.YtgandbaejlfppaaGreatDoorN17
import Derived.Test.YtgandbaejlfppaaGreatDoorN19
namespace Go.Proofs.YtgandbaejlfppaaGreatDoor
set_option linter.unusedVariables false
set_option linter.unusedSimpArgs false
set_option maxRecDepth 20000
set_option maxHeartbeats 8000000
open Go.RowKit
theorem Inv.openS {cf:Cf} {h:Hs} (i:Inv cf h) {c s j k:Nat} (hc:c < 12) (hs:s < 6) (hj:j < slN c) (hon:onS h c s=true) (hk:k < szN c):isOpen (h.m ((adr c s j+k)/1024))=true:=by
 have h1:=adr_in hc hs hj;have h2:slabP c s*1024≤adr c s j:=by unfold adr;omega
 have h3:=i.slab c s hc hs ((adr c s j+k)/1024 - slabP c s) (by omega);rw [show slabP c s+((adr c s j+k)/1024 - slabP c s)=(adr c s j+k)/1024 by omega,hon] at h3;rw [i.fine.open];exact h3
theorem freeN_st {h h':Hs} (e:h.st=h'.st) (c:Nat):∀ n,freeN h c n=freeN h' c n
 | 0=>rfl
 | n+1=>by
  simp only [freeN,freeS]
  rw [freeN_st e c n,e]
end Go.Proofs.YtgandbaejlfppaaGreatDoor
namespace Go.Proofs.YtgandbaejlfppaaGreatDoor
set_option linter.unusedVariables false
set_option linter.unusedSimpArgs false
set_option maxRecDepth 20000
set_option maxHeartbeats 8000000
open Go.RowKit
def Byt (m:Nat→Option (Bool×List Int)):Prop:=∀ k q,m k=some q→∀ x∈q.2,0≤x∧x≤255
def okB (ys:List Int):Prop:=∀ y∈ys,0≤y∧y≤255
theorem okB.get {ys:List Int} (h:okB ys) (i:Nat):0≤ys[i]?.getD 0∧ys[i]?.getD 0≤255:=by
 cases e:ys[i]? with
 | none=>simp
 | some y=>exact h y (List.mem_of_getElem? e)
theorem Byt.put {m:Nat→Option (Bool×List Int)} (h:Byt m) (p:Nat) {x:Int} (hx:0≤x∧x≤255):Byt (putM m p x):=by
 intro k q hq;unfold putM at hq
 by_cases e:k=p/1024
 ·subst e;rw [updM_same] at hq
  cases hm:m (p/1024) with
  | none=>rw [hm] at hq;cases hq
  | some r =>
   rw [hm] at hq;simp at hq;subst hq;intro z hz
   rcases List.mem_or_eq_of_mem_set hz with h1|h1
   ·exact h _ _ hm z h1
   rw [h1];exact hx
 rw [updM_other _ _ _ _ e] at hq;exact h k q hq
theorem Byt.store {m:Nat→Option (Bool×List Int)} (h:Byt m) (a:Nat) {ys:List Int} (hy:okB ys):∀ k,Byt (storeM m a ys k)
 | 0=>h
 | k+1=>(Byt.store h a hy k).put _ (hy.get k)
theorem Byt.fresh {m:Nat→Option (Bool×List Int)} (h:Byt m) (p k:Nat):Byt (freshM m p k):=by
 intro j q hq;rw [freshM_eq] at hq
 split at hq
 ·injection hq with hq
  subst hq;intro x hx;rw [List.eq_of_mem_replicate hx];omega
 exact h j q hq
theorem Byt.gone {m:Nat→Option (Bool×List Int)} (h:Byt m) (p k:Nat):Byt (goneM m p k):=by
 intro j q hq;rw [goneM_eq] at hq
 split at hq
 ·cases hq
 exact h j q hq
theorem Byt.at {m:Nat→Option (Bool×List Int)} (h:Byt m) (p:Nat):0≤byteAt m p∧byteAt m p≤255:=by
 unfold byteAt
 cases hm:m (p/1024) with
 | none=>simp
 | some q =>
  simp only [Option.map_some,Option.getD_some];exact okB.get (fun y hy=>h _ _ hm y hy) _
theorem Byt.load {m:Nat→Option (Bool×List Int)} (h:Byt m) (a n:Nat):okB (loadB m a n):=by
 intro y hy;unfold loadB at hy;simp only [List.mem_map] at hy;obtain⟨i,_,rfl⟩:=hy;exact h.at _
theorem okB_can (cf:Cf) (a:Nat):okB (can cf a):=by
 intro y hy;unfold can cRow at hy;simp only [List.mem_map] at hy;obtain⟨i,_,rfl⟩:=hy
 split
 ·omega
 have:=cb_ge (cx cf.key (a:Int)) i;omega
theorem okB_zero (n:Nat):okB (List.replicate n 0):=fun y hy=>by rw [List.eq_of_mem_replicate hy];omega
theorem roomS_m {cf:Cf} {h h1:Hs} {c s:Nat} (e:roomS cf h c=some (s,h1)):h1.m=h.m∨h1.m=freshM h.m (slabP c s) (pgN c):=by
 unfold roomS at e
 split at e
 ·injection e with e;injection e with e1 e2;subst e2;exact .inl rfl
 split at e
 ·cases e
 split at e
 ·cases e
 injection e with e;injection e with e1 e2;subst e1;subst e2;exact .inr rfl
theorem Byt.small {cf:Cf} {c:Nat} : ∀ (f:Nat) {h:Hs},Byt h.m→Byt (smallM cf c f h).2.m
 | 0,h,b=>b
 | f+1,h,b=>by
  unfold smallM
  cases e:roomS cf h c with
  | none=>exact b
  | some q =>
   obtain⟨s,h1⟩:=q
   have b1:Byt h1.m:=by rcases roomS_m e with e1|e1 <;> rw [e1];exact b;exact b.fresh _ _
   dsimp only
   split
   ·exact b1
   exact Byt.small f (h:={ h1 with used:=h1.used+1,st:=_ }) b1
theorem Byt.malloc {cf:Cf} {h:Hs} (b:Byt h.m) (a:Nat):Byt (mallocM cf h a).2.m:=by
 unfold mallocM
 split
 ·have b1:=Byt.small (cf:=cf) (c:=coN a) 2000 b
  cases e:smallM cf (coN a) 2000 h with
  | mk o h1 =>
   rw [e] at b1
   cases o with
   | none=>exact b1
   | some q =>
    obtain⟨s,j⟩:=q;exact b1.store _ (okB_can cf _) 8
 dsimp only
 split
 ·exact b
 split
 ·exact b
 split
 ·exact b
 exact b.fresh _ _
theorem Byt.release {h:Hs} (b:Byt h.m) (c s j:Nat):Byt (releaseM h c s j).m:=by
 unfold releaseM;dsimp only
 split
 ·exact b.gone _ _
 exact b
theorem Byt.freeS {cf:Cf} {h:Hs} (b:Byt h.m) (c s j:Nat):Byt (freeSlot cf h c s j).m:=by
 unfold freeSlot;dsimp only;have b1:=b.store (adr c s j) (okB_zero (szN c)) (szN c)
 split
 ·split
  ·exact b1
  exact Byt.release (h:={ m:=_,st:=_,rq:=_,mx:=_,ff:=_,rg:=_,row:=_,rel:=_,used:=_ }) b1 _ _ _
 split
 ·exact b1
 exact Byt.release (h:={ m:=_,st:=_,rq:=_,mx:=_,ff:=_,rg:=_,row:=_,rel:=_,used:=_ }) b1 _ _ _
theorem Byt.freeR {cf:Cf} {h:Hs} (b:Byt h.m) (r:Rg9):Byt (freeRange cf h r).m:=by
 unfold freeRange;dsimp only
 split
 ·exact b.gone _ _
 exact b.gone _ _
theorem Byt.free {cf:Cf} {h:Hs} (b:Byt h.m) (f:Fd):Byt (freeM cf h f).m:=by
 cases f with
 | slot c s j=>exact b.freeS c s j
 | range r=>exact b.freeR r
 | no _=>exact b
theorem Byt.realloc {cf:Cf} {h:Hs} (b:Byt h.m) (p a:Nat):Byt (reallocM cf h p a).2.m:=by
 have b1:=b.malloc (cf:=cf) a;have tk:∀ old:Nat,Byt ((match mallocM cf h a with
   | (none,h1)=>((An4.no 1,h1):An4×Hs)
   | (some q,h1)=>(⟨0,q,0,[]⟩,freeM cf { h1 with m:=copyM h1.m p q (min old a) } (findM { h1 with m:=copyM h1.m p q (min old a) } p))).2.m):=fun old=>by
  cases e:mallocM cf h a with
  | mk o h1 =>
   rw [e] at b1
   cases o with
   | none=>exact b1
   | some q=>exact Byt.free (h:={ h1 with m:=copyM h1.m p q (min old a) }) (Byt.store b1 _ (Byt.load b1 _ _) _) _
 unfold reallocM;dsimp only
 split
 ·cases e:mallocM cf h a with
  | mk o h1 =>
   rw [e] at b1
   cases o with
   | none=>exact b1
   | some q=>exact b1
 split
 ·exact b
 ·split
  ·exact b
  split
  ·exact b
  exact tk _
 split
 ·exact b
 exact tk _
theorem Byt.do {cf:Cf} {h:Hs} (b:Byt h.m) (o:Op6) (p:Nat) (ho:okB o.ys):Byt (doM cf h o p).2.m:=by
 have ml:∀ n:Nat,Byt ((match mallocM cf h n with
   | (none,h1)=>((An4.no 1,h1):An4×Hs)
   | (some q,h1)=>(⟨0,q,0,[]⟩,h1)).2.m):=fun n=>by
  have b1:=b.malloc (cf:=cf) n
  cases e:mallocM cf h n with
  | mk o h1 =>
   rw [e] at b1
   cases o with
   | none=>exact b1
   | some q=>exact b1
 unfold doM;dsimp only
 split
 ·exact ml _
 split
 ·split
  ·exact b
  exact ml _
 split
 ·exact b.realloc _ _
 split
 ·split
  ·exact b
  ·split
   ·exact b
   exact b.freeS _ _ _
  exact b.freeR _
 split
 ·split <;> exact b
 split
 ·split <;> exact b
 split
 ·dsimp only
  split
  ·exact b.store _ ho _
  exact b
 exact b
theorem Byt.step {cf:Cf} {h:Hs} (b:Byt h.m) (an:List An4) (o:Op6) (ho:okB o.ys):Byt (stepH cf h an o).2.m:=by
 unfold stepH
 split
 ·exact b.do o _ ho
 split
 ·exact b
 exact b.do o _ ho
theorem Byt.new (cf:Cf):Byt (newH cf).m:=fun k q hq=>by simp [newH] at hq
end Go.Proofs.YtgandbaejlfppaaGreatDoor
namespace Go.Proofs.YtgandbaejlfppaaGreatDoor
set_option linter.unusedVariables false
set_option linter.unusedSimpArgs false
set_option maxRecDepth 20000
set_option maxHeartbeats 8000000
open Go.RowKit Go.Maps
def strB (data:List Int):ByteArray:=data.foldl (fun r n=>r.push (UInt8.ofNat n.toNat)) ByteArray.empty
theorem strB_aux:∀ (l:List Int) (r:ByteArray),(l.foldl (fun r n=>r.push (UInt8.ofNat n.toNat)) r).data.toList=r.data.toList++l.map (fun n=>UInt8.ofNat n.toNat)
 | [],r=>by simp
 | x::l,r=>by
  rw [List.foldl_cons,strB_aux l]
  simp [ByteArray.push]
theorem strB_list (l:List Int):(strB l).data.toList=l.map (fun n=>UInt8.ofNat n.toNat):=by
 unfold strB;rw [strB_aux];rfl
theorem bytes_ext {a b:ByteArray} (h:a.toList=b.toList):a=b:=by
 rw [Go.ByteArray.toList_eq,Go.ByteArray.toList_eq] at h
 cases a;cases b
 simp at h;exact congrArg ByteArray.mk h
theorem strB_inj {a b:List Int} (ha:okB a) (hb:okB b) (h:strB a=strB b):a=b:=by
 have e:=congrArg (fun s:ByteArray=>s.data.toList) h;simp only [strB_list] at e;have key:∀ (a b:List Int),okB a→okB b→a.map (fun n=>UInt8.ofNat n.toNat)=b.map (fun n=>UInt8.ofNat n.toNat)→a=b:=by
  intro a
  induction a with
  | nil=>intro b _ _ e;cases b with
   | nil=>rfl
   | cons y r=>simp at e
  | cons x l ih =>
   intro b h1 h2 e
   cases b with
   | nil=>simp at e
   | cons y r =>
    simp only [List.map_cons,List.cons.injEq] at e;have hx:=h1 x (by simp);have hy:=h2 y (by simp);have e1:=congrArg UInt8.toNat e.1;rw [UInt8.toNat_ofNat',UInt8.toNat_ofNat',Nat.mod_eq_of_lt (by omega),Nat.mod_eq_of_lt (by omega)] at e1;rw [ih r (fun z hz=>h1 z (by simp [hz])) (fun z hz=>h2 z (by simp [hz])) e.2];congr 1;omega
 exact key a b ha hb e
def Bs (w:World) (u:Value) (data:List Int):Prop:=∃ a c,u=.slice a data.length c∧∀ i,i < data.length→∃ g,a=some ⟨g,0,none⟩∧w.cell? ⟨g,i,none⟩=some (.int .u8 (data[i]?.getD 0))
theorem Bs.below {w W:World} {u:Value} {data:List Int} (h:Bs w u data) (hb:Below w.heap.size w W):Bs W u data:=by
 obtain⟨a,c,e,h1⟩:=h;exact⟨a,c,e,fun i hi=>by obtain ⟨g,e1,e2⟩:=h1 i hi;exact⟨g,e1,below_cell hb e2⟩⟩
theorem bs_own {W:World} {B:Nat} {u:Value} {l:List Int} (h:W.ownsRow B 5 1 u l.length (Ns .u8 l)):Bs W u l:=by
 obtain⟨a,c,e⟩:=own_sl2 h;subst e;refine⟨a,c,rfl,fun i hi=>?_⟩;obtain⟨g,hg⟩:=own_at h (by omega);subst hg;exact⟨g,rfl,own_cell h i _ (by simp [Ns,hi])⟩
theorem bs_row {W:World} {g n:Nat} {l:List Int} (h:RowV W g 5 (Ns .u8 l)) (hn:l.length=n):Bs W (Vl g n n) l:=by
 subst hn;exact⟨_,_,rfl,fun i hi=>⟨g,rfl,cell_n h i hi⟩⟩
theorem conv_bs {w:World} {u:Value} {data:List Int} (h:Bs w u data):(convert 22 9 u).run Tryz.prog w=.ok (.string (strB data)) w:=by
 obtain⟨a,c,rfl,hc⟩:=h;rw [run_convert_bytes_string w 22 9 5 a data.length c Tryz.underlying22 Tryz.underlying5 Tryz.underlying9]
 cases a with
 | none =>
  have:data=[]:=by
   cases data with
   | nil=>rfl
   | cons x r=>obtain ⟨g,e,_⟩:=hc 0 (by simp);cases e
  subst this;unfold Conv.bytesToString;simp [strB,Sem.run_pure]
 | some p =>
  refine run_bytesToString w p data.length c data ?_;have:=run_loadCells_list (P:=Tryz.prog) w p (data.map (Value.int .u8)) (fun j v hj=>by
   have hj2:=(List.getElem?_eq_some_iff.1 hj).1;simp at hj2;obtain⟨g,e,h1⟩:=hc j hj2
   cases e
   rw [Addr.add_mid,Nat.zero_add,h1,←hj];simp [hj2])
  simpa using this
theorem im_equal (u1 u2:Value) (d1 d2:List Int) (w:World) (h1:Bs w u1 d1) (h2:Bs w u2 d2) (o1:okB d1) (o2:okB d2) :
  Calls Tryz.prog 70 #[u1,u2] w fun e w'=>e=.returned (.bool (d1==d2))∧w'=w:=by
 have e1:=conv_bs h1;have e2:=conv_bs h2;have HE:=hid (show ((strB d1).toList==(strB d2).toList)=(d1==d2) by
  by_cases e:d1=d2
  ·subst e;simp
  have:(strB d1).toList≠(strB d2).toList:=fun h=>e (strB_inj o1 o2 (bytes_ext h))
  rw [beq_eq_false_iff_ne.2 this,beq_eq_false_iff_ne.2 e])
 generalize strB d1=t1 at *;generalize strB d2=t2 at *;clear h1 h2;go_enter Tryz.func70,Tryz.ntmps70;go_wp2;go_ret;rw [←HE.out];exact⟨rfl,rfl⟩
end Go.Proofs.YtgandbaejlfppaaGreatDoor
namespace Go.Proofs.YtgandbaejlfppaaGreatDoor
set_option linter.unusedVariables false
set_option linter.unusedSimpArgs false
set_option maxRecDepth 20000
set_option maxHeartbeats 8000000
open Go.RowKit Go.Maps
theorem all_zero {l:List Int} (h:∀ j,j < l.length→l[j]?.getD 0≤0) (ho:okB l):l.all (· == 0)=true:=by
 rw [List.all_eq_true];intro x hx;obtain⟨j,hj⟩:=List.getElem?_of_mem hx;have hjl:=(List.getElem?_eq_some_iff.1 hj).1;have h1:=h j hjl;rw [hj] at h1;have h2:=ho x hx;simp at h1 ⊢;omega
theorem not_all_zero {l:List Int} {j:Nat} (hj:j < l.length) (h:0 < l[j]?.getD 0):l.all (· == 0)=false:=by
 cases e:l.all (· == 0) with
 | false=>rfl
 | true =>
  exfalso;rw [List.all_eq_true] at e;have hm:l[j]?.getD 0∈l:=by rw [List.getElem?_eq_getElem hj];exact List.getElem_mem _
  have:=e _ hm;rw [beq_iff_eq] at this;omega
theorem im_max (u:Value) (data:List Int) (W:World) (h:Bs W u data) (hb:okB data) (h0:0 < data.length) (hl:data.length≤100000) :
  Calls Tryz.prog 96 #[u] W fun e W'=>∃ M:Int,e=.returned (.int .u8 M)∧decide (0 < M) = !(data.all (· == 0))∧W'=W:=by
 obtain⟨a,cp,rfl,hc⟩:=h;obtain⟨g,rfl,hc0⟩:=hc 0 h0;have HC:=hid (show ∀ i,i < data.length→W.cell? ⟨g,i,none⟩=some (.int .u8 (data[i]?.getD 0)) from fun i hi=>by
  obtain⟨g',e1,e2⟩:=hc i hi
  cases e1
  exact e2)
 have HB:=hid hb;have HG:=hid (fun i=>hb.get i);have AZ:=hid (fun hh=>all_zero (l:=data) hh hb);have NZ:=hid (fun j hj hh=>not_all_zero (l:=data) (j:=j) hj hh);clear hc hb;obtain⟨n,hn⟩:∃ n,data.length=n:=⟨_,rfl⟩;rw [hn] at HC AZ NZ h0 hl ⊢;clear hn;have g0:=HG.out 0;generalize hx0:data[0]?.getD 0=x0 at *;have HX0:=hid hx0;clear hx0;have hlt0:¬((n:Int) < 1):=by omega
 go_enter Tryz.func96,Tryz.ntmps96;go_wp2;go_loopw [3,4] (fun m i wr=>∃ (k:Nat) (M:Int),k≤n∧1≤k∧i=Vi k∧m=.int .u8 M∧wr=W∧Hid (0≤M∧M≤255)∧Hid ((0 < M→∃ j,j < k∧0 < data[j]?.getD 0)∧(M≤0→∀ j,j < k→data[j]?.getD 0≤0))) (fun _ i _=>n - (intOf i).toNat)
 case atStart=>exact ⟨1,x0,by omega,Nat.le_refl _,rfl,rfl,rfl,hid g0,hid ⟨fun h=>⟨0,by omega,by rw [HX0.out];exact h⟩,fun h j hj=>by
  obtain rfl:j=0:=by omega
  rw [HX0.out];exact h⟩⟩
 case round =>
  obtain⟨k,M,hk,hk1,rfl,rfl,rfl,HM,HJ⟩:=hrel
  by_cases hlt:k < n
  ·have hck:=HC.out k hlt;have gk:=HG.out k;generalize hx:data[k]?.getD 0=x at *;have HX:=hid hx;clear hx
   by_cases hmx:M≤x
   ·have hmax:max M x=x:=by omega
    go_wp2;go_roundw
    case rel=>exact ⟨k+1,x,by omega,by omega,by go_num,by congr 1;split <;> omega,trivial,hid gk,hid ⟨fun hh=>⟨k,by omega,by rw [HX.out];exact hh⟩,fun hh j hj=>by
     rcases Nat.lt_succ_iff_lt_or_eq.1 hj with h1|h1
     ·exact HJ.out.2 (by omega) j h1
     subst h1;rw [HX.out];exact hh⟩⟩
    case measure=>simp [intOf];omega
   have hmax:max M x=M:=by omega
   go_wp2;go_roundw
   case rel=>exact ⟨k+1,M,by omega,by omega,by go_num,by congr 1;split <;> omega,trivial,HM,hid ⟨fun hh=>by
    obtain⟨j,hj,h2⟩:=HJ.out.1 hh;exact⟨j,by omega,h2⟩,fun hh j hj=>by
    rcases Nat.lt_succ_iff_lt_or_eq.1 hj with h1|h1
    ·exact HJ.out.2 hh j h1
    subst h1;rw [HX.out];omega⟩⟩
   case measure=>simp [intOf];omega
  obtain rfl:k=n:=by omega
  go_wp2;go_ret;refine⟨M,rfl,?_,rfl⟩
  by_cases hM:0 < M
  ·obtain⟨j,hj,hh⟩:=HJ.out.1 hM;rw [NZ.out j hj hh];simpa using hM
  rw [AZ.out (HJ.out.2 (by omega))];simpa using hM
end Go.Proofs.YtgandbaejlfppaaGreatDoor
namespace Go.Proofs.YtgandbaejlfppaaGreatDoor
set_option linter.unusedVariables false
set_option linter.unusedSimpArgs false
set_option maxRecDepth 20000
set_option maxHeartbeats 8000000
open Go.RowKit Go.Maps
def cov (r:Rg9) (x:Nat):Bool:=decide (r.first≤x/1024) && decide (x/1024 < r.first+r.ext)
theorem im_indexFunc (B:Nat) (L:Nat) (r:Rg9) (va:Option Addr) (vn vc:Nat) (l:List Nat) (W:World) (h:W.ownsRow B 23 1 (.slice va vn vc) l.length (Us l)) (hl:l.length≤100000) (hx:∀ x∈l,x < 18446744073709551616) (lc:Lc L r W) :
  Calls Tryz.prog 122 #[.slice va vn vc,.func (.func 104) #[Vp L 0] #[]] W fun e W'=>Below W.heap.size W W'∧((e=.returned (Vi (-1))∧∀ x∈l,cov r x=false)∨∃ k:Nat,k < l.length∧e=.returned (Vi (k:Nat))∧cov r (l[k]?.getD 0)=true∧∀ j,j < k→cov r (l[j]?.getD 0)=false):=by
 obtain⟨rfl,hc⟩:=us_cells h;have HC:=hid hc;have CV:=hid (fun V (hV:Below W.heap.size W V) x (hx9:x < 18446744073709551616)=>im_covers L x r V (lc.below hV) hx9);have HX:=hid hx;clear hc h hx lc;obtain⟨n,hn⟩:∃ n,l.length=n:=⟨_,rfl⟩;rw [hn] at hl ⊢;have HN:=hid hn;clear hn;go_enter Tryz.func122,Tryz.ntmps122;go_wp2;go_loopw [8] (fun i wr=>∃ k:Nat,k≤n∧i=Vi k∧Hid (Below W.heap.size W wr)∧Hid (∀ j,j < k→cov r (l[j]?.getD 0)=false)) (fun i _=>n - (intOf i).toNat)
 case atStart=>exact ⟨0,Nat.zero_le _,rfl,hid (Below.refl _ _),hid (fun j hj=>by omega)⟩
 case round =>
  obtain⟨k,hk,rfl,HB,HJ⟩:=hrel
  by_cases hlt:k < n
  ·obtain⟨g,rfl,hcell⟩:=HC.out k (by rw [HN.out];exact hlt);have hcell2:=below_cell HB.out hcell;have hq9:l[k]?.getD 0 < 18446744073709551616:=HX.out _ (by rw [List.getElem?_eq_getElem (by rw [HN.out];exact hlt)];exact List.getElem_mem _);clear hcell;generalize hq:l[k]?.getD 0=q at *;have HQ:=hid hq;clear hq;have CVq:=hid (CV.out wr HB.out q hq9);rw [show (decide (r.first≤q/1024) && decide (q/1024 < r.first+r.ext))=cov r q from rfl] at CVq;go_wp2_with fail;refine (CVq.out).mono ?_;rintro e V ⟨rfl,bV⟩;have BV:=hid (HB.out.trans (bV.mono HB.out.size));clear bV CVq
   cases hcv:cov r q with
   | true =>
    go_wp2;go_ret;exact⟨BV.out,.inr ⟨k,hlt,rfl,by rw [HQ.out];exact hcv,HJ.out⟩⟩
   | false =>
    have HJ2:=hid (show ∀ j,j < k+1→cov r (l[j]?.getD 0)=false from fun j hj=>by
     rcases Nat.lt_succ_iff_lt_or_eq.1 hj with h1|h1
     ·exact HJ.out j h1
     subst h1;rw [HQ.out];exact hcv)
    clear HJ;go_wp2;go_roundw
    case rel=>exact ⟨k+1,by omega,by go_num,BV,HJ2⟩
    case measure=>simp [intOf];omega
  obtain rfl:k=n:=by omega
  go_wp2;go_ret;refine⟨HB.out,.inl ⟨rfl,fun x hx=>?_⟩⟩;obtain⟨j,hj⟩:=List.getElem?_of_mem hx;have hjl:=(List.getElem?_eq_some_iff.1 hj).1;have:=HJ.out j (by rw [←HN.out];exact hjl);rw [hj] at this;exact this
def keepJ (r:Rg9) (l:List Nat) (j:Nat):List Nat:=(l.take j).filter fun x => !cov r x
theorem keepJ_succ (r:Rg9) (l:List Nat) (j:Nat) (h:j < l.length):keepJ r l (j+1)=keepJ r l j++(if cov r (l[j]?.getD 0) then [] else [l[j]?.getD 0]):=by
 unfold keepJ;rw [List.take_add_one,List.filter_append,List.getElem?_eq_getElem h];congr 1;simp only [Option.toList_some,Option.getD_some,List.filter_cons,List.filter_nil]
 cases cov r l[j] <;> rfl
theorem keepJ_first (r:Rg9) (l:List Nat) (k:Nat) (hk:k≤l.length) (h:∀ j,j < k→cov r (l[j]?.getD 0)=false):keepJ r l k=l.take k:=by
 unfold keepJ;rw [List.filter_eq_self];intro x hx;obtain⟨j,hj⟩:=List.getElem?_of_mem hx;have hjl:=(List.getElem?_eq_some_iff.1 hj).1;rw [List.length_take] at hjl;rw [List.getElem?_take_of_lt (by omega)] at hj;have:=h j (by omega);rw [hj] at this;simp at this;rw [this];rfl
theorem keepJ_len (r:Rg9) (l:List Nat) (j:Nat):(keepJ r l j).length≤j:=by
 unfold keepJ;have:=List.length_filter_le (fun x => !cov r x) (l.take j);rw [List.length_take] at this;omega
theorem keepJ_lt (r:Rg9) (l:List Nat) (k j:Nat) (hk:k < j) (hj:j≤l.length) (hc:cov r (l[k]?.getD 0)=true):(keepJ r l j).length < j:=by
 induction j with
 | zero=>omega
 | succ j ih =>
  rw [keepJ_succ r l j (by omega),List.length_append];have h1:=keepJ_len r l j
  by_cases e:k=j
  ·subst e;rw [if_pos hc];simp;omega
  have:=ih (by omega) (by omega)
  split <;> simp <;> omega
structure Ct (g cap n:Nat) (l:List Nat) (is:List Nat) (j:Nat) (W:World):Prop where
 row:∃ c,W.heap[g]?=some (.cells c 23 (0,0))∧c.size=cap∧(∀ q,q < is.length→c[q]?=some (Vu ((is[q]?.getD 0:Nat):Int)))∧∀ q,j≤q→q < n→c[q]?=some (Vu ((l[q]?.getD 0:Nat):Int))
theorem Ct.cell {g cap n:Nat} {l is:List Nat} {j:Nat} {W:World} (h:Ct g cap n l is j W) {q:Nat} (h1:j≤q) (h2:q < n):W.cell? ⟨g,q,none⟩=some (Vu ((l[q]?.getD 0:Nat):Int)):=by
 obtain⟨c,a1,a2,a3,a4⟩:=h.row;rw [cell_of_row _ _ _ _ _ _ a1];exact a4 q h1 h2
theorem Ct.free {g cap n:Nat} {l is:List Nat} {j:Nat} {W:World} (h:Ct g cap n l is j W) (q:Nat):W.frozen? ⟨g,q,none⟩=false:=by
 obtain⟨c,a1,_⟩:=h.row;simp [World.frozen?,a1]
theorem Ct.anyC {g cap n:Nat} {l is:List Nat} {j:Nat} {W:World} (h:Ct g cap n l is j W) {q:Nat} (hq:q < cap):∃ v,W.cell? ⟨g,q,none⟩=some v:=by
 obtain⟨c,a1,a2,_⟩:=h.row;rw [cell_of_row _ _ _ _ _ _ a1];exact⟨_,Array.getElem?_eq_getElem (by omega)⟩
theorem Ct.same {g cap n:Nat} {l is:List Nat} {j:Nat} {W W':World} (h:Ct g cap n l is j W) (e:W'.heap[g]?=W.heap[g]?):Ct g cap n l is j W':=by
 obtain⟨c,a1,a2⟩:=h.row;exact⟨c,e.trans a1,a2⟩
theorem Ct.lt {g cap n:Nat} {l is:List Nat} {j:Nat} {W:World} (h:Ct g cap n l is j W):g < W.heap.size:=by
 obtain⟨c,a1,_⟩:=h.row;exact lt_blk a1
theorem Ct.skip {g cap n:Nat} {l is:List Nat} {j:Nat} {W:World} (h:Ct g cap n l is j W):Ct g cap n l is (j+1) W:=by
 obtain⟨c,a1,a2,a3,a4⟩:=h.row;exact⟨c,a1,a2,a3,fun q h1 h2=>a4 q (by omega) h2⟩
theorem Ct.put {g cap n:Nat} {l is:List Nat} {j:Nat} {W:World} (h:Ct g cap n l is j W) (x:Nat) (hi:is.length≤j) (hj:j < n) (hn:n≤cap):Ct g cap n l (is++[x]) (j+1) (W.setCell ⟨g,is.length,none⟩ (Vu (x:Nat))):=by
 obtain⟨c,a1,a2,a3,a4⟩:=h.row;refine⟨c.setIfInBounds is.length (Vu (x:Nat)),by simp [World.setCell,Array.getElem?_modify,a1],by simpa using a2,fun q hq=>?_,fun q h1 h2=>?_⟩
 ·rw [Array.getElem?_setIfInBounds]
  by_cases e:is.length=q
  ·subst e;simp;omega
  rw [if_neg e];have hq2:q < is.length:=by simp at hq;omega
  rw [a3 q hq2,List.getElem?_append_left hq2]
 rw [Array.getElem?_setIfInBounds,if_neg (by omega)];exact a4 q (by omega) h2
end Go.Proofs.YtgandbaejlfppaaGreatDoor
namespace Go.Proofs.YtgandbaejlfppaaGreatDoor
set_option linter.unusedVariables false
set_option linter.unusedSimpArgs false
set_option maxRecDepth 20000
set_option maxHeartbeats 8000000
open Go.RowKit
def cfgV (cf:Cf) (da:Option Addr) (dc:Nat):Value:=.agg #[Vi (cf.mix:Nat),Vi (cf.fifo:Nat),Vi (cf.large:Nat),Vi (cf.bud:Nat),Vu cf.key,.slice da cf.ds.length dc]
theorem results_pair {P:Program} {fn:Func} {p q:Tmp} (h:fn.results=#[.tmp p,.tmp q]) (tmps:Array Value) (w:World):(results fn tmps).run P w=.ok (.tuple #[tmps.getD p undef,tmps.getD q undef]) w:=by
 simp [results,h]
theorem Few.new (cf:Cf):Few 0 (newH cf):=⟨Nat.le_refl _,Nat.le_refl _,Nat.le_refl _,Nat.le_refl _⟩
end Go.Proofs.YtgandbaejlfppaaGreatDoor
namespace Go.Proofs.YtgandbaejlfppaaGreatDoor
set_option linter.unusedVariables false
set_option linter.unusedSimpArgs false
set_option maxRecDepth 20000
set_option maxHeartbeats 8000000
open Go.RowKit Go.Shelf Go.Maps
def RunI : Prop := ∀ (cf : Cf) (da : Option Addr) (dc : Nat) (A : Option Addr) (cap : Nat) (ops : List Oin) (w : World), Dok cf → 1 ≤ cf.large → Tb w → Sl w da cf.ds → (∀ a, da = some a → a.block < w.heap.size) → 0 < w.heap.size → Ois w A ops → (∀ q ∈ ops, q.o.ys.length ≤ q.dc ∧ -9223372036854775808 ≤ q.o.ref ∧ ∀ y ∈ q.o.ys, 0 ≤ y ∧ y ≤ 255) → ops.length ≤ 300 →
  Calls Tryz.prog 8 #[cfgV cf da dc, .slice A ops.length cap] w fun e W' => ∃ (l : List Aw) (va m0 m1 m2 m3 m4 m5 m6 m7 : Value), e = .returned (.agg #[.bool true, va, m0, m1, m2, m3, m4, m5, m6, m7]) ∧ (∀ v ∈ [va, m0, m1, m2, m3, m4, m5, m6, m7], v.oneCell' = true) ∧ l.map (·.1) = (runH cf (ops.map Oin.o) (newH cf) []).2 ∧ W'.ownsRow w.heap.size 45 4 va l.length (flatB l) ∧ (∀ z ∈ l, W'.ownsRow w.heap.size 5 1 z.2 z.1.data.length (Ns .u8 z.1.data)) ∧ Below w.heap.size w W'
def CRuns : Prop := ∀ (cf : Cf), cf.bud = 283 → 1 ≤ cf.fifo → ∀ {a : Nat}, a ≤ 1016 → ∀ i : Nat, i < 8 → ∃ q : Nat, q < 191488 ∧
    (runH cf [⟨0, 0, 0, a, 0, []⟩, ⟨5, 1, usN (coN a) + i, 1, 0, []⟩] (newH cf) []).2 = [⟨0, q, 0, []⟩, ⟨0, 0, 0, [(can cf q)[i]?.getD 0]⟩] ∧
    ∀ y : Int, y ≠ (can cf q)[i]?.getD 0 → (runH cf [⟨0, 0, 0, a, 0, []⟩, ⟨6, 1, usN (coN a) + i, 0, 0, [y]⟩, ⟨3, 1, 0, 0, 0, []⟩, ⟨2, 1, 0, 2000, 0, []⟩, ⟨4, 1, 0, 0, 0, []⟩, ⟨6, 1, usN (coN a) + i, 0, 0, [(can cf q)[i]?.getD 0]⟩, ⟨3, 1, 0, 0, 0, []⟩, ⟨3, 1, 0, 0, 0, []⟩] (newH cf) []).2 =
      [⟨0, q, 0, []⟩, .no 0, .no 5, .no 5, ⟨0, 0, usN (coN a), []⟩, .no 0, .no 0, .no 4]
theorem conv1 {w : World} {p : Addr} {c : Nat} {b : Int} (h : w.cell? p = some (.int .u8 b)) : (convert 22 9 (.slice (some p) 1 c)).run Tryz.prog w = .ok (.string (ByteArray.empty.push (UInt8.ofNat b.toNat))) w := by
  rw [run_convert_bytes_string w 22 9 5 (some p) 1 c Tryz.underlying22 Tryz.underlying5 Tryz.underlying9]
  refine run_bytesToString w p 1 c [b] ?_
  have := run_loadCells_list (P := Tryz.prog) w p [.int .u8 b] (fun j v hj => by
    cases j with
    | zero => simp at hj; subst hj; simpa [Addr.add] using h
    | succ j => simp at hj)
  simpa using this
theorem sameB1 (p1 p2 : Addr) (c1 c2 : Nat) (b : Int) (w : World) (h1 : w.cell? p1 = some (.int .u8 b)) (h2 : w.cell? p2 = some (.int .u8 b)) :
    Calls Tryz.prog 9 #[.slice (some p1) 1 c1, .slice (some p2) 1 c2] w fun e w' => e = .returned (.bool true) ∧ w' = w := by
  have e1 := conv1 (c := c1) h1
  have e2 := conv1 (c := c2) h2
  generalize ByteArray.empty.push (UInt8.ofNat b.toNat) = t at e1 e2
  clear h1 h2
  go_enter Tryz.func9, Tryz.ntmps9
  go_wp2
  go_ret
  exact ⟨by simp, rfl⟩
theorem cdC_cfg (c : Cd) (hm : 0 ≤ c.mi ∧ c.mi ≤ 16) (hf : 1 ≤ c.fi ∧ c.fi ≤ 32) (hl : 1 ≤ c.la ∧ c.la ≤ 16) (hb : c.bu = 283) : Value.agg (cdC c).toArray = cfgV ⟨c.mi.toNat, c.fi.toNat, c.la.toNat, 283, c.ky, c.ds⟩ c.da c.dc := by
  unfold cdC cfgV
  rw [hb]
  simp only [Int.toNat_of_nonneg hm.1, Int.toNat_of_nonneg (show 0 ≤ c.fi by omega), Int.toNat_of_nonneg (show 0 ≤ c.la by omega)]
  rfl
theorem cdC_dok {B : Nat} {c : Cd} {W : World} (ok : Ok4 B c W) (hcl : c.ds.length ≤ 60) (hm : 0 ≤ c.mi ∧ c.mi ≤ 16) (hf : 1 ≤ c.fi ∧ c.fi ≤ 32) (hl : 1 ≤ c.la ∧ c.la ≤ 16) : Dok ⟨c.mi.toNat, c.fi.toNat, c.la.toNat, 283, c.ky, c.ds⟩ := by
  refine ⟨by show c.ds.length ≤ _; omega, fun d hd => ?_, ok.k0, by have := ok.k1; show c.ky < _; omega, by show c.mi.toNat ≤ _; omega, by show 1 ≤ c.fi.toNat; omega, by show c.fi.toNat ≤ _; omega, by show c.la.toNat ≤ _; omega, Nat.le_refl _⟩
  have := ok.dw d hd
  have e1 : IntKind.i64.min = -9223372036854775808 := rfl
  have e2 : IntKind.i64.max = 9223372036854775807 := rfl
  simp only [Lit.wf, e1, e2, Bool.and_eq_true, decide_eq_true_eq]
  omega
theorem Ok4.sl {B : Nat} {c : Cd} {W : World} (ok : Ok4 B c W) : Sl W c.da c.ds ∧ ∀ a, c.da = some a → a.block < W.heap.size := by
  rcases ok.d.2 with ⟨h1, h2⟩ | ⟨g, cap, cur, h1, h2, h3, h4⟩
  · injection h1 with e1 e2 e3
    refine ⟨.inl ⟨e1, List.length_eq_zero_iff.1 (by omega)⟩, fun a ha => by rw [e1] at ha; cases ha⟩
  · injection h1 with e1 e2 e3
    obtain ⟨h5, h6, h7, h8⟩ := h4
    have h9 := ok.d.1
    refine ⟨.inr ⟨g, e1, cur, h3, by omega, fun i hi => ?_⟩, fun a ha => by rw [e1] at ha; cases ha; exact lt_blk h3⟩
    rw [← h8, List.getElem?_take, if_pos (by omega), Array.getElem?_toList]
end Go.Proofs.YtgandbaejlfppaaGreatDoor
