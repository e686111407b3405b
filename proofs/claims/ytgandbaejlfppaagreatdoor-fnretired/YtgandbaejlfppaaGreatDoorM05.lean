import Derived.Test.YtgandbaejlfppaaGreatDoorM01
import Derived.Test.YtgandbaejlfppaaGreatDoorM04
namespace Go.Proofs.YtgandbaejlfppaaGreatDoor
set_option linter.unusedVariables false
set_option linter.unusedSimpArgs false
set_option maxRecDepth 20000
set_option maxHeartbeats 8000000
open Go.RowKit Go.Shelf
abbrev muLink:Go.Conc.Locks.MuLink:={ lock:=76,unlock:=77,ilock:=111,iunlock:=112,lockSlow:=134,unlockSlow:=137,disable:=130,enable:=132,acquire:=133,relMerge:=135,cas32:=131,add32:=136,tMutex:=119,tIMutex:=117,tPMutex:=185,tPIMutex:=199,tPI32:=201,tUP:=203,tNoCopy:=114,tU32:=115 }
theorem muLib:Go.Conc.Locks.MuLib Tryz.prog muLink :=
 ⟨Tryz.func76,Tryz.func77,Tryz.func111,Tryz.func112,Tryz.func130,Tryz.func132,Tryz.func133,Tryz.func135,Tryz.func131,Tryz.func136,Tryz.underlying117,Tryz.runUnderlying117,Tryz.sizeOf117,Tryz.isAgg117,Tryz.zeroValue117,Tryz.underlying119,Tryz.runUnderlying119,Tryz.sizeOf119,Tryz.isAgg119,Tryz.zeroValue119,Tryz.underlying185,Tryz.runUnderlying185,Tryz.sizeOf185,Tryz.isAgg185,Tryz.zeroValue185,Tryz.underlying199,Tryz.runUnderlying199,Tryz.sizeOf199,Tryz.isAgg199,Tryz.zeroValue199,Tryz.underlying201,Tryz.runUnderlying201,Tryz.sizeOf201,Tryz.isAgg201,Tryz.zeroValue201,Tryz.underlying203,Tryz.runUnderlying203,Tryz.sizeOf203,Tryz.isAgg203,Tryz.zeroValue203,Tryz.underlying114,Tryz.runUnderlying114,Tryz.sizeOf114,Tryz.isAgg114,Tryz.zeroValue114,Tryz.underlying21,Tryz.runUnderlying21,Tryz.sizeOf21,Tryz.isAgg21,Tryz.zeroValue21,by kernel_rfl⟩
theorem im_lock {S M:Nat} {n bud:Int} {f:Nat→Option Nat} {w:World} (h:Im S M 0 n bud f w):Calls Tryz.prog 76 #[Vp S 0] w fun e w'=>e=.returned (.tuple #[])∧w'=w.setCell ⟨S,0,none⟩ (.int .i32 1) :=
 Go.MuLone.lock_free muLib ⟨S,0,none⟩ w (by simp [World.cell?,h.box]) (by simp [World.frozen?,h.box])
theorem Im.st {S M:Nat} {st n bud:Int} {f:Nat→Option Nat} {w:World} (h:Im S M st n bud f w) (st':Int):Im S M st' n bud f (w.setCell ⟨S,0,none⟩ (.int .i32 st')):=by
 obtain⟨D,h1,h2⟩:=h.map;refine⟨heap_set_at h.box _,D,h1.kept (grown_set (grown_refl w S) 0 _) (fun e=>?_),h2⟩;obtain⟨es,clock,hb,_⟩:=h1;simp at e;subst e;rw [h.box] at hb
 cases hb
end Go.Proofs.YtgandbaejlfppaaGreatDoor
namespace Go.Proofs.YtgandbaejlfppaaGreatDoor
set_option linter.unusedVariables false
set_option linter.unusedSimpArgs false
set_option maxRecDepth 20000
set_option maxHeartbeats 8000000
open Go.RowKit Go.Shelf
def putM (m:Nat→Option (Bool×List Int)) (p:Nat) (x:Int):Nat→Option (Bool×List Int):=updM m (p/1024) ((m (p/1024)).map fun q=>(q.1,q.2.set (p % 1024) x))
def storeM (m:Nat→Option (Bool×List Int)) (a:Nat) (ys:List Int):Nat→(Nat→Option (Bool×List Int))
 | 0=>m
 | k+1=>putM (storeM m a ys k) (a+k) (ys[k]?.getD 0)
theorem putM_open (m:Nat→Option (Bool×List Int)) (p:Nat) (x:Int) (j:Nat):isOpen (putM m p x j)=isOpen (m j):=by
 unfold putM
 by_cases e:j=p/1024
 ·subst e;rw [updM_same]
  cases m (p/1024) with
  | none=>rfl
  | some q=>rfl
 rw [updM_other _ _ _ _ e]
theorem storeM_open (m:Nat→Option (Bool×List Int)) (a:Nat) (ys:List Int):∀ k j,isOpen (storeM m a ys k j)=isOpen (m j)
 | 0,j=>rfl
 | k+1,j=>by simp only [storeM];rw [putM_open];exact storeM_open m a ys k j
end Go.Proofs.YtgandbaejlfppaaGreatDoor
namespace Go.Proofs.YtgandbaejlfppaaGreatDoor
set_option linter.unusedVariables false
set_option linter.unusedSimpArgs false
set_option maxRecDepth 20000
set_option maxHeartbeats 8000000
open Go.RowKit Go.Shelf
def okP (nn:Nat) (p c:Int):Prop:=1≤c∧0≤p∧c≤nn∧p≤(nn:Int) - c
end Go.Proofs.YtgandbaejlfppaaGreatDoor
namespace Go.Proofs.YtgandbaejlfppaaGreatDoor
set_option linter.unusedVariables false
set_option linter.unusedSimpArgs false
set_option maxRecDepth 20000
set_option maxHeartbeats 8000000
open Go.ChangeShapes Go.WideShapes Go.ChangeAt Go.RowKit
theorem qpush_full (G r n o k:Nat) (ps:List Int) (x d:Int) (w:World) (hb:w.heap[G]?=some (.cells #[Vl r n n,Vi (o:Nat),Vi (n:Nat)] 126 (0,0))) (hr:RowV w r 3 (Ns .i64 ps)) (hn:ps.length=n) (ho:o < n) (hnl:n≤1024) (hk:(o+1) % n=k) :
  Calls Tryz.prog 211 #[Vp G 0,Vi x,Vi d] w fun e w'=>e=.returned (Vi (ps[o]?.getD 0))∧w'.heap[G]?=some (.cells #[Vl r n n,Vi (k:Nat),Vi (n:Nat)] 126 (0,0))∧RowV w' r 3 (Ns .i64 (ps.set o x))∧But (fun k=>k=G∨k=r) w w':=by
 have hne:G≠r:=hr.ne hb (by decide);have c0:w.cell? ⟨G,0,none⟩=some (Vl r n n):=by rw [cell_of_row _ _ _ _ _ _ hb];rfl
 have c1:w.cell? ⟨G,1,none⟩=some (Vi (o:Nat)):=by rw [cell_of_row _ _ _ _ _ _ hb];rfl
 have c2:w.cell? ⟨G,2,none⟩=some (Vi (n:Nat)):=by rw [cell_of_row _ _ _ _ _ _ hb];rfl
 have SW:=hid (swap_in G r n n o 0 o ps x w.drew (by rw [Nat.add_zero,Nat.mod_eq_of_lt ho]) hn (by omega) (by omega) (by omega) (by omega) c0 c1 hr);have HB:=hid hb;have h1:((n:Int)==0)=false:=by simp;omega
 have he:((o:Int)+1) % (n:Int)=(k:Int):=by rw [←hk];simp
 clear hb hr hn hk;go_enter Tryz.func211,Tryz.ntmps211;go_wp2;go_region;go_wp2_with fail;refine (SW.out).mono ?_;rintro e w1 ⟨rfl,r1,g1⟩;have hS1:=hid (cell_blk (k:=G) g1 HB.out hne);have R1:=hid r1;have G1:=hid g1;clear r1 g1 c0 c1 c2;have c0:w1.cell? ⟨G,0,none⟩=some (Vl r n n):=by rw [cell_of_row _ _ _ _ _ _ hS1.out];rfl
 have c1:w1.cell? ⟨G,1,none⟩=some (Vi (o:Nat)):=by rw [cell_of_row _ _ _ _ _ _ hS1.out];rfl
 have f1:w1.frozen? ⟨G,1,none⟩=false:=frozen_of_row _ _ _ _ _ hS1.out;go_wp2;go_region;rw [he];go_wp2;go_ret;refine⟨rfl,?_,?_,?_⟩
 ·show (w1.setCell ⟨G,1,none⟩ _).heap[G]?=_;rw [heap_setCell_same _ _ _ _ _ _ hS1.out];rfl
 ·exact (R1.out.other (by simpa using hne.symm) _).drew
 exact (((But.refl _ w).drew.trans (.ofGrown G1.out (.inr rfl))).set _ _ _ (.inl rfl)).drew
theorem drop_set_lt (ps:List Int) (o:Nat) (x:Int) (h:o < ps.length):(ps.set o x).drop (o+1)=ps.drop (o+1):=by
 rw [List.drop_set_of_lt (by omega)]
theorem take_set_succ (ps:List Int) (o:Nat) (x:Int) (h:o < ps.length):(ps.set o x).take (o+1)=ps.take o++[x]:=by
 rw [List.take_add_one,List.take_set_of_le (Nat.le_refl _)];simp [h]
theorem qpush (G r n:Nat) (xs:List Int) (x d:Int) (w:World) (h:Qu w G r n xs) (hnl:n≤1024) :
  Calls Tryz.prog 211 #[Vp G 0,Vi x,Vi d] w fun e w'=>e=.returned (Vi (pushF n xs x).2)∧Qu w' G r n (pushF n xs x).1∧But (fun k=>k=G∨k=r) w w':=by
 obtain⟨ps,o,h,hb,hr,hn,ho,hh,h0,rfl⟩:=h
 by_cases hlt:h < n
 ·obtain rfl:=h0 hlt;refine (qpush_more G r n h ps x d w hb hr hn hlt hnl).mono ?_;rintro e w' ⟨rfl,b,c,f⟩;have e1:(ps.drop 0++ps.take 0).take h=ps.take h:=by simp
  have e2:pushF n (ps.take h) x=(ps.take h++[x],-1):=by
   unfold pushF;rw [if_pos (by simp;omega)]
  rw [e1,e2];refine⟨rfl,⟨ps.set h x,0,h+1,b,c,by simpa using hn,ho,by omega,fun _=>rfl,?_⟩,f⟩;simp only [List.drop_zero,List.take_zero,List.append_nil];rw [take_set_succ _ _ _ (by omega)]
 have hhn:h=n:=by omega
 subst hhn;refine (qpush_full G r h o _ ps x d w hb hr hn ho hnl rfl).mono ?_;rintro e w' ⟨rfl,b,c,f⟩;have hd:ps.drop o=(ps[o]?.getD 0)::ps.drop (o+1):=by
  rw [List.drop_eq_getElem_cons (by omega)];congr 1;rw [List.getElem?_eq_getElem (by omega)];rfl
 have e1:(ps.drop o++ps.take o).take h=ps.drop o++ps.take o:=List.take_of_length_le (by simp;omega);have e2:pushF h (ps.drop o++ps.take o) x=(ps.drop (o+1)++ps.take o++[x],ps[o]?.getD 0):=by
  unfold pushF;rw [if_neg (by simp;omega),hd];rfl
 rw [e1,e2];refine⟨rfl,⟨ps.set o x,_,h,b,c,by simpa using hn,Nat.mod_lt _ (by omega),by omega,fun h=>by omega,?_⟩,f⟩
 by_cases hl:o+1 < h
 ·rw [Nat.mod_eq_of_lt hl,drop_set_lt _ _ _ (by omega),take_set_succ _ _ _ (by omega),List.take_of_length_le (l:=ps.drop (o+1)++(ps.take o++[x])) (by simp;omega),List.append_assoc]
 have ho1:o+1=h:=by omega
 rw [ho1,Nat.mod_self];simp only [List.drop_zero,List.take_zero,List.append_nil];rw [List.drop_of_length_le (by omega),List.nil_append,←ho1,take_set_succ _ _ _ (by omega)]
def wpM (n:Nat) (mix fifo:List Int) (slot draw:Int):List Int×List Int×Int :=
 if mix=[] then ([],(pushF n fifo slot).1,(pushF n fifo slot).2)
 else if mix[md draw mix.length]?.getD 0 = -1 then (mix.set (md draw mix.length) slot,fifo,-1)
 else (mix.set (md draw mix.length) slot,(pushF n fifo (mix[md draw mix.length]?.getD 0)).1,(pushF n fifo (mix[md draw mix.length]?.getD 0)).2)
end Go.Proofs.YtgandbaejlfppaaGreatDoor
namespace Go.Proofs.YtgandbaejlfppaaGreatDoor
set_option linter.unusedVariables false
set_option linter.unusedSimpArgs false
set_option maxRecDepth 20000
set_option maxHeartbeats 8000000
open Go.ChangeShapes Go.WideShapes Go.ChangeAt Go.RowKit
theorem pg_in {c:Int} (h:0≤c∧c < 12):1≤pg c∧pg c≤4:=by
 rcases isc_split h with rfl|rfl|rfl|rfl|rfl|rfl|rfl|rfl|rfl|rfl|rfl|rfl <;> decide
theorem pg_out {c:Int} (h:¬(0≤c∧c < 12)):pg c=0:=by simp only [pg,sz_out h];decide
theorem pg_le (c:Int):0≤pg c∧pg c≤4:=by
 by_cases h:0≤c∧c < 12
 ·have:=pg_in h;omega
 rw [pg_out h];omega
theorem sl_in {c:Int} (h:0≤c∧c < 12):4≤sl c∧sl c≤64∧sl c=pg c*1024/sz c∧sl c*sz c≤pg c*1024:=by
 rcases isc_split h with rfl|rfl|rfl|rfl|rfl|rfl|rfl|rfl|rfl|rfl|rfl|rfl <;> decide
theorem sl_out {c:Int} (h:¬(0≤c∧c < 12)):sl c=0:=by simp only [sl,if_neg h]
theorem us_in {c:Int} (h:0≤c∧c < 12):us c=sz c - 8:=by simp only [us,if_pos h]
theorem us_out {c:Int} (h:¬(0≤c∧c < 12)):us c=0:=by simp only [us,if_neg h]
theorem im_SlabPages (c:Int) (w:World) (ht:Tb w) :
  Calls Tryz.prog 51 #[Vi c] w fun e w'=>e=.returned (Vi (pg c))∧w'=w:=by
 have HI:=hidR (im_SlotSize c w ht);have hs:=sz_le c;unfold pg;generalize sz c=s at HI hs ⊢;clear ht;go_enter Tryz.func51,Tryz.ntmps51;go_wp2_with fail;refine (HI.out).mono ?_;rintro e w' ⟨rfl,rfl⟩;go_wp2;go_ret;exact⟨rfl,rfl⟩
theorem im_SlabSlots (c:Int) (w:World) (ht:Tb w) :
  Calls Tryz.prog 53 #[Vi c] w fun e w'=>e=.returned (Vi (sl c))∧w'=w:=by
 have HI:=hidR (im_SlotSize c w ht);have HP:=hidR (im_SlabPages c w ht)
 by_cases h:0≤c∧c < 12
 ·have hs:=sz_in h;have hp:=pg_in h;rw [(sl_in h).2.2.1];have HC:=hidR (im_isClass_yes _ w h);generalize sz c=s at HI hs ⊢;generalize pg c=p at HP hp ⊢;clear ht h;go_enter Tryz.func53,Tryz.ntmps53;go_wp2_with fail;refine (HC.out).mono ?_;rintro e w' ⟨rfl,rfl⟩;go_wp2_with fail;refine (HP.out).mono ?_;rintro e w' ⟨rfl,rfl⟩;go_wp2_with fail;refine (HI.out).mono ?_;rintro e w' ⟨rfl,rfl⟩;go_wp2;go_ret;exact⟨rfl,rfl⟩
 rw [sl_out h];have HC:=hidR (im_isClass_no _ w h);clear ht h;go_enter Tryz.func53,Tryz.ntmps53;go_wp2_with fail;refine (HC.out).mono ?_;rintro e w' ⟨rfl,rfl⟩;go_wp2;go_ret;exact⟨rfl,rfl⟩
end Go.Proofs.YtgandbaejlfppaaGreatDoor
namespace Go.Proofs.YtgandbaejlfppaaGreatDoor
set_option linter.unusedVariables false
set_option linter.unusedSimpArgs false
set_option maxRecDepth 20000
set_option maxHeartbeats 8000000
open Go.ChangeShapes Go.WideShapes Go.ChangeAt Go.RowKit
theorem grown_setRowW (w:World) (g:Nat) (cs:Array Value):w.grownBy (w.setRow g cs) (some g) :=
 ⟨rfl,rfl,rfl,by simp [World.setRow],fun k _ h=>setRow_other w g k cs (by simpa using h)⟩
theorem copy_run (w:World) (dp sp:Option Addr) (dLen dCap sLen sCap g off:Nat) (cur:List Value) (hg:w.heap[g]?=some (.cells cur.toArray 3 (0,0))) (cs:List Value) (hn:cs.length=Nat.min sLen dLen)
  (hpos:0 < cs.length→dp=some ⟨g,off,none⟩∧∃ ad,sp=some ad∧∀ j v,cs[j]?=some v→w.cell? (ad.add j)=some v)
  (hfit:off+cs.length≤cur.length) (h1:∀ v∈cs,v.oneCell'=true) :
  ∃ w',(Builtin.copy_ #[24,24] 3 #[.slice dp dLen dCap,.slice sp sLen sCap]).run Tryz.prog w=.ok (Vi (cs.length:Nat)) w'∧w'.heap[g]?=some (.cells (splice cur off cs).toArray 3 (0,0))∧w.grownBy w' (some g):=by
 by_cases h0:cs.length=0
 ·obtain rfl:cs=[]:=List.eq_nil_of_length_eq_zero h0;refine⟨w,run_copy_none (P:=Tryz.prog) w 24 24 3 3 dp sp dLen dCap sLen sCap Tryz.underlying24 (by kernel_rfl) (by simpa using hn.symm),by simpa [splice] using hg,grown_refl w g⟩
 obtain⟨rfl,ad,rfl,hsrc⟩:=hpos (by omega);refine⟨_,run_copy_row (P:=Tryz.prog) w 24 24 3 3 g off dLen dCap ad sLen sCap cur.toArray 3 cs Tryz.underlying24 (by kernel_rfl) hg hn hsrc (by simpa using hfit) h1,?_,grown_setRowW w g _⟩;simpa [splice] using setRow_heap w g _ _ 3 _ hg
theorem mk23 (n:Nat) (h:n≤1048576) (w:World):(Instr.makeSlice 24 (Vi (n:Int)) (Vi (n:Int))).run Tryz.prog w=.ok (Vl w.heap.size n n) (w.alloc (.cells (madeCells #[Value.int .i64 0] n) 3)) :=
 run_make_row' 24 3 (Vi 0) 8 Tryz.underlying24 Tryz.info3In rfl .i64 .i64 n (by omega) (by omega) w
theorem al_lastW (w:World) (o:Obj):(w.alloc o).heap[w.heap.size]?=some o:=heap_alloc_new w o
theorem al_sizeW (w:World) (o:Obj):(w.alloc o).heap.size=w.heap.size+1:=by
 have e:(w.alloc o).heap=w.heap.push o:=rfl;rw [e,Array.size_push]
theorem al_oldW {w:World} {k:Nat} {p:Obj} (h:w.heap[k]?=some p) (o:Obj):(w.alloc o).heap[k]?=some p:=by
 rw [heap_alloc_old w o (lt_blkW h)];exact h
theorem al_three (w:World) (A B C:Obj):((((w.alloc A).alloc B).alloc C).heap[w.heap.size]?=some A)∧((((w.alloc A).alloc B).alloc C).heap[w.heap.size+1]?=some B)∧((((w.alloc A).alloc B).alloc C).heap[w.heap.size+1+1]?=some C)∧Below w.heap.size w (((w.alloc A).alloc B).alloc C):=by
 have h1:=al_lastW w A;have h2:=al_lastW (w.alloc A) B;have h3:=al_lastW ((w.alloc A).alloc B) C;rw [al_sizeW] at h2;rw [al_sizeW,al_sizeW] at h3;exact⟨al_oldW (al_oldW h1 B) C,al_oldW h2 C,h3,(((Below.refl _ w).alloc (Nat.le_refl _) A).alloc (by rw [al_sizeW];omega) B).alloc (by rw [al_sizeW,al_sizeW];omega) C⟩
theorem made_n (n:Nat):madeCells #[Value.int .i64 0] n=(Ns .i64 (List.replicate n 0)).toArray:=by
 apply Array.ext';simp [toList_madeCells_one,Ns]
theorem Sl.src {w:World} {a:Option Addr} {zs:List Int} (h:Sl w a zs) (h0:0 < zs.length):∃ ad,a=some ad∧∀ j v,(Ns .i64 zs)[j]?=some v→w.cell? (ad.add j)=some v:=by
 rcases h with ⟨_,rfl⟩|⟨g,rfl,hr⟩
 ·simp at h0
 refine⟨_,rfl,fun j v hv=>?_⟩;have hj:j < (Ns .i64 zs).length:=by
  by_cases hj:j < (Ns .i64 zs).length
  ·exact hj
  rw [List.getElem?_eq_none (by omega)] at hv;cases hv
 have:=hr.cell j hj;rw [hv] at this;have e:(⟨g,0,none⟩:Addr).add j=⟨g,j,none⟩:=by cases j <;> simp [Addr.add]
 rw [e];exact this
theorem Ns_one (k:IntKind) (zs:List Int):∀ v∈Ns k zs,v.oneCell'=true:=by
 intro v hv;simp only [Ns,List.mem_map] at hv;obtain⟨x,_,rfl⟩:=hv;rfl
theorem splice_start (zs:List Int) (n:Nat) (h:zs.length≤n):splice (Ns .i64 (List.replicate n 0)) 0 (Ns .i64 zs)=Ns .i64 (zs++List.replicate (n - zs.length) 0):=by
 simp [splice,Ns]
theorem rowOf {w:World} {g:Nat} {e:TypeId} {xs:List Value} (h:w.heap[g]?=some (.cells xs.toArray e (0,0))):RowV w g e xs :=
 ⟨_,h,by simp,fun i hi=>by simp⟩
theorem set3 {w:World} {g:Nat} {a b c:Value} {t:TypeId} (h:w.heap[g]?=some (.cells #[a,b,c] t (0,0))) (x y z:Value) :
  (((w.setCell ⟨g,0,none⟩ x).setCell ⟨g,1,none⟩ y).setCell ⟨g,2,none⟩ z).heap[g]?=some (.cells #[x,y,z] t (0,0)):=by
 rw [heap_setCell_same _ _ _ _ _ _ (heap_setCell_same _ _ _ _ _ _ (heap_setCell_same _ _ _ _ _ _ h))];rfl
theorem set_ne {w:World} {g:Nat} {o:Obj} (h:w.heap[g]?=some o) (k i:Nat) (v:Value) (hne:g≠k):(w.setCell ⟨k,i,none⟩ v).heap[g]?=some o:=by
 rw [heap_setCell_other _ _ _ _ (by simpa using hne)];exact h
theorem newRing_in (n len cap:Nat) (a:Option Addr) (zs:List Int) (w:World) (hl:zs.length=len) (hlen:len≤n) (hn:n≤1024) (hr:Sl w a zs) :
  Calls Tryz.prog 60 #[Vi n,.slice a len cap] w fun e w'=>∃ g,e=.returned (.agg #[Vl g n n,Vi (0:Nat),Vi (len:Nat)])∧RowV w' g 3 (Ns .i64 (zs++List.replicate (n - len) 0))∧w.heap.size≤g∧Below w.heap.size w w':=by
 have hmk:=fun W=>mk23 n (by omega) W
 have HR:=hid hr;have HL:=hid hl;clear hr hl;have T3:=hid (al_three w (.cells #[Vn,Vi 0,Vi 0] 123) (.cells (madeCells #[Vi 0] n) 3) (.cells #[Vl (w.heap.size+1) n n,Vi 0,Vi 0] 123));obtain⟨w1,hcp,hg1,hgr⟩:=copy_run _ (some ⟨w.heap.size+1,0,none⟩) a n n len cap (w.heap.size+1) 0 (Ns .i64 (List.replicate n 0)) (by rw [←made_n];exact T3.out.2.1) (Ns .i64 zs) (by rw [Ns_len,HL.out];exact (Nat.min_eq_left hlen).symm) (fun h0=>⟨rfl,(HR.out.below T3.out.2.2.2).src (by rw [Ns_len] at h0;exact h0)⟩) (by simp only [Ns_len,List.length_replicate];rw [HL.out];omega) (Ns_one _ _);rw [Ns_len,HL.out] at hcp;have b0:=hid (cell_blk hgr T3.out.1 (by omega));have b2:=hid (cell_blk hgr T3.out.2.2.1 (by omega));have hg:=hid (below_grown T3.out.2.2.2 hgr (by omega));have hr1:=hid (rowOf hg1);clear hg1 hgr T3;have c2:w1.cell? ⟨w.heap.size+1+1,2,none⟩=some (Vi 0):=by rw [cell_of_row _ _ _ _ _ _ b2.out];rfl
 have f2:w1.frozen? ⟨w.heap.size+1+1,2,none⟩=false:=frozen_of_row _ _ _ _ _ b2.out;have c20:w1.cell? ⟨w.heap.size+1+1,0,none⟩=some (Vl (w.heap.size+1) n n):=by rw [cell_of_row _ _ _ _ _ _ b2.out];rfl
 have c21:w1.cell? ⟨w.heap.size+1+1,1,none⟩=some (Vi 0):=by rw [cell_of_row _ _ _ _ _ _ b2.out];rfl
 have d0:w1.cell? ⟨w.heap.size,0,none⟩=some (Vn):=by rw [cell_of_row _ _ _ _ _ _ b0.out];rfl
 have d1:w1.cell? ⟨w.heap.size,1,none⟩=some (Vi 0):=by rw [cell_of_row _ _ _ _ _ _ b0.out];rfl
 have d2:w1.cell? ⟨w.heap.size,2,none⟩=some (Vi 0):=by rw [cell_of_row _ _ _ _ _ _ b0.out];rfl
 have f0:w1.frozen? ⟨w.heap.size,0,none⟩=false:=frozen_of_row _ _ _ _ _ b0.out;have f1:w1.frozen? ⟨w.heap.size,1,none⟩=false:=frozen_of_row _ _ _ _ _ b0.out;have f3:w1.frozen? ⟨w.heap.size,2,none⟩=false:=frozen_of_row _ _ _ _ _ b0.out;go_enter Tryz.func60,Tryz.ntmps60;go_wp2;refine bodyPost_ret (results_cell_row (by rfl) _ _ w.heap.size 123 _ (0,0) _ (by rfl) (set3 (set_ne b0.out _ _ _ (by omega)) _ _ _) Tryz.underlying123 rfl (by kernel_rfl)) (by rfl) ?_;refine⟨w.heap.size+1,rfl,?_,by omega,?_⟩
 ·rw [←HL.out,←splice_start _ _ (by rw [HL.out];exact hlen)];refine (((hr1.out.other ?_ _).other ?_ _).other ?_ _).other ?_ _
  all_goals (dsimp only;omega)
 exact (((hg.out.setCell (by dsimp only;omega) _).setCell (by dsimp only;omega) _).setCell (by dsimp only;omega) _).setCell (by dsimp only;omega) _
end Go.Proofs.YtgandbaejlfppaaGreatDoor
namespace Go.Proofs.YtgandbaejlfppaaGreatDoor
set_option linter.unusedVariables false
set_option linter.unusedSimpArgs false
set_option maxRecDepth 20000
set_option maxHeartbeats 8000000
open Go.ChangeShapes Go.WideShapes Go.ChangeAt Go.RowKit
def wv (am:Option Addr) (lm cm:Nat) (af:Option Addr) (lf cf:Nat) (lim:Int):Value:=.agg #[.slice am lm cm,.slice af lf cf,Vi lim]
structure Wt (w:World) (am:Option Addr) (lm:Nat) (af:Option Addr) (lf:Nat) (mix fifo:List Int):Prop where
 m:Sl w am mix
 ml:mix.length=lm
 f:Sl w af fifo
 fl:fifo.length=lf
end Go.Proofs.YtgandbaejlfppaaGreatDoor
namespace Go.Proofs.YtgandbaejlfppaaGreatDoor
set_option linter.unusedVariables false
set_option linter.unusedSimpArgs false
set_option maxRecDepth 20000
set_option maxHeartbeats 8000000
open Go.RowKit
theorem list_app {P:Program} {t:TypeId} {ops:Array Oper} {rest:List Oper} {o:Oper} {a:Act} {w:World} {Q:Exit→Act→World→Prop} (hgd:o.guard=none) (s x:Operand)
  (ho:o.op=.call { callee:=.builtin .append,args:=#[s,x],argTypes:=#[t,t] }) (ht:o.type=t) {v v2 v':Value} {w':World} (hs:a.eval s=v) (hx:a.eval x=v2)
  (hr:(Builtin.append_ #[t,t] t #[v,v2]).run P w=.ok v' w') (h:wpList P ops Q rest (a.put o.dst v') w'):wpList P ops Q (o::rest) a w:=by
 refine wpList_plain hgd fun K hK=>?_
 unfold Oper.wp;simp [execOp,ho,ht,resolve,invoke,builtin,hs,hx,hr,Result.andThen];exact hK _ _ h
theorem info22:(Tryz.prog.info? 23).map (fun i=>(i.zero,i.size,i.bytes))=some (some (Vu 0),1,8):=by kernel_rfl
theorem Us_snoc (l:List Nat) (n:Nat):Us (l++[n])=Us l++[Vu (n:Int)]:=by simp [Us]
theorem Us_len (l:List Nat):(Us l).length=l.length:=by simp [Us]
theorem app_us (W:World) (B:Nat) (v:Value) (l m:List Nat) (x:Addr) (c:Nat) (hown:W.ownsRow B 23 1 v l.length (Us l)) (hg:∀ j u,(Us m)[j]?=some u→W.cell? (x.add j)=some u) (hl:l.length+m.length≤100000) (hB:B≤W.heap.size) :
  ∃ v' w',(Builtin.append_ #[35,35] 35 #[v,.slice (some x) m.length c]).run Tryz.prog W=.ok v' w'∧w'.ownsRow B 23 1 v' (l++m).length (Us (l++m))∧W.grownBy w' v.ownBlock:=by
 obtain⟨i0,hi0,hz0,hz1,hz2⟩:=info_parts info22;have h1:∀ u∈Us m,u.oneCell'=true:=fun u hu=>by
  simp only [Us,List.mem_map] at hu;obtain⟨n,_,rfl⟩:=hu;rfl
 obtain⟨v',w',e1,e2,e3,_⟩:=run_append_own (P:=Tryz.prog) W B 35 35 23 i0 _ 1 8 Tryz.underlying35 hi0 hz0 hz1 hz2 rfl (by omega) v _ _ hown x m.length c (Us m) (by rw [Us_len,Nat.mul_one]) hg h1 (by unfold maxLen;omega) (by omega) hB;exact⟨v',w',e1,by rw [List.length_append];simpa [Us] using e2,e3⟩
end Go.Proofs.YtgandbaejlfppaaGreatDoor
