import Derived.Below
import Derived.BigGuardIn
import Derived.BigQuiet
import Derived.BigRegionIn
import Derived.Conc.MuLone
import Derived.Deep.AppendLies
import Derived.Deep.CutBlock
import Derived.Deep.DeepCutAuto
import Derived.Deep.LoopGhost
import Derived.Deep.OwnRows
import Derived.Deep.QuietTactic
import Derived.Deep.RegionHeld
import Derived.Deep.RegionWith
import Derived.KernelRfl
import Derived.Laws.CopyOwn
import Derived.Laws.Rows
import Derived.Laws.Tables
import Derived.LoopIn
import Derived.LoopNIn
import Derived.Maps.OwnOps
import Derived.Maps.OwnSet
import Derived.OpenShut
import Derived.OrdersHeld
import Derived.OwnWalkIn
import Derived.ProofKit
import Derived.RangeFuncBound
import Derived.RangeFuncCalls
import Derived.RangeFuncLeaves
import Derived.RangeFuncNested
import Derived.Shelf.Abstract
import Derived.Shelf.RegionOpen
import Derived.TacticsInMore
import Derived.Test.YtacccpkmgkojiaaGreatDoorRRProg
import Derived.WalkKit
import Derived.WalkLawsBesides
import Derived.Test.YtacccpkmgkojiaaGreatDoorRRM00
import Derived.Test.YtacccpkmgkojiaaGreatDoorRRM01
import Derived.Test.YtacccpkmgkojiaaGreatDoorRRM02
import Derived.Test.YtacccpkmgkojiaaGreatDoorRRM04
import Derived.Test.YtacccpkmgkojiaaGreatDoorRRM05
import Derived.Test.YtacccpkmgkojiaaGreatDoorRRM06
import Derived.Test.YtacccpkmgkojiaaGreatDoorRRM08
import Derived.Test.YtacccpkmgkojiaaGreatDoorRRM09
namespace Go.Proofs.YtacccpkmgkojiaaGreatDoorRR
set_option linter.unusedVariables false
set_option linter.unusedSimpArgs false
set_option maxRecDepth 20000
set_option maxHeartbeats 8000000
open Go.ChangeShapes Go.WideShapes Go.ChangeAt Go.RowKit
theorem wpOp_doW {P:Program} {ops:Array Oper} {Q:Exit→Act→World→Prop} {i:Nat} {o:Oper} {K:Act→World→Prop} {a:Act} {w:World} (hi:ops[i]?=some o) (hw:Region.wanted o (yielded ops a.tmps)=true)
  (h:∀ K':Act→World→Prop,Hid (∀ a w,K a w→K' a w)→o.wp P a w K' Q):wpOp P ops Q i K a w:=by
 unfold wpOp;simp only [hi,hw,if_true];exact .inl (h K fun _ _ h=>h)
theorem wpAnyH_oneW {P:Program} {md:Region.Mode} {ops:Array Oper} {Q:Exit→Act→World→Prop} {S:World→Prop} {r fuel:Nat} {listed:Array Bool} {a:Act} {w:World} (hr:Region.ready md ops listed=[r])
  (h:wpOp P ops Q r (fun a' w'=>S w'∧wpAnyH P md ops Q S fuel (listed.setIfInBounds r true) a' w') a w):wpAnyH P md ops Q S (fuel+1) listed a w :=
 wpAnyH_all hr (by simp) (fun i hi=>by
  obtain rfl:i=r:=by simpa using hi
  exact h)
theorem wpAnyH_putW {P:Program} {md:Region.Mode} {ops:Array Oper} {Q:Exit→Act→World→Prop} {S:World→Prop} {i d:Nat} {oi:Oper} {v:Value} {fuel:Nat} {listed:Array Bool} {a:Act} {w:World} (hi:ops[i]?=some oi) (hd:oi.dst=some d)
  (hs:Region.noSelect ops=true) (hf:Region.free md ops listed i=true) (hr:(Region.ready md ops listed).contains i=true)
  (hQ:∀ c a w,Q (.panic c) (a.put oi.dst v) w→Q (.panic c) a w) (hy:YieldsIf P ops S oi v a) (hS:S w)
  (h:wpAnyH P md ops Q S fuel (listed.setIfInBounds i true) { a with tmps:=a.tmps.setIfInBounds d v } w):wpAnyH P md ops Q S (fuel+1) listed a w :=
 wpAnyH_take hi hs hf hr hQ hy hS (by
  have e:a.put oi.dst v={ a with tmps:=a.tmps.setIfInBounds d v }:=by rw [hd];rfl
  rw [e];exact h)
theorem lt_blkW {W:World} {R:Nat} {o:Obj} (h:W.heap[R]?=some o):R < W.heap.size:=by
 by_cases hl:R < W.heap.size
 ·exact hl
 have:W.heap[R]?=none:=Array.getElem?_eq_none (by omega);rw [this] at h;cases h
structure But (S:Nat→Prop) (w w':World):Prop where
 os:w'.os=w.os
 tape:w'.tape=w.tape
 output:w'.output=w.output
 size:w.heap.size≤w'.heap.size
 block:∀ k,k < w.heap.size→¬S k→w'.heap[k]?=w.heap[k]?
theorem But.refl (S:Nat→Prop) (w:World):But S w w:=⟨rfl,rfl,rfl,Nat.le_refl _,fun _ _ _=>rfl⟩
theorem But.trans {S:Nat→Prop} {a b c:World} (h:But S a b) (k:But S b c):But S a c :=
 ⟨k.os.trans h.os,k.tape.trans h.tape,k.output.trans h.output,Nat.le_trans h.size k.size,fun g h1 h2=>(k.block g (Nat.lt_of_lt_of_le h1 h.size) h2).trans (h.block g h1 h2)⟩
theorem But.mono {S S':Nat→Prop} {a b:World} (h:But S a b) (k:∀ g,S g→S' g):But S' a b :=
 ⟨h.os,h.tape,h.output,h.size,fun g h1 h2=>h.block g h1 fun h3=>h2 (k g h3)⟩
theorem But.ofGrown {S:Nat→Prop} {a b:World} {g:Nat} (h:a.grownBy b (some g)) (k:S g):But S a b :=
 ⟨h.os,h.tape,h.output,h.size,fun j h1 h2=>h.block j h1 fun h3=>by
  simp at h3;subst h3;exact h2 k⟩
theorem But.ofBelow {S:Nat→Prop} {a b:World} (h:Below a.heap.size a b):But S a b:=⟨h.os,h.tape,h.output,h.size,fun j h1 _=>h.block j h1⟩
theorem But.below {S:Nat→Prop} {a b:World} {B:Nat} (h:But S a b) (hB:B≤a.heap.size) (k:∀ g,S g→B≤g):Below B a b :=
 ⟨h.os,h.tape,h.output,h.size,fun j h1=>h.block j (by omega) fun h3=>by have:=k j h3;omega⟩
theorem But.drew {S:Nat→Prop} {a b:World} (h:But S a b):But S a b.drew:=⟨h.os,h.tape,h.output,h.size,h.block⟩
theorem But.set {S:Nat→Prop} {a b:World} (h:But S a b) (g i:Nat) (v:Value) (k:S g):But S a (b.setCell ⟨g,i,none⟩ v) :=
 h.trans (.ofGrown (grown_set (grown_refl b g) i v) k)
theorem cell_blk {a b:World} {g k:Nat} {o:Obj} (h:a.grownBy b (some g)) (hk:a.heap[k]?=some o) (hne:k≠g):b.heap[k]?=some o:=by
 rw [h.block k (lt_blkW hk) (by simpa using hne)];exact hk
theorem RowV.ne {w:World} {g r:Nat} {e t:TypeId} {xs:List Value} {c:Array Value} {f:Nat×Nat} (h:RowV w r e xs) (k:w.heap[g]?=some (.cells c t f)) (hne:e≠t):g≠r:=by
 obtain⟨c',h1,_⟩:=h;rintro rfl;rw [h1] at k;simp at k;exact hne k.2.1
theorem RowV.but {S:Nat→Prop} {w w':World} {r:Nat} {e:TypeId} {xs:List Value} (h:RowV w r e xs) (hb:But S w w') (hn:¬S r):RowV w' r e xs:=by
 obtain⟨c,h1,h2⟩:=h;exact⟨c,by rw [hb.block r (lt_blkW h1) hn];exact h1,h2⟩
theorem But.at {S:Nat→Prop} {w w':World} {g:Nat} {o:Obj} (hb:But S w w') (h:w.heap[g]?=some o) (hn:¬S g):w'.heap[g]?=some o:=by
 rw [hb.block g (lt_blkW h) hn];exact h
def pushF (n:Nat) (xs:List Int) (x:Int):List Int×Int:=if xs.length < n then (xs++[x],-1) else (xs.tail++[x],xs[0]?.getD 0)
def Qu (w:World) (G r n:Nat) (xs:List Int):Prop :=
 ∃ (ps:List Int) (o h:Nat),w.heap[G]?=some (.cells #[Vl r n n,Vi (o:Nat),Vi (h:Nat)] 157 (0,0))∧RowV w r 3 (Ns .i64 ps)∧ps.length=n∧o < n∧h≤n∧(h < n→o=0)∧xs=(ps.drop o++ps.take o).take h
theorem Qu.but {S:Nat→Prop} {w w':World} {G r n:Nat} {xs:List Int} (h:Qu w G r n xs) (hb:But S w w') (h1:¬S G) (h2:¬S r):Qu w' G r n xs:=by
 obtain⟨ps,o,h,a,b,c⟩:=h;exact⟨ps,o,h,hb.at a h1,b.but hb h2,c⟩
theorem qpush_more (G r n h:Nat) (ps:List Int) (x d:Int) (w:World) (hb:w.heap[G]?=some (.cells #[Vl r n n,Vi (0:Nat),Vi (h:Nat)] 157 (0,0))) (hr:RowV w r 3 (Ns .i64 ps)) (hn:ps.length=n) (hlt:h < n) (hnl:n≤1024) :
  Calls Tryz.prog 265 #[Vp G 0,Vi x,Vi d] w fun e w'=>e=.returned (Vi (-1))∧w'.heap[G]?=some (.cells #[Vl r n n,Vi (0:Nat),Vi (h+1:Nat)] 157 (0,0))∧RowV w' r 3 (Ns .i64 (ps.set h x))∧But (fun k=>k=G∨k=r) w w':=by
  have hne:G≠r:=hr.ne hb (by decide);have c0:w.cell? ⟨G,0,none⟩=some (Vl r n n):=by rw [cell_of_row _ _ _ _ _ _ hb];rfl
  have c1:w.cell? ⟨G,1,none⟩=some (Vi (0:Nat)):=by rw [cell_of_row _ _ _ _ _ _ hb];rfl
  have c2:w.cell? ⟨G,2,none⟩=some (Vi (h:Nat)):=by rw [cell_of_row _ _ _ _ _ _ hb];rfl
  have hlt':(h:Int) < (n:Int):=by omega
  have SW:=hid (swap_in G r n n 0 h h ps x w.drew.drew (by rw [Nat.zero_add,Nat.mod_eq_of_lt hlt]) hn (by omega) (by omega) (by omega) (by omega) c0 c1 hr);have HB:=hid hb;clear hb hr hn;go_enter Tryz.func265,Tryz.ntmps265;go_wp2;go_region;go_wp2;refine wp_region_held (S:=fun W=>W.cell? ⟨G,2,none⟩=some (Vi (h:Nat))∧Hid (W.heap[G]?=some (.cells #[Vl r n n,Vi (0:Nat),Vi (h:Nat)] 157 (0,0)))) (by kernel_rfl) ?_;simp only [List.size_toArray,List.length_cons,List.length_nil,Nat.reduceAdd,Array.replicate_succ,Array.replicate_zero,List.push_toArray,List.nil_append,List.cons_append];have hS:=(show _∧Hid _ from ⟨c2,HB⟩)
  iterate 9 (refine py hS ?_;simp only [f0,f1,Nat.reduceAdd,lz,l0,ls])
  refine wpAnyH_oneW (r:=9) (by kernel_rfl) ?_;refine wpOp_doW rfl (by kernel_rfl) (fun K' hK=>?_);go_simp;refine (SW.out).mono ?_;rintro e w1 ⟨rfl,r1,g1⟩;have hS1:=hid (cell_blk (k:=G) g1 HB.out hne);refine hK.out _ _ ⟨⟨by rw [cell_of_row _ _ _ _ _ _ hS1.out];rfl,hS1⟩,?_⟩;have R1:=hid r1;have G1:=hid g1;clear hS r1 g1;clear hK K';refine wpAnyH_done (by kernel_rfl) ?_ _;have c2':w1.cell? ⟨G,2,none⟩=some (Vi (h:Nat)):=by rw [cell_of_row _ _ _ _ _ _ hS1.out];rfl
  have f2':w1.frozen? ⟨G,2,none⟩=false:=frozen_of_row _ _ _ _ _ hS1.out;go_wp2;go_ret;refine⟨rfl,?_,?_,?_⟩
  ·rw [heap_setCell_same _ _ _ _ _ _ hS1.out];rfl
  ·exact R1.out.other (by simpa using hne.symm) _
  exact ((But.refl _ w).drew.drew.trans (.ofGrown G1.out (.inr rfl))).set _ _ _ (.inl rfl)
end Go.Proofs.YtacccpkmgkojiaaGreatDoorRR
namespace Go.Proofs.YtacccpkmgkojiaaGreatDoorRR
set_option linter.unusedVariables false
set_option linter.unusedSimpArgs false
set_option maxRecDepth 20000
set_option maxHeartbeats 8000000
open Go.ChangeShapes Go.WideShapes Go.ChangeAt Go.RowKit
theorem qpush_full (G r n o k:Nat) (ps:List Int) (x d:Int) (w:World) (hb:w.heap[G]?=some (.cells #[Vl r n n,Vi (o:Nat),Vi (n:Nat)] 157 (0,0))) (hr:RowV w r 3 (Ns .i64 ps)) (hn:ps.length=n) (ho:o < n) (hnl:n≤1024) (hk:(o+1) % n=k) :
  Calls Tryz.prog 265 #[Vp G 0,Vi x,Vi d] w fun e w'=>e=.returned (Vi (ps[o]?.getD 0))∧w'.heap[G]?=some (.cells #[Vl r n n,Vi (k:Nat),Vi (n:Nat)] 157 (0,0))∧RowV w' r 3 (Ns .i64 (ps.set o x))∧But (fun k=>k=G∨k=r) w w':=by
 have hne:G≠r:=hr.ne hb (by decide);have c0:w.cell? ⟨G,0,none⟩=some (Vl r n n):=by rw [cell_of_row _ _ _ _ _ _ hb];rfl
 have c1:w.cell? ⟨G,1,none⟩=some (Vi (o:Nat)):=by rw [cell_of_row _ _ _ _ _ _ hb];rfl
 have c2:w.cell? ⟨G,2,none⟩=some (Vi (n:Nat)):=by rw [cell_of_row _ _ _ _ _ _ hb];rfl
 have SW:=hid (swap_in G r n n o 0 o ps x w.drew (by rw [Nat.add_zero,Nat.mod_eq_of_lt ho]) hn (by omega) (by omega) (by omega) (by omega) c0 c1 hr);have HB:=hid hb;have h1:((n:Int)==0)=false:=by simp;omega
 have he:((o:Int)+1) % (n:Int)=(k:Int):=by rw [←hk];simp
 clear hb hr hn hk;go_enter Tryz.func265,Tryz.ntmps265;go_wp2;go_region;go_wp2_with fail;refine (SW.out).mono ?_;rintro e w1 ⟨rfl,r1,g1⟩;have hS1:=hid (cell_blk (k:=G) g1 HB.out hne);have R1:=hid r1;have G1:=hid g1;clear r1 g1 c0 c1 c2;have c0:w1.cell? ⟨G,0,none⟩=some (Vl r n n):=by rw [cell_of_row _ _ _ _ _ _ hS1.out];rfl
 have c1:w1.cell? ⟨G,1,none⟩=some (Vi (o:Nat)):=by rw [cell_of_row _ _ _ _ _ _ hS1.out];rfl
 have f1:w1.frozen? ⟨G,1,none⟩=false:=frozen_of_row _ _ _ _ _ hS1.out;go_wp2;go_region;rw [he];go_wp2;go_ret;refine⟨rfl,?_,?_,?_⟩
 ·show (w1.setCell ⟨G,1,none⟩ _).heap[G]?=_;rw [heap_setCell_same _ _ _ _ _ _ hS1.out];rfl
 ·exact (R1.out.other (by simpa using hne.symm) _).drew
 exact (((But.refl _ w).drew.trans (.ofGrown G1.out (.inr rfl))).set _ _ _ (.inl rfl)).drew
theorem drop_set_lt (ps:List Int) (o:Nat) (x:Int) (h:o < ps.length):(ps.set o x).drop (o+1)=ps.drop (o+1):=by
 rw [List.drop_set_of_lt (by omega)]
theorem take_set_succ (ps:List Int) (o:Nat) (x:Int) (h:o < ps.length):(ps.set o x).take (o+1)=ps.take o++[x]:=by
 rw [List.take_add_one,List.take_set_of_le (Nat.le_refl _)];simp [h]
theorem qpush (G r n:Nat) (xs:List Int) (x d:Int) (w:World) (h:Qu w G r n xs) (hnl:n≤1024) :
  Calls Tryz.prog 265 #[Vp G 0,Vi x,Vi d] w fun e w'=>e=.returned (Vi (pushF n xs x).2)∧Qu w' G r n (pushF n xs x).1∧But (fun k=>k=G∨k=r) w w':=by
 obtain⟨ps,o,h,hb,hr,hn,ho,hh,h0,rfl⟩:=h
 by_cases hlt:h < n
 ·obtain rfl:=h0 hlt;refine (qpush_more G r n h ps x d w hb hr hn hlt hnl).mono ?_;rintro e w' ⟨rfl,b,c,f⟩;have e1:(ps.drop 0++ps.take 0).take h=ps.take h:=by simp
  have e2:pushF n (ps.take h) x=(ps.take h++[x],-1):=by
   unfold pushF;rw [if_pos (by simp;omega)]
  rw [e1,e2];refine⟨rfl,⟨ps.set h x,0,h+1,b,c,by simpa using hn,ho,by omega,fun _=>rfl,?_⟩,f⟩;simp only [List.drop_zero,List.take_zero,List.append_nil];rw [take_set_succ _ _ _ (by omega)]
 have hhn:h=n:=by omega
 subst hhn;refine (qpush_full G r h o _ ps x d w hb hr hn ho hnl rfl).mono ?_;rintro e w' ⟨rfl,b,c,f⟩;have hd:ps.drop o=(ps[o]?.getD 0)::ps.drop (o+1):=by
  rw [List.drop_eq_getElem_cons (by omega)];congr 1;rw [List.getElem?_eq_getElem (by omega)];rfl
 have e1:(ps.drop o++ps.take o).take h=ps.drop o++ps.take o:=List.take_of_length_le (by simp;omega);have e2:pushF h (ps.drop o++ps.take o) x=(ps.drop (o+1)++ps.take o++[x],ps[o]?.getD 0):=by
  unfold pushF;rw [if_neg (by simp;omega),hd];rfl
 rw [e1,e2];refine⟨rfl,⟨ps.set o x,_,h,b,c,by simpa using hn,Nat.mod_lt _ (by omega),by omega,fun h=>by omega,?_⟩,f⟩
 by_cases hl:o+1 < h
 ·rw [Nat.mod_eq_of_lt hl,drop_set_lt _ _ _ (by omega),take_set_succ _ _ _ (by omega),List.take_of_length_le (l:=ps.drop (o+1)++(ps.take o++[x])) (by simp;omega),List.append_assoc]
 have ho1:o+1=h:=by omega
 rw [ho1,Nat.mod_self];simp only [List.drop_zero,List.take_zero,List.append_nil];rw [List.drop_of_length_le (by omega),List.nil_append,←ho1,take_set_succ _ _ _ (by omega)]
def wpM (n:Nat) (mix fifo:List Int) (slot draw:Int):List Int×List Int×Int :=
 if mix=[] then ([],(pushF n fifo slot).1,(pushF n fifo slot).2)
 else if mix[md draw mix.length]?.getD 0 = -1 then (mix.set (md draw mix.length) slot,fifo,-1)
 else (mix.set (md draw mix.length) slot,(pushF n fifo (mix[md draw mix.length]?.getD 0)).1,(pushF n fifo (mix[md draw mix.length]?.getD 0)).2)
end Go.Proofs.YtacccpkmgkojiaaGreatDoorRR
namespace Go.Proofs.YtacccpkmgkojiaaGreatDoorRR
set_option linter.unusedVariables false
set_option linter.unusedSimpArgs false
set_option maxRecDepth 20000
set_option maxHeartbeats 8000000
open Go.RowKit
def szN (c:Nat):Nat:=[16,32,48,64,96,128,192,256,384,512,768,1024].getD c 0
def pgN (c:Nat):Nat:=[1,1,1,1,1,1,1,1,2,2,3,4].getD c 0
def slN (c:Nat):Nat:=[64,32,21,16,10,8,5,4,5,4,4,4].getD c 0
def usN (c:Nat):Nat:=szN c - 8
def rgN:Nat→Nat
 | 0=>1
 | c+1=>rgN c+6*(pgN c+1)
def slabP (c s:Nat):Nat:=rgN c+s*(pgN c+1)
def adr (c s j:Nat):Nat:=slabP c s*1024+j*szN c
def coN (a:Nat):Nat:=((List.range 12).find? fun c=>a+8≤szN c).getD 12
def allS:List (Nat×Nat×Nat):=(List.range 12).flatMap fun c=>(List.range 6).flatMap fun s=>(List.range (slN c)).map fun j=>(c,s,j)
structure Cf where
 mix:Nat
 fifo:Nat
 large:Nat
 bud:Nat
 key:Int
 ds:List Int
structure Rg9 where
 first:Nat
 guards:Nat
 pages:Nat
 st:Int
 rq:Int
def Rg9.base (r:Rg9):Nat:=(r.first+r.guards)*1024
def Rg9.ext (r:Rg9):Nat:=r.guards+r.pages+1
structure Hs where
 m:Nat→Option (Bool×List Int)
 st:Nat→Nat→Nat→Int
 rq:Nat→Nat→Nat→Int
 mx:Nat→List Int
 ff:Nat→List Int
 rg:List Rg9
 row:List Nat
 rel:List Nat
 used:Nat
def newH (cf:Cf):Hs:=⟨fun _=>none,fun _ _ _=>0,fun _ _ _=>0,fun _=>List.replicate cf.mix (-1),fun _=>[],[],[],[],0⟩
def upd3 (f:Nat→Nat→Nat→Int) (c s j:Nat) (v:Int):Nat→Nat→Nat→Int:=fun c' s' j'=>if c'=c∧s'=s∧j'=j then v else f c' s' j'
def updL (f:Nat→List Int) (c:Nat) (v:List Int):Nat→List Int:=fun c'=>if c'=c then v else f c'
def dr (cf:Cf) (h:Hs) (n:Nat):Nat:=((cf.ds[h.used]?.getD 0) % (n:Int)).toNat
def isFree (x:Int):Bool:=x==0 || x==3
def freeS (h:Hs) (c s:Nat):List Nat:=(List.range (slN c)).filter fun j=>isFree (h.st c s j)
def onS (h:Hs) (c s:Nat):Bool:=(h.m (slabP c s)).isSome
def pickS (h:Hs) (c:Nat):Option Nat:=(List.range 6).find? fun s=>onS h c s && !(freeS h c s).isEmpty
def offS (h:Hs) (c:Nat):Option Nat:=(List.range 6).find? fun s => !onS h c s
def roomS (cf:Cf) (h:Hs) (c:Nat):Option (Nat×Hs) :=
 match pickS h c with
 | some s=>some (s,h)
 | none=>match offS h c with
  | none=>none
  | some s=>if cf.bud < cntM h.m 283+pgN c then none else some (s,{ h with m:=freshM h.m (slabP c s) (pgN c) })
def clean (m:Nat→Option (Bool×List Int)) (a n:Nat):Bool:=(loadB m a n).all (· == 0)
def smallM (cf:Cf) (c:Nat):Nat→Hs→Option (Nat×Nat)×Hs
 | 0,h=>(none,h)
 | f+1,h=>match roomS cf h c with
  | none=>(none,h)
  | some (s,h1) =>
   let j:=(freeS h1 c s)[dr cf h1 (freeS h1 c s).length]?.getD 0
   if clean h1.m (adr c s j) (szN c) then (some (s,j),{ h1 with used:=h1.used+1 })
   else smallM cf c f { h1 with used:=h1.used+1,st:=upd3 h1.st c s j 4 }
def can (cf:Cf) (a:Nat):List Int:=cRow (cx cf.key (a:Int))
def pagesN (a:Nat):Nat:=a/1024+(if a % 1024 > 0 then 1 else 0)
def roomL (h:Hs) (n:Nat):Option Nat:=((List.range 97).find? fun i=>decide (i+n≤96) && h.rg.all fun r=>decide (187+i+n≤r.first) || decide (r.first+r.ext≤187+i)).map (187 + ·)
def mallocM (cf:Cf) (h:Hs) (a:Nat):Option Nat×Hs :=
 if a≤1016 then
  match smallM cf (coN a) 2000 h with
  | (none,h1)=>(none,h1)
  | (some (s,j),h1)=>(some (adr (coN a) s j),{ h1 with st:=upd3 h1.st (coN a) s j 1,rq:=upd3 h1.rq (coN a) s j a,m:=storeM h1.m (adr (coN a) s j+usN (coN a)) (can cf (adr (coN a) s j)) 8 })
 else
  let g:=1+dr cf h 3
  let h1:={ h with used:=h.used+1 }
  let p:=pagesN a
  if 96 < p then (none,h1) else
  match roomL h1 (g+p+1) with
  | none=>(none,h1)
  | some s=>if cf.bud < cntM h1.m 283+p then (none,h1)
   else (some ((s+g)*1024),{ h1 with m:=freshM h1.m (s+g) p,rg:=h1.rg++[⟨s,g,p,1,a⟩],rel:=h1.rel.filter fun b=>b/1024 < s || s+(g+p+1)≤b/1024 })
inductive Fd where
 | slot (c s j:Nat)
 | range (r:Rg9)
 | no (code:Int)
def slotAt (p:Nat):Option (Nat×Nat×Nat):=allS.find? fun t=>adr t.1 t.2.1 t.2.2==p
def findM (h:Hs) (p:Nat):Fd :=
 match slotAt p with
 | some (c,s,j)=>if h.st c s j=1 then .slot c s j else if h.st c s j=0 then .no 3 else .no 4
 | none=>match h.rg.find? fun r=>r.base==p with
  | some r=>if r.st=1 then .range r else .no 4
  | none=>if h.rel.contains p then .no 4 else .no 3
def sound (cf:Cf) (h:Hs) (c s j:Nat):Bool:=loadB h.m (adr c s j+usN c) 8==can cf (adr c s j)
def releaseM (h:Hs) (c s j:Nat):Hs :=
 let h1:={ h with st:=upd3 h.st c s j 3 }
 if (freeS h1 c s).length=slN c then { h1 with m:=goneM h1.m (slabP c s) (pgN c) } else h1
def freeSlot (cf:Cf) (h:Hs) (c s j:Nat):Hs :=
 let h1:={ h with m:=storeM h.m (adr c s j) (List.replicate (szN c) 0) (szN c),st:=upd3 h.st c s j 2,rq:=upd3 h.rq c s j 0 }
 let d:Nat:=if cf.mix=0 then 0 else dr cf h1 cf.mix
 let h2:=if cf.mix=0 then h1 else { h1 with used:=h1.used+1 }
 let r:=wpM cf.fifo (h2.mx c) (h2.ff c) ((s*slN c+j:Nat):Int) (d:Int)
 let h3:={ h2 with mx:=updL h2.mx c r.1,ff:=updL h2.ff c r.2.1 }
 if r.2.2 = -1 then h3 else releaseM h3 c (r.2.2.toNat/slN c) (r.2.2.toNat % slN c)
def freeRange (cf:Cf) (h:Hs) (r:Rg9):Hs :=
 let h1:={ h with m:=goneM h.m (r.first+r.guards) r.pages,rg:=h.rg.map fun x=>if x.base=r.base then { x with st:=2,rq:=0 } else x,row:=h.row++[r.base] }
 if cf.large < h1.row.length then { h1 with rg:=h1.rg.filter fun x=>x.base≠h1.row[0]?.getD 0,rel:=h1.rel++[h1.row[0]?.getD 0],row:=h1.row.tail } else h1
structure An4 where
 code:Int
 addr:Nat
 size:Nat
 data:List Int
def An4.no (c:Int):An4:=⟨c,0,0,[]⟩
def freeM (cf:Cf) (h:Hs):Fd→Hs
 | .slot c s j=>freeSlot cf h c s j
 | .range r=>freeRange cf h r
 | .no _=>h
def copyM (m:Nat→Option (Bool×List Int)) (p q n:Nat):Nat→Option (Bool×List Int):=storeM m q (loadB m p n) n
def reallocM (cf:Cf) (h:Hs) (p a:Nat):An4×Hs :=
 let take (old:Nat):An4×Hs :=
  match mallocM cf h a with
  | (none,h1)=>(.no 1,h1)
  | (some q,h1)=>let h2:={ h1 with m:=copyM h1.m p q (min old a) }
   (⟨0,q,0,[]⟩,freeM cf h2 (findM h2 p))
 if p=0 then
  match mallocM cf h a with
  | (none,h1)=>(.no 1,h1)
  | (some q,h1)=>(⟨0,q,0,[]⟩,h1)
 else match findM h p with
  | .no code=>(.no code,h)
  | .slot c s j=>if sound cf h c s j=false then (.no 5,h)
   else if a≤1016∧coN a=c then (⟨0,p,0,[]⟩,{ h with rq:=upd3 h.rq c s j a })
   else take (h.rq c s j).toNat
  | .range r=>if 1016 < a∧pagesN a=r.pages then (⟨0,p,0,[]⟩,{ h with rg:=h.rg.map fun x=>if x.base=r.base then { x with rq:=a } else x })
   else take r.rq.toNat
structure Op6 where
 kd:Int
 ref:Int
 p:Nat
 a:Nat
 b:Nat
 ys:List Int
def doM (cf:Cf) (h:Hs) (o:Op6) (p:Nat):An4×Hs :=
 let mal (n:Nat):An4×Hs:=match mallocM cf h n with
  | (none,h1)=>(.no 1,h1)
  | (some q,h1)=>(⟨0,q,0,[]⟩,h1)
 if o.kd=0 then mal o.a
 else if o.kd=1 then (if 18446744073709551616≤o.a*o.b then (.no 1,h) else mal (o.a*o.b))
 else if o.kd=2 then reallocM cf h p o.a
 else if o.kd=3 then
  match findM h p with
  | .no code=>(.no code,h)
  | .slot c s j=>if sound cf h c s j=false then (.no 5,h) else (.no 0,freeSlot cf h c s j)
  | .range r=>(.no 0,freeRange cf h r)
 else if o.kd=4 then
  match findM h p with
  | .no code=>(.no code,h)
  | .slot c s j=>(⟨0,0,usN c,[]⟩,h)
  | .range r=>(⟨0,0,r.pages*1024,[]⟩,h)
 else if o.kd=5 then (if 4096 < o.a then (.no 6,h) else (⟨accC h.m p (o.a:Int),0,0,if accC h.m p (o.a:Int)=0 then loadB h.m p o.a else []⟩,h))
 else if o.kd=6 then (.no (accC h.m p (o.ys.length:Int)),{ h with m:=if accC h.m p (o.ys.length:Int)=0 then storeM h.m p o.ys o.ys.length else h.m })
 else (.no 6,h)
def stepH (cf:Cf) (h:Hs) (an:List An4) (o:Op6):An4×Hs :=
 if o.ref=0 then doM cf h o o.p
 else if o.ref < 0∨(an.length:Int) < o.ref then (.no 6,h)
 else doM cf h o ((o.p+((an[o.ref.toNat - 1]?.map An4.addr).getD 0)) % 18446744073709551616)
def runH (cf:Cf):List Op6→Hs→List An4→Hs×List An4
 | [],h,an=>(h,an)
 | o::r,h,an=>runH cf r (stepH cf h an o).2 (an++[(stepH cf h an o).1])
end Go.Proofs.YtacccpkmgkojiaaGreatDoorRR
namespace Go.Proofs.YtacccpkmgkojiaaGreatDoorRR
set_option linter.unusedVariables false
set_option linter.unusedSimpArgs false
set_option maxRecDepth 20000
set_option maxHeartbeats 8000000
open Go.RowKit
theorem cls {c:Nat} (h:c < 12):c=0∨c=1∨c=2∨c=3∨c=4∨c=5∨c=6∨c=7∨c=8∨c=9∨c=10∨c=11:=by omega
theorem sz_c {c:Nat} (h:c < 12):sz (c:Int)=(szN c:Nat):=by
 rcases cls h with rfl|rfl|rfl|rfl|rfl|rfl|rfl|rfl|rfl|rfl|rfl|rfl <;> decide
theorem pg_c {c:Nat} (h:c < 12):pg (c:Int)=(pgN c:Nat):=by
 rcases cls h with rfl|rfl|rfl|rfl|rfl|rfl|rfl|rfl|rfl|rfl|rfl|rfl <;> decide
theorem sl_c {c:Nat} (h:c < 12):sl (c:Int)=(slN c:Nat):=by
 rcases cls h with rfl|rfl|rfl|rfl|rfl|rfl|rfl|rfl|rfl|rfl|rfl|rfl <;> decide
theorem us_c {c:Nat} (h:c < 12):us (c:Int)=(usN c:Nat):=by
 rcases cls h with rfl|rfl|rfl|rfl|rfl|rfl|rfl|rfl|rfl|rfl|rfl|rfl <;> decide
theorem rs_c {c:Nat} (h:c < 12):rs (c:Int)=(rgN c:Nat):=by
 rcases cls h with rfl|rfl|rfl|rfl|rfl|rfl|rfl|rfl|rfl|rfl|rfl|rfl <;> decide
theorem szN_in {c:Nat} (h:c < 12):16≤szN c∧szN c≤1024∧1≤pgN c∧pgN c≤4∧4≤slN c∧slN c≤64∧slN c*szN c≤pgN c*1024∧usN c+8=szN c∧rgN c+6*(pgN c+1)≤187∧1≤rgN c:=by
 rcases cls h with rfl|rfl|rfl|rfl|rfl|rfl|rfl|rfl|rfl|rfl|rfl|rfl <;> decide
theorem slabP_in {c s:Nat} (h:c < 12) (hs:s < 6):1≤slabP c s∧slabP c s+pgN c < 187:=by
 have:=szN_in h;unfold slabP;have:s*(pgN c+1)≤5*(pgN c+1):=Nat.mul_le_mul_right _ (by omega);omega
theorem adr_in {c s j:Nat} (h:c < 12) (hs:s < 6) (hj:j < slN c):1024≤adr c s j∧adr c s j+szN c≤(slabP c s+pgN c)*1024∧adr c s j+szN c < 191488:=by
 have h1:=szN_in h;have h2:=slabP_in h hs;have h3:j*szN c+szN c≤slN c*szN c:=by
  have:(j+1)*szN c≤slN c*szN c:=Nat.mul_le_mul_right _ hj;rw [Nat.add_mul,Nat.one_mul] at this;exact this
 unfold adr;omega
theorem co_c {a:Nat} (h:a≤1016):co (a:Int)=(coN a:Nat)∧coN a < 12∧a+8≤szN (coN a):=by
 have key:∀ a:Fin 1017,co ((a.val:Nat):Int)=(coN a.val:Nat)∧coN a.val < 12∧a.val+8≤szN (coN a.val):=by decide +kernel
 exact key ⟨a,by omega⟩
end Go.Proofs.YtacccpkmgkojiaaGreatDoorRR
namespace Go.Proofs.YtacccpkmgkojiaaGreatDoorRR
set_option linter.unusedVariables false
set_option linter.unusedSimpArgs false
set_option maxRecDepth 20000
set_option maxHeartbeats 8000000
open Go.RowKit
theorem adr_cP {c s j:Nat} (hc:c < 12):(rs (c:Int)+(s:Int)*(pg (c:Int)+1))*1024+(j:Int)*sz (c:Int)=((adr c s j:Nat):Int):=by
 rw [rs_c hc,pg_c hc,sz_c hc];unfold adr slabP;simp
theorem Tb.ofBelow {W W':World} (h:Tb W) (hb:Below W.heap.size W W'):Tb W':=by
 obtain⟨t,fr,h⟩:=h.row;exact⟨t,fr,by rw [hb.block 0 (lt_blk h)];exact h⟩
theorem im_keptP (a:Addr) (W:World):Calls Tryz.prog 266 #[.pointer (some a)] W fun e W'=>e=.returned (.pointer (some a))∧W'=W:=by
 go_enter Tryz.func266,Tryz.ntmps266;go_wp2;go_ret;exact⟨rfl,rfl⟩
structure Sc (g b c s j:Nat) (W:World):Prop where
 c2:W.cell? ⟨g,2,none⟩=some (Vp b 0)
 c3:W.cell? ⟨g,3,none⟩=some (Vi (j:Nat))
 d0:W.cell? ⟨b,0,none⟩=some (Vi (c:Nat))
 d1:W.cell? ⟨b,1,none⟩=some (Vi (s:Nat))
 tb:Tb W
 hc:c < 12
 hs:s < 6
 hj:j < slN c
theorem Sc.below {g b c s j:Nat} {W W':World} (h:Sc g b c s j W) (k:Below W.heap.size W W'):Sc g b c s j W':=⟨below_cell k h.c2,below_cell k h.c3,below_cell k h.d0,below_cell k h.d1,h.tb.ofBelow k,h.hc,h.hs,h.hj⟩
theorem im_sbase (g b c s j:Nat) (W:World) (h:Sc g b c s j W) :
  Calls Tryz.prog 100 #[Vp g 0] W fun e W'=>e=.returned (Vu (adr c s j:Nat))∧Below W.heap.size W W':=by
 obtain⟨c2,c3,d0,d1,ht,hc,hs,hj⟩:=h;have C:=hid (im_SlotAddr_yes (c:Nat) (s:Nat) (j:Nat) ⟨by omega,by omega,by omega,by omega,by omega,by rw [sl_c hc];omega⟩ W.drew ⟨ht.row⟩);rw [adr_cP hc] at C;have CK:=hid (show ∀ W9,Below W.heap.size W W9→W9.cell? ⟨g,2,none⟩=some (Vp b 0)∧W9.cell? ⟨g,3,none⟩=some (Vi (j:Nat))∧W9.cell? ⟨b,0,none⟩=some (Vi (c:Nat))∧W9.cell? ⟨b,1,none⟩=some (Vi (s:Nat)) from fun W9 k=>⟨below_cell k c2,below_cell k c3,below_cell k d0,below_cell k d1⟩);clear ht hc hs hj c2 c3 d0 d1;go_enter Tryz.func100,Tryz.ntmps100;go_upto_region 1 with fail
 refine wp_region_held (S:=fun W9=>W9.cell? ⟨g,2,none⟩=some (Vp b 0)∧W9.cell? ⟨g,3,none⟩=some (Vi (j:Nat))∧W9.cell? ⟨b,0,none⟩=some (Vi (c:Nat))∧W9.cell? ⟨b,1,none⟩=some (Vi (s:Nat))) (by kernel_rfl) ?_;simp only [List.size_toArray,List.length_cons,List.length_nil,Nat.reduceAdd,Array.replicate_succ,Array.replicate_zero,List.push_toArray,List.nil_append,List.cons_append];have hS:=CK.out _ (Below.refl _ _).drew
 iterate 18 (refine py hS ?_;simp only [f0,f1,Nat.reduceAdd,lz,l0,ls])
 refine po 18 fun K' hK=>?_
 go_simp;refine (C.out).mono ?_;rintro e W2 ⟨rfl,b2⟩;have k2:Below W.heap.size W W2:=⟨b2.os,b2.tape,b2.output,b2.size,b2.block⟩;have h2:=CK.out _ k2;refine hK.out _ _ ⟨h2,?_⟩;clear hS;have hS:=h2;clear hK K'
 iterate 5 (refine py hS ?_;simp only [f0,f1,Nat.reduceAdd,lz,l0,ls])
 refine wpAnyH_done (by kernel_rfl) ?_ _;have K2:=hid k2;clear k2 b2 hS h2 C CK;go_wp2;go_ret;exact⟨rfl,K2.out⟩
theorem im_susable (g b c s j:Nat) (W:World) (h:Sc g b c s j W) :
  Calls Tryz.prog 141 #[Vp g 0] W fun e W'=>e=.returned (Vi (usN c:Nat))∧W'=W:=by
 obtain⟨c2,c3,d0,d1,ht,hc,hs,hj⟩:=h;have C:=hid (im_Usable (c:Nat) W ht);rw [us_c hc] at C;clear ht hc c3 d1 hs hj;go_enter Tryz.func141,Tryz.ntmps141;go_wp2_with fail;refine (C.out).mono ?_;rintro e W2 ⟨rfl,rfl⟩;go_wp2;go_ret;exact⟨rfl,rfl⟩
theorem im_canaryAt (g b c s j:Nat) (W:World) (h:Sc g b c s j W) :
  Calls Tryz.prog 97 #[Vp g 0] W fun e W'=>e=.returned (Vu (adr c s j+usN c:Nat))∧Below W.heap.size W W':=by
 have C:=hid (im_sbase g b c s j W h);have D:=hid (fun W' (hb:Below W.heap.size W W')=>im_susable g b c s j W' (h.below hb));have ha:=adr_in h.hc h.hs h.hj;have hu:=szN_in h.hc;have hu2:usN c≤1016:=by omega
 have HE:=hid (show ((adr c s j+usN c:Nat):Int)=(adr c s j:Int)+(usN c:Int) by omega);have hA:adr c s j≤200000:=by omega
 generalize adr c s j=A at *;generalize usN c=u at *;clear h ha hu;go_enter Tryz.func97,Tryz.ntmps97;go_wp2_with fail;refine (C.out).mono ?_;rintro e W2 ⟨rfl,b2⟩;have B2:=hid b2;clear b2 C;go_wp2_with fail;refine (D.out _ B2.out).mono ?_;rintro e W3 ⟨rfl,rfl⟩;clear D;go_wp2;go_ret;refine⟨?_,B2.out⟩;rw [HE.out];rfl
theorem im_pagesFor (a:Nat) (W:World) (ha:a < 18446744073709551616) :
  Calls Tryz.prog 131 #[Vu (a:Nat)] W fun e W'=>e=.returned (Vi (pagesN a:Nat))∧W'=W:=by
 unfold pagesN
 by_cases hr:a % 1024 > 0
 ·rw [if_pos hr];have HE:=hid (show (((a/1024+1:Nat):Nat):Int)=(a:Int)/1024+1 by omega);go_enter Tryz.func131,Tryz.ntmps131;go_wp2;go_ret;rw [HE.out];exact⟨rfl,rfl⟩
 rw [if_neg hr];have HE:=hid (show (((a/1024+0:Nat):Nat):Int)=(a:Int)/1024 by omega);go_enter Tryz.func131,Tryz.ntmps131;go_wp2;go_ret;rw [HE.out];exact⟨rfl,rfl⟩
structure Lc (g:Nat) (r:Rg9) (W:World):Prop where
 c0:W.cell? ⟨g,0,none⟩=some (Vi r.st)
 c1:W.cell? ⟨g,1,none⟩=some (Vi r.rq)
 c2:W.cell? ⟨g,2,none⟩=some (Vi (r.first:Nat))
 c3:W.cell? ⟨g,3,none⟩=some (Vi (r.guards:Nat))
 c4:W.cell? ⟨g,4,none⟩=some (Vi (r.pages:Nat))
 hf:r.first≤300
 hu:r.guards≤3
 hp:r.pages≤18014398509481984
theorem Lc.below {g:Nat} {r:Rg9} {W W':World} (h:Lc g r W) (k:Below W.heap.size W W'):Lc g r W':=⟨below_cell k h.c0,below_cell k h.c1,below_cell k h.c2,below_cell k h.c3,below_cell k h.c4,h.hf,h.hu,h.hp⟩
theorem im_lbase (g:Nat) (r:Rg9) (W:World) (h:Lc g r W) :
  Calls Tryz.prog 133 #[Vp g 0] W fun e W'=>e=.returned (Vu (r.base:Nat))∧W'=W.drew:=by
 obtain⟨_,_,c2,c3,_,hf,hu,_⟩:=h;have HE:=hid (show ((r.base:Nat):Int)=((r.first:Int)+(r.guards:Int))*1024 by unfold Rg9.base;omega);generalize r.first=f at *
 generalize r.guards=u at *;go_enter Tryz.func133,Tryz.ntmps133;go_wp2;go_region;go_wp2;go_ret;rw [HE.out];exact⟨rfl,rfl⟩
theorem im_lusable (g:Nat) (r:Rg9) (W:World) (h:Lc g r W) (hp9:r.pages≤300) :
  Calls Tryz.prog 267 #[Vp g 0] W fun e W'=>e=.returned (Vi (r.pages*1024:Nat))∧W'=W:=by
 obtain⟨_,_,_,_,c4,_,_,_⟩:=h;have HE:=hid (show ((r.pages*1024:Nat):Int)=(r.pages:Int)*1024 by omega);generalize r.pages=p at *;go_enter Tryz.func267,Tryz.ntmps267;go_wp2;go_ret;rw [HE.out];exact⟨rfl,rfl⟩
theorem im_extent (g:Nat) (r:Rg9) (W:World) (h:Lc g r W) :
  Calls Tryz.prog 107 #[Vp g 0] W fun e W'=>e=.returned (Vi (r.ext:Nat))∧W'=W.drew:=by
 obtain⟨_,_,_,c3,c4,_,hu,hp⟩:=h;have HE:=hid (show ((r.ext:Nat):Int)=(r.guards:Int)+(r.pages:Int)+1 by unfold Rg9.ext;omega);generalize r.guards=u at *;generalize r.pages=p at *;go_enter Tryz.func107,Tryz.ntmps107;go_wp2;go_region;go_wp2;go_ret;rw [HE.out];exact⟨rfl,rfl⟩
end Go.Proofs.YtacccpkmgkojiaaGreatDoorRR
namespace Go.Proofs.YtacccpkmgkojiaaGreatDoorRR
set_option linter.unusedVariables false
set_option linter.unusedSimpArgs false
set_option maxRecDepth 20000
set_option maxHeartbeats 8000000
open Go.ChangeShapes Go.WideShapes Go.ChangeAt Go.RowKit
theorem mpush_empty (M G r n k:Nat) (mix:List Int) (x d:Int) (w:World) (hb:w.heap[M]?=some (.cells #[Vl r n n,Vi (0:Nat),Vi (n:Nat),.iface 84 (Vp G 0)] 159 (0,0))) (hr:RowV w r 3 (Ns .i64 mix)) (hn:mix.length=n) (h0:0 < n) (hnl:n≤1024) (hk:md d n=k) (hm:mix[k]?.getD 0 = -1) :
  Calls Tryz.prog 263 #[Vp M 0,Vi x,Vi d] w fun e w'=>e=.returned (Vi (-1))∧RowV w' r 3 (Ns .i64 (mix.set k x))∧w.grownBy w' (some r):=by
 have hne:M≠r:=hr.ne hb (by decide);have c0:w.cell? ⟨M,0,none⟩=some (Vl r n n):=by rw [cell_of_row _ _ _ _ _ _ hb];rfl
 have c1:w.cell? ⟨M,1,none⟩=some (Vi (0:Nat)):=by rw [cell_of_row _ _ _ _ _ _ hb];rfl
 have c2:w.cell? ⟨M,2,none⟩=some (Vi (n:Nat)):=by rw [cell_of_row _ _ _ _ _ _ hb];rfl
 have hkn:k < n:=hk▸md_lt d n h0;have SW:=hid (swap_in M r n n 0 k k mix x w.drew (by rw [Nat.zero_add,Nat.mod_eq_of_lt hkn]) hn h0 (by omega) (by omega) (by omega) c0 c1 hr);have MD:=hid (fun W=>modulo_in d n W h0 (by omega));rw [hk] at MD;have HB:=hid hb;clear hb hr hn hk;rw [hm] at SW;go_enter Tryz.func263,Tryz.ntmps263;go_wp2;refine wp_region_held (S:=fun W=>W.cell? ⟨M,2,none⟩=some (Vi (n:Nat))∧Hid (W.heap[M]?=some (.cells #[Vl r n n,Vi (0:Nat),Vi (n:Nat),.iface 84 (Vp G 0)] 159 (0,0)))) (by kernel_rfl) ?_;simp only [List.size_toArray,List.length_cons,List.length_nil,Nat.reduceAdd,Array.replicate_succ,Array.replicate_zero,List.push_toArray,List.nil_append,List.cons_append];have hS:=(show _∧Hid _ from ⟨c2,HB⟩)
 iterate 9 (refine py hS ?_;simp only [f0,f1,Nat.reduceAdd,lz,l0,ls])
 refine pk 10 18 (Vi x) hS ?_;simp only [lz,l0,ls];refine wpAnyH_oneW (r:=9) (by kernel_rfl) ?_;refine wpOp_doW rfl (by kernel_rfl) (fun K' hK=>?_);go_simp;refine (MD.out _).mono ?_;rintro e w1 ⟨rfl,rfl⟩;refine hK.out _ _ ⟨hS,?_⟩;clear hK K';refine wpAnyH_oneW (r:=11) (by kernel_rfl) ?_;refine wpOp_doW rfl (by kernel_rfl) (fun K' hK=>?_);go_simp;refine (SW.out).mono ?_;rintro e w1 ⟨rfl,r1,g1⟩;have hS1:=hid (cell_blk (k:=M) g1 HB.out hne);have hS2:w1.cell? ⟨M,2,none⟩=some (Vi (n:Nat))∧Hid (w1.heap[M]?=some (.cells #[Vl r n n,Vi (0:Nat),Vi (n:Nat),.iface 84 (Vp G 0)] 159 (0,0))):=⟨by rw [cell_of_row _ _ _ _ _ _ hS1.out];rfl,hS1⟩;refine hK.out _ _ ⟨hS2,?_⟩;have R1:=hid r1;have G1:=hid g1;clear hS r1 g1;have hS:=hS2;clear hK K';refine pk 12 7 (Vi (-1)) hS ?_;simp only [lz,l0,ls];refine wpAnyH_done (by kernel_rfl) ?_ _;go_wp2;go_ret;exact⟨rfl,R1.out,⟨G1.out.os,G1.out.tape,G1.out.output,G1.out.size,G1.out.block⟩⟩
theorem meth_q (a : Addr) (w : World) : (method 660 84 (.pointer (some a)) "loop.example/s01868/impl.push").run Tryz.prog w = .ok (265, .pointer (some a)) w := by kernel_rfl
theorem meth_m (a : Addr) (w : World) : (method 660 83 (.pointer (some a)) "loop.example/s01868/impl.push").run Tryz.prog w = .ok (263, .pointer (some a)) w := by kernel_rfl
theorem mpush_on (M G r n k:Nat) (mix:List Int) (x d:Int) (w:World) (hb:w.heap[M]?=some (.cells #[Vl r n n,Vi (0:Nat),Vi (n:Nat),.iface 84 (Vp G 0)] 159 (0,0))) (hr:RowV w r 3 (Ns .i64 mix)) (hn:mix.length=n) (h0:0 < n) (hnl:n≤1024) (hk:md d n=k) (y:Int) (hy:mix[k]?.getD 0=y) (hm:y ≠ -1)
  (R:Value→World→Prop) (C:∀ w1,RowV w1 r 3 (Ns .i64 (mix.set k x))→w.grownBy w1 (some r)→Calls Tryz.prog 265 #[Vp G 0,Vi y,Vi d] w1 fun e w'=>∃ z,e=.returned (Vi z)∧R (Vi z) w') :
  Calls Tryz.prog 263 #[Vp M 0,Vi x,Vi d] w fun e w'=>∃ z,e=.returned (Vi z)∧R (Vi z) w':=by
 have hne:M≠r:=hr.ne hb (by decide);have c0:w.cell? ⟨M,0,none⟩=some (Vl r n n):=by rw [cell_of_row _ _ _ _ _ _ hb];rfl
 have c1:w.cell? ⟨M,1,none⟩=some (Vi (0:Nat)):=by rw [cell_of_row _ _ _ _ _ _ hb];rfl
 have c2:w.cell? ⟨M,2,none⟩=some (Vi (n:Nat)):=by rw [cell_of_row _ _ _ _ _ _ hb];rfl
 have hkn:k < n:=hk▸md_lt d n h0;have SW:=hid (swap_in M r n n 0 k k mix x w.drew (by rw [Nat.zero_add,Nat.mod_eq_of_lt hkn]) hn h0 (by omega) (by omega) (by omega) c0 c1 hr);have MD:=hid (fun W=>modulo_in d n W h0 (by omega));rw [hk] at MD;have HB:=hid hb;clear hb hr hn hk;rw [hy] at SW;have CC:=hid C;clear C;have hm':(y == -1)=false:=by simpa using hm
 go_enter Tryz.func263,Tryz.ntmps263;go_wp2;refine wp_region_held (S:=fun W=>W.cell? ⟨M,2,none⟩=some (Vi (n:Nat))∧Hid (W.heap[M]?=some (.cells #[Vl r n n,Vi (0:Nat),Vi (n:Nat),.iface 84 (Vp G 0)] 159 (0,0)))) (by kernel_rfl) ?_;simp only [List.size_toArray,List.length_cons,List.length_nil,Nat.reduceAdd,Array.replicate_succ,Array.replicate_zero,List.push_toArray,List.nil_append,List.cons_append];have hS:=(show _∧Hid _ from ⟨c2,HB⟩)
 iterate 9 (refine py hS ?_;simp only [f0,f1,Nat.reduceAdd,lz,l0,ls])
 refine pk 10 18 (Vi x) hS ?_;simp only [lz,l0,ls];refine wpAnyH_oneW (r:=9) (by kernel_rfl) ?_;refine wpOp_doW rfl (by kernel_rfl) (fun K' hK=>?_);go_simp;refine (MD.out _).mono ?_;rintro e w1 ⟨rfl,rfl⟩;refine hK.out _ _ ⟨hS,?_⟩;clear hK K';refine wpAnyH_oneW (r:=11) (by kernel_rfl) ?_;refine wpOp_doW rfl (by kernel_rfl) (fun K' hK=>?_);go_simp;refine (SW.out).mono ?_;rintro e w1 ⟨rfl,r1,g1⟩;have hS1:=hid (cell_blk (k:=M) g1 HB.out hne);have hS2:w1.cell? ⟨M,2,none⟩=some (Vi (n:Nat))∧Hid (w1.heap[M]?=some (.cells #[Vl r n n,Vi (0:Nat),Vi (n:Nat),.iface 84 (Vp G 0)] 159 (0,0))):=⟨by rw [cell_of_row _ _ _ _ _ _ hS1.out];rfl,hS1⟩;refine hK.out _ _ ⟨hS2,?_⟩;have R1:=hid r1;have G1:=hid g1;clear hS r1 g1;have hS:=hS2;clear hK K';refine pk 12 7 (Vi (y)) hS ?_;simp only [lz,l0,ls];refine wpAnyH_done (by kernel_rfl) ?_ _;have c3:w1.cell? ⟨M,3,none⟩=some (.iface 84 (Vp G 0)):=by rw [cell_of_row _ _ _ _ _ _ hS1.out];rfl
 have hmq:=fun w=>meth_q ⟨G,0,none⟩ w
 go_wp2_with fail;refine (CC.out w1 R1.out ⟨G1.out.os,G1.out.tape,G1.out.output,G1.out.size,G1.out.block⟩).mono ?_;rintro e w2 ⟨z,rfl,hR⟩;go_wp2;go_ret;exact⟨z,rfl,hR⟩
end Go.Proofs.YtacccpkmgkojiaaGreatDoorRR
namespace Go.Proofs.YtacccpkmgkojiaaGreatDoorRR
set_option linter.unusedVariables false
set_option linter.unusedSimpArgs false
set_option maxRecDepth 20000
set_option maxHeartbeats 8000000
open Go.ChangeShapes Go.WideShapes Go.ChangeAt Go.RowKit
def Mx (w:World) (M r G:Nat) (mix:List Int):Prop:=w.heap[M]?=some (.cells #[Vl r mix.length mix.length,Vi (0:Nat),Vi (mix.length:Nat),.iface 84 (Vp G 0)] 159 (0,0))∧RowV w r 3 (Ns .i64 mix)
theorem Mx.but {S:Nat→Prop} {w w':World} {M r G:Nat} {mix:List Int} (h:Mx w M r G mix) (hb:But S w w') (h1:¬S M) (h2:¬S r):Mx w' M r G mix :=
 ⟨hb.at h.1 h1,h.2.but hb h2⟩
structure Qr (w:World) (M rm G rq n:Nat) (mix fifo:List Int):Prop where
 mx:Mx w M rm G mix
 qu:Qu w G rq n fifo
 ne:rm≠rq
theorem Qr.sep {w:World} {M rm G rq n:Nat} {mix fifo:List Int} (h:Qr w M rm G rq n mix fifo):M≠G∧M≠rq∧M≠rm∧G≠rm∧G≠rq:=by
 obtain⟨⟨a,b⟩,⟨ps,o,hh,c,d,_⟩,e⟩:=h;refine⟨?_,d.ne a (by decide),b.ne a (by decide),b.ne c (by decide),d.ne c (by decide)⟩;rintro rfl;rw [a] at c;simp at c
theorem Qr.but {S:Nat→Prop} {w w':World} {M rm G rq n:Nat} {mix fifo:List Int} (h:Qr w M rm G rq n mix fifo) (hb:But S w w') (h1:¬S M) (h2:¬S rm) (h3:¬S G) (h4:¬S rq):Qr w' M rm G rq n mix fifo :=
 ⟨h.mx.but hb h1 h2,h.qu.but hb h3 h4,h.ne⟩
def Qs (rm G rq:Nat):Nat→Prop:=fun k=>k=rm∨k=G∨k=rq
theorem mpush (M rm G rq n:Nat) (mix fifo:List Int) (x d:Int) (w:World) (h:Qr w M rm G rq n mix fifo) (h0:mix≠[]) (hml:mix.length≤1024) (hnl:n≤1024) :
  Calls Tryz.prog 263 #[Vp M 0,Vi x,Vi d] w fun e w'=>∃ z,e=.returned (Vi z)∧z=(wpM n mix fifo x d).2.2∧Qr w' M rm G rq n (wpM n mix fifo x d).1 (wpM n mix fifo x d).2.1∧But (Qs rm G rq) w w':=by
 have hl:0 < mix.length:=List.length_pos_iff.2 h0;obtain⟨s1,s2,s3,s4,s5⟩:=h.sep;have hlen:(mix.set (md d mix.length) x).length=mix.length:=by simp
 by_cases hm:mix[md d mix.length]?.getD 0 = -1
 ·refine (mpush_empty M G rm mix.length _ mix x d w h.mx.1 h.mx.2 rfl hl hml rfl hm).mono ?_;rintro e w' ⟨rfl,r1,g1⟩;unfold wpM;rw [if_neg h0,if_pos hm];have hb:But (Qs rm G rq) w w':=.ofGrown g1 (.inl rfl);refine⟨_,rfl,rfl,⟨⟨?_,r1⟩,h.qu.but (But.ofGrown (S:=fun k=>k=rm) g1 rfl) s4 (fun e=>h.ne e.symm),h.ne⟩,hb⟩;rw [hlen];exact cell_blk g1 h.mx.1 s3
 refine (mpush_on M G rm mix.length _ mix x d w h.mx.1 h.mx.2 rfl hl hml rfl _ rfl hm (fun v w'=>v=Vi (wpM n mix fifo x d).2.2∧Qr w' M rm G rq n (wpM n mix fifo x d).1 (wpM n mix fifo x d).2.1∧But (Qs rm G rq) w w') (fun w1 r1 g1=>?_)).mono ?_
 ·have hq:=h.qu.but (But.ofGrown (S:=fun k=>k=rm) g1 rfl) s4 (fun e=>h.ne e.symm);refine (qpush G rq n fifo _ d w1 hq hnl).mono ?_;rintro e w' ⟨rfl,q1,b1⟩;refine⟨_,rfl,?_,?_,?_⟩
  ·unfold wpM;rw [if_neg h0,if_neg hm]
  ·unfold wpM;rw [if_neg h0,if_neg hm];refine⟨⟨?_,r1.but b1 (fun h2=>h2.elim (fun e=>s4 e.symm) (fun e=>h.ne e))⟩,q1,h.ne⟩;rw [hlen];exact b1.at (cell_blk g1 h.mx.1 s3) (fun h2=>h2.elim (fun e=>s1 e) (fun e=>s2 e))
  exact (But.ofGrown g1 (.inl rfl)).trans (b1.mono (fun g h2=>h2.elim (fun e=>.inr (.inl e)) (fun e=>.inr (.inr e))))
 rintro e w' ⟨z,rfl,h1,h2,h3⟩;simp at h1;exact⟨z,rfl,h1,h2,h3⟩
end Go.Proofs.YtacccpkmgkojiaaGreatDoorRR
namespace Go.Proofs.YtacccpkmgkojiaaGreatDoorRR
set_option linter.unusedVariables false
set_option linter.unusedSimpArgs false
set_option maxRecDepth 20000
set_option maxHeartbeats 8000000
open Go.ChangeShapes Go.WideShapes Go.ChangeAt Go.RowKit
theorem grown_setRowW (w:World) (g:Nat) (cs:Array Value):w.grownBy (w.setRow g cs) (some g) :=
 ⟨rfl,rfl,rfl,by simp [World.setRow],fun k _ h=>setRow_other w g k cs (by simpa using h)⟩
theorem copy_run (w:World) (dp sp:Option Addr) (dLen dCap sLen sCap g off:Nat) (cur:List Value) (hg:w.heap[g]?=some (.cells cur.toArray 3 (0,0))) (cs:List Value) (hn:cs.length=Nat.min sLen dLen)
  (hpos:0 < cs.length→dp=some ⟨g,off,none⟩∧∃ ad,sp=some ad∧∀ j v,cs[j]?=some v→w.cell? (ad.add j)=some v)
  (hfit:off+cs.length≤cur.length) (h1:∀ v∈cs,v.oneCell'=true) :
  ∃ w',(Builtin.copy_ #[24,24] 3 #[.slice dp dLen dCap,.slice sp sLen sCap]).run Tryz.prog w=.ok (Vi (cs.length:Nat)) w'∧w'.heap[g]?=some (.cells (splice cur off cs).toArray 3 (0,0))∧w.grownBy w' (some g):=by
 by_cases h0:cs.length=0
 ·obtain rfl:cs=[]:=List.eq_nil_of_length_eq_zero h0;refine⟨w,run_copy_none (P:=Tryz.prog) w 24 24 3 3 dp sp dLen dCap sLen sCap Tryz.underlying24 (by kernel_rfl) (by simpa using hn.symm),by simpa [splice] using hg,grown_refl w g⟩
 obtain⟨rfl,ad,rfl,hsrc⟩:=hpos (by omega);refine⟨_,run_copy_row (P:=Tryz.prog) w 24 24 3 3 g off dLen dCap ad sLen sCap cur.toArray 3 cs Tryz.underlying24 (by kernel_rfl) hg hn hsrc (by simpa using hfit) h1,?_,grown_setRowW w g _⟩;simpa [splice] using setRow_heap w g _ _ 3 _ hg
theorem mk23 (n:Nat) (h:n≤1048576) (w:World):(Instr.makeSlice 24 (Vi (n:Int)) (Vi (n:Int))).run Tryz.prog w=.ok (Vl w.heap.size n n) (w.alloc (.cells (madeCells #[Value.int .i64 0] n) 3)) :=
 run_make_row' 24 3 (Vi 0) 8 Tryz.underlying24 Tryz.info3In rfl .i64 .i64 n (by omega) (by omega) w
theorem al_lastW (w:World) (o:Obj):(w.alloc o).heap[w.heap.size]?=some o:=heap_alloc_new w o
theorem al_sizeW (w:World) (o:Obj):(w.alloc o).heap.size=w.heap.size+1:=by
 have e:(w.alloc o).heap=w.heap.push o:=rfl;rw [e,Array.size_push]
theorem al_oldW {w:World} {k:Nat} {p:Obj} (h:w.heap[k]?=some p) (o:Obj):(w.alloc o).heap[k]?=some p:=by
 rw [heap_alloc_old w o (lt_blkW h)];exact h
theorem al_three (w:World) (A B C:Obj):((((w.alloc A).alloc B).alloc C).heap[w.heap.size]?=some A)∧((((w.alloc A).alloc B).alloc C).heap[w.heap.size+1]?=some B)∧((((w.alloc A).alloc B).alloc C).heap[w.heap.size+1+1]?=some C)∧Below w.heap.size w (((w.alloc A).alloc B).alloc C):=by
 have h1:=al_lastW w A;have h2:=al_lastW (w.alloc A) B;have h3:=al_lastW ((w.alloc A).alloc B) C;rw [al_sizeW] at h2;rw [al_sizeW,al_sizeW] at h3;exact⟨al_oldW (al_oldW h1 B) C,al_oldW h2 C,h3,(((Below.refl _ w).alloc (Nat.le_refl _) A).alloc (by rw [al_sizeW];omega) B).alloc (by rw [al_sizeW,al_sizeW];omega) C⟩
theorem made_n (n:Nat):madeCells #[Value.int .i64 0] n=(Ns .i64 (List.replicate n 0)).toArray:=by
 apply Array.ext';simp [toList_madeCells_one,Ns]
theorem Sl.src {w:World} {a:Option Addr} {zs:List Int} (h:Sl w a zs) (h0:0 < zs.length):∃ ad,a=some ad∧∀ j v,(Ns .i64 zs)[j]?=some v→w.cell? (ad.add j)=some v:=by
 rcases h with ⟨_,rfl⟩|⟨g,rfl,hr⟩
 ·simp at h0
 refine⟨_,rfl,fun j v hv=>?_⟩;have hj:j < (Ns .i64 zs).length:=by
  by_cases hj:j < (Ns .i64 zs).length
  ·exact hj
  rw [List.getElem?_eq_none (by omega)] at hv;cases hv
 have:=hr.cell j hj;rw [hv] at this;have e:(⟨g,0,none⟩:Addr).add j=⟨g,j,none⟩:=by cases j <;> simp [Addr.add]
 rw [e];exact this
theorem Ns_one (k:IntKind) (zs:List Int):∀ v∈Ns k zs,v.oneCell'=true:=by
 intro v hv;simp only [Ns,List.mem_map] at hv;obtain⟨x,_,rfl⟩:=hv;rfl
theorem splice_start (zs:List Int) (n:Nat) (h:zs.length≤n):splice (Ns .i64 (List.replicate n 0)) 0 (Ns .i64 zs)=Ns .i64 (zs++List.replicate (n - zs.length) 0):=by
 simp [splice,Ns]
theorem rowOf {w:World} {g:Nat} {e:TypeId} {xs:List Value} (h:w.heap[g]?=some (.cells xs.toArray e (0,0))):RowV w g e xs :=
 ⟨_,h,by simp,fun i hi=>by simp⟩
theorem set3 {w:World} {g:Nat} {a b c:Value} {t:TypeId} (h:w.heap[g]?=some (.cells #[a,b,c] t (0,0))) (x y z:Value) :
  (((w.setCell ⟨g,0,none⟩ x).setCell ⟨g,1,none⟩ y).setCell ⟨g,2,none⟩ z).heap[g]?=some (.cells #[x,y,z] t (0,0)):=by
 rw [heap_setCell_same _ _ _ _ _ _ (heap_setCell_same _ _ _ _ _ _ (heap_setCell_same _ _ _ _ _ _ h))];rfl
theorem set_ne {w:World} {g:Nat} {o:Obj} (h:w.heap[g]?=some o) (k i:Nat) (v:Value) (hne:g≠k):(w.setCell ⟨k,i,none⟩ v).heap[g]?=some o:=by
 rw [heap_setCell_other _ _ _ _ (by simpa using hne)];exact h
theorem newRing_in (n len cap:Nat) (a:Option Addr) (zs:List Int) (w:World) (hl:zs.length=len) (hlen:len≤n) (hn:n≤1024) (hr:Sl w a zs) :
  Calls Tryz.prog 88 #[Vi n,.slice a len cap] w fun e w'=>∃ g,e=.returned (.agg #[Vl g n n,Vi (0:Nat),Vi (len:Nat)])∧RowV w' g 3 (Ns .i64 (zs++List.replicate (n - len) 0))∧w.heap.size≤g∧Below w.heap.size w w':=by
 have hmk:=fun W=>mk23 n (by omega) W
 have HR:=hid hr;have HL:=hid hl;clear hr hl;have T3:=hid (al_three w (.cells #[Vn,Vi 0,Vi 0] 154) (.cells (madeCells #[Vi 0] n) 3) (.cells #[Vl (w.heap.size+1) n n,Vi 0,Vi 0] 154));obtain⟨w1,hcp,hg1,hgr⟩:=copy_run _ (some ⟨w.heap.size+1,0,none⟩) a n n len cap (w.heap.size+1) 0 (Ns .i64 (List.replicate n 0)) (by rw [←made_n];exact T3.out.2.1) (Ns .i64 zs) (by rw [Ns_len,HL.out];exact (Nat.min_eq_left hlen).symm) (fun h0=>⟨rfl,(HR.out.below T3.out.2.2.2).src (by rw [Ns_len] at h0;exact h0)⟩) (by simp only [Ns_len,List.length_replicate];rw [HL.out];omega) (Ns_one _ _);rw [Ns_len,HL.out] at hcp;have b0:=hid (cell_blk hgr T3.out.1 (by omega));have b2:=hid (cell_blk hgr T3.out.2.2.1 (by omega));have hg:=hid (below_grown T3.out.2.2.2 hgr (by omega));have hr1:=hid (rowOf hg1);clear hg1 hgr T3;have c2:w1.cell? ⟨w.heap.size+1+1,2,none⟩=some (Vi 0):=by rw [cell_of_row _ _ _ _ _ _ b2.out];rfl
 have f2:w1.frozen? ⟨w.heap.size+1+1,2,none⟩=false:=frozen_of_row _ _ _ _ _ b2.out;have c20:w1.cell? ⟨w.heap.size+1+1,0,none⟩=some (Vl (w.heap.size+1) n n):=by rw [cell_of_row _ _ _ _ _ _ b2.out];rfl
 have c21:w1.cell? ⟨w.heap.size+1+1,1,none⟩=some (Vi 0):=by rw [cell_of_row _ _ _ _ _ _ b2.out];rfl
 have d0:w1.cell? ⟨w.heap.size,0,none⟩=some (Vn):=by rw [cell_of_row _ _ _ _ _ _ b0.out];rfl
 have d1:w1.cell? ⟨w.heap.size,1,none⟩=some (Vi 0):=by rw [cell_of_row _ _ _ _ _ _ b0.out];rfl
 have d2:w1.cell? ⟨w.heap.size,2,none⟩=some (Vi 0):=by rw [cell_of_row _ _ _ _ _ _ b0.out];rfl
 have f0:w1.frozen? ⟨w.heap.size,0,none⟩=false:=frozen_of_row _ _ _ _ _ b0.out;have f1:w1.frozen? ⟨w.heap.size,1,none⟩=false:=frozen_of_row _ _ _ _ _ b0.out;have f3:w1.frozen? ⟨w.heap.size,2,none⟩=false:=frozen_of_row _ _ _ _ _ b0.out;go_enter Tryz.func88,Tryz.ntmps88;go_wp2;refine bodyPost_ret (results_cell_row (by rfl) _ _ w.heap.size 154 _ (0,0) _ (by rfl) (set3 (set_ne b0.out _ _ _ (by omega)) _ _ _) Tryz.underlying154 rfl (by kernel_rfl)) (by rfl) ?_;refine⟨w.heap.size+1,rfl,?_,by omega,?_⟩
 ·rw [←HL.out,←splice_start _ _ (by rw [HL.out];exact hlen)];refine (((hr1.out.other ?_ _).other ?_ _).other ?_ _).other ?_ _
  all_goals (dsimp only;omega)
 exact (((hg.out.setCell (by dsimp only;omega) _).setCell (by dsimp only;omega) _).setCell (by dsimp only;omega) _).setCell (by dsimp only;omega) _
end Go.Proofs.YtacccpkmgkojiaaGreatDoorRR
namespace Go.Proofs.YtacccpkmgkojiaaGreatDoorRR
set_option linter.unusedVariables false
set_option linter.unusedSimpArgs false
set_option maxRecDepth 20000
set_option maxHeartbeats 8000000
open Go.ChangeShapes Go.WideShapes Go.ChangeAt Go.RowKit
def wv (am:Option Addr) (lm cm:Nat) (af:Option Addr) (lf cf:Nat) (lim:Int):Value:=.agg #[.slice am lm cm,.slice af lf cf,Vi lim]
structure Wt (w:World) (am:Option Addr) (lm:Nat) (af:Option Addr) (lf:Nat) (mix fifo:List Int):Prop where
 m:Sl w am mix
 ml:mix.length=lm
 f:Sl w af fifo
 fl:fifo.length=lf
end Go.Proofs.YtacccpkmgkojiaaGreatDoorRR
namespace Go.Proofs.YtacccpkmgkojiaaGreatDoorRR
set_option linter.unusedVariables false
set_option linter.unusedSimpArgs false
set_option maxRecDepth 20000
set_option maxHeartbeats 8000000
open Go.ChangeShapes Go.WideShapes Go.ChangeAt Go.RowKit
theorem epush (M rm G rq n:Nat) (fifo:List Int) (x d:Int) (w:World) (h:Qr w M rm G rq n [] fifo) (hnl:n≤1024) :
  Calls Tryz.prog 265 #[Vp G 0,Vi x,Vi d] w fun e w'=>∃ z,e=.returned (Vi z)∧z=(wpM n [] fifo x d).2.2∧Qr w' M rm G rq n (wpM n [] fifo x d).1 (wpM n [] fifo x d).2.1∧But (Qs rm G rq) w w':=by
 obtain⟨s1,s2,s3,s4,s5⟩:=h.sep;refine (qpush G rq n fifo x d w h.qu hnl).mono ?_;rintro e w' ⟨rfl,q1,b1⟩;have e1:wpM n [] fifo x d=([],(pushF n fifo x).1,(pushF n fifo x).2):=by unfold wpM;rw [if_pos rfl]
 rw [e1];exact⟨_,rfl,rfl,⟨h.mx.but b1 (fun h2=>h2.elim (fun e=>s1 e) (fun e=>s2 e)) (fun h2=>h2.elim (fun e=>s4 e.symm) (fun e=>h.ne e)),q1,h.ne⟩,b1.mono (fun g h2=>h2.elim (fun e=>.inr (.inl e)) (fun e=>.inr (.inr e)))⟩
end Go.Proofs.YtacccpkmgkojiaaGreatDoorRR
namespace Go.Proofs.YtacccpkmgkojiaaGreatDoorRR
set_option linter.unusedVariables false
set_option linter.unusedSimpArgs false
set_option maxRecDepth 20000
set_option maxHeartbeats 8000000
open Go.ChangeShapes Go.WideShapes Go.ChangeAt Go.RowKit
theorem epushL (M rm G rq n:Nat) (mix fifo:List Int) (x d:Int) (w:World) (h:Qr w M rm G rq n mix fifo) (hnl:n≤1024) (h0:mix.length=0) :
  Calls Tryz.prog 265 #[Vp G 0,Vi x,Vi d] w fun e w'=>∃ z,e=.returned (Vi z)∧z=(wpM n mix fifo x d).2.2∧Qr w' M rm G rq n (wpM n mix fifo x d).1 (wpM n mix fifo x d).2.1∧But (Qs rm G rq) w w':=by
 obtain rfl:=List.length_eq_zero_iff.1 h0;exact epush M rm G rq n fifo x d w h hnl
end Go.Proofs.YtacccpkmgkojiaaGreatDoorRR
