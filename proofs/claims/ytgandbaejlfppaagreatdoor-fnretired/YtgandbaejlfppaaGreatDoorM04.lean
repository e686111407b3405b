import Derived.Conc.MuLone
import Derived.Deep.AppendLies
import Derived.Deep.CutBlock
import Derived.Deep.DeepCutAuto
import Derived.Laws.CopyOwn
import Derived.Test.YtgandbaejlfppaaGreatDoorM00
namespace Go.Proofs.YtgandbaejlfppaaGreatDoor
set_option linter.unusedVariables false
set_option linter.unusedSimpArgs false
set_option maxRecDepth 20000
set_option maxHeartbeats 8000000
open Go.ChangeShapes Go.WideShapes Go.ChangeAt Go.RowKit
theorem Tryz.info3In:(Tryz.prog.info? 3).map (fun i=>(i.zero,i.size,i.bytes))=some (some (Vi 0),1,8):=by kernel_rfl
end Go.Proofs.YtgandbaejlfppaaGreatDoor
namespace Go.Proofs.YtgandbaejlfppaaGreatDoor
set_option linter.unusedVariables false
set_option linter.unusedSimpArgs false
set_option maxRecDepth 20000
set_option maxHeartbeats 8000000
open Go.ChangeShapes Go.WideShapes Go.ChangeAt Go.RowKit
def Sl (w:World) (a:Option Addr) (zs:List Int):Prop:=(a=none∧zs=[])∨∃ g,a=some ⟨g,0,none⟩∧RowV w g 3 (Ns .i64 zs)
theorem Sl.cells {w:World} {a:Option Addr} {zs:List Int} (h:Sl w a zs):∀ i,i < zs.length→∃ g,a=some ⟨g,0,none⟩∧w.cell? ⟨g,i,none⟩=some (Vi (zs[i]?.getD 0)):=by
 intro i hi
 rcases h with ⟨_,rfl⟩|⟨g,rfl,hr⟩
 ·simp at hi
 exact⟨g,rfl,cell_n hr i hi⟩
theorem Sl.below {w w':World} {a:Option Addr} {zs:List Int} (h:Sl w a zs) (hb:Below w.heap.size w w'):Sl w' a zs:=by
 rcases h with h|⟨g,e,hr⟩
 ·exact .inl h
 exact .inr ⟨g,e,hr.below hb hr.lt⟩
def md (d:Int) (m:Nat):Nat:=(d % (m:Int)).toNat
theorem md_lt (d:Int) (m:Nat) (h:0 < m):md d m < m:=by
 unfold md;have h1:=Int.emod_nonneg d (b:=(m:Int)) (by omega);have h2:=Int.emod_lt_of_pos d (b:=(m:Int)) (by omega);omega
theorem md_spec (d:Int) (m:Nat) (h:0 < m):(md d m:Int)=if d.tmod m < 0 then d.tmod m+m else d.tmod m:=by
 unfold md;have h1:=Int.emod_nonneg d (b:=(m:Int)) (by omega);rw [Int.toNat_of_nonneg h1];have h3:=Int.tmod_eq_emod (a:=d) (b:=(m:Int));have h4:=Int.emod_lt_of_pos d (b:=(m:Int)) (by omega);have e:((Int.natAbs (m:Int):Nat):Int)=m:=by omega
 by_cases hc:0≤d∨(m:Int)∣d
 ·rw [if_pos hc] at h3;rw [if_neg (by omega)];omega
 rw [if_neg hc] at h3;rw [h3,e];rw [if_pos (by omega)];omega
theorem tmod_bounds (d:Int) (m:Nat) (h:0 < m) : -(m:Int)≤d.tmod m∧d.tmod m < m:=by
 have h1:=md_spec d m h;have h2:=md_lt d m h
 split at h1 <;> rename_i hc
 ·omega
 omega
end Go.Proofs.YtgandbaejlfppaaGreatDoor
namespace Go.Proofs.YtgandbaejlfppaaGreatDoor
set_option linter.unusedVariables false
set_option linter.unusedSimpArgs false
set_option maxRecDepth 20000
set_option maxHeartbeats 8000000
open Go.ChangeShapes Go.WideShapes Go.ChangeAt Go.RowKit
theorem w64 (x:Int) (h : -1048576≤x∧x≤2097152):wrap64 x=x:=by
 unfold wrap64;omega
theorem tmod_small (x m:Int) (h0:0≤x) (h:x < m):x.tmod m=x:=by
 rw [Int.tmod_eq_emod_of_nonneg h0,Int.emod_eq_of_lt h0 h]
theorem tmod_over (x m:Int) (h0:0≤x) (h:x < m):(x+m).tmod m=x:=by
 rw [Int.tmod_eq_emod_of_nonneg (by omega),Int.add_emod_right,Int.emod_eq_of_lt h0 h]
theorem modulo_in (d:Int) (m:Nat) (w:World) (h0:0 < m) (hm:m≤1048576) :
  Calls Tryz.prog 121 #[Vi d,Vi m] w fun e w'=>e=.returned (Vi (md d m:Nat))∧w'=w:=by
 have h1:((m:Int)==0)=false:=by simp;omega
 have hb:=tmod_bounds d m h0;have hw:=w64 (d.tmod m+m) (by omega);have h2:=md_spec d m h0;have h3:=md_lt d m h0;have H:Hid ((d.tmod m+m).tmod m=(md d m:Nat)):=by
  show (d.tmod m+m).tmod m=(md d m:Nat)
  by_cases hc:d.tmod m < 0
  ·rw [if_pos hc] at h2;rw [tmod_small _ _ (by omega) (by omega)];omega
  rw [if_neg hc] at h2;rw [tmod_over _ _ (by omega) (by omega)];omega
 clear h2 h3 hb;go_enter Tryz.func121,Tryz.ntmps121;go_wp2;go_ret;refine⟨ret_int ?_,rfl⟩
 first|exact H.out|(rw [hw];exact H.out)
theorem swap_in (G r n cap o i k:Nat) (ps:List Int) (x:Int) (w:World) (hk:(o+i) % n=k) (hn:ps.length=n) (hn0:0 < n) (hnl:n≤1048576) (ho:o≤1048576) (hi:i≤1048576)
  (c0:w.cell? ⟨G,0,none⟩=some (Vl r n cap)) (c1:w.cell? ⟨G,1,none⟩=some (Vi o)) (hr:RowV w r 3 (Ns .i64 ps)) :
  Calls Tryz.prog 210 #[Vp G 0,Vi i,Vi x] w fun e w'=>e=.returned (Vi (ps[k]?.getD 0))∧RowV w' r 3 (Ns .i64 (ps.set k x))∧w.grownBy w' (some r):=by
 have h1:((n:Int)==0)=false:=by simp;omega
 have hat:(o+i) % n < n:=Nat.mod_lt _ hn0;have he:((o:Int)+(i:Int)) % (n:Int)=(((o+i) % n:Nat):Int):=by simp
 rw [hk] at hat he;have hc:=cell_n hr k (by omega);have hf:=hr.free k;have HR:=hid (hr.set k (by rw [Ns_len];omega) (Vi x)).drew;have HG:=hid (grown_drew (grown_set (grown_refl w r) k (Vi x)));clear hr hn hk;go_enter Tryz.func210,Tryz.ntmps210;go_wp2;go_region;rw [he];clear he;go_wp2;go_ret;exact⟨rfl,by rw [←Ns_set];exact HR.out,HG.out⟩
end Go.Proofs.YtgandbaejlfppaaGreatDoor
namespace Go.Proofs.YtgandbaejlfppaaGreatDoor
set_option linter.unusedVariables false
set_option linter.unusedSimpArgs false
set_option maxRecDepth 20000
set_option maxHeartbeats 8000000
open Go.ChangeShapes Go.WideShapes Go.ChangeAt Go.RowKit
theorem wpOp_doW {P:Program} {ops:Array Oper} {Q:Exit→Act→World→Prop} {i:Nat} {o:Oper} {K:Act→World→Prop} {a:Act} {w:World} (hi:ops[i]?=some o) (hw:Region.wanted o (yielded ops a.tmps)=true)
  (h:∀ K':Act→World→Prop,Hid (∀ a w,K a w→K' a w)→o.wp P a w K' Q):wpOp P ops Q i K a w:=by
 unfold wpOp;simp only [hi,hw,if_true];exact .inl (h K fun _ _ h=>h)
theorem wpAnyH_oneW {P:Program} {md:Region.Mode} {ops:Array Oper} {Q:Exit→Act→World→Prop} {S:World→Prop} {r fuel:Nat} {listed:Array Bool} {a:Act} {w:World} (hr:Region.ready md ops listed=[r])
  (h:wpOp P ops Q r (fun a' w'=>S w'∧wpAnyH P md ops Q S fuel (listed.setIfInBounds r true) a' w') a w):wpAnyH P md ops Q S (fuel+1) listed a w :=
 wpAnyH_all hr (by simp) (fun i hi=>by
  obtain rfl:i=r:=by simpa using hi
  exact h)
theorem wpAnyH_putW {P:Program} {md:Region.Mode} {ops:Array Oper} {Q:Exit→Act→World→Prop} {S:World→Prop} {i d:Nat} {oi:Oper} {v:Value} {fuel:Nat} {listed:Array Bool} {a:Act} {w:World} (hi:ops[i]?=some oi) (hd:oi.dst=some d)
  (hs:Region.noSelect ops=true) (hf:Region.free md ops listed i=true) (hr:(Region.ready md ops listed).contains i=true)
  (hQ:∀ c a w,Q (.panic c) (a.put oi.dst v) w→Q (.panic c) a w) (hy:YieldsIf P ops S oi v a) (hS:S w)
  (h:wpAnyH P md ops Q S fuel (listed.setIfInBounds i true) { a with tmps:=a.tmps.setIfInBounds d v } w):wpAnyH P md ops Q S (fuel+1) listed a w :=
 wpAnyH_take hi hs hf hr hQ hy hS (by
  have e:a.put oi.dst v={ a with tmps:=a.tmps.setIfInBounds d v }:=by rw [hd];rfl
  rw [e];exact h)
theorem lt_blkW {W:World} {R:Nat} {o:Obj} (h:W.heap[R]?=some o):R < W.heap.size:=by
 by_cases hl:R < W.heap.size
 ·exact hl
 have:W.heap[R]?=none:=Array.getElem?_eq_none (by omega);rw [this] at h;cases h
structure But (S:Nat→Prop) (w w':World):Prop where
 os:w'.os=w.os
 tape:w'.tape=w.tape
 output:w'.output=w.output
 size:w.heap.size≤w'.heap.size
 block:∀ k,k < w.heap.size→¬S k→w'.heap[k]?=w.heap[k]?
theorem But.refl (S:Nat→Prop) (w:World):But S w w:=⟨rfl,rfl,rfl,Nat.le_refl _,fun _ _ _=>rfl⟩
theorem But.trans {S:Nat→Prop} {a b c:World} (h:But S a b) (k:But S b c):But S a c :=
 ⟨k.os.trans h.os,k.tape.trans h.tape,k.output.trans h.output,Nat.le_trans h.size k.size,fun g h1 h2=>(k.block g (Nat.lt_of_lt_of_le h1 h.size) h2).trans (h.block g h1 h2)⟩
theorem But.mono {S S':Nat→Prop} {a b:World} (h:But S a b) (k:∀ g,S g→S' g):But S' a b :=
 ⟨h.os,h.tape,h.output,h.size,fun g h1 h2=>h.block g h1 fun h3=>h2 (k g h3)⟩
theorem But.ofGrown {S:Nat→Prop} {a b:World} {g:Nat} (h:a.grownBy b (some g)) (k:S g):But S a b :=
 ⟨h.os,h.tape,h.output,h.size,fun j h1 h2=>h.block j h1 fun h3=>by
  simp at h3;subst h3;exact h2 k⟩
theorem But.ofBelow {S:Nat→Prop} {a b:World} (h:Below a.heap.size a b):But S a b:=⟨h.os,h.tape,h.output,h.size,fun j h1 _=>h.block j h1⟩
theorem But.below {S:Nat→Prop} {a b:World} {B:Nat} (h:But S a b) (hB:B≤a.heap.size) (k:∀ g,S g→B≤g):Below B a b :=
 ⟨h.os,h.tape,h.output,h.size,fun j h1=>h.block j (by omega) fun h3=>by have:=k j h3;omega⟩
theorem But.drew {S:Nat→Prop} {a b:World} (h:But S a b):But S a b.drew:=⟨h.os,h.tape,h.output,h.size,h.block⟩
theorem But.set {S:Nat→Prop} {a b:World} (h:But S a b) (g i:Nat) (v:Value) (k:S g):But S a (b.setCell ⟨g,i,none⟩ v) :=
 h.trans (.ofGrown (grown_set (grown_refl b g) i v) k)
theorem cell_blk {a b:World} {g k:Nat} {o:Obj} (h:a.grownBy b (some g)) (hk:a.heap[k]?=some o) (hne:k≠g):b.heap[k]?=some o:=by
 rw [h.block k (lt_blkW hk) (by simpa using hne)];exact hk
theorem RowV.ne {w:World} {g r:Nat} {e t:TypeId} {xs:List Value} {c:Array Value} {f:Nat×Nat} (h:RowV w r e xs) (k:w.heap[g]?=some (.cells c t f)) (hne:e≠t):g≠r:=by
 obtain⟨c',h1,_⟩:=h;rintro rfl;rw [h1] at k;simp at k;exact hne k.2.1
theorem RowV.but {S:Nat→Prop} {w w':World} {r:Nat} {e:TypeId} {xs:List Value} (h:RowV w r e xs) (hb:But S w w') (hn:¬S r):RowV w' r e xs:=by
 obtain⟨c,h1,h2⟩:=h;exact⟨c,by rw [hb.block r (lt_blkW h1) hn];exact h1,h2⟩
theorem But.at {S:Nat→Prop} {w w':World} {g:Nat} {o:Obj} (hb:But S w w') (h:w.heap[g]?=some o) (hn:¬S g):w'.heap[g]?=some o:=by
 rw [hb.block g (lt_blkW h) hn];exact h
def pushF (n:Nat) (xs:List Int) (x:Int):List Int×Int:=if xs.length < n then (xs++[x],-1) else (xs.tail++[x],xs[0]?.getD 0)
def Qu (w:World) (G r n:Nat) (xs:List Int):Prop :=
 ∃ (ps:List Int) (o h:Nat),w.heap[G]?=some (.cells #[Vl r n n,Vi (o:Nat),Vi (h:Nat)] 126 (0,0))∧RowV w r 3 (Ns .i64 ps)∧ps.length=n∧o < n∧h≤n∧(h < n→o=0)∧xs=(ps.drop o++ps.take o).take h
theorem Qu.but {S:Nat→Prop} {w w':World} {G r n:Nat} {xs:List Int} (h:Qu w G r n xs) (hb:But S w w') (h1:¬S G) (h2:¬S r):Qu w' G r n xs:=by
 obtain⟨ps,o,h,a,b,c⟩:=h;exact⟨ps,o,h,hb.at a h1,b.but hb h2,c⟩
theorem qpush_more (G r n h:Nat) (ps:List Int) (x d:Int) (w:World) (hb:w.heap[G]?=some (.cells #[Vl r n n,Vi (0:Nat),Vi (h:Nat)] 126 (0,0))) (hr:RowV w r 3 (Ns .i64 ps)) (hn:ps.length=n) (hlt:h < n) (hnl:n≤1024) :
  Calls Tryz.prog 211 #[Vp G 0,Vi x,Vi d] w fun e w'=>e=.returned (Vi (-1))∧w'.heap[G]?=some (.cells #[Vl r n n,Vi (0:Nat),Vi (h+1:Nat)] 126 (0,0))∧RowV w' r 3 (Ns .i64 (ps.set h x))∧But (fun k=>k=G∨k=r) w w':=by
  have hne:G≠r:=hr.ne hb (by decide);have c0:w.cell? ⟨G,0,none⟩=some (Vl r n n):=by rw [cell_of_row _ _ _ _ _ _ hb];rfl
  have c1:w.cell? ⟨G,1,none⟩=some (Vi (0:Nat)):=by rw [cell_of_row _ _ _ _ _ _ hb];rfl
  have c2:w.cell? ⟨G,2,none⟩=some (Vi (h:Nat)):=by rw [cell_of_row _ _ _ _ _ _ hb];rfl
  have hlt':(h:Int) < (n:Int):=by omega
  have SW:=hid (swap_in G r n n 0 h h ps x w.drew.drew (by rw [Nat.zero_add,Nat.mod_eq_of_lt hlt]) hn (by omega) (by omega) (by omega) (by omega) c0 c1 hr);have HB:=hid hb;clear hb hr hn;go_enter Tryz.func211,Tryz.ntmps211;go_wp2;go_region;go_wp2;refine wp_region_held (S:=fun W=>W.cell? ⟨G,2,none⟩=some (Vi (h:Nat))∧Hid (W.heap[G]?=some (.cells #[Vl r n n,Vi (0:Nat),Vi (h:Nat)] 126 (0,0)))) (by kernel_rfl) ?_;simp only [List.size_toArray,List.length_cons,List.length_nil,Nat.reduceAdd,Array.replicate_succ,Array.replicate_zero,List.push_toArray,List.nil_append,List.cons_append];have hS:=(show _∧Hid _ from ⟨c2,HB⟩)
  iterate 9 (refine py hS ?_;simp only [f0,f1,Nat.reduceAdd,lz,l0,ls])
  refine wpAnyH_oneW (r:=9) (by kernel_rfl) ?_;refine wpOp_doW rfl (by kernel_rfl) (fun K' hK=>?_);go_simp;refine (SW.out).mono ?_;rintro e w1 ⟨rfl,r1,g1⟩;have hS1:=hid (cell_blk (k:=G) g1 HB.out hne);refine hK.out _ _ ⟨⟨by rw [cell_of_row _ _ _ _ _ _ hS1.out];rfl,hS1⟩,?_⟩;have R1:=hid r1;have G1:=hid g1;clear hS r1 g1;clear hK K';refine wpAnyH_done (by kernel_rfl) ?_ _;have c2':w1.cell? ⟨G,2,none⟩=some (Vi (h:Nat)):=by rw [cell_of_row _ _ _ _ _ _ hS1.out];rfl
  have f2':w1.frozen? ⟨G,2,none⟩=false:=frozen_of_row _ _ _ _ _ hS1.out;go_wp2;go_ret;refine⟨rfl,?_,?_,?_⟩
  ·rw [heap_setCell_same _ _ _ _ _ _ hS1.out];rfl
  ·exact R1.out.other (by simpa using hne.symm) _
  exact ((But.refl _ w).drew.drew.trans (.ofGrown G1.out (.inr rfl))).set _ _ _ (.inl rfl)
end Go.Proofs.YtgandbaejlfppaaGreatDoor
namespace Go.Proofs.YtgandbaejlfppaaGreatDoor
set_option linter.unusedVariables false
set_option linter.unusedSimpArgs false
set_option maxRecDepth 20000
set_option maxHeartbeats 8000000
open Go.ChangeShapes Go.WideShapes Go.ChangeAt Go.RowKit
theorem mpush_empty (M G r n k:Nat) (mix:List Int) (x d:Int) (w:World) (hb:w.heap[M]?=some (.cells #[Vl r n n,Vi (0:Nat),Vi (n:Nat),.iface 65 (Vp G 0)] 128 (0,0))) (hr:RowV w r 3 (Ns .i64 mix)) (hn:mix.length=n) (h0:0 < n) (hnl:n≤1024) (hk:md d n=k) (hm:mix[k]?.getD 0 = -1) :
  Calls Tryz.prog 209 #[Vp M 0,Vi x,Vi d] w fun e w'=>e=.returned (Vi (-1))∧RowV w' r 3 (Ns .i64 (mix.set k x))∧w.grownBy w' (some r):=by
 have hne:M≠r:=hr.ne hb (by decide);have c0:w.cell? ⟨M,0,none⟩=some (Vl r n n):=by rw [cell_of_row _ _ _ _ _ _ hb];rfl
 have c1:w.cell? ⟨M,1,none⟩=some (Vi (0:Nat)):=by rw [cell_of_row _ _ _ _ _ _ hb];rfl
 have c2:w.cell? ⟨M,2,none⟩=some (Vi (n:Nat)):=by rw [cell_of_row _ _ _ _ _ _ hb];rfl
 have hkn:k < n:=hk▸md_lt d n h0;have SW:=hid (swap_in M r n n 0 k k mix x w.drew (by rw [Nat.zero_add,Nat.mod_eq_of_lt hkn]) hn h0 (by omega) (by omega) (by omega) c0 c1 hr);have MD:=hid (fun W=>modulo_in d n W h0 (by omega));rw [hk] at MD;have HB:=hid hb;clear hb hr hn hk;rw [hm] at SW;go_enter Tryz.func209,Tryz.ntmps209;go_wp2;refine wp_region_held (S:=fun W=>W.cell? ⟨M,2,none⟩=some (Vi (n:Nat))∧Hid (W.heap[M]?=some (.cells #[Vl r n n,Vi (0:Nat),Vi (n:Nat),.iface 65 (Vp G 0)] 128 (0,0)))) (by kernel_rfl) ?_;simp only [List.size_toArray,List.length_cons,List.length_nil,Nat.reduceAdd,Array.replicate_succ,Array.replicate_zero,List.push_toArray,List.nil_append,List.cons_append];have hS:=(show _∧Hid _ from ⟨c2,HB⟩)
 iterate 9 (refine py hS ?_;simp only [f0,f1,Nat.reduceAdd,lz,l0,ls])
 refine pk 10 18 (Vi x) hS ?_;simp only [lz,l0,ls];refine wpAnyH_oneW (r:=9) (by kernel_rfl) ?_;refine wpOp_doW rfl (by kernel_rfl) (fun K' hK=>?_);go_simp;refine (MD.out _).mono ?_;rintro e w1 ⟨rfl,rfl⟩;refine hK.out _ _ ⟨hS,?_⟩;clear hK K';refine wpAnyH_oneW (r:=11) (by kernel_rfl) ?_;refine wpOp_doW rfl (by kernel_rfl) (fun K' hK=>?_);go_simp;refine (SW.out).mono ?_;rintro e w1 ⟨rfl,r1,g1⟩;have hS1:=hid (cell_blk (k:=M) g1 HB.out hne);have hS2:w1.cell? ⟨M,2,none⟩=some (Vi (n:Nat))∧Hid (w1.heap[M]?=some (.cells #[Vl r n n,Vi (0:Nat),Vi (n:Nat),.iface 65 (Vp G 0)] 128 (0,0))):=⟨by rw [cell_of_row _ _ _ _ _ _ hS1.out];rfl,hS1⟩;refine hK.out _ _ ⟨hS2,?_⟩;have R1:=hid r1;have G1:=hid g1;clear hS r1 g1;have hS:=hS2;clear hK K';refine pk 12 7 (Vi (-1)) hS ?_;simp only [lz,l0,ls];refine wpAnyH_done (by kernel_rfl) ?_ _;go_wp2;go_ret;exact⟨rfl,R1.out,⟨G1.out.os,G1.out.tape,G1.out.output,G1.out.size,G1.out.block⟩⟩
theorem meth_q (a : Addr) (w : World) : (method 660 65 (.pointer (some a)) "loop.example/s01868/impl.push").run Tryz.prog w = .ok (211, .pointer (some a)) w := by kernel_rfl
theorem meth_m (a : Addr) (w : World) : (method 660 64 (.pointer (some a)) "loop.example/s01868/impl.push").run Tryz.prog w = .ok (209, .pointer (some a)) w := by kernel_rfl
theorem mpush_on (M G r n k:Nat) (mix:List Int) (x d:Int) (w:World) (hb:w.heap[M]?=some (.cells #[Vl r n n,Vi (0:Nat),Vi (n:Nat),.iface 65 (Vp G 0)] 128 (0,0))) (hr:RowV w r 3 (Ns .i64 mix)) (hn:mix.length=n) (h0:0 < n) (hnl:n≤1024) (hk:md d n=k) (y:Int) (hy:mix[k]?.getD 0=y) (hm:y ≠ -1)
  (R:Value→World→Prop) (C:∀ w1,RowV w1 r 3 (Ns .i64 (mix.set k x))→w.grownBy w1 (some r)→Calls Tryz.prog 211 #[Vp G 0,Vi y,Vi d] w1 fun e w'=>∃ z,e=.returned (Vi z)∧R (Vi z) w') :
  Calls Tryz.prog 209 #[Vp M 0,Vi x,Vi d] w fun e w'=>∃ z,e=.returned (Vi z)∧R (Vi z) w':=by
 have hne:M≠r:=hr.ne hb (by decide);have c0:w.cell? ⟨M,0,none⟩=some (Vl r n n):=by rw [cell_of_row _ _ _ _ _ _ hb];rfl
 have c1:w.cell? ⟨M,1,none⟩=some (Vi (0:Nat)):=by rw [cell_of_row _ _ _ _ _ _ hb];rfl
 have c2:w.cell? ⟨M,2,none⟩=some (Vi (n:Nat)):=by rw [cell_of_row _ _ _ _ _ _ hb];rfl
 have hkn:k < n:=hk▸md_lt d n h0;have SW:=hid (swap_in M r n n 0 k k mix x w.drew (by rw [Nat.zero_add,Nat.mod_eq_of_lt hkn]) hn h0 (by omega) (by omega) (by omega) c0 c1 hr);have MD:=hid (fun W=>modulo_in d n W h0 (by omega));rw [hk] at MD;have HB:=hid hb;clear hb hr hn hk;rw [hy] at SW;have CC:=hid C;clear C;have hm':(y == -1)=false:=by simpa using hm
 go_enter Tryz.func209,Tryz.ntmps209;go_wp2;refine wp_region_held (S:=fun W=>W.cell? ⟨M,2,none⟩=some (Vi (n:Nat))∧Hid (W.heap[M]?=some (.cells #[Vl r n n,Vi (0:Nat),Vi (n:Nat),.iface 65 (Vp G 0)] 128 (0,0)))) (by kernel_rfl) ?_;simp only [List.size_toArray,List.length_cons,List.length_nil,Nat.reduceAdd,Array.replicate_succ,Array.replicate_zero,List.push_toArray,List.nil_append,List.cons_append];have hS:=(show _∧Hid _ from ⟨c2,HB⟩)
 iterate 9 (refine py hS ?_;simp only [f0,f1,Nat.reduceAdd,lz,l0,ls])
 refine pk 10 18 (Vi x) hS ?_;simp only [lz,l0,ls];refine wpAnyH_oneW (r:=9) (by kernel_rfl) ?_;refine wpOp_doW rfl (by kernel_rfl) (fun K' hK=>?_);go_simp;refine (MD.out _).mono ?_;rintro e w1 ⟨rfl,rfl⟩;refine hK.out _ _ ⟨hS,?_⟩;clear hK K';refine wpAnyH_oneW (r:=11) (by kernel_rfl) ?_;refine wpOp_doW rfl (by kernel_rfl) (fun K' hK=>?_);go_simp;refine (SW.out).mono ?_;rintro e w1 ⟨rfl,r1,g1⟩;have hS1:=hid (cell_blk (k:=M) g1 HB.out hne);have hS2:w1.cell? ⟨M,2,none⟩=some (Vi (n:Nat))∧Hid (w1.heap[M]?=some (.cells #[Vl r n n,Vi (0:Nat),Vi (n:Nat),.iface 65 (Vp G 0)] 128 (0,0))):=⟨by rw [cell_of_row _ _ _ _ _ _ hS1.out];rfl,hS1⟩;refine hK.out _ _ ⟨hS2,?_⟩;have R1:=hid r1;have G1:=hid g1;clear hS r1 g1;have hS:=hS2;clear hK K';refine pk 12 7 (Vi (y)) hS ?_;simp only [lz,l0,ls];refine wpAnyH_done (by kernel_rfl) ?_ _;have c3:w1.cell? ⟨M,3,none⟩=some (.iface 65 (Vp G 0)):=by rw [cell_of_row _ _ _ _ _ _ hS1.out];rfl
 have hmq:=fun w=>meth_q ⟨G,0,none⟩ w
 go_wp2_with fail;refine (CC.out w1 R1.out ⟨G1.out.os,G1.out.tape,G1.out.output,G1.out.size,G1.out.block⟩).mono ?_;rintro e w2 ⟨z,rfl,hR⟩;go_wp2;go_ret;exact⟨z,rfl,hR⟩
end Go.Proofs.YtgandbaejlfppaaGreatDoor
namespace Go.Proofs.YtgandbaejlfppaaGreatDoor
set_option linter.unusedVariables false
set_option linter.unusedSimpArgs false
set_option maxRecDepth 20000
set_option maxHeartbeats 8000000
open Go.RowKit
theorem own_set {W:World} {B:Nat} {e:TypeId} {sz:Nat} {G n cap:Nat} {xs:List Value} (h:W.ownsRow B e sz (Vl G n cap) n xs) (i:Nat) (hi:i < xs.length) (v:Value):(W.setCell ⟨G,i,none⟩ v).ownsRow B e sz (Vl G n cap) n (xs.set i v):=by
 refine⟨by rw [List.length_set];exact h.1,?_⟩
 rcases h.2 with ⟨e,_⟩|⟨g,cap',cur,e,h1,h2,h3,h4,h5,h6⟩
 ·simp at e
 simp at e;obtain⟨rfl,rfl⟩:=e;refine .inr ⟨G,cap,cur.setIfInBounds i v,rfl,h1,?_,h3,h4,by simpa using h5,?_⟩
 ·simp [World.setCell,Array.getElem?_modify,h2]
 rw [←h6,Array.toList_setIfInBounds,List.take_set]
theorem own_blk {W:World} {B:Nat} {e:TypeId} {sz:Nat} {G n cap:Nat} {xs:List Value} (h:W.ownsRow B e sz (Vl G n cap) n xs):∃ c,W.heap[G]?=some (.cells c e (0,0)):=by
 rcases h.2 with ⟨e,_⟩|⟨g,cap',cur,e,h1,h2,_⟩
 ·simp at e
 simp at e;obtain⟨rfl,rfl⟩:=e;exact⟨cur,h2⟩
end Go.Proofs.YtgandbaejlfppaaGreatDoor
namespace Go.Proofs.YtgandbaejlfppaaGreatDoor
set_option linter.unusedVariables false
set_option linter.unusedSimpArgs false
set_option maxRecDepth 20000
set_option maxHeartbeats 8000000
open Go.ChangeShapes Go.WideShapes Go.ChangeAt Go.RowKit Go.Shelf Go.Maps
theorem grown_tr {a b c : World} {r : Option Nat} (h : a.grownBy b r) (k : b.grownBy c r) : a.grownBy c r :=
  ⟨k.os.trans h.os, k.tape.trans h.tape, k.output.trans h.output, Nat.le_trans h.size k.size, fun g h1 h2 => (k.block g (Nat.lt_of_lt_of_le h1 h.size) h2).trans (h.block g h1 h2)⟩
theorem grown_of {a b : World} (h : Below a.heap.size a b) (R : Nat) : a.grownBy b (some R) := ⟨h.os, h.tape, h.output, h.size, fun g h1 _ => h.block g h1⟩
theorem IsRow.byte {w : World} {a : Option Addr} {len cap : Nat} {zs : List Int} (h : IsRow .u8 w a len cap zs) (i : Nat) (hi : i < len) : ∃ x c, a = some x ∧ 0 ≤ c ∧ c ≤ 255 ∧ w.cell? (x.add i) = some (.int .u8 c) := by
  rcases h with ⟨_, rfl, _, rfl⟩ | ⟨x, h1, h2, h3, h4, h5, h6⟩
  · omega
  · have hi' : i < zs.length := by omega
    have hb := bounds_u8 (h6 _ (List.getElem_mem hi'))
    refine ⟨x, _, h1, hb.1, hb.2, ?_⟩
    rw [h5 i hi']; simp [hi']
structure Rd (w0 : World) (a : Option Addr) (len cap : Nat) (R : Nat) (b0 W : World) : Prop where
  box : ∃ i : Nat, i ≤ len ∧ W.heap[R]? = some (.cells #[.slice a len cap, .int .i64 i] 82 (0, 0))
  bel : Below w0.heap.size w0 W
  new : w0.heap.size ≤ R
  g : b0.grownBy W (some R)
theorem Rd.below {w0 b0 : World} {a : Option Addr} {len cap R : Nat} {W W' : World} (h : Rd w0 a len cap R b0 W) (hb : Below W.heap.size W W') : Rd w0 a len cap R b0 W' := by
  obtain ⟨i, hi, h1⟩ := h.box
  exact ⟨⟨i, hi, by rw [hb.block R (lt_blk h1)]; exact h1⟩, bl_trans h.bel hb, h.new, grown_tr h.g (grown_of hb R)⟩
theorem Rd.drew {w0 b0 : World} {a : Option Addr} {len cap R : Nat} {W : World} (h : Rd w0 a len cap R b0 W) : Rd w0 a len cap R b0 W.drew := h.below (Below.refl _ _).drew
theorem next_any (w0 : World) (a : Option Addr) (len cap : Nat) (zs : List Int) (h0 : IsRow .u8 w0 a len cap zs) (hlen : len ≤ 1048576) (R : Nat) (b0 W : World) (hR : Rd w0 a len cap R b0 W) :
    Calls Tryz.prog 23 #[.pointer (some ⟨R, 0, none⟩)] W fun e W' => (∃ c : Nat, c ≤ 255 ∧ e = .returned (.int .i64 c)) ∧ Rd w0 a len cap R b0 W' := by
  obtain ⟨i, hi, hbox⟩ := hR.box
  have c0 : W.cell? ⟨R, 0, none⟩ = some (.slice a len cap) := by simp [World.cell?, hbox]
  have c1 : W.cell? ⟨R, 1, none⟩ = some (.int .i64 i) := by simp [World.cell?, hbox]
  have f1 : W.frozen? ⟨R, 1, none⟩ = false := by simp [World.frozen?, hbox]
  have HR := hid hR
  have HB := hid hbox
  clear hbox hR
  by_cases hlt : i < len
  · obtain ⟨x, c, rfl, hc0, hc1, hcx⟩ := h0.byte i hlt
    obtain ⟨c, rfl⟩ := Int.eq_ofNat_of_zero_le hc0
    have hcx' := below_cell HR.out.bel hcx
    have R1 := hid (show Rd w0 (some x) len cap R b0 (W.setCell ⟨R, 1, none⟩ (.int .i64 (i + 1 : Nat))) from ⟨⟨i + 1, by omega, by simp [World.setCell, Array.getElem?_modify, HB.out]⟩, HR.out.bel.setCell HR.out.new _, HR.out.new, grown_tr HR.out.g (grown_set (grown_refl W R) 1 _)⟩)
    have ec : ((i + 1 : Nat) : Int) = (i : Int) + 1 := by omega
    rw [ec] at R1
    clear hcx h0 hc0 ec
    go_enter Tryz.func23, Tryz.ntmps23
    go_wp2
    go_region
    go_wp2
    go_region
    go_wp2
    go_ret
    exact ⟨⟨c, by omega, rfl⟩, R1.out.drew.drew⟩
  · go_enter Tryz.func23, Tryz.ntmps23
    go_wp2
    go_region
    go_wp2
    go_ret
    exact ⟨⟨0, by omega, rfl⟩, HR.out.drew⟩
theorem Rd.at {w0 b0 : World} {a : Option Addr} {len cap R : Nat} {W : World} (h : Rd w0 a len cap R b0 W) : Rd w0 a len cap R W W := ⟨h.box, h.bel, h.new, grown_refl W R⟩
theorem Rd.of {w0 b0 : World} {a : Option Addr} {len cap R : Nat} {W W' : World} (h : Rd w0 a len cap R b0 W) (k : Rd w0 a len cap R W W') : Rd w0 a len cap R b0 W' := ⟨k.box, k.bel, k.new, grown_tr h.g k.g⟩
theorem Rd.app {w0 b0 : World} {a : Option Addr} {len cap R : Nat} {W w9 : World} (h : Rd w0 a len cap R b0 W) {row : Option Nat} (hg : W.grownBy w9 row) (hr : ∀ r, row = some r → b0.heap.size ≤ r ∧ R < r) : Rd w0 a len cap R b0 w9 := by
  obtain ⟨i, hi, hb⟩ := h.box
  refine ⟨⟨i, hi, ?_⟩, h.bel.grown hg h.bel.size (fun r e => ?_), h.new, ⟨hg.os.trans h.g.os, hg.tape.trans h.g.tape, hg.output.trans h.g.output, Nat.le_trans h.g.size hg.size, fun k h1 h2 => (hg.block k (Nat.lt_of_lt_of_le h1 h.g.size) (fun e => ?_)).trans (h.g.block k h1 h2)⟩⟩
  · rw [hg.block R (lt_blk hb) (fun e => by have := (hr R e.symm).2; omega)]
    exact hb
  · have := (hr r e).2
    have := h.new
    omega
  · have := (hr k e.symm).1
    omega
theorem Rd.lt {w0 b0 : World} {a : Option Addr} {len cap R : Nat} {W : World} (h : Rd w0 a len cap R b0 W) : R < W.heap.size := by obtain ⟨_, _, e⟩ := h.box; exact lt_blk e
theorem wide_any (w0 : World) (a : Option Addr) (len cap : Nat) (zs : List Int) (h0 : IsRow .u8 w0 a len cap zs) (hlen : len ≤ 1048576) (R : Nat) (b0 W : World) (hR : Rd w0 a len cap R b0 W) :
    Calls Tryz.prog 54 #[.pointer (some ⟨R, 0, none⟩)] W fun e W' => (∃ c : Int, 0 ≤ c ∧ c ≤ 18446744073709551615 ∧ e = .returned (.int .u64 c)) ∧ Rd w0 a len cap R b0 W' := by
  have N := hid (fun W h => next_any w0 a len cap zs h0 hlen R b0 W h)
  have HR := hid hR
  clear hR h0
  go_enter Tryz.func54, Tryz.ntmps54
  go_wp2
  go_loopw [3, 4] (fun x i wr => ∃ (k : Nat) (c : Int), k ≤ 8 ∧ i = .int .i64 k ∧ x = .int .u64 c ∧ 0 ≤ c ∧ c ≤ 18446744073709551615 ∧ Hid (Rd w0 a len cap R b0 wr)) (fun _ i _ => 8 - (intOf i).toNat)
  case atStart => exact ⟨0, 0, by omega, rfl, rfl, by omega, by omega, HR⟩
  case round =>
    obtain ⟨k, c, hk, rfl, rfl, hc0, hc1, hrd⟩ := hrel
    by_cases hlt : k < 8
    · have hm : 0 ≤ IntKind.u64.wrap (c * 256) ∧ IntKind.u64.wrap (c * 256) ≤ 18446744073709551615 := by rw [IntKind.wrap_u64]; omega
      go_wp2_with fail
      refine (N.out _ hrd.out).mono ?_
      rintro e w1 ⟨⟨d, hd, rfl⟩, r1⟩
      have R1 := hid r1
      clear r1
      generalize IntKind.u64.wrap (c * 256) = m at hm ⊢
      obtain ⟨m, rfl⟩ := Int.eq_ofNat_of_zero_le hm.1
      have ho : bits BinOp.or IntKind.u64 (m : Int) (d : Int) = ((m ||| d : Nat) : Int) := bits_or_u64_nat m d (by omega) (by omega)
      have hl : m ||| d < 2 ^ 64 := Nat.or_lt_two_pow (by omega) (by omega)
      generalize m ||| d = y at ho hl
      go_wp2
      go_roundw
      case rel => exact ⟨k + 1, (y : Int), by omega, by go_num, rfl, by omega, by omega, R1⟩
      case measure => simp [intOf]; omega
    · go_wp2
      go_ret
      exact ⟨⟨c, hc0, hc1, rfl⟩, hrd.out⟩
end Go.Proofs.YtgandbaejlfppaaGreatDoor
