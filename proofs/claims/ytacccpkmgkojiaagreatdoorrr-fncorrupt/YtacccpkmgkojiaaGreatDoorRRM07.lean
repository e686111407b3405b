import Derived.BigGuardIn
import Derived.BigQuiet
import Derived.BigRegionIn
import Derived.Conc.MuLone
import Derived.Deep.AppendLies
import Derived.Deep.OwnRows
import Derived.Deep.QuietTactic
import Derived.Deep.RegionWith
import Derived.KernelRfl
import Derived.Laws.CopyOwn
import Derived.Laws.Rows
import Derived.Laws.Tables
import Derived.LoopIn
import Derived.LoopNIn
import Derived.Maps.OwnOps
import Derived.Maps.OwnSet
import Derived.OpenShut
import Derived.OrdersHeld
import Derived.OwnWalkIn
import Derived.ProofKit
import Derived.RangeFuncBound
import Derived.RangeFuncCalls
import Derived.RangeFuncLeaves
import Derived.RangeFuncNested
import Derived.Shelf.Abstract
import Derived.Shelf.RegionOpen
import Derived.TacticsInMore
import Derived.Test.YtacccpkmgkojiaaGreatDoorRRProg
import Derived.WalkKit
import Derived.WalkLawsBesides
import Derived.Test.YtacccpkmgkojiaaGreatDoorRRM00
import Derived.Test.YtacccpkmgkojiaaGreatDoorRRM01
import Derived.Test.YtacccpkmgkojiaaGreatDoorRRM02
import Derived.Test.YtacccpkmgkojiaaGreatDoorRRM03
import Derived.Test.YtacccpkmgkojiaaGreatDoorRRM04
import Derived.Test.YtacccpkmgkojiaaGreatDoorRRM05
import Derived.Test.YtacccpkmgkojiaaGreatDoorRRM06
namespace Go.Proofs.YtacccpkmgkojiaaGreatDoorRR
set_option linter.unusedVariables false
set_option linter.unusedSimpArgs false
set_option maxRecDepth 20000
set_option maxHeartbeats 8000000
open Go.RowKit Go.Shelf
attribute [local go_sem] Oper.semAt_some
theorem Sd.keep {S M:Nat} {st nn bud:Int} {f:Nat→Option Nat} {mm:Nat→Option (Bool×List Int)} {w W W':World} {DB:Nat} {p:Option Addr} {n cap c:Nat} {row:Option Nat} (h:Sd S M st nn bud f mm w DB p n cap c W) (hg:W.grownBy W' row)
  (hr:∀ r,row=some r→w.heap.size≤r∧∀ cs t z,W.heap[r]?≠some (.cells cs t z)):Sd S M st nn bud f mm w DB p n cap c W':=by
 have hc:∀ (b:Nat) (cs:Array Value) (t:TypeId) (z:Nat×Nat),W.heap[b]?=some (Obj.cells cs t z)→W'.heap[b]?=some (Obj.cells cs t z):=by
  intro b cs t z hb;rw [hg.block b (lt_of_block hb) (fun e=>(hr b e.symm).2 cs t z hb)];exact hb
 have hM:W'.heap[M]?=W.heap[M]?:=hg.block M (Nat.lt_of_lt_of_le h.mlt h.fr.size) (fun e=>by have:=(hr M e.symm).1;have:=h.mlt;omega);refine⟨⟨hc _ _ _ _ h.im.box,?_⟩,⟨?_,h.pg.inj⟩,?_,?_,h.mlt,h.dge⟩
 ·obtain⟨D,⟨es,clock,hb,r1⟩,r⟩:=h.im.map;exact⟨D,⟨es,clock,hM.trans hb,r1⟩,r⟩
 ·intro j
  rcases h.pg.at' j with h1|⟨b,l,xs,h1,h2,h3,h4⟩
  ·exact .inl h1
  exact .inr ⟨b,l,xs,h1,h2,h3,hc _ _ _ _ h4⟩
 ·exact⟨hg.os.trans h.fr.os,hg.tape.trans h.fr.tape,hg.output.trans h.fr.output,Nat.le_trans h.fr.size hg.size,fun j h0 h1 h2 h3=>by
   rw [hg.block j (Nat.lt_of_lt_of_le h0 h.fr.size) (fun e=>by have:=(hr j e.symm).1;omega)];exact h.fr.block j h0 h1 h2 h3,h.fr.made⟩
 obtain⟨pd,h1,h2⟩:=h.box;exact⟨pd,hc _ _ _ _ h1,h2⟩
theorem Sd.piece {S M:Nat} {st nn bud:Int} {f:Nat→Option Nat} {mm:Nat→Option (Bool×List Int)} {w W:World} {DB:Nat} {p:Option Addr} {n cap c:Nat} {ys:List Int} {a b:Nat} {x:Nat} {g:Nat} (h:Sd S M st nn bud f mm w DB p n cap c W) (hc:c≤n) (hcap:n≤cap) (hd:Da S M f w p n ys) (hg:f ((a+x)/1024)=some g) (hx:x < n) (hC:Cl S b a n W) :
  ∃ pd,W.heap[DB]?=some (.cells #[.slice pd (n - c) (cap - c)] 22 (0,0))∧∃ W1 pd',(Builtin.copy_ #[22,22] 3 #[.slice (some ⟨g,(a+x) % 1024,none⟩) (plen a n x) (1024 - (a+x) % 1024),.slice pd (n - c) (cap - c)]).run Tryz.prog W.drew=.ok (Vi (min (plen a n x) (n - c):Nat)) W1 ∧
   (∀ w:World,(Instr.slice 22 (.slice pd (n - c) (cap - c)) (some (Vi (min (plen a n x) (n - c):Nat))) none none).run Tryz.prog w=.ok (.slice pd' (n - (c+min (plen a n x) (n - c))) (cap - (c+min (plen a n x) (n - c)))) w) ∧
   W1.cell? ⟨DB,0,none⟩=some (.slice pd (n - c) (cap - c))∧W1.frozen? ⟨DB,0,none⟩=false ∧
   Sd S M st nn bud f (layM mm (a+x) ((ys.drop c).take (min (plen a n x) (n - c)))) w DB p n cap (c+min (plen a n x) (n - c)) (W1.setCell ⟨DB,0,none⟩ (.slice pd' (n - (c+min (plen a n x) (n - c))) (cap - (c+min (plen a n x) (n - c))))) ∧
   Kp S M b W (W1.setCell ⟨DB,0,none⟩ (.slice pd' (n - (c+min (plen a n x) (n - c))) (cap - (c+min (plen a n x) (n - c)))))∧KeepsOthers W (W1.setCell ⟨DB,0,none⟩ (.slice pd' (n - (c+min (plen a n x) (n - c))) (cap - (c+min (plen a n x) (n - c))))):=by
 obtain⟨pd,hbox,hpd⟩:=h.box;obtain⟨k,hk⟩:∃ k,k=min (plen a n x) (n - c):=⟨_,rfl⟩;rw [←hk];have hpp:=plen_page a n x;have hl1:=plen_pos (a:=a) hx;obtain⟨l,xs,hm,hxl,hb⟩:=h.pg.cell hg;have hlen:((ys.drop c).take k).length=k:=by rw [List.length_take,List.length_drop,hd.1];omega
 obtain⟨W1,hr,hg1,hgr⟩:=copy_run22 W.drew (some ⟨g,(a+x) % 1024,none⟩) pd (plen a n x) (1024 - (a+x) % 1024) (n - c) (cap - c) g ((a+x) % 1024) (pageC l xs).toList 185 (by rw [show W.drew.heap=W.heap from rfl];simpa using hb) (Ns .u8 ((ys.drop c).take k)) (by rw [Ns_len,hlen,hk];exact Nat.min_comm _ _) (fun h0=>by
  rw [Ns_len,hlen] at h0;obtain⟨x0,e1,e2⟩:=hpd (by omega);refine⟨rfl,_,e2,fun j v hv=>?_⟩;have hj:j < k:=by
   by_cases hj:j < k
   ·exact hj
   rw [List.getElem?_eq_none (by rw [Ns_len,hlen];omega)] at hv;cases hv
  obtain⟨x1,e3,e4⟩:=hd.cell h.fr (c+j) (by omega);rw [e1] at e3
  cases e3
  rw [Addr.add_add];have:W.drew.cell? (x0.add (c+j))=W.cell? (x0.add (c+j)):=rfl;rw [this,e4,←hv];simp [Ns,hj];have:c+j < ys.length:=by rw [hd.1];omega
  simp [this]) (by rw [Ns_len,hlen];simp [pageC,Ns,hxl];omega) (fun v hv=>by
   simp only [Ns,List.mem_map] at hv;obtain⟨z,_,rfl⟩:=hv;rfl)
 rw [Ns_len,hlen] at hr;rw [pageC_splice _ _ _ _ hxl (by rw [hlen];omega)] at hg1;obtain⟨pd',hsl,hpd'⟩:=sliced22 pd k (n - c) (cap - c) (by omega) (by omega);obtain⟨a1,a2⟩:=h.pg.apart h.im hg;have hgd:g≠DB:=fun e=>by subst e;rw [hb] at hbox;simp at hbox
 have hgr':W.grownBy W1 (some g):=⟨hgr.os,hgr.tape,hgr.output,hgr.size,hgr.block⟩;have hbox1:W1.heap[DB]?=some (.cells #[.slice pd (n - c) (cap - c)] 22 (0,0)):=by rw [hgr'.block DB (lt_of_block hbox) (by simpa using hgd.symm)];exact hbox
 have g2:W1.grownBy (W1.setCell ⟨DB,0,none⟩ (.slice pd' (n - (c+k)) (cap - (c+k)))) (some DB):=grown_set (grown_refl W1 DB) 0 _;have hDS:DB≠S:=fun e=>by rw [e,h.im.box] at hbox;simp at hbox
 have hDM:DB≠M:=by have:=h.mlt;have:=h.dge;omega
 have e1:n - c - k=n - (c+k):=by omega
 have e2:cap - c - k=cap - (c+k):=by omega
 refine⟨pd,hbox,W1,pd',hr,fun W=>by rw [hsl W,e1,e2],by simp [World.cell?,hbox1],by simp [World.frozen?,hbox1],⟨?_,?_,?_,?_,h.mlt,h.dge⟩,⟨?_,?_⟩,?_⟩
 ·exact (h.im.grownAt hgr' a1 a2).grownAt g2 hDS hDM
 ·have q:=h.pg.lay hg (l:=l) (xs:=splice xs ((a+x) % 1024) ((ys.drop c).take k)) (by rw [splice_len _ _ _ (by rw [hlen,hxl];omega),hxl]) hg1 hgr';have e3:layM mm (a+x) ((ys.drop c).take k)=updM mm ((a+x)/1024) (some (l,splice xs ((a+x) % 1024) ((ys.drop c).take k))):=by
   unfold layM;rw [hm];rfl
  rw [e3];refine⟨?_,q.inj⟩;intro j
  rcases q.at' j with h1|⟨b2,l2,xs2,h1,h2,h3,h4⟩
  ·exact .inl h1
  refine .inr ⟨b2,l2,xs2,h1,h2,h3,?_⟩;rw [g2.block b2 (lt_of_block h4) (fun e=>by cases e;rw [h4] at hbox1;simp at hbox1)];exact h4
 ·exact (h.fr.grownAt hgr' (.inl ⟨_,hg⟩)).grownAt g2 (.inr h.dge)
 ·refine⟨pd',by rw [heap_set_at hbox1];rfl,fun hlt=>?_⟩;obtain⟨x0,e3,e4⟩:=hpd (by omega);refine⟨x0,e3,?_⟩;rw [hpd' (by omega),e4];simp [Addr.add_add]
 ·exact Nat.le_trans hgr'.size g2.size
 ·have hk2:∀ (b:Nat) (cs:Array Value) (t:TypeId) (z:Nat×Nat),W.heap[b]?=some (Obj.cells cs t z)→t≠185→t≠22→(W1.setCell ⟨DB,0,none⟩ (.slice pd' (n - (c+k)) (cap - (c+k)))).heap[b]?=W.heap[b]?:=by
   intro b' cs t z hb' h85 h22;have n1:b'≠g:=fun e=>by subst e;rw [hb] at hb';cases hb';exact h85 rfl
   have n2:b'≠DB:=fun e=>by subst e;rw [hbox] at hb';cases hb';exact h22 rfl
   rw [g2.block b' (Nat.lt_of_lt_of_le (lt_of_block hb') hgr'.size) (by simpa using n2),hgr'.block b' (lt_of_block hb') (by simpa using n1)]
  rintro g' (rfl|rfl|rfl|rfl|rfl)
  ·exact hk2 _ _ _ _ h.im.box (by decide) (by decide)
  ·have hlt:=Nat.lt_of_lt_of_le h.mlt h.fr.size;rw [g2.block _ (Nat.lt_of_lt_of_le hlt hgr'.size) (by simpa using hDM.symm),hgr'.block _ hlt (by simpa using a2.symm)]
  ·exact hk2 _ _ _ _ hC.s (by decide) (by decide)
  ·exact hk2 _ _ _ _ hC.a (by decide) (by decide)
  exact hk2 _ _ _ _ hC.n (by decide) (by decide)
 exact (KeepsOthers.of_grownBy hgr' (fun j o e ho=>by cases e;rw [hb] at ho;cases ho;rfl)).trans (KeepsOthers.setCell _ _ _)
end Go.Proofs.YtacccpkmgkojiaaGreatDoorRR
namespace Go.Proofs.YtacccpkmgkojiaaGreatDoorRR
set_option linter.unusedVariables false
set_option linter.unusedSimpArgs false
set_option maxRecDepth 20000
set_option maxHeartbeats 8000000
open Go.RowKit Go.Shelf
attribute [local go_sem] Oper.semAt_some
theorem Sd.init {S M:Nat} {st nn bud:Int} {f:Nat→Option Nat} {m:Nat→Option (Bool×List Int)} {w:World} (hi:Im S M st nn bud f w) (hp:Pg f m w) (p:Option Addr) (n cap:Nat) (hnz:0 < n→∃ x,p=some x):Sd S M st nn bud f m w w.heap.size p n cap 0 (w.alloc (.cells #[.slice p n cap] 22)):=by
 have hw:=World.grownBy_alloc w (.cells #[.slice p n cap] 22) none;refine⟨hi.grown hw,hp.grown hw,Fr.ofGrown hw,⟨p,(MapKept.heap_alloc w _).1,fun h=>?_⟩,?_,Nat.le_refl _⟩
 ·obtain⟨x,e⟩:=hnz h;exact⟨x,e,by rw [e];simp [Addr.add]⟩
 obtain⟨D,hown,_⟩:=hi.map;exact hown.lt
theorem store_in (S M:Nat) (st nn bud:Int) (f:Nat→Option Nat) (m:Nat→Option (Bool×List Int)) (a n cap:Nat) (p:Option Addr) (ys:List Int) (w:World) (hi:Im S M st nn bud f w) (hp:Pg f m w) (hn:n≤4096) (hcap:n≤cap) (ha:n=0∨a+n≤4611686018427387904) (hd:Da S M f w p n ys) (hpg:∀ d,d < n→∃ g,f ((a+d)/1024)=some g)
  (h:∀ w,Im S M st nn bud f w→Pg f m w→Calls Tryz.prog 221 #[Vp S 0,Vu a,Vi n] w fun e w'=>e=.returned (Vi 0)∧w'=w) :
  CallsIn Fence.wide 5 Tryz.prog 175 #[Vp S 0,Vu a,.slice p n cap] w fun e w'=>e=.returned (Vi 0)∧Im S M st nn bud f w'∧Pg f (storeM m a ys n) w'∧Fr S M f f w w':=by
 have H1:=hid h;have HI:=hid (And.intro hi hp);have HP:=hid hpg;have HD:=hid hd;have FU:=hid (show Full m from fun k q e=>by
  rcases hp.at' k with ⟨_,h2⟩|⟨b,l,xs,_,h2,h3,_⟩
  ·rw [h2] at e;cases e
  rw [h2] at e;cases e;exact h3)
 have SO:=hid (show ∀ d,d < n→(m ((a+d)/1024)).isSome=true from fun d hd=>by
  obtain⟨g,hg⟩:=hpg d hd;rw [←hp.none_iff,hg];rfl)
 have hnz:0 < n→∃ x,p=some x:=fun h0=>by obtain ⟨x,e,_⟩:=hd.2 0 h0;exact⟨x,e⟩
 have S0:=hid (Sd.init hi hp p n cap hnz);clear h hi hp hpg hd hnz;refine callsIn_of_wp_marks Tryz.func175 rfl trivial ?_ rfl;simp only [Tryz.ntmps175,List.size_toArray,List.length_cons,List.length_nil,Nat.reduceAdd,Nat.reduceSub,Array.replicate_succ,Array.replicate_zero,List.push_toArray,List.append_toArray,List.nil_append,List.cons_append]
 gi_wp2_with fail
 refine⟨trivial,?_⟩;refine ((callsIn_wide (n:=4)).2 (H1.out _ (HI.out.1.alloc _) (HI.out.2.alloc _))).mono ?_;rintro _ _ ⟨rfl,rfl⟩
 gi_wp2_with fail
 refine⟨trivial,?_⟩;obtain⟨W3,hW3⟩:∃ W3,w.alloc (.cells #[.slice p n cap] 22)=W3:=⟨_,rfl⟩;obtain⟨DB,hDB⟩:∃ DB,w.heap.size=DB:=⟨_,rfl⟩;have hsz3:W3.heap.size=DB+1:=by rw [←hW3,←hDB];simp
 have HZ:=hid hsz3;clear hsz3;rw [hW3,hDB] at S0;rw [hW3,hDB];clear hW3;refine ((callsIn_wide (n:=4)).2 (pieces_mk _ _ _ _)).mono ?_;rintro e w4 ⟨rfl,rfl⟩
 gi_wp2
 have HC:=hid (Cl.made S a n W3);have g4:=grown_trans (World.grownBy_alloc W3 (.cells #[Vp S 0] 79) none) (grown_trans (World.grownBy_alloc _ (.cells #[Vu a] 23) none) (World.grownBy_alloc _ (.cells #[Vi n] 3) none));have S4:=hid (S0.out.keep g4 (fun r e=>by cases e));have h4:W3.heap.size+1+1+1=(((W3.alloc (.cells #[Vp S 0] 79)).alloc (.cells #[Vu a] 23)).alloc (.cells #[Vi n] 3)).heap.size:=by simp
 have hS:=Nat.lt_of_lt_of_le (lt_of_block HI.out.1.box) S0.out.fr.size;have hM:=Nat.lt_of_lt_of_le S0.out.mlt S0.out.fr.size;obtain⟨W4,hW4⟩:∃ W4,((W3.alloc (.cells #[Vp S 0] 79)).alloc (.cells #[Vu a] 23)).alloc (.cells #[Vi n] 3)=W4:=⟨_,rfl⟩;rw [hW4] at HC S4 h4;rw [hW4];clear g4 hW4 S0;have hsz3:=HZ.out;refine wpIn_rangeFunc_ownF rfl (by omega) (gf:=243) (lb:=#[Vp (W3.heap.size+1+1) 0,Vp (W3.heap.size+1) 0,Vp W3.heap.size 0]) rfl trivial (enters_of Tryz.func243 (by kernel_rfl) rfl)
  (encs:=fun x : { d:Nat // d < n }=>encP f a n x.1) (Kp:=Kp S M W3.heap.size) (S:=fun ys=>Got a n ys n) (Sp:=fun pre=>∃ d,Got a n pre d) (N:=n) (w0:=W4)
  (fun l J Jx W hW hJ hJx hY h0=>pieces_in S M st nn bud f a n l W3.heap.size 4 (by omega) hn ha HP.out J Jx W hJ hY (HC.out.kp (Kp.below (M:=M) (N:=W4.heap.size) hW (by omega) (by omega) (by omega))) (S4.out.im.kp (Kp.below (N:=W4.heap.size) (b:=W3.heap.size) hW (by omega) (by omega) (by omega))) h0)
  Kp.trans (fun W l o o' hl h _ _=>kp_put (S:=S) (M:=M) (b:=W3.heap.size) (N:=W4.heap.size) (by omega) (by omega) (by omega) W l o o' hl h) (Below.refl _ _) (fun _=>rfl)
  (fun pre W=>Sd S M st nn bud f (stF m a n ys pre).2 w DB p n cap (stF m a n ys pre).1 W∧Cl S W3.heap.size a n W)
  (fun c pre W=>False)
  ?own (fun c s A B row hs hg hr=>hs) ⟨S4.out,HC.out⟩
  (fun x=>{ tmps:=#[Vp S 0,Vu a,.slice p n cap,undef,undef,Vp DB 0,Vi 0,Vi 0,.slice (some ⟨(f ((a+x.1)/1024)).getD 0,(a+x.1) % 1024,none⟩) (plen a n x.1) (1024 - (a+x.1) % 1024),Vp S 0,Vu a,.slice p n cap,Vi n,Vi 0,Vi 0,.bool false,undef,Vp S 0,Vu a,.slice p n cap,Vi n,.func (.func 243) #[] #[Vp (W3.heap.size+1+1) 0,Vp (W3.heap.size+1) 0,Vp W3.heap.size 0],.slice (some ⟨(f ((a+x.1)/1024)).getD 0,(a+x.1) % 1024,none⟩) (plen a n x.1) (1024 - (a+x.1) % 1024),undef,undef,undef,undef,undef],defers:=[] }) ?assign ?body ?done ?stop
 case own =>
  rintro s A B row ⟨hl,hc⟩ hg hr;have hb:∀ r,row=some r→w.heap.size≤r∧∀ cs t z,A.heap[r]?≠some (.cells cs t z):=by
   intro r e;obtain⟨h1,o,h2,h3⟩:=hr r e;refine⟨by omega,fun cs t z h5=>?_⟩;rw [h5] at h2
   cases h2
   cases h3
  have hk:∀ (b:Nat) (cs:Array Value) (t:TypeId) (z:Nat×Nat),A.heap[b]?=some (Obj.cells cs t z)→B.heap[b]?=A.heap[b]?:=fun b cs t z hb'=>hg.block b (lt_of_block hb') (fun e=>(hb b e.symm).2 cs t z hb')
  exact⟨hl.keep hg hb,(hk _ _ _ _ hc.s).trans hc.s,(hk _ _ _ _ hc.a).trans hc.a,(hk _ _ _ _ hc.n).trans hc.n⟩
 case assign =>
  intro l x W K hK;clear hsz3;unfold encP
  gi_wp2
  exact hK
 case stop =>
  intro D c pre W _ _ h;exact h.elim
 case body =>
  rintro l pre x W ⟨hl,hc⟩ hlt;obtain⟨g,hg⟩:=HP.out x.1 x.2;obtain⟨pd,hbox,W1,pd',hcp,hsl,hc1,hf1,hsd,hkp,hko⟩:=hl.piece (stF_le m a n ys pre) hcap HD.out hg x.2 hc;have HR:=hid (And.intro hsd (And.intro hkp (And.intro hko (hc.kp hkp))));have c0:W.cell? ⟨DB,0,none⟩=some (.slice pd (n - (stF m a n ys pre).1) (cap - (stF m a n ys pre).1)):=by simp [World.cell?,hbox]
  rw [hg];simp only [Option.getD_some];have ES:=hid (stF_snoc m a n ys pre x);clear hl hc hbox hsd hkp hko S4 HC hsz3 h4
  gi_wp2
  gi_region
  all_goals
   gi_wp2
   refine⟨HR.out.2.2.1,HR.out.2.1,?_,HR.out.2.2.2⟩
   rw [ES.out]
   exact HR.out.1
 case done =>
  rintro D xs W hD hgot ⟨hl,hc⟩ hK;rw [Got.stF HD.out.1 FU.out SO.out hgot] at hl;have g3:=grownBy_putObj' W D (.deferred none);have hl3:=hl.keep g3 (fun r e=>by cases e;exact⟨by omega,fun cs t z h5=>by rw [hK] at h5;cases h5⟩);have HF:=hid hl3;clear hl hc hl3 g3 S4 HC hsz3 h4
  gi_wp2
  refine⟨by simp,.inl ⟨_,_,rfl,run_takeDeferred hK,?_⟩⟩;refine⟨Vi 0,?_,rfl,HF.out.im,HF.out.pg,HF.out.fr⟩;simp [results,Tryz.f175,go_sem]
end Go.Proofs.YtacccpkmgkojiaaGreatDoorRR
namespace Go.Proofs.YtacccpkmgkojiaaGreatDoorRR
set_option linter.unusedVariables false
set_option linter.unusedSimpArgs false
set_option maxRecDepth 20000
set_option maxHeartbeats 8000000
open Go.RowKit Go.Shelf
theorem Da.keep {S M:Nat} {f:Nat→Option Nat} {w V:World} {p:Option Addr} {n:Nat} {ys:List Int} (h:Da S M f w p n ys) (hf:Fr S M f f w V):Da S M f V p n ys:=by
 refine⟨h.1,fun i hi=>?_⟩;obtain⟨x,e,c,l,h1,h2,h3⟩:=h.2 i hi;refine⟨x,e,?_,Nat.lt_of_lt_of_le l hf.size,h1,h2,h3⟩;unfold World.cell? at c ⊢;rw [hf.block _ l h1 h2 h3];exact c
theorem im_store (S M nn:Nat) (bud:Int) (f:Nat→Option Nat) (m:Nat→Option (Bool×List Int)) (p c:Int) (a:Nat) (n:Int) (d:Option Addr) (dl dc:Nat) (ys:List Int) (w:World) (h:Im S M 0 nn bud f w) (hp:Pg f m w) (ha:a < 18446744073709551616) (hd:Da S M f w d dl ys) (hdc:dl≤dc) :
  Calls Tryz.prog 144 #[Vp S 0,opV 5 p c a n d dl dc] w fun e w'=>e=.returned (.agg #[Vi (stepM nn bud m 5 p c a n ys).2.1,Vn])∧Ims S M nn bud f (stepM nn bud m 5 p c a n ys).1 w w':=by
 have es:stepM nn bud m 5 p c a n ys=(if accC m a (ys.length:Int)=0 then storeM m a ys ys.length else m,accC m a (ys.length:Int),[]):=by unfold stepM;rw [if_neg (by decide),if_pos rfl]
 rw [es,hd.1];refine run_store S M nn bud f m _ _ p c a n d dl dc w h hp (fun V i q r=>?_)
 by_cases hz:accC m a (dl:Int)=0
 ·rw [hz,if_pos rfl];obtain⟨k,hk,h1,h2,h3⟩:=acc_zero hz;obtain rfl:dl=k:=by omega
  have hl:=store_in S M 1 nn bud f m a dl dc d ys V i q h1 hdc h2 (hd.keep r) (fun d hd=>open_some q (h3 d hd)) (fun W iW qW=>by
   have:=im_access S M 1 nn bud f m a (dl:Nat) W iW qW ha
   rwa [hz] at this)
  refine ((callsIn_wide (n:=5)).1 hl).mono ?_;rintro e w' ⟨rfl,r1,r2,r3⟩;exact⟨rfl,f,r1,r2,r3⟩
 rw [if_neg hz];refine (store_no1 S a _ dl dc d V (by simpa using hz) (im_access S M 1 nn bud f m a dl _ (i.alloc _) (q.alloc _) ha)).mono ?_;rintro e w' ⟨rfl,rfl⟩;exact⟨rfl,f,i.alloc _,q.alloc _,Fr.ofGrown (World.grownBy_alloc _ _ none)⟩
theorem im_do (S M nn:Nat) (bud:Int) (f:Nat→Option Nat) (m:Nat→Option (Bool×List Int)) (kd p c:Int) (a:Nat) (n:Int) (d:Option Addr) (dl dc:Nat) (ys:List Int) (w:World) (h:Im S M 0 nn bud f w) (hp:Pg f m w) (hout:∀ k,nn≤k→m k=none) (hnn:nn≤4096) (ha:a < 18446744073709551616) (hpm:p≤9223372036854775807) (hd:Da S M f w d dl ys) (hdc:dl≤dc) :
  Calls Tryz.prog 144 #[Vp S 0,opV kd p c a n d dl dc] w fun e w'=>∃ v,e=.returned (.agg #[Vi (stepM nn bud m kd p c a n ys).2.1,v])∧w'.ownsRow w.heap.size 5 1 v (stepM nn bud m kd p c a n ys).2.2.length (Ns .u8 (stepM nn bud m kd p c a n ys).2.2)∧Ims S M nn bud f (stepM nn bud m kd p c a n ys).1 w w':=by
 have key:∀ (e:Ending) (w':World),(stepM nn bud m kd p c a n ys).2.2=[]→(e=.returned (.agg #[Vi (stepM nn bud m kd p c a n ys).2.1,Vn])∧Ims S M nn bud f (stepM nn bud m kd p c a n ys).1 w w')→∃ v,e=.returned (.agg #[Vi (stepM nn bud m kd p c a n ys).2.1,v])∧w'.ownsRow w.heap.size 5 1 v (stepM nn bud m kd p c a n ys).2.2.length (Ns .u8 (stepM nn bud m kd p c a n ys).2.2)∧Ims S M nn bud f (stepM nn bud m kd p c a n ys).1 w w':=by
  rintro e w' h0 ⟨rfl,r⟩;exact⟨_,rfl,by rw [h0];exact⟨rfl,.inl ⟨rfl,rfl⟩⟩,r⟩
 by_cases h4:kd=4
 ·subst h4;exact im_load S M nn bud f m p c a n d dl dc ys w h hp ha
 by_cases h5:kd=5
 ·subst h5;refine (im_store S M nn bud f m p c a n d dl dc ys w h hp ha hd hdc).mono (fun e w'=>key e w' ?_);unfold stepM;rw [if_neg (by decide),if_pos rfl]
 by_cases hk:kd < 0∨5 < kd
 ·refine (im_none S M nn bud f m kd p c a n d dl dc ys w h hp hk).mono (fun e w'=>key e w' ?_);unfold stepM;rw [if_neg h4,if_neg h5,if_pos hk]
 refine (im_page S M nn bud f m kd p c a n d dl dc ys w h hp hout hnn hpm (by omega)).mono (fun e w'=>key e w' ?_);unfold stepM;rw [if_neg h4,if_neg h5,if_neg hk];split <;> rfl
theorem freshM_at (m:Nat→Option (Bool×List Int)) (p:Nat):∀ k j,p+k≤j→freshM m p k j=m j
 | 0,j,h=>rfl
 | k+1,j,h=>by
  show updM (freshM m p k) (p+k) _ j=m j
  rw [updM_other _ _ _ _ (by omega)]
  exact freshM_at m p k j (by omega)
theorem goneM_at (m:Nat→Option (Bool×List Int)) (p:Nat):∀ k j,p+k≤j→goneM m p k j=m j
 | 0,j,h=>rfl
 | k+1,j,h=>by
  show updM (goneM m p k) (p+k) _ j=m j
  rw [updM_other _ _ _ _ (by omega)]
  exact goneM_at m p k j (by omega)
end Go.Proofs.YtacccpkmgkojiaaGreatDoorRR
