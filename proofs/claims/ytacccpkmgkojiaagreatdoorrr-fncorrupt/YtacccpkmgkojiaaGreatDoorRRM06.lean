import Derived.BigGuardIn
import Derived.BigQuiet
import Derived.BigRegionIn
import Derived.Conc.MuLone
import Derived.Deep.AppendLies
import Derived.Deep.OwnRows
import Derived.Deep.QuietTactic
import Derived.Deep.RegionWith
import Derived.KernelRfl
import Derived.Laws.CopyOwn
import Derived.Laws.Rows
import Derived.Laws.Tables
import Derived.LoopIn
import Derived.LoopNIn
import Derived.Maps.OwnOps
import Derived.Maps.OwnSet
import Derived.OpenShut
import Derived.OrdersHeld
import Derived.OwnWalkIn
import Derived.ProofKit
import Derived.RangeFuncBound
import Derived.RangeFuncCalls
import Derived.RangeFuncLeaves
import Derived.RangeFuncNested
import Derived.Shelf.Abstract
import Derived.Shelf.RegionOpen
import Derived.TacticsInMore
import Derived.Test.YtacccpkmgkojiaaGreatDoorRRProg
import Derived.WalkKit
import Derived.WalkLawsBesides
import Derived.Test.YtacccpkmgkojiaaGreatDoorRRM00
import Derived.Test.YtacccpkmgkojiaaGreatDoorRRM01
import Derived.Test.YtacccpkmgkojiaaGreatDoorRRM02
import Derived.Test.YtacccpkmgkojiaaGreatDoorRRM03
import Derived.Test.YtacccpkmgkojiaaGreatDoorRRM04
import Derived.Test.YtacccpkmgkojiaaGreatDoorRRM05
namespace Go.Proofs.YtacccpkmgkojiaaGreatDoorRR
set_option linter.unusedVariables false
set_option linter.unusedSimpArgs false
set_option maxRecDepth 20000
set_option maxHeartbeats 8000000
open Go.RowKit Go.Shelf
theorem wpAny_one {P:Program} {md:Region.Mode} {ops:Array Oper} {Q:Exit→Act→World→Prop} {r fuel:Nat} {listed:Array Bool} {a:Act} {w:World} (hr:Region.ready md ops listed=[r])
  (h:wpOp P ops Q r (wpAny P md ops Q fuel (listed.setIfInBounds r true)) a w):wpAny P md ops Q (fuel+1) listed a w :=
 wpAny_all hr (by simp) (fun i hi=>by
  obtain rfl:i=r:=by simpa using hi
  exact h)
theorem wpAny_put {P:Program} {md:Region.Mode} {ops:Array Oper} {Q:Exit→Act→World→Prop} {i d:Nat} {oi:Oper} {v:Value} {fuel:Nat} {listed:Array Bool} {a:Act} {w:World} (hi:ops[i]?=some oi) (hd:oi.dst=some d)
  (hs:Region.noSelect ops=true) (hf:Region.free md ops listed i=true) (hr:(Region.ready md ops listed).contains i=true)
  (hQ:∀ c a w,Q (.panic c) (a.put oi.dst v) w→Q (.panic c) a w) (hy:Yields P ops oi v a)
  (h:wpAny P md ops Q fuel (listed.setIfInBounds i true) { a with tmps:=a.tmps.setIfInBounds d v } w):wpAny P md ops Q (fuel+1) listed a w :=
 wpAny_take hi hs hf hr hQ hy (by
  have e:a.put oi.dst v={ a with tmps:=a.tmps.setIfInBounds d v }:=by rw [hd];rfl
  rw [e];exact h)
def loadB (m:Nat→Option (Bool×List Int)) (a n:Nat):List Int:=(List.range n).map fun i=>byteAt m (a+i)
theorem setRow_at {v:World} {g:Nat} {old:Array Value} {t:TypeId} (h:v.heap[g]?=some (.cells old t (0,0))) (cs:Array Value):(v.setRow g cs).heap[g]?=some (.cells cs t (0,0)):=by
 simp [World.setRow,Array.getElem?_modify,h]
theorem grown_setRow (w:World) (g:Nat) (cs:Array Value):w.grownBy (w.setRow g cs) (some g) :=
 ⟨rfl,rfl,rfl,by simp [World.setRow],fun k _ hne=>by
  have:g≠k:=fun e=>hne (by rw [e])
  simp [World.setRow,Array.getElem?_modify,this]⟩
theorem own_mono {w:World} {base base':Nat} {e:TypeId} {size:Nat} {v:Value} {n:Nat} {xs:List Value} (h:w.ownsRow base e size v n xs) (hb:base'≤base):w.ownsRow base' e size v n xs :=
 ⟨h.1,h.2.imp id fun ⟨g,cap,cur,h1,h2,h3⟩=>⟨g,cap,cur,h1,Nat.le_trans hb h2,h3⟩⟩
end Go.Proofs.YtacccpkmgkojiaaGreatDoorRR
namespace Go.Proofs.YtacccpkmgkojiaaGreatDoorRR
set_option linter.unusedVariables false
set_option linter.unusedSimpArgs false
set_option maxRecDepth 20000
set_option maxHeartbeats 8000000
open Go.RowKit Go.Shelf
theorem Im.lt {S M:Nat} {st n bud:Int} {f:Nat→Option Nat} {w:World} (h:Im S M st n bud f w):S < w.heap.size∧M < w.heap.size:=by
 obtain⟨D,h1,h2⟩:=h.map;exact⟨lt_blk h.box,h1.lt⟩
theorem Im.setRow {S M:Nat} {st n bud:Int} {f:Nat→Option Nat} {w:World} (h:Im S M st n bud f w) {r:Nat} (h1:r≠S) (h2:r≠M) (cs:Array Value):Im S M st n bud f (w.setRow r cs):=by
 have hg:=grown_setRow w r cs;obtain⟨D,d1,d2⟩:=h.map;exact⟨(hg.block S (lt_blk h.box) (by simpa using Ne.symm h1)).trans h.box,D,d1.kept hg (by simpa using Ne.symm h2),d2⟩
theorem Im.apartT {S M:Nat} {st n bud:Int} {f:Nat→Option Nat} {m:Nat→Option (Bool×List Int)} {W:World} (h:Im S M st n bud f W) (hp:Pg f m W) {g:Nat} {c:Array Value} {t:TypeId} {fr:Nat×Nat} (hg:W.heap[g]?=some (.cells c t fr)) (h1:t≠152) (h2:t≠185):g≠S∧g≠M∧∀ k,f k≠some g:=by
 refine⟨?_,?_,fun k hk=>?_⟩
 ·rintro rfl;have:=h.box;rw [hg] at this;simp at this;exact h1 this.2.1
 ·rintro rfl;obtain⟨D,⟨es,clock,hb,_⟩,_⟩:=h.map;rw [hg] at hb
  cases hb
 rcases hp.at' k with ⟨e1,_⟩|⟨b,l,xs,e1,_,_,e4⟩
 ·rw [hk] at e1;cases e1
 rw [hk] at e1
 cases e1
 rw [hg] at e4;simp at e4;exact h2 e4.2.1
theorem Pg.other {f:Nat→Option Nat} {m:Nat→Option (Bool×List Int)} {W W':World} (h:Pg f m W) (hk:∀ k b,f k=some b→W'.heap[b]?=W.heap[b]?):Pg f m W' :=
 ⟨fun k=>(h.at' k).imp id fun ⟨b,l,xs,e1,e2,e3,e4⟩=>⟨b,l,xs,e1,e2,e3,(hk k b e1).trans e4⟩,h.inj⟩
structure Dl (w:World) (op:Array Value) (S M:Nat) (nn bud:Int) (f f':Nat→Option Nat) (m:Nat→Option (Bool×List Int)) (O Rb:Nat) (V:World):Prop where
 im:Im S M 1 nn bud f' V
 pg:Pg f' m V
 fr:Fr S M f f' w V
 o:V.heap[O]?=some (.cells op 181 (0,0))
 r:V.heap[Rb]?=some (.cells #[Vi 0,Vn] 201 (0,0))
 hO:O=w.heap.size
 hR:Rb=w.heap.size+1
theorem Dl.first {S M:Nat} {n bud:Int} {f:Nat→Option Nat} {m:Nat→Option (Bool×List Int)} {w:World} (h:Im S M 0 n bud f w) (hp:Pg f m w) (op:Array Value):Dl w op S M n bud f f m w.heap.size (w.heap.size+1) (((w.alloc (.cells op 181)).alloc (.cells #[Vi 0,Vn] 201)).setCell ⟨S,0,none⟩ (.int .i32 1)):=by
 have hl:=h.lt;have i2:=(h.alloc (.cells op 181)).alloc (.cells #[Vi 0,Vn] 201);have p2:=(hp.alloc (.cells op 181)).alloc (.cells #[Vi 0,Vn] 201);refine⟨i2.st 1,p2.other (fun k b hb=>Below.heap_setCell _ _ _ _ (p2.apart i2 hb).1),?_,?_,?_,rfl,rfl⟩
 ·have b2:Below w.heap.size w ((w.alloc (.cells op 181)).alloc (.cells #[Vi 0,Vn] 201)):=((Below.refl _ _).alloc (Nat.le_refl _) _).alloc (by rw [al_size];omega) _;have g2:=grown_set (grown_refl ((w.alloc (.cells op 181)).alloc (.cells #[Vi 0,Vn] 201)) S) 0 (.int .i32 1);exact⟨g2.os.trans b2.os,g2.tape.trans b2.tape,g2.output.trans b2.output,Nat.le_trans b2.size g2.size,fun g h1 h2 h3 h4=>(g2.block g (Nat.lt_of_lt_of_le h1 b2.size) (by simpa using h2)).trans (b2.block g h1),fun k g hk=>.inl ⟨k,hk⟩⟩
 ·rw [Below.heap_setCell _ _ _ _ (by show w.heap.size≠S;omega),al_old _ _ _ (by rw [al_size];omega)];exact al_last _ _
 rw [Below.heap_setCell _ _ _ _ (by show w.heap.size+1≠S;omega),←al_size w (.cells op 181)];exact al_last _ _
theorem Dl.move {S M O Rb:Nat} {n bud:Int} {f f' f'':Nat→Option Nat} {m m':Nat→Option (Bool×List Int)} {w V V':World} {op:Array Value} (h:Dl w op S M n bud f f' m O Rb V) (hi:Im S M 1 n bud f'' V') (hp:Pg f'' m' V') (hf:Fr S M f' f'' V V'):Dl w op S M n bud f f'' m' O Rb V':=by
 obtain⟨a1,a2,a3⟩:=h.im.apartT h.pg h.o (by decide) (by decide);obtain⟨b1,b2,b3⟩:=h.im.apartT h.pg h.r (by decide) (by decide);exact⟨hi,hp,h.fr.trans hf,(hf.block O (lt_blk h.o) a1 a2 a3).trans h.o,(hf.block Rb (lt_blk h.r) b1 b2 b3).trans h.r,h.hO,h.hR⟩
def Ims (S M:Nat) (n bud:Int) (f:Nat→Option Nat) (m:Nat→Option (Bool×List Int)) (w w':World):Prop:=∃ f',Im S M 0 n bud f' w'∧Pg f' m w'∧Fr S M f f' w w'
theorem Dl.done {S M O Rb:Nat} {n bud:Int} {f f':Nat→Option Nat} {m:Nat→Option (Bool×List Int)} {w V:World} {op:Array Value} (h:Dl w op S M n bud f f' m O Rb V) (cs:Array Value):(V.setRow Rb cs).cell? ⟨S,0,none⟩=some (.int .i32 1)∧(V.setRow Rb cs).frozen? ⟨S,0,none⟩=false∧((V.setRow Rb cs).setCell ⟨S,0,none⟩ (.int .i32 0)).heap[Rb]?=some (.cells cs 201 (0,0))∧Ims S M n bud f m w ((V.setRow Rb cs).setCell ⟨S,0,none⟩ (.int .i32 0)):=by
 obtain⟨n1,n2,n3⟩:=h.im.apartT h.pg h.r (by decide) (by decide);have i2:=h.im.setRow n1 n2 cs;have g1:=grown_setRow V Rb cs;have p2:Pg f' m (V.setRow Rb cs):=h.pg.other (fun k b hb=>g1.block b (by
  rcases h.pg.at' k with ⟨e1,_⟩|⟨b',l,xs,e1,_,_,e4⟩
  ·rw [hb] at e1;cases e1
  rw [hb] at e1;cases e1;exact lt_blk e4) (fun e=>by cases e;exact n3 k hb))
 have g2:=grown_set (grown_refl (V.setRow Rb cs) S) 0 (.int .i32 0);refine⟨by simp [World.cell?,i2.box],by simp [World.frozen?,i2.box],?_,f',i2.st 0,p2.other (fun k b hb=>Below.heap_setCell _ _ _ _ (p2.apart i2 hb).1),?_⟩
 ·rw [Below.heap_setCell _ _ _ _ n1];exact setRow_at h.r cs
 have hR:=h.hR;exact⟨g2.os.trans (g1.os.trans h.fr.os),g2.tape.trans (g1.tape.trans h.fr.tape),g2.output.trans (g1.output.trans h.fr.output),Nat.le_trans h.fr.size (Nat.le_trans g1.size g2.size),fun g h1 h2 h3 h4=>(g2.block g (Nat.lt_of_lt_of_le h1 (Nat.le_trans h.fr.size g1.size)) (by simpa using h2)).trans ((g1.block g (Nat.lt_of_lt_of_le h1 h.fr.size) (by simp;omega)).trans (h.fr.block g h1 h2 h3 h4)),h.fr.made⟩
theorem run_none (S M:Nat) (nn bud:Int) (f:Nat→Option Nat) (m:Nat→Option (Bool×List Int)) (kd p c:Int) (a:Nat) (n:Int) (d:Option Addr) (dl dc:Nat) (w:World) (h:Im S M 0 nn bud f w) (hp:Pg f m w) (hk:kd < 0∨5 < kd) :
  Calls Tryz.prog 144 #[Vp S 0,opV kd p c a n d dl dc] w fun e w'=>e=.returned (.agg #[Vi 6,Vn])∧Ims S M nn bud f m w w':=by
 have k0:¬kd=0:=by omega
 have k1:¬kd=1:=by omega
 have k2:¬kd=2:=by omega
 have k3:¬kd=3:=by omega
 have k4:¬kd=4:=by omega
 have k5:¬kd=5:=by omega
 have HI:=hid h;have HP:=hid hp;clear h hk hp;unfold opV
 go_enter_defers Tryz.func144,Tryz.ntmps144
 go_wp2_with fail;refine (im_lock ((HI.out.alloc _).alloc _)).mono ?_;rintro e V ⟨rfl,hV⟩;have D0:=hid (Dl.first HI.out HP.out #[Vi kd,Vi p,Vi c,Vu a,Vi n,.slice d dl dc]);rw [←hV] at D0;clear hV HI HP;generalize hRe:w.heap.size+1=Rb at D0 ⊢;generalize w.heap.size=O at D0 ⊢;have cK:V.cell? ⟨O,0,none⟩=some (Vi kd):=by simp [World.cell?,D0.out.o]
 go_wp2_with (refine wpList_store_row rfl 201 _ _ rfl _ _ rfl rfl 201 _ D0.out.r (by kernel_rfl) rfl (by simp [Value.oneCell']) ?_);have E0:=D0.out.done #[Vi 6,Vn];refine leaves_cons (f:=105) (args:=#[Vp S 0]) (by simp) (by simp [go_sem]) ?_;refine (Go.MuLone.unlock_deferred muLib ⟨S,0,none⟩ .returning _ E0.1 E0.2.1).mono ?_;rintro e u' w'' ⟨rfl,rfl,rfl⟩;exact⟨_,results_cell_row (by rfl) _ _ Rb 201 _ (0,0) _ (by rfl) E0.2.2.1 Tryz.underlying201 rfl (by kernel_rfl),rfl,E0.2.2.2⟩
theorem run_commit (S M:Nat) (nn bud:Int) (f:Nat→Option Nat) (m m':Nat→Option (Bool×List Int)) (code:Int) (p c:Int) (a:Nat) (n:Int) (d:Option Addr) (dl dc:Nat) (w:World) (h:Im S M 0 nn bud f w) (hp:Pg f m w)
  (hc:∀ V,Im S M 1 nn bud f V→Pg f m V→Calls Tryz.prog 171 #[Vp S 0,Vi p,Vi c] V fun e w'=>e=.returned (Vi code)∧∃ f',Im S M 1 nn bud f' w'∧Pg f' m' w'∧Fr S M f f' V w') :
  Calls Tryz.prog 144 #[Vp S 0,opV 0 p c a n d dl dc] w fun e w'=>e=.returned (.agg #[Vi code,Vn])∧Ims S M nn bud f m' w w':=by
 have HI:=hid h;have HP:=hid hp;have HC:=hid hc;clear h hp hc;unfold opV
 go_enter_defers Tryz.func144,Tryz.ntmps144
 go_wp2_with fail;refine (im_lock ((HI.out.alloc _).alloc _)).mono ?_;rintro e V ⟨rfl,hV⟩;have D0:=hid (Dl.first HI.out HP.out #[Vi 0,Vi p,Vi c,Vu a,Vi n,.slice d dl dc]);rw [←hV] at D0;clear hV HI HP;generalize hRe:w.heap.size+1=Rb at D0 ⊢;generalize w.heap.size=O at D0 ⊢;have cK:V.cell? ⟨O,0,none⟩=some (Vi 0):=by simp [World.cell?,D0.out.o]
 have cP:V.cell? ⟨O,1,none⟩=some (Vi p):=by simp [World.cell?,D0.out.o]
 have cC:V.cell? ⟨O,2,none⟩=some (Vi c):=by simp [World.cell?,D0.out.o]
 go_wp2_with fail;refine (HC.out V D0.out.im D0.out.pg).mono ?_;rintro e V2 ⟨rfl,f',i2,p2,r2⟩;have D2:=hid (D0.out.move i2 p2 r2);clear i2 p2 r2 D0 HC cK cP cC;go_wp2_with (refine wpList_store_row rfl 201 _ _ rfl _ _ rfl rfl 201 _ D2.out.r (by kernel_rfl) rfl (by simp [Value.oneCell']) ?_);have E0:=D2.out.done #[Vi code,Vn];refine leaves_cons (f:=105) (args:=#[Vp S 0]) (by simp) (by simp [go_sem]) ?_;refine (Go.MuLone.unlock_deferred muLib ⟨S,0,none⟩ .returning _ E0.1 E0.2.1).mono ?_;rintro e u' w'' ⟨rfl,rfl,rfl⟩;exact⟨_,results_cell_row (by rfl) _ _ Rb 201 _ (0,0) _ (by rfl) E0.2.2.1 Tryz.underlying201 rfl (by kernel_rfl),rfl,E0.2.2.2⟩
theorem run_decommit (S M:Nat) (nn bud:Int) (f:Nat→Option Nat) (m m':Nat→Option (Bool×List Int)) (code:Int) (p c:Int) (a:Nat) (n:Int) (d:Option Addr) (dl dc:Nat) (w:World) (h:Im S M 0 nn bud f w) (hp:Pg f m w)
  (hc:∀ V,Im S M 1 nn bud f V→Pg f m V→Calls Tryz.prog 172 #[Vp S 0,Vi p,Vi c] V fun e w'=>e=.returned (Vi code)∧∃ f',Im S M 1 nn bud f' w'∧Pg f' m' w'∧Fr S M f f' V w') :
  Calls Tryz.prog 144 #[Vp S 0,opV 1 p c a n d dl dc] w fun e w'=>e=.returned (.agg #[Vi code,Vn])∧Ims S M nn bud f m' w w':=by
 have HI:=hid h;have HP:=hid hp;have HC:=hid hc;clear h hp hc;unfold opV
 go_enter_defers Tryz.func144,Tryz.ntmps144
 go_wp2_with fail;refine (im_lock ((HI.out.alloc _).alloc _)).mono ?_;rintro e V ⟨rfl,hV⟩;have D0:=hid (Dl.first HI.out HP.out #[Vi 1,Vi p,Vi c,Vu a,Vi n,.slice d dl dc]);rw [←hV] at D0;clear hV HI HP;generalize hRe:w.heap.size+1=Rb at D0 ⊢;generalize w.heap.size=O at D0 ⊢;have cK:V.cell? ⟨O,0,none⟩=some (Vi 1):=by simp [World.cell?,D0.out.o]
 have cP:V.cell? ⟨O,1,none⟩=some (Vi p):=by simp [World.cell?,D0.out.o]
 have cC:V.cell? ⟨O,2,none⟩=some (Vi c):=by simp [World.cell?,D0.out.o]
 go_wp2_with fail;refine (HC.out V D0.out.im D0.out.pg).mono ?_;rintro e V2 ⟨rfl,f',i2,p2,r2⟩;have D2:=hid (D0.out.move i2 p2 r2);clear i2 p2 r2 D0 HC cK cP cC;go_wp2_with (refine wpList_store_row rfl 201 _ _ rfl _ _ rfl rfl 201 _ D2.out.r (by kernel_rfl) rfl (by simp [Value.oneCell']) ?_);have E0:=D2.out.done #[Vi code,Vn];refine leaves_cons (f:=105) (args:=#[Vp S 0]) (by simp) (by simp [go_sem]) ?_;refine (Go.MuLone.unlock_deferred muLib ⟨S,0,none⟩ .returning _ E0.1 E0.2.1).mono ?_;rintro e u' w'' ⟨rfl,rfl,rfl⟩;exact⟨_,results_cell_row (by rfl) _ _ Rb 201 _ (0,0) _ (by rfl) E0.2.2.1 Tryz.underlying201 rfl (by kernel_rfl),rfl,E0.2.2.2⟩
theorem run_lock (S M:Nat) (nn bud:Int) (f:Nat→Option Nat) (m m':Nat→Option (Bool×List Int)) (code:Int) (p c:Int) (a:Nat) (n:Int) (d:Option Addr) (dl dc:Nat) (w:World) (h:Im S M 0 nn bud f w) (hp:Pg f m w)
  (hc:∀ V,Im S M 1 nn bud f V→Pg f m V→Calls Tryz.prog 173 #[Vp S 0,Vi p,Vi c,.bool true] V fun e w'=>e=.returned (Vi code)∧∃ f',Im S M 1 nn bud f' w'∧Pg f' m' w'∧Fr S M f f' V w') :
  Calls Tryz.prog 144 #[Vp S 0,opV 2 p c a n d dl dc] w fun e w'=>e=.returned (.agg #[Vi code,Vn])∧Ims S M nn bud f m' w w':=by
 have HI:=hid h;have HP:=hid hp;have HC:=hid hc;clear h hp hc;unfold opV
 go_enter_defers Tryz.func144,Tryz.ntmps144
 go_wp2_with fail;refine (im_lock ((HI.out.alloc _).alloc _)).mono ?_;rintro e V ⟨rfl,hV⟩;have D0:=hid (Dl.first HI.out HP.out #[Vi 2,Vi p,Vi c,Vu a,Vi n,.slice d dl dc]);rw [←hV] at D0;clear hV HI HP;generalize hRe:w.heap.size+1=Rb at D0 ⊢;generalize w.heap.size=O at D0 ⊢;have cK:V.cell? ⟨O,0,none⟩=some (Vi 2):=by simp [World.cell?,D0.out.o]
 have cP:V.cell? ⟨O,1,none⟩=some (Vi p):=by simp [World.cell?,D0.out.o]
 have cC:V.cell? ⟨O,2,none⟩=some (Vi c):=by simp [World.cell?,D0.out.o]
 go_wp2_with fail;refine (HC.out V D0.out.im D0.out.pg).mono ?_;rintro e V2 ⟨rfl,f',i2,p2,r2⟩;have D2:=hid (D0.out.move i2 p2 r2);clear i2 p2 r2 D0 HC cK cP cC;go_wp2_with (refine wpList_store_row rfl 201 _ _ rfl _ _ rfl rfl 201 _ D2.out.r (by kernel_rfl) rfl (by simp [Value.oneCell']) ?_);have E0:=D2.out.done #[Vi code,Vn];refine leaves_cons (f:=105) (args:=#[Vp S 0]) (by simp) (by simp [go_sem]) ?_;refine (Go.MuLone.unlock_deferred muLib ⟨S,0,none⟩ .returning _ E0.1 E0.2.1).mono ?_;rintro e u' w'' ⟨rfl,rfl,rfl⟩;exact⟨_,results_cell_row (by rfl) _ _ Rb 201 _ (0,0) _ (by rfl) E0.2.2.1 Tryz.underlying201 rfl (by kernel_rfl),rfl,E0.2.2.2⟩
theorem run_unlock (S M:Nat) (nn bud:Int) (f:Nat→Option Nat) (m m':Nat→Option (Bool×List Int)) (code:Int) (p c:Int) (a:Nat) (n:Int) (d:Option Addr) (dl dc:Nat) (w:World) (h:Im S M 0 nn bud f w) (hp:Pg f m w)
  (hc:∀ V,Im S M 1 nn bud f V→Pg f m V→Calls Tryz.prog 173 #[Vp S 0,Vi p,Vi c,.bool false] V fun e w'=>e=.returned (Vi code)∧∃ f',Im S M 1 nn bud f' w'∧Pg f' m' w'∧Fr S M f f' V w') :
  Calls Tryz.prog 144 #[Vp S 0,opV 3 p c a n d dl dc] w fun e w'=>e=.returned (.agg #[Vi code,Vn])∧Ims S M nn bud f m' w w':=by
 have HI:=hid h;have HP:=hid hp;have HC:=hid hc;clear h hp hc;unfold opV
 go_enter_defers Tryz.func144,Tryz.ntmps144
 go_wp2_with fail;refine (im_lock ((HI.out.alloc _).alloc _)).mono ?_;rintro e V ⟨rfl,hV⟩;have D0:=hid (Dl.first HI.out HP.out #[Vi 3,Vi p,Vi c,Vu a,Vi n,.slice d dl dc]);rw [←hV] at D0;clear hV HI HP;generalize hRe:w.heap.size+1=Rb at D0 ⊢;generalize w.heap.size=O at D0 ⊢;have cK:V.cell? ⟨O,0,none⟩=some (Vi 3):=by simp [World.cell?,D0.out.o]
 have cP:V.cell? ⟨O,1,none⟩=some (Vi p):=by simp [World.cell?,D0.out.o]
 have cC:V.cell? ⟨O,2,none⟩=some (Vi c):=by simp [World.cell?,D0.out.o]
 go_wp2_with fail;refine (HC.out V D0.out.im D0.out.pg).mono ?_;rintro e V2 ⟨rfl,f',i2,p2,r2⟩;have D2:=hid (D0.out.move i2 p2 r2);clear i2 p2 r2 D0 HC cK cP cC;go_wp2_with (refine wpList_store_row rfl 201 _ _ rfl _ _ rfl rfl 201 _ D2.out.r (by kernel_rfl) rfl (by simp [Value.oneCell']) ?_);have E0:=D2.out.done #[Vi code,Vn];refine leaves_cons (f:=105) (args:=#[Vp S 0]) (by simp) (by simp [go_sem]) ?_;refine (Go.MuLone.unlock_deferred muLib ⟨S,0,none⟩ .returning _ E0.1 E0.2.1).mono ?_;rintro e u' w'' ⟨rfl,rfl,rfl⟩;exact⟨_,results_cell_row (by rfl) _ _ Rb 201 _ (0,0) _ (by rfl) E0.2.2.1 Tryz.underlying201 rfl (by kernel_rfl),rfl,E0.2.2.2⟩
end Go.Proofs.YtacccpkmgkojiaaGreatDoorRR
namespace Go.Proofs.YtacccpkmgkojiaaGreatDoorRR
set_option linter.unusedVariables false
set_option linter.unusedSimpArgs false
set_option maxRecDepth 20000
set_option maxHeartbeats 8000000
open Go.RowKit Go.Shelf
def allBb (m:Nat→Option (Bool×List Int)) (p:Nat) (b:Bool):Nat→Bool
 | 0=>true
 | k+1=>allBb m p b k && ((m (p+k)).isSome==b)
instance (nn:Nat) (p c:Int):Decidable (okP nn p c):=by unfold okP;infer_instance
def pageM (n:Nat) (bud:Int) (m:Nat→Option (Bool×List Int)) (kd:Int) (p c:Nat):(Nat→Option (Bool×List Int))×Int :=
 if kd=0 then
  if allBb m p false c=false then (m,6) else if bud < (cntM m n:Int)+c then (m,1) else (freshM m p c,0)
 else if allBb m p true c=false then (m,6)
 else if kd=1 then (goneM m p c,0)
 else if kd=2 then (lockedM m p true c,0) else (lockedM m p false c,0)
def stepM (n:Nat) (bud:Int) (m:Nat→Option (Bool×List Int)) (kd p c:Int) (a:Nat) (len:Int) (ys:List Int):(Nat→Option (Bool×List Int))×Int×List Int :=
 if kd=4 then (m,accC m a len,if accC m a len=0 then loadB m a len.toNat else [])
 else if kd=5 then (if accC m a (ys.length:Int)=0 then storeM m a ys ys.length else m,accC m a (ys.length:Int),[])
 else if kd < 0∨5 < kd then (m,6,[])
 else if okP n p c then ((pageM n bud m kd p.toNat c.toNat).1,(pageM n bud m kd p.toNat c.toNat).2,[])
 else (m,6,[])
end Go.Proofs.YtacccpkmgkojiaaGreatDoorRR
namespace Go.Proofs.YtacccpkmgkojiaaGreatDoorRR
set_option linter.unusedVariables false
set_option linter.unusedSimpArgs false
set_option maxRecDepth 20000
set_option maxHeartbeats 8000000
open Go.RowKit Go.Shelf
theorem run_store (S M:Nat) (nn bud:Int) (f:Nat→Option Nat) (m m':Nat→Option (Bool×List Int)) (code:Int) (p c:Int) (a:Nat) (n:Int) (d:Option Addr) (dl dc:Nat) (w:World) (h:Im S M 0 nn bud f w) (hp:Pg f m w)
  (hc:∀ V,Im S M 1 nn bud f V→Pg f m V→Fr S M f f w V→Calls Tryz.prog 175 #[Vp S 0,Vu a,.slice d dl dc] V fun e w'=>e=.returned (Vi code)∧∃ f',Im S M 1 nn bud f' w'∧Pg f' m' w'∧Fr S M f f' V w') :
  Calls Tryz.prog 144 #[Vp S 0,opV 5 p c a n d dl dc] w fun e w'=>e=.returned (.agg #[Vi code,Vn])∧Ims S M nn bud f m' w w':=by
 have HI:=hid h;have HP:=hid hp;have HC:=hid hc;clear h hp hc;unfold opV
 go_enter_defers Tryz.func144,Tryz.ntmps144
 go_wp2_with fail;refine (im_lock ((HI.out.alloc _).alloc _)).mono ?_;rintro e V ⟨rfl,hV⟩;have D0:=hid (Dl.first HI.out HP.out #[Vi 5,Vi p,Vi c,Vu a,Vi n,.slice d dl dc]);rw [←hV] at D0;clear hV HI HP;generalize hRe:w.heap.size+1=Rb at D0 ⊢;generalize w.heap.size=O at D0 ⊢;have cK:V.cell? ⟨O,0,none⟩=some (Vi 5):=by simp [World.cell?,D0.out.o]
 have cA:V.cell? ⟨O,3,none⟩=some (Vu a):=by simp [World.cell?,D0.out.o]
 have cD:V.cell? ⟨O,5,none⟩=some (.slice d dl dc):=by simp [World.cell?,D0.out.o]
 go_wp2_with fail;refine (HC.out V D0.out.im D0.out.pg D0.out.fr).mono ?_;rintro e V2 ⟨rfl,f',i2,p2,r2⟩;have D2:=hid (D0.out.move i2 p2 r2);clear i2 p2 r2 D0 HC cK cA cD;go_wp2_with (refine wpList_store_row rfl 201 _ _ rfl _ _ rfl rfl 201 _ D2.out.r (by kernel_rfl) rfl (by simp [Value.oneCell']) ?_);have E0:=D2.out.done #[Vi code,Vn];refine leaves_cons (f:=105) (args:=#[Vp S 0]) (by simp) (by simp [go_sem]) ?_;refine (Go.MuLone.unlock_deferred muLib ⟨S,0,none⟩ .returning _ E0.1 E0.2.1).mono ?_;rintro e u' w'' ⟨rfl,rfl,rfl⟩;exact⟨_,results_cell_row (by rfl) _ _ Rb 201 _ (0,0) _ (by rfl) E0.2.2.1 Tryz.underlying201 rfl (by kernel_rfl),rfl,E0.2.2.2⟩
theorem Dl.own {S M O Rb:Nat} {n bud:Int} {f f':Nat→Option Nat} {m:Nat→Option (Bool×List Int)} {w V:World} {op:Array Value} (h:Dl w op S M n bud f f' m O Rb V) {B:Nat} {v:Value} {k:Nat} {xs:List Value} (ho:V.ownsRow B 5 1 v k xs) (hB:w.heap.size≤B) (cs:Array Value):((V.setRow Rb cs).setCell ⟨S,0,none⟩ (.int .i32 0)).ownsRow w.heap.size 5 1 v k xs:=by
 obtain⟨n1,n2,n3⟩:=h.im.apartT h.pg h.r (by decide) (by decide);have i2:=h.im.setRow n1 n2 cs;refine own_mono ?_ hB;refine (ho.kept (grown_setRow V Rb cs) (.inr fun e=>?_)).kept (grown_set (grown_refl _ S) 0 _) (.inr fun e=>?_)
 ·obtain⟨c',hc'⟩:=own_type ho e;rw [h.r] at hc';simp at hc'
 obtain⟨c',hc'⟩:=own_type ho e;rw [h.im.box] at hc';simp at hc'
theorem run_load (S M:Nat) (nn bud:Int) (f:Nat→Option Nat) (m:Nat→Option (Bool×List Int)) (code:Int) (xs:List Int) (p c:Int) (a:Nat) (n:Int) (d:Option Addr) (dl dc:Nat) (w:World) (h:Im S M 0 nn bud f w) (hp:Pg f m w)
  (hc:∀ V,Im S M 1 nn bud f V→Pg f m V→Calls Tryz.prog 174 #[Vp S 0,Vu a,Vi n] V fun e w'=>∃ v,e=.returned (.agg #[Vi code,v])∧w'.ownsRow V.heap.size 5 1 v xs.length (Ns .u8 xs)∧Im S M 1 nn bud f w'∧Pg f m w'∧Fr S M f f V w') :
  Calls Tryz.prog 144 #[Vp S 0,opV 4 p c a n d dl dc] w fun e w'=>∃ v,e=.returned (.agg #[Vi code,v])∧w'.ownsRow w.heap.size 5 1 v xs.length (Ns .u8 xs)∧Ims S M nn bud f m w w':=by
 have HI:=hid h;have HP:=hid hp;have HC:=hid hc;clear h hp hc;unfold opV
 go_enter_defers Tryz.func144,Tryz.ntmps144
 go_wp2_with fail;refine (im_lock ((HI.out.alloc _).alloc _)).mono ?_;rintro e V ⟨rfl,hV⟩;have D0:=hid (Dl.first HI.out HP.out #[Vi 4,Vi p,Vi c,Vu a,Vi n,.slice d dl dc]);rw [←hV] at D0;clear hV HI HP;generalize hRe:w.heap.size+1=Rb at D0 ⊢;generalize hOe:w.heap.size=O at D0 ⊢;have cK:V.cell? ⟨O,0,none⟩=some (Vi 4):=by simp [World.cell?,D0.out.o]
 have cA:V.cell? ⟨O,3,none⟩=some (Vu a):=by simp [World.cell?,D0.out.o]
 have cD:V.cell? ⟨O,4,none⟩=some (Vi n):=by simp [World.cell?,D0.out.o]
 have HZ:=hid D0.out.fr.size;go_wp2_with fail;refine (HC.out V D0.out.im D0.out.pg).mono ?_;rintro e V2 ⟨v,rfl,ho,i2,p2,r2⟩;have D2:=hid (D0.out.move i2 p2 r2);have HW:=hid ho;clear i2 p2 r2 D0 HC cK cA cD ho;go_wp2_with (refine wpList_store_row rfl 201 _ _ rfl _ _ rfl rfl 201 _ D2.out.r (by kernel_rfl) rfl (own_one HW.out _) ?_);have E0:=D2.out.done #[Vi code,v];have E1:=D2.out.own HW.out HZ.out #[Vi code,v];refine leaves_cons (f:=105) (args:=#[Vp S 0]) (by simp) (by simp [go_sem]) ?_;refine (Go.MuLone.unlock_deferred muLib ⟨S,0,none⟩ .returning _ E0.1 E0.2.1).mono ?_;rintro e u' w'' ⟨rfl,rfl,rfl⟩;exact⟨_,results_cell_row (by rfl) _ _ Rb 201 _ (0,0) _ (by rfl) E0.2.2.1 Tryz.underlying201 rfl (by kernel_rfl),v,rfl,E1,E0.2.2.2⟩
end Go.Proofs.YtacccpkmgkojiaaGreatDoorRR
namespace Go.Proofs.YtacccpkmgkojiaaGreatDoorRR
set_option linter.unusedVariables false
set_option linter.unusedSimpArgs false
set_option maxRecDepth 20000
set_option maxHeartbeats 8000000
open Go.RowKit Go.Shelf
theorem held_all {f:Nat→Option Nat} {m:Nat→Option (Bool×List Int)} (h:∀ k,(f k).isSome=(m k).isSome) (p:Nat):∀ c,heldN f p c=c↔allBb m p true c=true
 | 0=>by simp [heldN,allBb]
 | k+1=>by
  have ih:=held_all h p k
  have h1:=heldN_le f p k
  simp only [heldN,allBb,Bool.and_eq_true,beq_iff_eq,←h (p+k),←ih]
  cases (f (p+k)).isSome <;> simp <;> omega
theorem held_no {f:Nat→Option Nat} {m:Nat→Option (Bool×List Int)} (h:∀ k,(f k).isSome=(m k).isSome) (p:Nat):∀ c,heldN f p c=0↔allBb m p false c=true
 | 0=>by simp [heldN,allBb]
 | k+1=>by
  have ih:=held_no h p k
  simp only [heldN,allBb,Bool.and_eq_true,beq_iff_eq,←h (p+k),←ih]
  cases (f (p+k)).isSome <;> simp
theorem inside_ok (nn:Nat) (p c:Int):insideB nn p c=true↔okP nn p c:=by
 unfold insideB okP;rw [decide_eq_true_eq];omega
theorem im_page (S M nn:Nat) (bud:Int) (f:Nat→Option Nat) (m:Nat→Option (Bool×List Int)) (kd p c:Int) (a:Nat) (n:Int) (d:Option Addr) (dl dc:Nat) (ys:List Int) (w:World) (h:Im S M 0 nn bud f w) (hp:Pg f m w) (hout:∀ k,nn≤k→m k=none) (hnn:nn≤4096) (hpm:p≤9223372036854775807) (hk:kd=0∨kd=1∨kd=2∨kd=3) :
  Calls Tryz.prog 144 #[Vp S 0,opV kd p c a n d dl dc] w fun e w'=>e=.returned (.agg #[Vi (stepM nn bud m kd p c a n ys).2.1,Vn])∧Ims S M nn bud f (stepM nn bud m kd p c a n ys).1 w w':=by
 have hn0:(0:Int)≤nn:=by omega
 have hn1:(nn:Int)≤4096:=by omega
 have e4:¬kd=4:=by omega
 have e5:¬kd=5:=by omega
 have e6:¬(kd < 0∨5 < kd):=by omega
 have his:=hp.none_iff;have hcnt:heldN f 0 4096=cntM m nn:=by
  rw [cntM_held his 4096,show 4096=nn+(4096 - nn) by omega,cntM_out hout]
 unfold stepM;rw [if_neg e4,if_neg e5,if_neg e6]
 by_cases hin:okP nn p c
 ·rw [if_pos hin];have hin':=(inside_ok nn p c).2 hin;obtain⟨g1,g2,g3,g4⟩:=hin;obtain⟨p,rfl⟩:=Int.eq_ofNat_of_zero_le g2;obtain⟨c,rfl⟩:=Int.eq_ofNat_of_zero_le (show 0≤c by omega);simp only [Int.toNat_natCast];have hle:=heldN_le f p c
  rcases hk with rfl|rfl|rfl|rfl
  ·refine run_commit S M nn bud f m _ _ p c a n d dl dc w h hp (fun V i q=>?_);simp only [pageM,if_true]
   cases hb:allBb m p false c with
   | false =>
    simp only [if_true];refine (commit_part S M 1 nn bud f p c _ V i hn0 hn1 hin' rfl (by
     have:=(held_no his p c);rw [hb] at this;have h2:heldN f p c≠0:=fun e=>by simpa using this.1 e
     omega)).mono ?_
    rintro e w' ⟨rfl,rfl⟩;exact⟨rfl,f,i,q,Fr.refl _ _ _ _⟩
   | true =>
    have hz:=(held_no his p c).2 hb
    by_cases hbd:bud < (cntM m nn:Int)+c
    ·simp only [if_pos hbd,Bool.true_eq_false,if_false];refine (commit_full S M 1 nn bud f p c _ V i hn0 hn1 hin' hz hcnt hbd).mono ?_;rintro e w' ⟨rfl,rfl⟩;exact⟨rfl,f,i.drew,q.drew,(Fr.refl _ _ _ _).drew⟩
    simp only [if_neg hbd,Bool.true_eq_false,if_false];exact commit_yes S M 1 nn bud f m p c _ V i q hn0 hn1 hin' hz hcnt (by omega)
  ·refine run_decommit S M nn bud f m _ _ p c a n d dl dc w h hp (fun V i q=>?_);simp only [pageM,show ¬((1:Int)=0) by omega,if_false,if_true]
   cases hb:allBb m p true c with
   | false =>
    simp only [if_true];refine (decommit_part S M 1 nn bud f p c _ V i hn0 hn1 hin' rfl (by
     have:=(held_all his p c);rw [hb] at this;have h2:heldN f p c≠c:=fun e=>by simpa using this.1 e
     omega)).mono ?_
    rintro e w' ⟨rfl,rfl⟩;exact⟨rfl,f,i,q,Fr.refl _ _ _ _⟩
   | true =>
    simp only [Bool.true_eq_false,if_false];exact decommit_all S M 1 nn bud f m p c V i q hn0 hn1 hin' ((held_all his p c).2 hb)
  ·refine run_lock S M nn bud f m _ _ p c a n d dl dc w h hp (fun V i q=>?_);simp only [pageM,show ¬((2:Int)=0) by omega,show ¬((2:Int)=1) by omega,if_false,if_true]
   cases hb:allBb m p true c with
   | false =>
    simp only [if_true];refine (setLock_part S M 1 nn bud f p c _ true V i hn0 hn1 hin' rfl (by
     have:=(held_all his p c);rw [hb] at this;have h2:heldN f p c≠c:=fun e=>by simpa using this.1 e
     omega)).mono ?_
    rintro e w' ⟨rfl,rfl⟩;exact⟨rfl,f,i,q,Fr.refl _ _ _ _⟩
   | true =>
    simp only [Bool.true_eq_false,if_false];refine (setLock_yes S M 1 nn bud f m p c true V i q hn0 hn1 hin' ((held_all his p c).2 hb)).mono ?_;rintro e w' ⟨rfl,h1,h2,h3⟩;exact⟨rfl,f,h1,h2,h3⟩
  refine run_unlock S M nn bud f m _ _ p c a n d dl dc w h hp (fun V i q=>?_);simp only [pageM,show ¬((3:Int)=0) by omega,show ¬((3:Int)=1) by omega,show ¬((3:Int)=2) by omega,if_false]
  cases hb:allBb m p true c with
  | false =>
   simp only [if_true];refine (setLock_part S M 1 nn bud f p c _ false V i hn0 hn1 hin' rfl (by
    have:=(held_all his p c);rw [hb] at this;have h2:heldN f p c≠c:=fun e=>by simpa using this.1 e
    omega)).mono ?_
   rintro e w' ⟨rfl,rfl⟩;exact⟨rfl,f,i,q,Fr.refl _ _ _ _⟩
  | true =>
   simp only [Bool.true_eq_false,if_false];refine (setLock_yes S M 1 nn bud f m p c false V i q hn0 hn1 hin' ((held_all his p c).2 hb)).mono ?_;rintro e w' ⟨rfl,h1,h2,h3⟩;exact⟨rfl,f,h1,h2,h3⟩
 rw [if_neg hin];have hno:insideB nn p c=false:=by
  cases hb:insideB nn p c with
  | false=>rfl
  | true=>exact absurd ((inside_ok nn p c).1 hb) hin
 rcases hk with rfl|rfl|rfl|rfl
 ·refine run_commit S M nn bud f m _ _ p c a n d dl dc w h hp (fun V i q=>(commit_no S M 1 nn bud f p c V i hn0 hn1 hpm hno).mono ?_);rintro e w' ⟨rfl,rfl⟩;exact⟨rfl,f,i,q,Fr.refl _ _ _ _⟩
 ·refine run_decommit S M nn bud f m _ _ p c a n d dl dc w h hp (fun V i q=>(decommit_no S M 1 nn bud f p c V i hn0 hn1 hpm hno).mono ?_);rintro e w' ⟨rfl,rfl⟩;exact⟨rfl,f,i,q,Fr.refl _ _ _ _⟩
 ·refine run_lock S M nn bud f m _ _ p c a n d dl dc w h hp (fun V i q=>(setLock_no S M 1 nn bud f p c true V i hn0 hn1 hpm hno).mono ?_);rintro e w' ⟨rfl,rfl⟩;exact⟨rfl,f,i,q,Fr.refl _ _ _ _⟩
 refine run_unlock S M nn bud f m _ _ p c a n d dl dc w h hp (fun V i q=>(setLock_no S M 1 nn bud f p c false V i hn0 hn1 hpm hno).mono ?_);rintro e w' ⟨rfl,rfl⟩;exact⟨rfl,f,i,q,Fr.refl _ _ _ _⟩
end Go.Proofs.YtacccpkmgkojiaaGreatDoorRR
namespace Go.Proofs.YtacccpkmgkojiaaGreatDoorRR
set_option linter.unusedVariables false
set_option linter.unusedSimpArgs false
set_option maxRecDepth 20000
set_option maxHeartbeats 8000000
open Go.RowKit Go.Shelf
theorem im_access (S M:Nat) (st nn bud:Int) (f:Nat→Option Nat) (m:Nat→Option (Bool×List Int)) (a:Nat) (n:Int) (w:World) (hi:Im S M st nn bud f w) (hp:Pg f m w) (ha:a < 18446744073709551616) :
  Calls Tryz.prog 221 #[Vp S 0,Vu a,Vi n] w fun e w'=>e=.returned (Vi (accC m a n))∧w'=w:=by
 unfold accC
 by_cases h1:n < 0∨4096 < n
 ·rw [if_pos h1];exact access_range S a n w h1
 rw [if_neg h1]
 by_cases h2:n=0
 ·subst h2;rw [if_pos rfl];exact access_zero S a w
 rw [if_neg h2]
 by_cases h3:4611686018427387904≤(a:Int)+(n - 1)
 ·rw [if_pos h3];exact access_far S a n w (by omega) (by omega) (by omega) (by omega) h3
 rw [if_neg h3];obtain⟨k,rfl⟩:=Int.eq_ofNat_of_zero_le (show 0≤n by omega);rw [Int.toNat_natCast,←reach_open m a k (by omega)];exact access_near S M st nn bud f m a k _ _ w hi hp (by omega) (by omega) (by omega) rfl rfl
theorem im_none (S M nn:Nat) (bud:Int) (f:Nat→Option Nat) (m:Nat→Option (Bool×List Int)) (kd p c:Int) (a:Nat) (n:Int) (d:Option Addr) (dl dc:Nat) (ys:List Int) (w:World) (h:Im S M 0 nn bud f w) (hp:Pg f m w) (hk:kd < 0∨5 < kd) :
  Calls Tryz.prog 144 #[Vp S 0,opV kd p c a n d dl dc] w fun e w'=>e=.returned (.agg #[Vi (stepM nn bud m kd p c a n ys).2.1,Vn])∧Ims S M nn bud f (stepM nn bud m kd p c a n ys).1 w w':=by
 unfold stepM;rw [if_neg (show ¬kd=4 by omega),if_neg (show ¬kd=5 by omega),if_pos hk];exact run_none S M nn bud f m kd p c a n d dl dc w h hp hk
end Go.Proofs.YtacccpkmgkojiaaGreatDoorRR
namespace Go.Proofs.YtacccpkmgkojiaaGreatDoorRR
set_option linter.unusedVariables false
set_option linter.unusedSimpArgs false
set_option maxRecDepth 20000
set_option maxHeartbeats 8000000
open Go.RowKit Go.Shelf
theorem acc_zero {m:Nat→Option (Bool×List Int)} {a:Nat} {n:Int} (h:accC m a n=0):∃ k:Nat,n=k∧k≤4096∧(k=0∨a+k≤4611686018427387904)∧∀ d,d < k→isOpen (m ((a+d)/1024))=true:=by
 unfold accC at h
 by_cases h1:n < 0∨4096 < n
 ·rw [if_pos h1] at h;cases h
 rw [if_neg h1] at h;obtain⟨k,rfl⟩:=Int.eq_ofNat_of_zero_le (show 0≤n by omega);refine⟨k,rfl,by omega,?_⟩
 by_cases h2:(k:Int)=0
 ·exact⟨.inl (by omega),fun d hd=>by omega⟩
 rw [if_neg h2] at h
 by_cases h3:4611686018427387904≤(a:Int)+((k:Int) - 1)
 ·rw [if_pos h3] at h;cases h
 rw [if_neg h3] at h;refine⟨.inr (by omega),?_⟩
 cases hr:reachN m a k with
 | false=>simp [hr,accCode] at h
 | true=>exact reachN_all hr
theorem open_some {f:Nat→Option Nat} {m:Nat→Option (Bool×List Int)} {W:World} (hp:Pg f m W) {k:Nat} (h:isOpen (m k)=true):∃ g,f k=some g:=by
 rcases hp.at' k with ⟨h1,h2⟩|⟨b,l,xs,h1,_⟩
 ·rw [h2] at h;cases h
 exact⟨b,h1⟩
theorem load_no1 (S:Nat) (a n c:Int) (w:World) (hc:(c != 0)=true) (h:Calls Tryz.prog 221 #[Vp S 0,Vu a,Vi n] (w.alloc (.cells #[Vi 0,Vn] 201)) fun e w'=>e=.returned (Vi c)∧w'=w.alloc (.cells #[Vi 0,Vn] 201)) :
  Calls Tryz.prog 174 #[Vp S 0,Vu a,Vi n] w fun e w'=>e=.returned (.agg #[Vi c,Vn])∧w'=w.alloc (.cells #[Vi c,Vn] 201):=by
 have H1:=hid h;clear h;go_enter Tryz.func174,Tryz.ntmps174;go_wp2_with fail;refine (H1.out).mono ?_;rintro _ _ ⟨rfl,rfl⟩;go_wp2_with fail;refine bodyPost_ret (v:=.agg #[Vi c,Vn]) (by simp [results,Tryz.results174,go_sem]) rfl ⟨rfl,rfl⟩
theorem store_no1 (S:Nat) (a c:Int) (n cap:Nat) (p:Option Addr) (w:World) (hc:(c != 0)=true) (h:Calls Tryz.prog 221 #[Vp S 0,Vu a,Vi n] (w.alloc (.cells #[.slice p n cap] 22)) fun e w'=>e=.returned (Vi c)∧w'=w.alloc (.cells #[.slice p n cap] 22)) :
  Calls Tryz.prog 175 #[Vp S 0,Vu a,.slice p n cap] w fun e w'=>e=.returned (Vi c)∧w'=w.alloc (.cells #[.slice p n cap] 22):=by
 have H1:=hid h;clear h;go_enter Tryz.func175,Tryz.ntmps175;go_wp2_with fail;refine (H1.out).mono ?_;rintro _ _ ⟨rfl,rfl⟩;go_wp2_with fail;go_ret;exact⟨rfl,rfl⟩
theorem im_load (S M nn:Nat) (bud:Int) (f:Nat→Option Nat) (m:Nat→Option (Bool×List Int)) (p c:Int) (a:Nat) (n:Int) (d:Option Addr) (dl dc:Nat) (ys:List Int) (w:World) (h:Im S M 0 nn bud f w) (hp:Pg f m w) (ha:a < 18446744073709551616) :
  Calls Tryz.prog 144 #[Vp S 0,opV 4 p c a n d dl dc] w fun e w'=>∃ v,e=.returned (.agg #[Vi (stepM nn bud m 4 p c a n ys).2.1,v])∧w'.ownsRow w.heap.size 5 1 v (stepM nn bud m 4 p c a n ys).2.2.length (Ns .u8 (stepM nn bud m 4 p c a n ys).2.2)∧Ims S M nn bud f (stepM nn bud m 4 p c a n ys).1 w w':=by
 have es:stepM nn bud m 4 p c a n ys=(m,accC m a n,if accC m a n=0 then loadB m a n.toNat else []):=by unfold stepM;rw [if_pos rfl]
 rw [es];refine run_load S M nn bud f m _ _ p c a n d dl dc w h hp (fun V i q=>?_)
 by_cases hz:accC m a n=0
 ·rw [hz,if_pos rfl];obtain⟨k,rfl,h1,h2,h3⟩:=acc_zero hz;have hl:=load_in S M 1 nn bud f m a k V i q h1 h2 (fun d hd=>open_some q (h3 d hd)) (fun W iW qW=>by
   have:=im_access S M 1 nn bud f m a (k:Nat) W iW qW ha
   rwa [hz] at this)
  refine ((callsIn_wide (n:=5)).1 hl).mono ?_;rintro e w' ⟨v,rfl,ho,r⟩;refine⟨v,rfl,?_,r⟩;simp only [Int.toNat_natCast];have el:(loadB m a k).length=k:=by simp [loadB]
  rw [el];exact ho
 rw [if_neg hz];refine (load_no1 S a n _ V (by simpa using hz) (im_access S M 1 nn bud f m a n _ (i.alloc _) (q.alloc _) ha)).mono ?_;rintro e w' ⟨rfl,rfl⟩;exact⟨_,rfl,⟨rfl,.inl ⟨rfl,rfl⟩⟩,i.alloc _,q.alloc _,Fr.ofGrown (World.grownBy_alloc _ _ none)⟩
theorem updM_twice (m:Nat→Option (Bool×List Int)) (k:Nat) (u v:Option (Bool×List Int)):updM (updM m k u) k v=updM m k v:=by
 funext j
 unfold updM
 split <;> rfl
theorem updM_self (m:Nat→Option (Bool×List Int)) (k:Nat) (v:Option (Bool×List Int)) (h:m k=v):updM m k v=m:=by
 funext j
 unfold updM
 split
 ·rename_i e;rw [e,h]
 rfl
theorem splice_snoc (xs zs:List Int) (off:Nat) (z:Int) (h:off+zs.length < xs.length):(splice xs off zs).set (off+zs.length) z=splice xs off (zs++[z]):=by
 have hl:(xs.take off).length=off:=by simp;omega
 have hd:xs.drop (off+zs.length)=xs[off+zs.length]::xs.drop (off+zs.length+1):=List.drop_eq_getElem_cons h;unfold splice;rw [hd,List.set_append_right _ _ (by omega),hl,Nat.add_sub_cancel_left,List.set_append_right _ _ (Nat.le_refl _),Nat.sub_self,List.set_cons_zero];simp [Nat.add_assoc]
theorem storeM_piece (m:Nat→Option (Bool×List Int)) (a:Nat) (ys:List Int) (d:Nat) (lk:Bool) (xs:List Int) (hx:xs.length=1024) (hm:storeM m a ys d ((a+d)/1024)=some (lk,xs)) :
  ∀ l,(a+d) % 1024+l≤1024→d+l≤ys.length→storeM m a ys (d+l)=updM (storeM m a ys d) ((a+d)/1024) (some (lk,splice xs ((a+d) % 1024) ((ys.drop d).take l)))
 | 0,_,_=>by
  have e:splice xs ((a+d) % 1024) ((ys.drop d).take 0)=xs:=by simp [splice]
  rw [e,Nat.add_zero,updM_self _ _ _ hm]
 | l+1,h1,h2=>by
  have ih:=storeM_piece m a ys d lk xs hx hm l (by omega) (by omega)
  have e0:storeM m a ys (d+(l+1))=putM (storeM m a ys (d+l)) (a+(d+l)) (ys[d+l]?.getD 0):=rfl
  have e1:(a+(d+l))/1024=(a+d)/1024:=by omega
  have e2:(a+(d+l)) % 1024=(a+d) % 1024+l:=by omega
  rw [e0,ih]
  unfold putM
  rw [e1,e2,updM_same,updM_twice]
  simp only [Option.map_some]
  have hlen:((ys.drop d).take l).length=l:=by simp;omega
  have e3:(ys.drop d).take (l+1)=(ys.drop d).take l++[ys[d+l]?.getD 0]:=by
   rw [List.take_add_one,List.getElem?_drop,List.getElem?_eq_getElem (by omega)];rfl
  rw [e3,←splice_snoc _ _ _ _ (by rw [hlen,hx];omega),hlen]
theorem pageC_splice (l:Bool) (xs zs:List Int) (off:Nat) (hx:xs.length=1024) (h:off+zs.length≤1024):(splice (pageC l xs).toList off (Ns .u8 zs)).toArray=pageC l (splice xs off zs):=by
 unfold pageC splice;have h1:off≤(Ns .u8 xs).length:=by simp [Ns];omega
 have h2:off+zs.length≤(Ns .u8 xs).length:=by simp [Ns];omega
 dsimp only;rw [List.take_append_of_le_length h1,Ns_len,List.drop_append_of_le_length h2];simp [Ns]
end Go.Proofs.YtacccpkmgkojiaaGreatDoorRR
namespace Go.Proofs.YtacccpkmgkojiaaGreatDoorRR
set_option linter.unusedVariables false
set_option linter.unusedSimpArgs false
set_option maxRecDepth 20000
set_option maxHeartbeats 8000000
open Go.RowKit Go.Shelf
attribute [local go_sem] Oper.semAt_some
def layM (m:Nat→Option (Bool×List Int)) (p:Nat) (bs:List Int):Nat→Option (Bool×List Int):=updM m (p/1024) ((m (p/1024)).map fun q=>(q.1,splice q.2 (p % 1024) bs))
def stF (m:Nat→Option (Bool×List Int)) (a n:Nat) (ys:List Int) (pre:List { d:Nat // d < n }):Nat×(Nat→Option (Bool×List Int)) :=
 pre.foldl (fun s x=>(s.1+min (plen a n x.1) (n - s.1),layM s.2 (a+x.1) ((ys.drop s.1).take (min (plen a n x.1) (n - s.1))))) (0,m)
theorem stF_snoc (m:Nat→Option (Bool×List Int)) (a n:Nat) (ys:List Int) (pre:List { d:Nat // d < n }) (x : { d:Nat // d < n }) :
  stF m a n ys (pre++[x])=((stF m a n ys pre).1+min (plen a n x.1) (n - (stF m a n ys pre).1),layM (stF m a n ys pre).2 (a+x.1) ((ys.drop (stF m a n ys pre).1).take (min (plen a n x.1) (n - (stF m a n ys pre).1)))):=by
 simp [stF]
theorem stF_le0 (a n:Nat) (ys:List Int):∀ (pre:List { d:Nat // d < n }) (s:Nat×(Nat→Option (Bool×List Int))),s.1≤n→(pre.foldl (fun s x=>(s.1+min (plen a n x.1) (n - s.1),layM s.2 (a+x.1) ((ys.drop s.1).take (min (plen a n x.1) (n - s.1))))) s).1≤n
 | [],s,h=>h
 | x::pre,s,h=>by
  rw [List.foldl_cons]
  exact stF_le0 a n ys pre _ (by dsimp only;omega)
theorem stF_le (m:Nat→Option (Bool×List Int)) (a n:Nat) (ys:List Int) (pre:List { d:Nat // d < n }):(stF m a n ys pre).1≤n:=stF_le0 a n ys pre _ (Nat.zero_le _)
theorem plen_page (a n d:Nat):(a+d) % 1024+plen a n d≤1024:=by unfold plen;omega
def Full (m:Nat→Option (Bool×List Int)):Prop:=∀ k q,m k=some q→q.2.length=1024
theorem splice_len (xs zs:List Int) (off:Nat) (h:off+zs.length≤xs.length):(splice xs off zs).length=xs.length:=length_splice _ _ _ h
theorem Full.store {m:Nat→Option (Bool×List Int)} (h:Full m) (a:Nat) (ys:List Int):∀ k,Full (storeM m a ys k)
 | 0=>h
 | k+1=>by
  intro j q e
  have ih:=Full.store h a ys k
  have e':putM (storeM m a ys k) (a+k) (ys[k]?.getD 0) j=some q:=e
  unfold putM at e'
  by_cases hk:j=(a+k)/1024
  ·subst hk
   rw [updM_same] at e'
   cases hm:storeM m a ys k ((a+k)/1024) with
   | none=>rw [hm] at e';cases e'
   | some r =>
    rw [hm] at e'
    simp only [Option.map_some,Option.some.injEq] at e'
    subst e'
    simp
    exact ih _ _ hm
  rw [updM_other _ _ _ _ hk] at e'
  exact ih j q e'
theorem Got.stF {m:Nat→Option (Bool×List Int)} {a n:Nat} {ys:List Int} {pre:List { d:Nat // d < n }} {d:Nat} (hl:ys.length=n) (hm:Full m) (hs:∀ d,d < n→(m ((a+d)/1024)).isSome=true) (h:Got a n pre d):stF m a n ys pre=(d,storeM m a ys d):=by
 induction h with
 | zero=>rfl
 | @next pre d h hd ih =>
  rw [stF_snoc,ih];have h1:=plen_le (a:=a) hd;have e1:min (plen a n d) (n - d)=plen a n d:=by omega
  dsimp only;rw [e1];congr 1;have hsome:(storeM m a ys d ((a+d)/1024)).isSome=true:=by
   have:∀ k j,(storeM m a ys k j).isSome=(m j).isSome:=by
    intro k
    induction k with
    | zero=>intro j;rfl
    | succ k ih =>
     intro j;show (putM (storeM m a ys k) (a+k) (ys[k]?.getD 0) j).isSome=_;unfold putM
     by_cases e:j=(a+k)/1024
     ·subst e;rw [updM_same,Option.isSome_map];exact ih _
     rw [updM_other _ _ _ _ e];exact ih j
   rw [this];exact hs d hd
  obtain⟨q,hq⟩:=Option.isSome_iff_exists.1 hsome;obtain⟨lk,xs⟩:=q;have hx:=(hm.store a ys d) _ _ hq;rw [storeM_piece m a ys d lk xs hx hq (plen a n d) (plen_page a n d) (by omega)];unfold layM;rw [hq];rfl
end Go.Proofs.YtacccpkmgkojiaaGreatDoorRR
namespace Go.Proofs.YtacccpkmgkojiaaGreatDoorRR
set_option linter.unusedVariables false
set_option linter.unusedSimpArgs false
set_option maxRecDepth 20000
set_option maxHeartbeats 8000000
open Go.RowKit Go.Shelf
attribute [local go_sem] Oper.semAt_some
def Da (S M:Nat) (f:Nat→Option Nat) (w:World) (p:Option Addr) (n:Nat) (ys:List Int):Prop :=
 ys.length=n∧∀ i,i < n→∃ x,p=some x∧w.cell? (x.add i)=some (.int .u8 (ys[i]?.getD 0))∧(x.add i).block < w.heap.size∧(x.add i).block≠S∧(x.add i).block≠M∧∀ k,f k≠some (x.add i).block
theorem Da.cell {S M:Nat} {f f':Nat→Option Nat} {w W:World} {p:Option Addr} {n:Nat} {ys:List Int} (h:Da S M f w p n ys) (hf:Fr S M f f' w W):∀ i,i < n→∃ x,p=some x∧W.cell? (x.add i)=some (.int .u8 (ys[i]?.getD 0)):=by
 intro i hi;obtain⟨x,e,c,l,h1,h2,h3⟩:=h.2 i hi;refine⟨x,e,?_⟩;unfold World.cell? at c ⊢;rw [hf.block _ l h1 h2 h3];exact c
structure Sd (S M:Nat) (st nn bud:Int) (f:Nat→Option Nat) (mm:Nat→Option (Bool×List Int)) (w:World) (DB:Nat) (p:Option Addr) (n cap c:Nat) (W:World):Prop where
 im:Im S M st nn bud f W
 pg:Pg f mm W
 fr:Fr S M f f w W
 box:∃ pd,W.heap[DB]?=some (.cells #[.slice pd (n - c) (cap - c)] 22 (0,0))∧(c < n→∃ x,p=some x∧pd=some (x.add c))
 mlt:M < w.heap.size
 dge:w.heap.size≤DB
theorem copy_run22 (w:World) (dp sp:Option Addr) (dLen dCap sLen sCap g off:Nat) (cur:List Value) (t:TypeId) (hg:w.heap[g]?=some (.cells cur.toArray t (0,0))) (cs:List Value) (hn:cs.length=Nat.min sLen dLen)
  (hpos:0 < cs.length→dp=some ⟨g,off,none⟩∧∃ ad,sp=some ad∧∀ j v,cs[j]?=some v→w.cell? (ad.add j)=some v)
  (hfit:off+cs.length≤cur.length) (h1:∀ v∈cs,v.oneCell'=true) :
  ∃ w',(Builtin.copy_ #[22,22] 3 #[.slice dp dLen dCap,.slice sp sLen sCap]).run Tryz.prog w=.ok (Vi (cs.length:Nat)) w'∧w'.heap[g]?=some (.cells (splice cur off cs).toArray t (0,0))∧w.grownBy w' (some g):=by
 by_cases h0:cs.length=0
 ·obtain rfl:cs=[]:=List.eq_nil_of_length_eq_zero h0;refine⟨w,run_copy_none (P:=Tryz.prog) w 22 22 3 5 dp sp dLen dCap sLen sCap Tryz.underlying22 (by kernel_rfl) (by simpa using hn.symm),by simpa [splice] using hg,grown_refl w g⟩
 obtain⟨rfl,ad,rfl,hsrc⟩:=hpos (by omega);refine⟨_,run_copy_row (P:=Tryz.prog) w 22 22 3 5 g off dLen dCap ad sLen sCap cur.toArray t cs Tryz.underlying22 (by kernel_rfl) hg hn hsrc (by simpa using hfit) h1,?_,grown_setRow w g _⟩;simpa [splice] using setRow_heap w g _ _ t _ hg
theorem sliced22 (pd:Option Addr) (l len cap:Nat) (hl:l≤len) (hc:len≤cap):∃ dp,(∀ w:World,(Instr.slice 22 (.slice pd len cap) (some (Vi (l:Nat))) none none).run Tryz.prog w=.ok (.slice dp (len - l) (cap - l)) w)∧(l < len→dp=pd.map fun x=>x.add l):=by
 have he:Tryz.prog.elem 22=5:=by kernel_rfl
 have h:=fun w=>run_slice_l (P:=Tryz.prog) w 22 pd len cap (by rw [he];exact Tryz.underlying22) .i64 (l:Int) (by omega) (by omega)
 have hs:∀ w:World,(sizeOf (Tryz.prog.elem 22)).run Tryz.prog w=.ok 1 w:=fun w=>by kernel_rfl
 refine⟨if cap=l then pd else pd.map fun x=>x.add l,fun w=>?_,fun h=>?_⟩
 ·rw [h w,hs];simp [sliced,Result.andThen]
 rw [if_neg (by omega)]
theorem Pg.lay {f:Nat→Option Nat} {mm:Nat→Option (Bool×List Int)} {W W':World} (h:Pg f mm W) {k g:Nat} (hf:f k=some g) {l:Bool} {xs:List Int} (hx:xs.length=1024) (hb:W'.heap[g]?=some (.cells (pageC l xs) 185 (0,0))) (hg:W.grownBy W' (some g)):Pg f (updM mm k (some (l,xs))) W':=by
 refine⟨?_,h.inj⟩;intro j
 by_cases e:j=k
 ·subst e;exact .inr ⟨g,l,xs,hf,updM_same _ _ _,hx,hb⟩
 rw [updM_other mm k j _ e]
 rcases h.at' j with h1|⟨b2,l2,xs2,h1,h2,h3,h4⟩
 ·exact .inl h1
 refine .inr ⟨b2,l2,xs2,h1,h2,h3,?_⟩;rw [hg.block b2 (lt_of_block h4) (fun e2=>by cases e2;exact e (h.inj j k _ h1 hf))];exact h4
theorem Im.grownAt {S M:Nat} {st n bud:Int} {f:Nat→Option Nat} {W W':World} (h:Im S M st n bud f W) {g:Nat} (hg:W.grownBy W' (some g)) (h1:g≠S) (h2:g≠M):Im S M st n bud f W':=by
 obtain⟨D,⟨es,clock,hb,r1⟩,r⟩:=h.map;refine⟨by rw [hg.block S (lt_of_block h.box) (by simpa using h1.symm)];exact h.box,D,⟨es,clock,?_,r1⟩,r⟩;have hlt:M < W.heap.size:=by
  by_cases hl:M < W.heap.size
  ·exact hl
  rw [Array.getElem?_eq_none (by omega)] at hb;cases hb
 rw [hg.block M hlt (by simpa using h2.symm)];exact hb
theorem Fr.grownAt {S M:Nat} {f:Nat→Option Nat} {w W W':World} (h:Fr S M f f w W) {g:Nat} (hg:W.grownBy W' (some g)) (hk:(∃ k,f k=some g)∨w.heap.size≤g):Fr S M f f w W' :=
 ⟨hg.os.trans h.os,hg.tape.trans h.tape,hg.output.trans h.output,Nat.le_trans h.size hg.size,fun j h0 h1 h2 h3=>by
  rw [hg.block j (Nat.lt_of_lt_of_le h0 h.size) (fun e=>by
   cases e
   rcases hk with ⟨k,hk⟩|hk
   ·exact h3 k hk
   omega)]
  exact h.block j h0 h1 h2 h3,h.made⟩
end Go.Proofs.YtacccpkmgkojiaaGreatDoorRR
namespace Go.Proofs.YtacccpkmgkojiaaGreatDoorRR
set_option linter.unusedVariables false
set_option linter.unusedSimpArgs false
set_option maxRecDepth 20000
set_option maxHeartbeats 8000000
open Go.ChangeShapes Go.WideShapes Go.ChangeAt Go.RowKit
def Sl (w:World) (a:Option Addr) (zs:List Int):Prop:=(a=none∧zs=[])∨∃ g,a=some ⟨g,0,none⟩∧RowV w g 3 (Ns .i64 zs)
theorem Sl.cells {w:World} {a:Option Addr} {zs:List Int} (h:Sl w a zs):∀ i,i < zs.length→∃ g,a=some ⟨g,0,none⟩∧w.cell? ⟨g,i,none⟩=some (Vi (zs[i]?.getD 0)):=by
 intro i hi
 rcases h with ⟨_,rfl⟩|⟨g,rfl,hr⟩
 ·simp at hi
 exact⟨g,rfl,cell_n hr i hi⟩
theorem Sl.below {w w':World} {a:Option Addr} {zs:List Int} (h:Sl w a zs) (hb:Below w.heap.size w w'):Sl w' a zs:=by
 rcases h with h|⟨g,e,hr⟩
 ·exact .inl h
 exact .inr ⟨g,e,hr.below hb hr.lt⟩
def md (d:Int) (m:Nat):Nat:=(d % (m:Int)).toNat
theorem md_lt (d:Int) (m:Nat) (h:0 < m):md d m < m:=by
 unfold md;have h1:=Int.emod_nonneg d (b:=(m:Int)) (by omega);have h2:=Int.emod_lt_of_pos d (b:=(m:Int)) (by omega);omega
theorem md_spec (d:Int) (m:Nat) (h:0 < m):(md d m:Int)=if d.tmod m < 0 then d.tmod m+m else d.tmod m:=by
 unfold md;have h1:=Int.emod_nonneg d (b:=(m:Int)) (by omega);rw [Int.toNat_of_nonneg h1];have h3:=Int.tmod_eq_emod (a:=d) (b:=(m:Int));have h4:=Int.emod_lt_of_pos d (b:=(m:Int)) (by omega);have e:((Int.natAbs (m:Int):Nat):Int)=m:=by omega
 by_cases hc:0≤d∨(m:Int)∣d
 ·rw [if_pos hc] at h3;rw [if_neg (by omega)];omega
 rw [if_neg hc] at h3;rw [h3,e];rw [if_pos (by omega)];omega
theorem tmod_bounds (d:Int) (m:Nat) (h:0 < m) : -(m:Int)≤d.tmod m∧d.tmod m < m:=by
 have h1:=md_spec d m h;have h2:=md_lt d m h
 split at h1 <;> rename_i hc
 ·omega
 omega
end Go.Proofs.YtacccpkmgkojiaaGreatDoorRR
namespace Go.Proofs.YtacccpkmgkojiaaGreatDoorRR
set_option linter.unusedVariables false
set_option linter.unusedSimpArgs false
set_option maxRecDepth 20000
set_option maxHeartbeats 8000000
open Go.ChangeShapes Go.WideShapes Go.ChangeAt Go.RowKit
theorem w64 (x:Int) (h : -1048576≤x∧x≤2097152):wrap64 x=x:=by
 unfold wrap64;omega
theorem tmod_small (x m:Int) (h0:0≤x) (h:x < m):x.tmod m=x:=by
 rw [Int.tmod_eq_emod_of_nonneg h0,Int.emod_eq_of_lt h0 h]
theorem tmod_over (x m:Int) (h0:0≤x) (h:x < m):(x+m).tmod m=x:=by
 rw [Int.tmod_eq_emod_of_nonneg (by omega),Int.add_emod_right,Int.emod_eq_of_lt h0 h]
theorem modulo_in (d:Int) (m:Nat) (w:World) (h0:0 < m) (hm:m≤1048576) :
  Calls Tryz.prog 167 #[Vi d,Vi m] w fun e w'=>e=.returned (Vi (md d m:Nat))∧w'=w:=by
 have h1:((m:Int)==0)=false:=by simp;omega
 have hb:=tmod_bounds d m h0;have hw:=w64 (d.tmod m+m) (by omega);have h2:=md_spec d m h0;have h3:=md_lt d m h0;have H:Hid ((d.tmod m+m).tmod m=(md d m:Nat)):=by
  show (d.tmod m+m).tmod m=(md d m:Nat)
  by_cases hc:d.tmod m < 0
  ·rw [if_pos hc] at h2;rw [tmod_small _ _ (by omega) (by omega)];omega
  rw [if_neg hc] at h2;rw [tmod_over _ _ (by omega) (by omega)];omega
 clear h2 h3 hb;go_enter Tryz.func167,Tryz.ntmps167;go_wp2;go_ret;refine⟨ret_int ?_,rfl⟩
 first|exact H.out|(rw [hw];exact H.out)
theorem swap_in (G r n cap o i k:Nat) (ps:List Int) (x:Int) (w:World) (hk:(o+i) % n=k) (hn:ps.length=n) (hn0:0 < n) (hnl:n≤1048576) (ho:o≤1048576) (hi:i≤1048576)
  (c0:w.cell? ⟨G,0,none⟩=some (Vl r n cap)) (c1:w.cell? ⟨G,1,none⟩=some (Vi o)) (hr:RowV w r 3 (Ns .i64 ps)) :
  Calls Tryz.prog 264 #[Vp G 0,Vi i,Vi x] w fun e w'=>e=.returned (Vi (ps[k]?.getD 0))∧RowV w' r 3 (Ns .i64 (ps.set k x))∧w.grownBy w' (some r):=by
 have h1:((n:Int)==0)=false:=by simp;omega
 have hat:(o+i) % n < n:=Nat.mod_lt _ hn0;have he:((o:Int)+(i:Int)) % (n:Int)=(((o+i) % n:Nat):Int):=by simp
 rw [hk] at hat he;have hc:=cell_n hr k (by omega);have hf:=hr.free k;have HR:=hid (hr.set k (by rw [Ns_len];omega) (Vi x)).drew;have HG:=hid (grown_drew (grown_set (grown_refl w r) k (Vi x)));clear hr hn hk;go_enter Tryz.func264,Tryz.ntmps264;go_wp2;go_region;rw [he];clear he;go_wp2;go_ret;exact⟨rfl,by rw [←Ns_set];exact HR.out,HG.out⟩
end Go.Proofs.YtacccpkmgkojiaaGreatDoorRR
