import Derived.Test.YtgandbaejlfppaaGreatDoorM01
namespace Go.Proofs.YtgandbaejlfppaaGreatDoor
set_option linter.unusedVariables false
set_option linter.unusedSimpArgs false
set_option maxRecDepth 20000
set_option maxHeartbeats 8000000
open Go.RowKit Go.Shelf
attribute [local go_sem] Oper.semAt_some
theorem pieces_mk (S:Nat) (a n:Int) (w:World) :
  Calls Tryz.prog 169 #[Vp S 0,Vu a,Vi n] w fun e w'=>e=.returned (.func (.func 190) #[] #[Vp (w.heap.size+1+1) 0,Vp (w.heap.size+1) 0,Vp w.heap.size 0]) ∧
   w'=((w.alloc (.cells #[Vp S 0] 60)).alloc (.cells #[Vu a] 23)).alloc (.cells #[Vi n] 3):=by
 go_enter Tryz.func169,Tryz.ntmps169;go_wp2;go_ret;exact⟨rfl,rfl⟩
def plen (a n d:Nat):Nat:=min ((a+d) % 1024+n - d) 1024 - (a+d) % 1024
def encP (f:Nat→Option Nat) (a n d:Nat):Array Value:=#[.slice (some ⟨(f ((a+d)/1024)).getD 0,(a+d) % 1024,none⟩) (plen a n d) (1024 - (a+d) % 1024)]
inductive Got (a n:Nat):List { d:Nat // d < n }→Nat→Prop
 | zero:Got a n [] 0
 | next {ys:List { d:Nat // d < n }} {d:Nat} (h:Got a n ys d) (hd:d < n):Got a n (ys++[⟨d,hd⟩]) (d+plen a n d)
theorem plen_pos {a n d:Nat} (h:d < n):1≤plen a n d:=by unfold plen;omega
theorem plen_le {a n d:Nat} (h:d < n):d+plen a n d≤n:=by unfold plen;omega
theorem Got.le {a n:Nat} {ys:List { d:Nat // d < n }} {d:Nat} (h:Got a n ys d):d≤n∧ys.length≤d:=by
 induction h with
 | zero=>exact ⟨Nat.zero_le _,Nat.le_refl _⟩
 | next h hd ih =>
  have h1:=plen_pos (a:=a) hd;have h2:=plen_le (a:=a) hd;exact⟨h2,by simp;omega⟩
def Kp (S M b:Nat) (A B:World):Prop:=A.heap.size≤B.heap.size∧∀ g,g=S∨g=M∨g=b∨g=b+1∨g=b+1+1→B.heap[g]?=A.heap[g]?
theorem Kp.refl (S M b:Nat) (A:World):Kp S M b A A:=⟨Nat.le_refl _,fun _ _=>rfl⟩
theorem Kp.trans {S M b:Nat} {A B C:World} (h:Kp S M b A B) (k:Kp S M b B C):Kp S M b A C:=⟨Nat.le_trans h.1 k.1,fun g hg=>(k.2 g hg).trans (h.2 g hg)⟩
theorem Im.kp {S M b:Nat} {st n bud:Int} {f:Nat→Option Nat} {A B:World} (h:Im S M st n bud f A) (k:Kp S M b A B):Im S M st n bud f B:=by
 obtain⟨D,⟨es,clock,hb,r1⟩,r⟩:=h.map;exact⟨(k.2 S (by simp)).trans h.box,D,⟨es,clock,(k.2 M (by simp)).trans hb,r1⟩,r⟩
structure Cl (S b:Nat) (a n:Int) (W:World):Prop where
 s:W.heap[b]?=some (.cells #[Vp S 0] 60 (0,0))
 a:W.heap[b+1]?=some (.cells #[Vu a] 23 (0,0))
 n:W.heap[b+1+1]?=some (.cells #[Vi n] 3 (0,0))
theorem Cl.kp {S M b:Nat} {a n:Int} {A B:World} (h:Cl S b a n A) (k:Kp S M b A B):Cl S b a n B :=
 ⟨(k.2 b (by simp)).trans h.s,(k.2 (b+1) (by simp)).trans h.a,(k.2 (b+1+1) (by simp)).trans h.n⟩
theorem Cl.c {S b:Nat} {a n:Int} {W:World} (h:Cl S b a n W):W.cell? ⟨b,0,none⟩=some (Vp S 0)∧W.cell? ⟨b+1,0,none⟩=some (Vu a)∧W.cell? ⟨b+1+1,0,none⟩=some (Vi n):=by
 have h1:=h.s;have h2:=h.a;have h3:=h.n;refine⟨by simp [World.cell?,h1],by simp [World.cell?,h2],by simp [World.cell?,h3]⟩
theorem slice83 (g:Nat) (l h:Int) (w:World) (h0:0≤l) (h1:l < 1024) (h2:l≤h) (h3:h≤1024) :
  (Instr.sliceAt 153 (Vp g 0) (some (Vi l)) (some (Vi h)) none).run Tryz.prog w=.ok (.slice (some ⟨g,l.toNat,none⟩) (h.toNat - l.toNat) (1024 - l.toNat)) w:=by
 have e1:Tryz.prog.arrayLen 153=1024:=by kernel_rfl
 have h4:h≤(Tryz.prog.arrayLen 153:Int):=by rw [e1];exact h3
 have e2:(sizeOf (Tryz.prog.elem 153)).run Tryz.prog w=.ok 1 w:=by kernel_rfl
 rw [run_sliceAt_array_lh w 153 _ (by kernel_rfl) _ _ l h h0 h2 h4,e2];show Result.ok (slicedAt ⟨g,0,none⟩ l.toNat h.toNat (Tryz.prog.arrayLen 153) 1) w=_;rw [e1];unfold slicedAt;rw [if_neg (by omega)];simp [Addr.add];omega
theorem slice_at (g a n d:Nat) (E:Int) (w:World) (hd:d < n) (hE:E=min (((a:Int)+(d:Int)) % 1024+(n:Int) - (d:Int)) 1024) :
  (Instr.sliceAt 153 (Vp g 0) (some (Vi (((a:Int)+(d:Int)) % 1024))) (some (Vi E)) none).run Tryz.prog w=.ok (.slice (some ⟨g,(a+d) % 1024,none⟩) (plen a n d) (1024 - (a+d) % 1024)) w:=by
 have e1:(((a:Int)+(d:Int)) % 1024).toNat=(a+d) % 1024:=by omega
 have e2:E.toNat - (a+d) % 1024=plen a n d:=by unfold plen;omega
 rw [slice83 g _ E w (by omega) (by omega) (by omega) (by omega),e1,e2]
theorem pieces_in (S M:Nat) (st nn bud:Int) (f:Nat→Option Nat) (a n:Nat) (l b m:Nat) (hm:2≤m) (hn:n≤4096) (ha:n=0∨a+n≤4611686018427387904) (hpg:∀ d,d < n→∃ g,f ((a+d)/1024)=some g) (J Jx:List { d:Nat // d < n }→World→Prop) (W:World)
  (hJ:AbidesFrom W.heap.size J)
  (hY:∀ pre (x : { d:Nat // d < n }) W1,J pre W1→pre.length < n→YieldAt Fence.wide (m - 1) Tryz.prog l (encP f a n x.1) W1 fun e W' =>
   (e=.returned (.bool true)∧J (pre++[x]) W'∧Kp S M b W1 W')∨(e=.returned (.bool false)∧Jx (pre++[x]) W'))
  (hcl:Cl S b a n W) (him:Im S M st nn bud f W) (h0:J [] W) :
  CallsIn Fence.wide m Tryz.prog 190 #[.func (.yield l) #[] #[],Vp (b+1+1) 0,Vp (b+1) 0,Vp b 0] W fun e W'=>(∃ v,e=.returned v) ∧
   ((∃ ys,Got a n ys n∧J ys W')∨(∃ pre,(∃ d,Got a n pre d)∧Jx pre W')):=by
 have HY:=hid hY;have HB:=hid (And.intro hcl (And.intro him h0));have HP:=hid hpg;clear hY hJ hcl him h0 hpg;refine callsIn_of_wp Tryz.func190 rfl trivial ?_ rfl;simp only [Tryz.ntmps190,List.size_toArray,List.length_cons,List.length_nil,Nat.reduceAdd,Nat.reduceSub,Array.replicate_succ,Array.replicate_zero,List.push_toArray,List.append_toArray,List.nil_append,List.cons_append]
 gi_wp2
 gi_loopw [5] (fun i wr=>∃ (d:Nat) (ys:List { d:Nat // d < n }),d≤n∧i=Vi d∧Hid (Got a n ys d)∧Hid (J ys wr)∧Hid (Kp S M b W wr))
  (fun i _=>n - (intOf i).toNat)
 case atStart=>exact ⟨0,[],Nat.zero_le _,rfl,Got.zero,HB.out.2.2,Kp.refl _ _ _ _⟩
 case round =>
  obtain⟨d,ys,hd,rfl,hgot,hJs,hkp⟩:=hrel;obtain⟨c0,c1,c2⟩:=(HB.out.1.kp hkp.out).c;have him:=HB.out.2.1.kp hkp.out;obtain⟨_,_,_,c4⟩:=him.c
  by_cases hlt:d < n
  ·obtain⟨g,hg⟩:=HP.out d hlt;have hrun:=him.look ((a+d)/1024) (by omega);rw [hg] at hrun;simp only [Option.map_some] at hrun;have ec:(((a+d)/1024:Nat):Int)=((a:Int)+(d:Int))/1024:=by omega
   rw [ec] at hrun;clear ec him;have hlen:ys.length < n:=Nat.lt_of_le_of_lt hgot.out.le.2 hlt;obtain⟨fn,tmps,assign,body,hy,hR⟩:=HY.out ys ⟨d,hlt⟩ wr hJs.out hlen;unfold encP at hy;rw [hg] at hy;simp only [Option.getD_some] at hy;have HR:=hid hR;have HN:=hid (And.intro (hgot.out.next hlt) (And.intro (plen_pos (a:=a) hlt) (plen_le (a:=a) hlt)));clear hR hlen hg
   by_cases hmin:((a:Int)+(d:Int)) % 1024+(n:Int) - (d:Int)≤1024
   ·have hsl:=slice_at g a n d _ wr hlt (by rw [Int.min_eq_left hmin]);have HE:=hid (show (d:Int)+(((a:Int)+(d:Int)) % 1024+(n:Int) - (d:Int) - ((a:Int)+(d:Int)) % 1024)=((d+plen a n d:Nat):Int) by unfold plen;omega);generalize plen a n d=pl at *
    gi_wp2
    refine⟨fun _=>by omega,?_⟩;refine HR.out.mono ?_;rintro e W3 (⟨rfl,hJ3,hk3⟩|⟨rfl,hJx3⟩)
    ·have J3:=hid (And.intro hJ3 (hkp.out.trans hk3));clear hJ3 hk3 hy
     gi_wp2
     go_roundw
     case rel=>exact ⟨d+pl,ys++[⟨d,hlt⟩],HN.out.2.2,int_cast HE.out,hid HN.out.1,hid J3.out.1,hid J3.out.2⟩
     case measure =>
      have h1:=HN.out.2.1;have h2:=HE.out;simp only [intOf];omega
    have J3:=hid hJx3;clear hJx3 hy
    gi_wp2
    refine bodyPost_ret (results_none rfl _ _ _) rfl ?_;exact⟨⟨_,rfl⟩,.inr ⟨_,⟨_,HN.out.1⟩,J3.out⟩⟩
   have hsl:=slice_at g a n d 1024 wr hlt (by rw [Int.min_eq_right (by omega)]);have HE:=hid (show (d:Int)+(1024 - ((a:Int)+(d:Int)) % 1024)=((d+plen a n d:Nat):Int) by unfold plen;omega);generalize plen a n d=pl at *
   gi_wp2
   refine⟨fun _=>by omega,?_⟩;refine HR.out.mono ?_;rintro e W3 (⟨rfl,hJ3,hk3⟩|⟨rfl,hJx3⟩)
   ·have J3:=hid (And.intro hJ3 (hkp.out.trans hk3));clear hJ3 hk3 hy
    gi_wp2
    go_roundw
    case rel=>exact ⟨d+pl,ys++[⟨d,hlt⟩],HN.out.2.2,int_cast HE.out,hid HN.out.1,hid J3.out.1,hid J3.out.2⟩
    case measure =>
     have h1:=HN.out.2.1;have h2:=HE.out;simp only [intOf];omega
   have J3:=hid hJx3;clear hJx3 hy
   gi_wp2
   refine bodyPost_ret (results_none rfl _ _ _) rfl ?_;exact⟨⟨_,rfl⟩,.inr ⟨_,⟨_,HN.out.1⟩,J3.out⟩⟩
  have hdn:d=n:=by omega
  subst hdn
  gi_wp2
  go_end0
  exact⟨⟨_,rfl⟩,.inl ⟨_,hgot.out,hJs.out⟩⟩
end Go.Proofs.YtgandbaejlfppaaGreatDoor
namespace Go.Proofs.YtgandbaejlfppaaGreatDoor
set_option linter.unusedVariables false
set_option linter.unusedSimpArgs false
set_option maxRecDepth 20000
set_option maxHeartbeats 8000000
open Go.RowKit Go.Shelf
def byteAt (m:Nat→Option (Bool×List Int)) (p:Nat):Int:=((((m (p/1024)).map fun q=>q.2).getD [])[p % 1024]?).getD 0
def pieceB (m:Nat→Option (Bool×List Int)) (a n d:Nat):List Int:=(List.range (plen a n d)).map fun i=>byteAt m (a+(d+i))
def piecesB (m:Nat→Option (Bool×List Int)) (a n:Nat) (ys:List { d:Nat // d < n }):List Int:=ys.flatMap fun x=>pieceB m a n x.1
theorem piecesB_snoc (m:Nat→Option (Bool×List Int)) (a n:Nat) (ys:List { d:Nat // d < n }) (x : { d:Nat // d < n }):piecesB m a n (ys++[x])=piecesB m a n ys++pieceB m a n x.1:=by
 simp [piecesB,List.flatMap_append]
theorem pieceB_len (m:Nat→Option (Bool×List Int)) (a n d:Nat):(pieceB m a n d).length=plen a n d:=by simp [pieceB]
theorem plen_top (a n d:Nat):plen a n d≤1024:=by unfold plen;omega
theorem piecesB_len (m:Nat→Option (Bool×List Int)) (a n:Nat):∀ ys:List { d:Nat // d < n },(piecesB m a n ys).length≤1024*ys.length
 | []=>by simp [piecesB]
 | x::ys=>by
  have h1:=piecesB_len m a n ys
  have h2:=plen_top a n x.1
  have h3:piecesB m a n (x::ys)=pieceB m a n x.1++piecesB m a n ys:=by simp [piecesB]
  rw [h3,List.length_append,pieceB_len,List.length_cons]
  omega
theorem Got.bytes {m:Nat→Option (Bool×List Int)} {a n:Nat} {ys:List { d:Nat // d < n }} {d:Nat} (h:Got a n ys d):piecesB m a n ys=(List.range d).map fun i=>byteAt m (a+i):=by
 induction h with
 | zero=>rfl
 | next h hd ih =>
  rw [piecesB_snoc,ih,List.range_add,List.map_append];simp [pieceB]
structure Ld (S M:Nat) (st nn bud:Int) (f:Nat→Option Nat) (m:Nat→Option (Bool×List Int)) (w:World) (R DB:Nat) (v:Value) (W:World):Prop where
 im:Im S M st nn bud f W
 pg:Pg f m W
 fr:Fr S M f f w W
 res:W.heap[R]?=some (.cells #[Vi 0,Vn] 183 (0,0))
 box:W.heap[DB]?=some (.cells #[v] 22 (0,0))
 mlt:M < w.heap.size
 rge:w.heap.size≤R
 dge:w.heap.size≤DB
theorem Ld.keep {S M:Nat} {st nn bud:Int} {f:Nat→Option Nat} {m:Nat→Option (Bool×List Int)} {w W W':World} {R DB:Nat} {v:Value} {row:Option Nat} (h:Ld S M st nn bud f m w R DB v W) (hg:W.grownBy W' row)
  (hr:∀ r,row=some r→w.heap.size≤r∧∀ c t z,W.heap[r]?=some (.cells c t z)→t=5):Ld S M st nn bud f m w R DB v W':=by
 have hc:∀ (b:Nat) (c:Array Value) (t:TypeId) (z:Nat×Nat),W.heap[b]?=some (Obj.cells c t z)→t≠5→W'.heap[b]?=some (Obj.cells c t z):=by
  intro b c t z hb ht;rw [hg.block b (lt_of_block hb) (fun e=>ht ((hr b e.symm).2 c t z hb))];exact hb
 have hM:W'.heap[M]?=W.heap[M]?:=hg.block M (Nat.lt_of_lt_of_le h.mlt h.fr.size) (fun e=>by have:=(hr M e.symm).1;have:=h.mlt;omega);refine⟨⟨hc _ _ _ _ h.im.box (by decide),?_⟩,⟨?_,h.pg.inj⟩,?_,hc _ _ _ _ h.res (by decide),hc _ _ _ _ h.box (by decide),h.mlt,h.rge,h.dge⟩
 ·obtain⟨D,⟨es,clock,hb,r1⟩,r⟩:=h.im.map;exact⟨D,⟨es,clock,hM.trans hb,r1⟩,r⟩
 ·intro j
  rcases h.pg.at' j with h1|⟨b,l,xs,h1,h2,h3,h4⟩
  ·exact .inl h1
  exact .inr ⟨b,l,xs,h1,h2,h3,hc _ _ _ _ h4 (by decide)⟩
 refine⟨hg.os.trans h.fr.os,hg.tape.trans h.fr.tape,hg.output.trans h.fr.output,Nat.le_trans h.fr.size hg.size,?_,h.fr.made⟩;intro g h0 h1 h2 h3;rw [hg.block g (Nat.lt_of_lt_of_le h0 h.fr.size) (fun e=>by have:=(hr g e.symm).1;omega)];exact h.fr.block g h0 h1 h2 h3
theorem Ld.store {S M:Nat} {st nn bud:Int} {f:Nat→Option Nat} {m:Nat→Option (Bool×List Int)} {w W:World} {R DB:Nat} {v:Value} (h:Ld S M st nn bud f m w R DB v W) (v':Value):Ld S M st nn bud f m w R DB v' (W.setCell ⟨DB,0,none⟩ v'):=by
 have hc:∀ (b:Nat) (c:Array Value) (t:TypeId) (z:Nat×Nat),W.heap[b]?=some (Obj.cells c t z)→t≠22→(W.setCell ⟨DB,0,none⟩ v').heap[b]?=some (Obj.cells c t z):=by
  intro b c t z hb ht;rw [Below.heap_setCell _ _ _ _ ?_]
  ·exact hb
  intro e;simp at e;subst e;rw [h.box] at hb
  cases hb
  exact ht rfl
 have hne:DB≠S∧DB≠M:=by
  constructor
  ·intro e;subst e;have h1:=h.box;rw [h.im.box] at h1;simp at h1
  have:=h.mlt;have:=h.dge;omega
 refine⟨h.im.setCell (p:=⟨DB,0,none⟩) hne.1 hne.2 v',⟨?_,h.pg.inj⟩,?_,hc _ _ _ _ h.res (by decide),?_,h.mlt,h.rge,h.dge⟩
 ·intro j
  rcases h.pg.at' j with h1|⟨b,l,xs,h1,h2,h3,h4⟩
  ·exact .inl h1
  exact .inr ⟨b,l,xs,h1,h2,h3,hc _ _ _ _ h4 (by decide)⟩
 ·refine⟨h.fr.os,h.fr.tape,h.fr.output,by simp [World.setCell];exact h.fr.size,?_,h.fr.made⟩;intro g h0 h1 h2 h3;rw [Below.heap_setCell _ _ _ _ ?_]
  ·exact h.fr.block g h0 h1 h2 h3
  intro e;simp at e;have:=h.dge;omega
 rw [heap_set_at h.box];rfl
theorem Ld.cells {S M:Nat} {st nn bud:Int} {f:Nat→Option Nat} {m:Nat→Option (Bool×List Int)} {w W:World} {R DB:Nat} {v:Value} (h:Ld S M st nn bud f m w R DB v W) :
  W.cell? ⟨DB,0,none⟩=some v∧W.frozen? ⟨DB,0,none⟩=false∧W.cell? ⟨R,0,none⟩=some (Vi 0)∧W.cell? ⟨R,1,none⟩=some (Vn)∧W.frozen? ⟨R,0,none⟩=false∧W.frozen? ⟨R,1,none⟩=false:=by
 have h1:=h.box;have h2:=h.res;refine⟨by simp [World.cell?,h1],by simp [World.frozen?,h1],by simp [World.cell?,h2],by simp [World.cell?,h2],by simp [World.frozen?,h2],by simp [World.frozen?,h2]⟩
theorem piece_cells {f:Nat→Option Nat} {m:Nat→Option (Bool×List Int)} {W:World} (h:Pg f m W) {a n d g:Nat} (hg:f ((a+d)/1024)=some g) :
  ∀ j u,(Ns .u8 (pieceB m a n d))[j]?=some u→W.cell? ((⟨g,(a+d) % 1024,none⟩:Addr).add j)=some u:=by
 intro j u hj;obtain⟨l,xs,h1,h2,h3⟩:=h.cell hg;simp only [Ns,pieceB,List.map_map,List.getElem?_map] at hj;have hj1:j < plen a n d:=by
  rcases Nat.lt_or_ge j (plen a n d) with e|e
  ·exact e
  rw [List.getElem?_eq_none (by simpa using e)] at hj;simp at hj
 rw [List.getElem?_range hj1] at hj;simp at hj;have hp:(a+d) % 1024+j < 1024:=by unfold plen at hj1;omega
 have e1:(a+(d+j))/1024=(a+d)/1024:=by omega
 have e2:(a+(d+j)) % 1024=(a+d) % 1024+j:=by omega
 rw [←hj];simp only [byteAt,e1,e2,h1,Option.map_some,Option.getD_some];have e3:=pageC_byte l xs ((a+d) % 1024+j) (by omega);have e4:(⟨g,(a+d) % 1024,none⟩:Addr).add j=⟨g,(a+d) % 1024+j,none⟩:=by
  by_cases e:j=0
  ·subst e;simp [Addr.add]
  simp [Addr.add,e]
 rw [e4];simp only [World.cell?,h3];exact e3
end Go.Proofs.YtgandbaejlfppaaGreatDoor
