import Derived.Test.YtgandbaejlfppaaGreatDoorM06
namespace Go.Proofs.YtgandbaejlfppaaGreatDoor
set_option linter.unusedVariables false
set_option linter.unusedSimpArgs false
set_option maxRecDepth 20000
set_option maxHeartbeats 8000000
open Go.RowKit Go.Shelf
attribute [local go_sem] Oper.semAt_some
theorem Pg.alloc {f:Nat→Option Nat} {m:Nat→Option (Bool×List Int)} {W:World} (h:Pg f m W) (o:Obj):Pg f m (W.alloc o):=by
 refine⟨?_,h.inj⟩;intro j
 rcases h.at' j with h1|⟨b,l,xs,h1,h2,h3,h4⟩
 ·exact .inl h1
 exact .inr ⟨b,l,xs,h1,h2,h3,by rw [(World.grownBy_alloc W o none).block b (lt_of_block h4) (by simp)];exact h4⟩
theorem Im.grown {S M:Nat} {st n bud:Int} {f:Nat→Option Nat} {W W':World} (h:Im S M st n bud f W) (hg:W.grownBy W' none):Im S M st n bud f W':=by
 obtain⟨D,hown,r⟩:=h.map;exact⟨by rw [hg.block S (lt_of_block h.box) (by simp)];exact h.box,D,hown.kept hg (by simp),r⟩
theorem Pg.grown {f:Nat→Option Nat} {m:Nat→Option (Bool×List Int)} {W W':World} (h:Pg f m W) (hg:W.grownBy W' none):Pg f m W':=by
 refine⟨?_,h.inj⟩;intro j
 rcases h.at' j with h1|⟨b,l,xs,h1,h2,h3,h4⟩
 ·exact .inl h1
 exact .inr ⟨b,l,xs,h1,h2,h3,by rw [hg.block b (lt_of_block h4) (by simp)];exact h4⟩
theorem Fr.ofGrown {S M:Nat} {f:Nat→Option Nat} {W W':World} (hg:W.grownBy W' none):Fr S M f f W W' :=
 ⟨hg.os,hg.tape,hg.output,hg.size,fun g h0 _ _ _=>hg.block g h0 (by simp),fun k g e=>.inl ⟨k,e⟩⟩
theorem grown_trans {A B C:World} (h:A.grownBy B none) (k:B.grownBy C none):A.grownBy C none :=
 ⟨k.os.trans h.os,k.tape.trans h.tape,k.output.trans h.output,Nat.le_trans h.size k.size,fun g h0 _=>by rw [k.block g (Nat.lt_of_lt_of_le h0 h.size) (by simp)];exact h.block g h0 (by simp)⟩
theorem Ld.init {S M:Nat} {st nn bud:Int} {f:Nat→Option Nat} {m:Nat→Option (Bool×List Int)} {w w2:World} (hi:Im S M st nn bud f w) (hp:Pg f m w) (hg:(w.alloc (.cells #[Vi 0,Vn] 183)).grownBy w2 none) (v:Value) :
  Ld S M st nn bud f m w w.heap.size w2.heap.size v (w2.alloc (.cells #[v] 22)):=by
 have hw:=grown_trans (World.grownBy_alloc w (.cells #[Vi 0,Vn] 183) none) (grown_trans hg (World.grownBy_alloc w2 (.cells #[v] 22) none));have hlt:w.heap.size < w2.heap.size:=by have:=hg.size;simp at this;omega
 refine⟨hi.grown hw,hp.grown hw,Fr.ofGrown hw,?_,(MapKept.heap_alloc w2 _).1,?_,Nat.le_refl _,by omega⟩
 ·rw [(World.grownBy_alloc w2 (.cells #[v] 22) none).block _ hlt (by simp),hg.block _ (by simp) (by simp)];exact (MapKept.heap_alloc w _).1
 obtain⟨D,hown,_⟩:=hi.map;exact hown.lt
theorem Cl.made (S:Nat) (a n:Int) (W:World):Cl S W.heap.size a n (((W.alloc (.cells #[Vp S 0] 60)).alloc (.cells #[Vu a] 23)).alloc (.cells #[Vi n] 3)):=by
 refine⟨?_,?_,?_⟩
 ·rw [(World.grownBy_alloc _ _ none).block _ (by simp;omega) (by simp),(World.grownBy_alloc _ _ none).block _ (by simp) (by simp)];exact (MapKept.heap_alloc W _).1
 ·rw [(World.grownBy_alloc _ _ none).block _ (by simp) (by simp)];have:=(MapKept.heap_alloc (W.alloc (.cells #[Vp S 0] 60)) (.cells #[Vu a] 23)).1;simpa using this
 have:=(MapKept.heap_alloc ((W.alloc (.cells #[Vp S 0] 60)).alloc (.cells #[Vu a] 23)) (.cells #[Vi n] 3)).1;simpa using this
theorem Kp.below {S M b N:Nat} {A B:World} (h:Below N A B) (h1:S < N) (h2:M < N) (h3:b+1+1 < N):Kp S M b A B :=
 ⟨h.size,fun g hg=>h.block g (by rcases hg with rfl|rfl|rfl|rfl|rfl <;> omega)⟩
theorem kp_put {S M b N:Nat} (h1:S < N) (h2:M < N) (h3:b+1+1 < N) (W:World) (l:Nat) (o o':Obj) (hl:N≤l) (h:W.heap[l]?=some o):Kp S M b W (W.putObj l o') :=
 ⟨(grownBy_putObj' W l o').size,fun g hg=>(grownBy_putObj' W l o').block g (by have:=lt_of_block h;rcases hg with rfl|rfl|rfl|rfl|rfl <;> omega) (by simp;rcases hg with rfl|rfl|rfl|rfl|rfl <;> omega)⟩
theorem own_apart {A:World} {base:Nat} {v:Value} {n:Nat} {xs:List Value} {row:Option Nat} (h:A.ownsRow base 5 1 v n xs) (hr:∀ r,row=some r→∃ o:Obj,A.heap[r]?=some o∧o.isCells=false):v.ownBlock=none∨v.ownBlock≠row:=by
 rcases h.2 with ⟨rfl,_⟩|⟨g,cap,cur,rfl,_,hb,_⟩
 ·exact .inl rfl
 right;intro e;obtain⟨o,h1,h2⟩:=hr g e.symm;rw [hb] at h1
 cases h1
 cases h2
theorem own_slice {A:World} {base:Nat} {v:Value} {n:Nat} {xs:List Value} (h:A.ownsRow base 5 1 v n xs):∃ p l c,v=.slice p l c:=by
 rcases h.2 with ⟨rfl,_⟩|⟨g,cap,cur,rfl,_⟩
 ·exact⟨_,_,_,rfl⟩
 exact⟨_,_,_,rfl⟩
theorem core {S M:Nat} {st nn bud:Int} {f:Nat→Option Nat} {m:Nat→Option (Bool×List Int)} {w W W':World} {row:Option Nat} (hi:Im S M st nn bud f w) (hp:Pg f m w) (im:Im S M st nn bud f W) (pg:Pg f m W) (fr:Fr S M f f w W) (hg:W.grownBy W' row) (hr:∀ r,row=some r→w.heap.size≤r) :
  Im S M st nn bud f W'∧Pg f m W'∧Fr S M f f w W':=by
 have hk:∀ g,g < w.heap.size→W'.heap[g]?=W.heap[g]?:=fun g h0=>hg.block g (Nat.lt_of_lt_of_le h0 fr.size) (fun e=>by have:=hr g e.symm;omega)
 refine⟨⟨(hk S (lt_of_block hi.box)).trans im.box,?_⟩,⟨?_,pg.inj⟩,?_⟩
 ·obtain⟨_,hown,_⟩:=hi.map;obtain⟨D,⟨es,clock,hb,r1⟩,r⟩:=im.map;exact⟨D,⟨es,clock,(hk M hown.lt).trans hb,r1⟩,r⟩
 ·intro j
  rcases pg.at' j with h1|⟨b,l,xs,h1,h2,h3,h4⟩
  ·exact .inl h1
  obtain⟨_,_,_,_,h5⟩:=hp.cell h1;exact .inr ⟨b,l,xs,h1,h2,h3,(hk b (lt_of_block h5)).trans h4⟩
 refine⟨hg.os.trans fr.os,hg.tape.trans fr.tape,hg.output.trans fr.output,Nat.le_trans fr.size hg.size,?_,fr.made⟩;intro g h0 h1 h2 h3;rw [hk g h0];exact fr.block g h0 h1 h2 h3
theorem own_not {A:World} {base DB:Nat} {v:Value} {n:Nat} {xs:List Value} {c:Array Value} {t:TypeId} {z:Nat×Nat} (h:A.ownsRow base 5 1 v n xs) (hb:A.heap[DB]?=some (.cells c t z)) (ht:t≠5):v.ownBlock=none∨v.ownBlock≠some DB:=by
 rcases h.2 with ⟨rfl,_⟩|⟨g,cap,cur,rfl,_,h2,_⟩
 ·exact .inl rfl
 right;intro e
 cases e
 rw [h2] at hb
 cases hb
 exact ht rfl
theorem own_row {A:World} {base:Nat} {v:Value} {n:Nat} {xs:List Value} (h:A.ownsRow base 5 1 v n xs):∀ r,v.ownBlock=some r→base≤r∧∃ c,A.heap[r]?=some (.cells c 5 (0,0)):=by
 intro r e
 rcases h.2 with ⟨rfl,_⟩|⟨g,cap,cur,rfl,hg,hb,_⟩
 ·cases e
 cases e
 exact⟨hg,cur,hb⟩
theorem Ld.kpRow {S M b:Nat} {st nn bud:Int} {f:Nat→Option Nat} {m:Nat→Option (Bool×List Int)} {w W W':World} {R DB:Nat} {v:Value} {a n:Int} {row:Option Nat} (h:Ld S M st nn bud f m w R DB v W) (hc:Cl S b a n W) (hg:W.grownBy W' row)
  (hr:∀ r,row=some r→w.heap.size≤r∧∀ c t z,W.heap[r]?=some (.cells c t z)→t=5):Kp S M b W W':=by
 have hk:∀ (b:Nat) (c:Array Value) (t:TypeId) (z:Nat×Nat),W.heap[b]?=some (Obj.cells c t z)→t≠5→W'.heap[b]?=W.heap[b]?:=fun b c t z hb ht=>hg.block b (lt_of_block hb) (fun e=>ht ((hr b e.symm).2 c t z hb))
 refine⟨hg.size,?_⟩;rintro g (rfl|rfl|rfl|rfl|rfl)
 ·exact hk _ _ _ _ h.im.box (by decide)
 ·exact hg.block _ (Nat.lt_of_lt_of_le h.mlt h.fr.size) (fun e=>by have:=(hr _ e.symm).1;have:=h.mlt;omega)
 ·exact hk _ _ _ _ hc.s (by decide)
 ·exact hk _ _ _ _ hc.a (by decide)
 exact hk _ _ _ _ hc.n (by decide)
theorem Ld.kpBox {S M b:Nat} {st nn bud:Int} {f:Nat→Option Nat} {m:Nat→Option (Bool×List Int)} {w W:World} {R DB:Nat} {v:Value} {a n:Int} (h:Ld S M st nn bud f m w R DB v W) (hc:Cl S b a n W) (v':Value):Kp S M b W (W.setCell ⟨DB,0,none⟩ v'):=by
 have hk:∀ (b:Nat) (c:Array Value) (t:TypeId) (z:Nat×Nat),W.heap[b]?=some (Obj.cells c t z)→t≠22→(W.setCell ⟨DB,0,none⟩ v').heap[b]?=W.heap[b]?:=by
  intro b c t z hb ht;refine Below.heap_setCell _ _ _ _ ?_;intro e;simp at e;subst e;rw [h.box] at hb
  cases hb
  exact ht rfl
 refine⟨by simp [World.setCell],?_⟩;rintro g (rfl|rfl|rfl|rfl|rfl)
 ·exact hk _ _ _ _ h.im.box (by decide)
 ·refine Below.heap_setCell _ _ _ _ ?_;have:=h.mlt;have:=h.dge;simp;omega
 ·exact hk _ _ _ _ hc.s (by decide)
 ·exact hk _ _ _ _ hc.a (by decide)
 exact hk _ _ _ _ hc.n (by decide)
theorem load_in (S M:Nat) (st nn bud:Int) (f:Nat→Option Nat) (m:Nat→Option (Bool×List Int)) (a n:Nat) (w:World) (hi:Im S M st nn bud f w) (hp:Pg f m w) (hn:n≤4096) (ha:n=0∨a+n≤4611686018427387904) (hpg:∀ d,d < n→∃ g,f ((a+d)/1024)=some g)
  (h:∀ w,Im S M st nn bud f w→Pg f m w→Calls Tryz.prog 168 #[Vp S 0,Vu a,Vi n] w fun e w'=>e=.returned (Vi 0)∧w'=w) :
  CallsIn Fence.wide 5 Tryz.prog 128 #[Vp S 0,Vu a,Vi n] w fun e w'=>∃ v,e=.returned (.agg #[Vi 0,v])∧w'.ownsRow w.heap.size 5 1 v n (Ns .u8 ((List.range n).map fun i=>byteAt m (a+i)))∧Im S M st nn bud f w'∧Pg f m w'∧Fr S M f f w w':=by
 obtain⟨i0,hi0,hz0,hz1,hz2⟩:=info_parts Tryz.info5By;have H1:=hid h;have HI:=hid (And.intro hi hp);have HP:=hid hpg;clear h hi hp hpg;refine callsIn_of_wp_marks Tryz.func128 rfl trivial ?_ rfl;simp only [Tryz.ntmps128,List.size_toArray,List.length_cons,List.length_nil,Nat.reduceAdd,Nat.reduceSub,Array.replicate_succ,Array.replicate_zero,List.push_toArray,List.append_toArray,List.nil_append,List.cons_append]
 gi_wp2_with fail
 refine⟨trivial,?_⟩;refine ((callsIn_wide (n:=4)).2 (H1.out _ (HI.out.1.alloc _) (HI.out.2.alloc _))).mono ?_;rintro _ _ ⟨rfl,rfl⟩
 gi_wp2_with (gi_at_make;refine wpListIn_make_own _ rfl _ _ 22 rfl w.heap.size 5 i0 (.int .u8 0) 1 Tryz.underlying22 hi0 hz0 hz1 .i64 .i64 _ n rfl rfl rfl ?c1 ?c2 ?c3 ?_)
 case c1=>rw [hz2];omega
 case c2=>unfold maxLen;omega
 case c3=>simp
 intro w2 hown hgrow;have L3:=Ld.init HI.out.1 HI.out.2 hgrow (Vl (w.heap.size+1) 0 n);have O3:=hown.alloc (.cells #[Vl (w.heap.size+1) 0 n] 22);have HL:=hid (And.intro L3 O3);have hS:=hid (Nat.lt_of_lt_of_le (lt_of_block HI.out.1.box) L3.fr.size);have hM:=hid (Nat.lt_of_lt_of_le L3.mlt L3.fr.size);have hsz:=hid L3.fr.size;clear hown hgrow L3 O3
 gi_wp2_with fail
 refine⟨trivial,?_⟩;obtain⟨W3,hW3⟩:∃ W3,w2.alloc (.cells #[Vl (w.heap.size+1) 0 n] 22)=W3:=⟨_,rfl⟩;obtain⟨DB,hDB⟩:∃ DB,w2.heap.size=DB:=⟨_,rfl⟩;rw [hW3] at HL hS hM hsz;rw [hDB] at HL;rw [hW3,hDB];clear hW3 hDB;refine ((callsIn_wide (n:=4)).2 (pieces_mk _ _ _ _)).mono ?_;rintro e w4 ⟨rfl,rfl⟩
 gi_wp2
 have HC:=hid (Cl.made S a n W3);have g4:=grown_trans (World.grownBy_alloc W3 (.cells #[Vp S 0] 60) none) (grown_trans (World.grownBy_alloc _ (.cells #[Vu a] 23) none) (World.grownBy_alloc _ (.cells #[Vi n] 3) none));have HL4:=hid (And.intro (HL.out.1.keep g4 (fun r e=>by cases e)) (HL.out.2.kept g4 (.inr (by simp [Value.ownBlock]))));have h4:W3.heap.size+1+1+1=(((W3.alloc (.cells #[Vp S 0] 60)).alloc (.cells #[Vu a] 23)).alloc (.cells #[Vi n] 3)).heap.size:=by simp
 obtain⟨W4,hW4⟩:∃ W4,((W3.alloc (.cells #[Vp S 0] 60)).alloc (.cells #[Vu a] 23)).alloc (.cells #[Vi n] 3)=W4:=⟨_,rfl⟩;rw [hW4] at HC HL4 h4;rw [hW4];clear g4 hW4 HL;have hS:=hS.out;have hM:=hM.out;have hsz:=hsz.out;refine wpIn_rangeFunc_ownF rfl (by omega) (gf:=190) (lb:=#[Vp (W3.heap.size+1+1) 0,Vp (W3.heap.size+1) 0,Vp W3.heap.size 0]) rfl trivial (enters_of Tryz.func190 (by kernel_rfl) rfl)
  (encs:=fun x : { d:Nat // d < n }=>encP f a n x.1) (Kp:=Kp S M W3.heap.size) (S:=fun ys=>Got a n ys n) (Sp:=fun pre=>∃ d,Got a n pre d) (N:=n) (w0:=W4)
  (fun l J Jx W hW hJ hJx hY h0=>pieces_in S M st nn bud f a n l W3.heap.size 4 (by omega) hn ha HP.out J Jx W hJ hY (HC.out.kp (Kp.below (M:=M) (N:=W4.heap.size) hW (by omega) (by omega) (by omega))) (HL4.out.1.im.kp (Kp.below (N:=W4.heap.size) (b:=W3.heap.size) hW (by omega) (by omega) (by omega))) h0)
  Kp.trans (fun W l o o' hl h _ _=>kp_put (S:=S) (M:=M) (b:=W3.heap.size) (N:=W4.heap.size) (by omega) (by omega) (by omega) W l o o' hl h) (Below.refl _ _) (fun _=>rfl)
  (fun pre W=>∃ v,Ld S M st nn bud f m w w.heap.size DB v W∧W.ownsRow w.heap.size 5 1 v (piecesB m a n pre).length (Ns .u8 (piecesB m a n pre))∧Cl S W3.heap.size a n W)
  (fun c pre W=>False)
  ?own (fun c s A B row hs hg hr=>hs) ⟨_,HL4.out.1,HL4.out.2,HC.out⟩
  (fun x=>{ tmps:=#[Vp S 0,Vu a,Vi n,undef,undef,undef,Vp w.heap.size 0,Vi 0,Vp DB 0,.slice (some ⟨(f ((a+x.1)/1024)).getD 0,(a+x.1) % 1024,none⟩) (plen a n x.1) (1024 - (a+x.1) % 1024),Vp S 0,Vu a,Vi n,Vi 0,Vi 0,.bool false,undef,undef,Vi n,Vl (w.heap.size+1) 0 n,Vp S 0,Vu a,Vi n,.func (.func 190) #[] #[Vp (W3.heap.size+1+1) 0,Vp (W3.heap.size+1) 0,Vp W3.heap.size 0],.slice (some ⟨(f ((a+x.1)/1024)).getD 0,(a+x.1) % 1024,none⟩) (plen a n x.1) (1024 - (a+x.1) % 1024),undef,undef,undef,undef,undef],defers:=[] }) ?assign ?body ?done ?stop
 case own =>
  rintro s A B row ⟨v,hl,ho,hc⟩ hg hr;have hb:∀ r,row=some r→w.heap.size≤r∧∀ c t z,A.heap[r]?=some (.cells c t z)→t=5:=by
   intro r e;obtain⟨h1,o,h2,h3⟩:=hr r e;refine⟨by omega,fun c t z h5=>?_⟩;rw [h5] at h2
   cases h2
   cases h3
  exact⟨v,hl.keep hg hb,ho.kept hg (own_apart ho fun r e=>(hr r e).2),hc.kp (hl.kpRow hc hg hb)⟩
 case assign =>
  intro l x W K hK;unfold encP
  gi_wp2
  exact hK
 case stop =>
  intro D c pre W _ _ h;exact h.elim
 case body =>
  rintro l pre x W ⟨v,hl,ho,hc⟩ hlt;obtain⟨c1,c2,_,_,_,_⟩:=hl.cells;obtain⟨g,hg⟩:=HP.out x.1 x.2;have hpc:=piece_cells hl.pg (n:=n) hg;have hb5:=own_row ho;have HB:=hid (And.intro hl (And.intro ho hc));have hlen:(piecesB m a n pre).length≤1024*pre.length:=piecesB_len m a n pre;have hpl:=plen_top a n x.1;rw [hg];simp only [Option.getD_some];have HQ:=hid (And.intro hpc hb5);have hb0:=hid (Nat.le_trans hsz (show W3.heap.size≤W3.heap.size from Nat.le_refl _));have hbW:=hid hl.fr.size;clear hl ho hc hpc hb5 HL4 HC
  gi_wp2_with (gi_at_builtin;refine wpListIn_append_own _ rfl _ _ 22 rfl w.heap.size 5 i0 (.int .u8 0) 1 1 Tryz.underlying22 hi0 hz0 hz1 hz2 rfl (by omega) _ _ _ rfl HB.out.2.1 _ _ _ (Ns .u8 (pieceB m a n x.1)) rfl ?b0 HQ.out.1 ?b1 ?b2 ?b3 ?b4 ?_)
  case b0=>simp [Ns,pieceB_len]
  case b1 =>
   intro u hu;simp only [Ns,List.mem_map] at hu;obtain⟨z,_,rfl⟩:=hu;rfl
  case b2=>unfold maxLen;omega
  case b3=>omega
  case b4=>exact hbW.out
  intro v1 w1 ho1 hg1 _;obtain⟨p1,l1,k1,rfl⟩:=own_slice ho1;have hb:∀ r,v.ownBlock=some r→w.heap.size≤r∧∀ c t z,W.heap[r]?=some (.cells c t z)→t=5:=by
   intro r e;obtain⟨h1,c0,h2⟩:=HQ.out.2 r e;refine⟨h1,fun c t z h5=>?_⟩;rw [h5] at h2
   cases h2
   rfl
  have L1:=HB.out.1.keep hg1 hb;have K1:=HB.out.1.kpRow HB.out.2.2 hg1 hb;have C1:=HB.out.2.2.kp K1;have KO:KeepsOthers W w1:=KeepsOthers.of_grownBy hg1 (fun j o e ho=>by obtain ⟨_,c0,h2⟩:=HQ.out.2 j e;rw [h2] at ho;cases ho;rfl);have HS:=hid (And.intro L1 (And.intro K1 (And.intro C1 (And.intro KO ho1))));obtain⟨d1,d2,_,_,_,_⟩:=L1.cells;clear L1 K1 C1 KO ho1 hg1 hb c1 c2
  gi_wp2
  have o1:=HS.out.2.2.2.2.kept (grown_set (grown_refl w1 DB) 0 (.slice p1 l1 k1)) (own_not HS.out.2.2.2.2 HS.out.1.box (by decide));have e1:(piecesB m a n (pre++[x])).length=(piecesB m a n pre).length+plen a n x.1:=by rw [piecesB_snoc,List.length_append,pieceB_len]
  have e2:Ns .u8 (piecesB m a n (pre++[x]))=Ns .u8 (piecesB m a n pre)++Ns .u8 (pieceB m a n x.1):=by rw [piecesB_snoc];simp [Ns]
  rw [←e1,←e2] at o1;exact⟨HS.out.2.2.2.1.trans (KeepsOthers.setCell _ _ _),HS.out.2.1.trans (HS.out.1.kpBox HS.out.2.2.1 _),_,HS.out.1.store _,o1,HS.out.2.2.1.kp (HS.out.1.kpBox HS.out.2.2.1 _)⟩
 case done =>
  rintro D ys W hD hgot ⟨v,hl,ho,hc⟩ hK;obtain⟨c1,c2,c3,c4,c5,c6⟩:=hl.cells;have HB:=hid (And.intro hl (And.intro ho hgot));obtain⟨vp,vl,vc,rfl⟩:=own_slice ho;clear hl ho hc hgot HL4 HC
  gi_wp2
  have hK':=((KeepsOthers.setCell W ⟨w.heap.size,0,none⟩ (Vi 0)).trans (KeepsOthers.setCell _ ⟨w.heap.size,1,none⟩ (.slice vp vl vc))).same D _ hK rfl;have hb2:((W.setCell ⟨w.heap.size,0,none⟩ (Vi 0)).setCell ⟨w.heap.size,1,none⟩ (.slice vp vl vc)).heap[w.heap.size]?=some (.cells #[Vi 0,.slice vp vl vc] 183 (0,0)):=by
   rw [heap_set_at (heap_set_at HB.out.1.res _)];rfl
  have g2:W.grownBy ((W.setCell ⟨w.heap.size,0,none⟩ (Vi 0)).setCell ⟨w.heap.size,1,none⟩ (.slice vp vl vc)) (some w.heap.size):=grown_set (grown_set (grown_refl W w.heap.size) 0 _) 1 _;have o2:=HB.out.2.1.kept g2 (own_not HB.out.2.1 HB.out.1.res (by decide));have q2:=core HI.out.1 HI.out.2 HB.out.1.im HB.out.1.pg HB.out.1.fr g2 (fun r e=>by cases e;exact Nat.le_refl _);have hD':w.heap.size≤D:=by omega
  clear c1 c2 c3 c4 c5 c6 hK;generalize (W.setCell ⟨w.heap.size,0,none⟩ (Vi 0)).setCell ⟨w.heap.size,1,none⟩ (.slice vp vl vc)=W5 at *;have g3:=grownBy_putObj' W5 D (.deferred none);have o3:=o2.kept g3 (own_apart o2 fun r e=>by cases e;exact⟨_,hK',rfl⟩);have q3:=core HI.out.1 HI.out.2 q2.1 q2.2.1 q2.2.2 g3 (fun r e=>by cases e;exact hD');have hb3:=(g3.block w.heap.size (lt_of_block hb2) (fun e=>by cases e;rw [hb2] at hK';cases hK')).trans hb2;rw [HB.out.2.2.bytes] at o3;simp only [List.length_map,List.length_range] at o3;refine⟨by simp,.inl ⟨_,_,rfl,run_takeDeferred hK',?_⟩⟩;refine⟨.agg #[Vi 0,.slice vp vl vc],?_,_,rfl,o3,q3⟩;have r1:(W5.putObj D (.deferred none)).cell? ⟨w.heap.size,0,none⟩=some (Vi 0):=by simp [World.cell?,hb3]
  have r2:(W5.putObj D (.deferred none)).cell? ⟨w.heap.size,1,none⟩=some (.slice vp vl vc):=by simp [World.cell?,hb3]
  simp [results,Tryz.f128,go_sem,r1,r2]
end Go.Proofs.YtgandbaejlfppaaGreatDoor
namespace Go.Proofs.YtgandbaejlfppaaGreatDoor
set_option linter.unusedVariables false
set_option linter.unusedSimpArgs false
set_option maxRecDepth 20000
set_option maxHeartbeats 8000000
open Go.RowKit Go.Shelf
theorem Im.lt {S M:Nat} {st n bud:Int} {f:Nat→Option Nat} {w:World} (h:Im S M st n bud f w):S < w.heap.size∧M < w.heap.size:=by
 obtain⟨D,h1,h2⟩:=h.map;exact⟨lt_blk h.box,h1.lt⟩
theorem Im.setRow {S M:Nat} {st n bud:Int} {f:Nat→Option Nat} {w:World} (h:Im S M st n bud f w) {r:Nat} (h1:r≠S) (h2:r≠M) (cs:Array Value):Im S M st n bud f (w.setRow r cs):=by
 have hg:=grown_setRow w r cs;obtain⟨D,d1,d2⟩:=h.map;exact⟨(hg.block S (lt_blk h.box) (by simpa using Ne.symm h1)).trans h.box,D,d1.kept hg (by simpa using Ne.symm h2),d2⟩
theorem Im.apartT {S M:Nat} {st n bud:Int} {f:Nat→Option Nat} {m:Nat→Option (Bool×List Int)} {W:World} (h:Im S M st n bud f W) (hp:Pg f m W) {g:Nat} {c:Array Value} {t:TypeId} {fr:Nat×Nat} (hg:W.heap[g]?=some (.cells c t fr)) (h1:t≠121) (h2:t≠155):g≠S∧g≠M∧∀ k,f k≠some g:=by
 refine⟨?_,?_,fun k hk=>?_⟩
 ·rintro rfl;have:=h.box;rw [hg] at this;simp at this;exact h1 this.2.1
 ·rintro rfl;obtain⟨D,⟨es,clock,hb,_⟩,_⟩:=h.map;rw [hg] at hb
  cases hb
 rcases hp.at' k with ⟨e1,_⟩|⟨b,l,xs,e1,_,_,e4⟩
 ·rw [hk] at e1;cases e1
 rw [hk] at e1
 cases e1
 rw [hg] at e4;simp at e4;exact h2 e4.2.1
theorem Pg.other {f:Nat→Option Nat} {m:Nat→Option (Bool×List Int)} {W W':World} (h:Pg f m W) (hk:∀ k b,f k=some b→W'.heap[b]?=W.heap[b]?):Pg f m W' :=
 ⟨fun k=>(h.at' k).imp id fun ⟨b,l,xs,e1,e2,e3,e4⟩=>⟨b,l,xs,e1,e2,e3,(hk k b e1).trans e4⟩,h.inj⟩
structure Dl (w:World) (op:Array Value) (S M:Nat) (nn bud:Int) (f f':Nat→Option Nat) (m:Nat→Option (Bool×List Int)) (O Rb:Nat) (V:World):Prop where
 im:Im S M 1 nn bud f' V
 pg:Pg f' m V
 fr:Fr S M f f' w V
 o:V.heap[O]?=some (.cells op 151 (0,0))
 r:V.heap[Rb]?=some (.cells #[Vi 0,Vn] 183 (0,0))
 hO:O=w.heap.size
 hR:Rb=w.heap.size+1
theorem Dl.first {S M:Nat} {n bud:Int} {f:Nat→Option Nat} {m:Nat→Option (Bool×List Int)} {w:World} (h:Im S M 0 n bud f w) (hp:Pg f m w) (op:Array Value):Dl w op S M n bud f f m w.heap.size (w.heap.size+1) (((w.alloc (.cells op 151)).alloc (.cells #[Vi 0,Vn] 183)).setCell ⟨S,0,none⟩ (.int .i32 1)):=by
 have hl:=h.lt;have i2:=(h.alloc (.cells op 151)).alloc (.cells #[Vi 0,Vn] 183);have p2:=(hp.alloc (.cells op 151)).alloc (.cells #[Vi 0,Vn] 183);refine⟨i2.st 1,p2.other (fun k b hb=>Below.heap_setCell _ _ _ _ (p2.apart i2 hb).1),?_,?_,?_,rfl,rfl⟩
 ·have b2:Below w.heap.size w ((w.alloc (.cells op 151)).alloc (.cells #[Vi 0,Vn] 183)):=((Below.refl _ _).alloc (Nat.le_refl _) _).alloc (by rw [al_size];omega) _;have g2:=grown_set (grown_refl ((w.alloc (.cells op 151)).alloc (.cells #[Vi 0,Vn] 183)) S) 0 (.int .i32 1);exact⟨g2.os.trans b2.os,g2.tape.trans b2.tape,g2.output.trans b2.output,Nat.le_trans b2.size g2.size,fun g h1 h2 h3 h4=>(g2.block g (Nat.lt_of_lt_of_le h1 b2.size) (by simpa using h2)).trans (b2.block g h1),fun k g hk=>.inl ⟨k,hk⟩⟩
 ·rw [Below.heap_setCell _ _ _ _ (by show w.heap.size≠S;omega),al_old _ _ _ (by rw [al_size];omega)];exact al_last _ _
 rw [Below.heap_setCell _ _ _ _ (by show w.heap.size+1≠S;omega),←al_size w (.cells op 151)];exact al_last _ _
theorem Dl.move {S M O Rb:Nat} {n bud:Int} {f f' f'':Nat→Option Nat} {m m':Nat→Option (Bool×List Int)} {w V V':World} {op:Array Value} (h:Dl w op S M n bud f f' m O Rb V) (hi:Im S M 1 n bud f'' V') (hp:Pg f'' m' V') (hf:Fr S M f' f'' V V'):Dl w op S M n bud f f'' m' O Rb V':=by
 obtain⟨a1,a2,a3⟩:=h.im.apartT h.pg h.o (by decide) (by decide);obtain⟨b1,b2,b3⟩:=h.im.apartT h.pg h.r (by decide) (by decide);exact⟨hi,hp,h.fr.trans hf,(hf.block O (lt_blk h.o) a1 a2 a3).trans h.o,(hf.block Rb (lt_blk h.r) b1 b2 b3).trans h.r,h.hO,h.hR⟩
def Ims (S M:Nat) (n bud:Int) (f:Nat→Option Nat) (m:Nat→Option (Bool×List Int)) (w w':World):Prop:=∃ f',Im S M 0 n bud f' w'∧Pg f' m w'∧Fr S M f f' w w'
theorem Dl.done {S M O Rb:Nat} {n bud:Int} {f f':Nat→Option Nat} {m:Nat→Option (Bool×List Int)} {w V:World} {op:Array Value} (h:Dl w op S M n bud f f' m O Rb V) (cs:Array Value):(V.setRow Rb cs).cell? ⟨S,0,none⟩=some (.int .i32 1)∧(V.setRow Rb cs).frozen? ⟨S,0,none⟩=false∧((V.setRow Rb cs).setCell ⟨S,0,none⟩ (.int .i32 0)).heap[Rb]?=some (.cells cs 183 (0,0))∧Ims S M n bud f m w ((V.setRow Rb cs).setCell ⟨S,0,none⟩ (.int .i32 0)):=by
 obtain⟨n1,n2,n3⟩:=h.im.apartT h.pg h.r (by decide) (by decide);have i2:=h.im.setRow n1 n2 cs;have g1:=grown_setRow V Rb cs;have p2:Pg f' m (V.setRow Rb cs):=h.pg.other (fun k b hb=>g1.block b (by
  rcases h.pg.at' k with ⟨e1,_⟩|⟨b',l,xs,e1,_,_,e4⟩
  ·rw [hb] at e1;cases e1
  rw [hb] at e1;cases e1;exact lt_blk e4) (fun e=>by cases e;exact n3 k hb))
 have g2:=grown_set (grown_refl (V.setRow Rb cs) S) 0 (.int .i32 0);refine⟨by simp [World.cell?,i2.box],by simp [World.frozen?,i2.box],?_,f',i2.st 0,p2.other (fun k b hb=>Below.heap_setCell _ _ _ _ (p2.apart i2 hb).1),?_⟩
 ·rw [Below.heap_setCell _ _ _ _ n1];exact setRow_at h.r cs
 have hR:=h.hR;exact⟨g2.os.trans (g1.os.trans h.fr.os),g2.tape.trans (g1.tape.trans h.fr.tape),g2.output.trans (g1.output.trans h.fr.output),Nat.le_trans h.fr.size (Nat.le_trans g1.size g2.size),fun g h1 h2 h3 h4=>(g2.block g (Nat.lt_of_lt_of_le h1 (Nat.le_trans h.fr.size g1.size)) (by simpa using h2)).trans ((g1.block g (Nat.lt_of_lt_of_le h1 h.fr.size) (by simp;omega)).trans (h.fr.block g h1 h2 h3 h4)),h.fr.made⟩
theorem run_none (S M:Nat) (nn bud:Int) (f:Nat→Option Nat) (m:Nat→Option (Bool×List Int)) (kd p c:Int) (a:Nat) (n:Int) (d:Option Addr) (dl dc:Nat) (w:World) (h:Im S M 0 nn bud f w) (hp:Pg f m w) (hk:kd < 0∨5 < kd) :
  Calls Tryz.prog 110 #[Vp S 0,opV kd p c a n d dl dc] w fun e w'=>e=.returned (.agg #[Vi 6,Vn])∧Ims S M nn bud f m w w':=by
 have k0:¬kd=0:=by omega
 have k1:¬kd=1:=by omega
 have k2:¬kd=2:=by omega
 have k3:¬kd=3:=by omega
 have k4:¬kd=4:=by omega
 have k5:¬kd=5:=by omega
 have HI:=hid h;have HP:=hid hp;clear h hk hp;unfold opV
 go_enter_defers Tryz.func110,Tryz.ntmps110
 go_wp2_with fail;refine (im_lock ((HI.out.alloc _).alloc _)).mono ?_;rintro e V ⟨rfl,hV⟩;have D0:=hid (Dl.first HI.out HP.out #[Vi kd,Vi p,Vi c,Vu a,Vi n,.slice d dl dc]);rw [←hV] at D0;clear hV HI HP;generalize hRe:w.heap.size+1=Rb at D0 ⊢;generalize w.heap.size=O at D0 ⊢;have cK:V.cell? ⟨O,0,none⟩=some (Vi kd):=by simp [World.cell?,D0.out.o]
 go_wp2_with (refine wpList_store_row rfl 183 _ _ rfl _ _ rfl rfl 183 _ D0.out.r (by kernel_rfl) rfl (by simp [Value.oneCell']) ?_);have E0:=D0.out.done #[Vi 6,Vn];refine leaves_cons (f:=77) (args:=#[Vp S 0]) (by simp) (by simp [go_sem]) ?_;refine (Go.MuLone.unlock_deferred muLib ⟨S,0,none⟩ .returning _ E0.1 E0.2.1).mono ?_;rintro e u' w'' ⟨rfl,rfl,rfl⟩;exact⟨_,results_cell_row (by rfl) _ _ Rb 183 _ (0,0) _ (by rfl) E0.2.2.1 Tryz.underlying183 rfl (by kernel_rfl),rfl,E0.2.2.2⟩
theorem run_commit (S M:Nat) (nn bud:Int) (f:Nat→Option Nat) (m m':Nat→Option (Bool×List Int)) (code:Int) (p c:Int) (a:Nat) (n:Int) (d:Option Addr) (dl dc:Nat) (w:World) (h:Im S M 0 nn bud f w) (hp:Pg f m w)
  (hc:∀ V,Im S M 1 nn bud f V→Pg f m V→Calls Tryz.prog 125 #[Vp S 0,Vi p,Vi c] V fun e w'=>e=.returned (Vi code)∧∃ f',Im S M 1 nn bud f' w'∧Pg f' m' w'∧Fr S M f f' V w') :
  Calls Tryz.prog 110 #[Vp S 0,opV 0 p c a n d dl dc] w fun e w'=>e=.returned (.agg #[Vi code,Vn])∧Ims S M nn bud f m' w w':=by
 have HI:=hid h;have HP:=hid hp;have HC:=hid hc;clear h hp hc;unfold opV
 go_enter_defers Tryz.func110,Tryz.ntmps110
 go_wp2_with fail;refine (im_lock ((HI.out.alloc _).alloc _)).mono ?_;rintro e V ⟨rfl,hV⟩;have D0:=hid (Dl.first HI.out HP.out #[Vi 0,Vi p,Vi c,Vu a,Vi n,.slice d dl dc]);rw [←hV] at D0;clear hV HI HP;generalize hRe:w.heap.size+1=Rb at D0 ⊢;generalize w.heap.size=O at D0 ⊢;have cK:V.cell? ⟨O,0,none⟩=some (Vi 0):=by simp [World.cell?,D0.out.o]
 have cP:V.cell? ⟨O,1,none⟩=some (Vi p):=by simp [World.cell?,D0.out.o]
 have cC:V.cell? ⟨O,2,none⟩=some (Vi c):=by simp [World.cell?,D0.out.o]
 go_wp2_with fail;refine (HC.out V D0.out.im D0.out.pg).mono ?_;rintro e V2 ⟨rfl,f',i2,p2,r2⟩;have D2:=hid (D0.out.move i2 p2 r2);clear i2 p2 r2 D0 HC cK cP cC;go_wp2_with (refine wpList_store_row rfl 183 _ _ rfl _ _ rfl rfl 183 _ D2.out.r (by kernel_rfl) rfl (by simp [Value.oneCell']) ?_);have E0:=D2.out.done #[Vi code,Vn];refine leaves_cons (f:=77) (args:=#[Vp S 0]) (by simp) (by simp [go_sem]) ?_;refine (Go.MuLone.unlock_deferred muLib ⟨S,0,none⟩ .returning _ E0.1 E0.2.1).mono ?_;rintro e u' w'' ⟨rfl,rfl,rfl⟩;exact⟨_,results_cell_row (by rfl) _ _ Rb 183 _ (0,0) _ (by rfl) E0.2.2.1 Tryz.underlying183 rfl (by kernel_rfl),rfl,E0.2.2.2⟩
theorem run_decommit (S M:Nat) (nn bud:Int) (f:Nat→Option Nat) (m m':Nat→Option (Bool×List Int)) (code:Int) (p c:Int) (a:Nat) (n:Int) (d:Option Addr) (dl dc:Nat) (w:World) (h:Im S M 0 nn bud f w) (hp:Pg f m w)
  (hc:∀ V,Im S M 1 nn bud f V→Pg f m V→Calls Tryz.prog 126 #[Vp S 0,Vi p,Vi c] V fun e w'=>e=.returned (Vi code)∧∃ f',Im S M 1 nn bud f' w'∧Pg f' m' w'∧Fr S M f f' V w') :
  Calls Tryz.prog 110 #[Vp S 0,opV 1 p c a n d dl dc] w fun e w'=>e=.returned (.agg #[Vi code,Vn])∧Ims S M nn bud f m' w w':=by
 have HI:=hid h;have HP:=hid hp;have HC:=hid hc;clear h hp hc;unfold opV
 go_enter_defers Tryz.func110,Tryz.ntmps110
 go_wp2_with fail;refine (im_lock ((HI.out.alloc _).alloc _)).mono ?_;rintro e V ⟨rfl,hV⟩;have D0:=hid (Dl.first HI.out HP.out #[Vi 1,Vi p,Vi c,Vu a,Vi n,.slice d dl dc]);rw [←hV] at D0;clear hV HI HP;generalize hRe:w.heap.size+1=Rb at D0 ⊢;generalize w.heap.size=O at D0 ⊢;have cK:V.cell? ⟨O,0,none⟩=some (Vi 1):=by simp [World.cell?,D0.out.o]
 have cP:V.cell? ⟨O,1,none⟩=some (Vi p):=by simp [World.cell?,D0.out.o]
 have cC:V.cell? ⟨O,2,none⟩=some (Vi c):=by simp [World.cell?,D0.out.o]
 go_wp2_with fail;refine (HC.out V D0.out.im D0.out.pg).mono ?_;rintro e V2 ⟨rfl,f',i2,p2,r2⟩;have D2:=hid (D0.out.move i2 p2 r2);clear i2 p2 r2 D0 HC cK cP cC;go_wp2_with (refine wpList_store_row rfl 183 _ _ rfl _ _ rfl rfl 183 _ D2.out.r (by kernel_rfl) rfl (by simp [Value.oneCell']) ?_);have E0:=D2.out.done #[Vi code,Vn];refine leaves_cons (f:=77) (args:=#[Vp S 0]) (by simp) (by simp [go_sem]) ?_;refine (Go.MuLone.unlock_deferred muLib ⟨S,0,none⟩ .returning _ E0.1 E0.2.1).mono ?_;rintro e u' w'' ⟨rfl,rfl,rfl⟩;exact⟨_,results_cell_row (by rfl) _ _ Rb 183 _ (0,0) _ (by rfl) E0.2.2.1 Tryz.underlying183 rfl (by kernel_rfl),rfl,E0.2.2.2⟩
theorem run_lock (S M:Nat) (nn bud:Int) (f:Nat→Option Nat) (m m':Nat→Option (Bool×List Int)) (code:Int) (p c:Int) (a:Nat) (n:Int) (d:Option Addr) (dl dc:Nat) (w:World) (h:Im S M 0 nn bud f w) (hp:Pg f m w)
  (hc:∀ V,Im S M 1 nn bud f V→Pg f m V→Calls Tryz.prog 127 #[Vp S 0,Vi p,Vi c,.bool true] V fun e w'=>e=.returned (Vi code)∧∃ f',Im S M 1 nn bud f' w'∧Pg f' m' w'∧Fr S M f f' V w') :
  Calls Tryz.prog 110 #[Vp S 0,opV 2 p c a n d dl dc] w fun e w'=>e=.returned (.agg #[Vi code,Vn])∧Ims S M nn bud f m' w w':=by
 have HI:=hid h;have HP:=hid hp;have HC:=hid hc;clear h hp hc;unfold opV
 go_enter_defers Tryz.func110,Tryz.ntmps110
 go_wp2_with fail;refine (im_lock ((HI.out.alloc _).alloc _)).mono ?_;rintro e V ⟨rfl,hV⟩;have D0:=hid (Dl.first HI.out HP.out #[Vi 2,Vi p,Vi c,Vu a,Vi n,.slice d dl dc]);rw [←hV] at D0;clear hV HI HP;generalize hRe:w.heap.size+1=Rb at D0 ⊢;generalize w.heap.size=O at D0 ⊢;have cK:V.cell? ⟨O,0,none⟩=some (Vi 2):=by simp [World.cell?,D0.out.o]
 have cP:V.cell? ⟨O,1,none⟩=some (Vi p):=by simp [World.cell?,D0.out.o]
 have cC:V.cell? ⟨O,2,none⟩=some (Vi c):=by simp [World.cell?,D0.out.o]
 go_wp2_with fail;refine (HC.out V D0.out.im D0.out.pg).mono ?_;rintro e V2 ⟨rfl,f',i2,p2,r2⟩;have D2:=hid (D0.out.move i2 p2 r2);clear i2 p2 r2 D0 HC cK cP cC;go_wp2_with (refine wpList_store_row rfl 183 _ _ rfl _ _ rfl rfl 183 _ D2.out.r (by kernel_rfl) rfl (by simp [Value.oneCell']) ?_);have E0:=D2.out.done #[Vi code,Vn];refine leaves_cons (f:=77) (args:=#[Vp S 0]) (by simp) (by simp [go_sem]) ?_;refine (Go.MuLone.unlock_deferred muLib ⟨S,0,none⟩ .returning _ E0.1 E0.2.1).mono ?_;rintro e u' w'' ⟨rfl,rfl,rfl⟩;exact⟨_,results_cell_row (by rfl) _ _ Rb 183 _ (0,0) _ (by rfl) E0.2.2.1 Tryz.underlying183 rfl (by kernel_rfl),rfl,E0.2.2.2⟩
theorem run_unlock (S M:Nat) (nn bud:Int) (f:Nat→Option Nat) (m m':Nat→Option (Bool×List Int)) (code:Int) (p c:Int) (a:Nat) (n:Int) (d:Option Addr) (dl dc:Nat) (w:World) (h:Im S M 0 nn bud f w) (hp:Pg f m w)
  (hc:∀ V,Im S M 1 nn bud f V→Pg f m V→Calls Tryz.prog 127 #[Vp S 0,Vi p,Vi c,.bool false] V fun e w'=>e=.returned (Vi code)∧∃ f',Im S M 1 nn bud f' w'∧Pg f' m' w'∧Fr S M f f' V w') :
  Calls Tryz.prog 110 #[Vp S 0,opV 3 p c a n d dl dc] w fun e w'=>e=.returned (.agg #[Vi code,Vn])∧Ims S M nn bud f m' w w':=by
 have HI:=hid h;have HP:=hid hp;have HC:=hid hc;clear h hp hc;unfold opV
 go_enter_defers Tryz.func110,Tryz.ntmps110
 go_wp2_with fail;refine (im_lock ((HI.out.alloc _).alloc _)).mono ?_;rintro e V ⟨rfl,hV⟩;have D0:=hid (Dl.first HI.out HP.out #[Vi 3,Vi p,Vi c,Vu a,Vi n,.slice d dl dc]);rw [←hV] at D0;clear hV HI HP;generalize hRe:w.heap.size+1=Rb at D0 ⊢;generalize w.heap.size=O at D0 ⊢;have cK:V.cell? ⟨O,0,none⟩=some (Vi 3):=by simp [World.cell?,D0.out.o]
 have cP:V.cell? ⟨O,1,none⟩=some (Vi p):=by simp [World.cell?,D0.out.o]
 have cC:V.cell? ⟨O,2,none⟩=some (Vi c):=by simp [World.cell?,D0.out.o]
 go_wp2_with fail;refine (HC.out V D0.out.im D0.out.pg).mono ?_;rintro e V2 ⟨rfl,f',i2,p2,r2⟩;have D2:=hid (D0.out.move i2 p2 r2);clear i2 p2 r2 D0 HC cK cP cC;go_wp2_with (refine wpList_store_row rfl 183 _ _ rfl _ _ rfl rfl 183 _ D2.out.r (by kernel_rfl) rfl (by simp [Value.oneCell']) ?_);have E0:=D2.out.done #[Vi code,Vn];refine leaves_cons (f:=77) (args:=#[Vp S 0]) (by simp) (by simp [go_sem]) ?_;refine (Go.MuLone.unlock_deferred muLib ⟨S,0,none⟩ .returning _ E0.1 E0.2.1).mono ?_;rintro e u' w'' ⟨rfl,rfl,rfl⟩;exact⟨_,results_cell_row (by rfl) _ _ Rb 183 _ (0,0) _ (by rfl) E0.2.2.1 Tryz.underlying183 rfl (by kernel_rfl),rfl,E0.2.2.2⟩
end Go.Proofs.YtgandbaejlfppaaGreatDoor
