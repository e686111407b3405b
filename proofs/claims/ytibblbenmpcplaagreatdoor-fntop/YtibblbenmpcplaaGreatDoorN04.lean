import Derived.Test.YtibblbenmpcplaaGreatDoorN03
set_option linter.unusedVariables false
set_option linter.unusedSimpArgs false
set_option maxRecDepth 20000
set_option maxHeartbeats 8000000
namespace Go.Proofs.YtibblbenmpcplaaGreatDoor
open Go.Proofs.Tryz
variable {Q:Exit->Act->World->Prop} {W b w w':World} {o:Obj} {T d fuel g i n r:Nat} {bud:Int} {m:Nat->Option (Bool×List Int)} {P:Program} {ops:Array Oper} {a:Act} {S:World->Prop} {l' listed:Array Bool} {oi:Oper} {v:Value} {t':Array Value}
section
open Go.RowKit Go.Shelf
def e_ (Q:Nat) (w:World) (g:Nat):Prop:=∃ k,w.cell? ⟨Q,k*3+2,none⟩=some (.slice (some ⟨g,0,none⟩) 1024 1024)
structure Sf (Q:Nat) (w w':World):Prop where
  os:w'.os=w.os
  tape:w'.tape=w.tape
  output:w'.output=w.output
  size:w.heap.size<=w'.heap.size
  block:∀ g,g<w.heap.size->g≠Q->¬e_ Q w g->w'.heap[g]?=w.heap[g]?
  pg:∀ g,e_ Q w' g->e_ Q w g\/w.heap.size<=g
theorem Sf.refl (Q w):Sf Q w w:=⟨rfl,rfl,rfl,Fv _,λ_ _ _ _=>rfl,λ_ h=>.inl h⟩
theorem Sf.trans {Q a b c} (h:Sf Q a b) (k:Sf Q b c):Sf Q a c :=
  ⟨k.os.trans h.os,k.tape.trans h.tape,k.output.trans h.output,Fx h.size k.size,
   λg e d f=>(k.block g (FG e h.size) d (λi=>by
     rcases h.pg g i with i|i
     · exact f i
     · omega)).trans (h.block g e d f),
   λg e=>by
     rcases k.pg g e with d|d
     · exact h.pg g d
     · exact .inr (Fx h.size d)⟩
theorem Sf.ofBelow {Q:Nat} (h:D w w') (b:Q<w.heap.size):Sf Q w w' :=
 ⟨h.os,h.tape,h.output,h.size,λg c _ _=>h.block g c,λg ⟨k,a⟩=>.inl ⟨k,by
  unfold World.cell? at a ⊢
  rw [h.block Q b] at a
  exact a⟩⟩
theorem Sf.below {Q B:Nat} (h:Sf Q w w') (b:B<=w.heap.size) (c:B<=Q) (a:∀ g,e_ Q w g->B<=g):Below B w w' :=
 ⟨h.os,h.tape,h.output,h.size,λg d=>h.block g Z Z (λb=>by have:=a g b;omega)⟩
theorem ag {R:Nat} (h:W.heap[R]?=some o):R<W.heap.size:=by
 by_cases a:R<W.heap.size;·exact a
 ·have:W.heap[R]?=none:=Hd Z;rw [this] at h;cases h
theorem Sx.below {Q W'} (h:Sx T Q n bud m W) (d:D W W'):Sx T Q n bud m W':=by
 obtain⟨c,e,j,o,a⟩:=h.row;refine⟨by rw [d.block _ (ag h.box)];exact h.box,⟨c,by rw [d.block _ (ag e)];exact e,j,λk p=>?_,a⟩,h.out⟩;have b:=o k p;cases f:m k with
 | none=>rw [f] at b;exact b
 | some q =>
  obtain⟨l,v⟩:=q;rw [f] at b;obtain⟨r,s,t,g,u,i⟩:=b;exact⟨r,s,t,g,u,by rw [d.block _ (ag i)];exact i⟩
theorem Sx.drew {T Q n bud m W} (h:Sx T Q n bud m W):Sx T Q n bud m W.drew:=h.below (Fu _ _).drew
theorem Sx.ltQ {Q} (h:Sx T Q n bud m W):Q<W.heap.size:=by
 obtain⟨c,a,_⟩:=h.row;exact ag a
theorem fO {o:Oper} {K:Act->World->Prop} (b:ops[i]?=some o) (c:Region.wanted o (yielded ops a.tmps)=true)
  (h:∀ K':Act->World->Prop,Hid (∀ a w,K a w->K' a w)->o.wp P a w K' Q):wpOp P ops Q i K a w:=by
 unfold wpOp;simp only [b,c,IM];exact .inl (h K λ_ _ h=>h)
theorem ez {md:Region.Mode} (b:Region.ready md ops listed=[r])
  (h:wpOp P ops Q r (λc w'=>S w'/\wpAnyH P md ops Q S fuel (listed.setIfInBounds r true) c w') a w):wpAnyH P md ops Q S (fuel+1) listed a w :=
 wpAnyH_all b bH (λi b=>by
  obtain rfl:i=r:=by simpa using b
  exact h)
theorem aG {md:Region.Mode} (b:ops[i]?=some oi) (f:oi.dst=some d)
  (g:Region.noSelect ops=true) (j:Region.free md ops listed i=true) (k:(Region.ready md ops listed).contains i=true)
  (l:∀ c a w,Q (.panic c) (a.put oi.dst v) w->Q (.panic c) a w) (c:YieldsIf P ops S oi v a) (m:S w)
  (h:wpAnyH P md ops Q S fuel (listed.setIfInBounds i true) { a with tmps:=a.tmps.setIfInBounds d v } w):wpAnyH P md ops Q S (fuel+1) listed a w :=
 wpAnyH_take b g j k l c m (by
  have e:a.put oi.dst v={ a with tmps:=a.tmps.setIfInBounds d v }:=by rw [f];rfl
  rw [e];exact h)
theorem ao (w:World) (o:Obj):(w.alloc o).heap[w.heap.size]?=some o:=(Hq w o).1
theorem eg (w:World) (o:Obj) (k:Nat) (h:k<w.heap.size):(w.alloc o).heap[k]?=w.heap[k]?:=(Hq w o).2 k h
theorem aO (w:World) (o:Obj):(w.alloc o).heap.size=w.heap.size+1:=by
 have e:(w.alloc o).heap=w.heap.push o:=rfl;rw [e,Array.size_push]
theorem Sx.pglt {Q} (h:Sx T Q n bud m W) {j:Nat} (e:j<n) (f:W.cell? ⟨Q,j*3+2,none⟩=some (.slice (some ⟨g,0,none⟩) 1024 1024)):g<W.heap.size:=by
 obtain⟨c,i,r,k,_⟩:=h.row;have b:=k j e;have a:c[j*3+2]?=some (.slice (some ⟨g,0,none⟩) 1024 1024):=by simpa [World.cell?,i] using f
 cases d:m j with
 | none=>rw [d] at b;rw [b.2.2] at a;simp at a
 | some q =>
  obtain⟨l,s⟩:=q;rw [d] at b;obtain⟨_,_,_,t,o,p⟩:=b;rw [o] at a;simp at a;subst a;exact ag p
theorem mR (N:Nat):madeCells #[Value.int .u8 0] N=(Ns .u8 (List.replicate N 0)).toArray:=by
 apply Array.ext';simp [Ii,Ns]
theorem Sx.fresh {Q} (h:Sx T Q n bud m W) (k:Nat) (z:k<n) {d:Array Value} (r:d=(Ns .u8 (List.replicate 1024 0)).toArray) :
  Sx T Q n bud (dT m k (some (false,List.replicate 1024 0))) ((((W.alloc (.cells d 5)).setCell ⟨Q,k*3,none⟩ (.bool true)).setCell ⟨Q,k*3+1,none⟩ (.bool true)).setCell ⟨Q,k*3+2,none⟩ (.slice (some ⟨W.heap.size,0,none⟩) 1024 1024)).drew /\
  Sf Q W ((((W.alloc (.cells d 5)).setCell ⟨Q,k*3,none⟩ (.bool true)).setCell ⟨Q,k*3+1,none⟩ (.bool true)).setCell ⟨Q,k*3+2,none⟩ (.slice (some ⟨W.heap.size,0,none⟩) 1024 1024)).drew:=by
 have p:D W (W.alloc (.cells d 5)):=(Fu _ _).alloc (Fv _) _;have v:=h.below p;have A:=ao W (.cells d 5);have B:=h.ltQ;generalize W.alloc (.cells d 5)=f at *;have w:∀ i,f.cell? ⟨Q,i,none⟩=W.cell? ⟨Q,i,none⟩:=λi=>by unfold World.cell?;rw [p.block Q B]
 refine⟨(v.set3 k z (some (false,List.replicate 1024 0)) (.bool true) (.bool true) (.slice (some ⟨W.heap.size,0,none⟩) 1024 1024) (λg j s l x e=>?_) (λc q a b o F=>⟨a,b,Gc,W.heap.size,o,?_⟩)).drew,?_⟩
 ·rw [w] at x;have a:=h.pglt s x;simp only [Value.slice.injEq,Hk,Addr.mk.injEq,and_true] at e;omega
 ·rw [F W.heap.size Z,A,r]
 ·have t:∀ g,g≠Q->(((f.setCell ⟨Q,k*3,none⟩ (.bool true)).setCell ⟨Q,k*3+1,none⟩ (.bool true)).setCell ⟨Q,k*3+2,none⟩ (.slice (some ⟨W.heap.size,0,none⟩) 1024 1024)).heap[g]?=f.heap[g]?:=by
   intro g o;rw [GQ _ _ _ _ o,GQ _ _ _ _ o,GQ _ _ _ _ o]
  have a:Below 0 W (((f.setCell ⟨Q,k*3,none⟩ (.bool true)).setCell ⟨Q,k*3+1,none⟩ (.bool true)).setCell ⟨Q,k*3+2,none⟩ (.slice (some ⟨W.heap.size,0,none⟩) 1024 1024)) :=
   (((p.mono (FH _)).setCell (FH _) _).setCell (FH _) _).setCell (FH _) _
  obtain⟨c,y,_⟩:=v.row;have G:=bj (bj (bj y (i:=k*3) (.bool true)) (i:=k*3+1) (.bool true)) (i:=k*3+2) (.slice (some ⟨W.heap.size,0,none⟩) 1024 1024);generalize ((f.setCell ⟨Q,k*3,none⟩ (.bool true)).setCell ⟨Q,k*3+1,none⟩ (.bool true)).setCell ⟨Q,k*3+2,none⟩ (.slice (some ⟨W.heap.size,0,none⟩) 1024 1024)=K at *;refine⟨a.drew.os,a.drew.tape,a.drew.output,a.drew.size,λg o l _=>(t g l).trans (p.block g o),?_⟩;rintro g ⟨j,s⟩;have b:K.cell? ⟨Q,j*3+2,none⟩=some (.slice (some ⟨g,0,none⟩) 1024 1024):=s;simp only [World.cell?,G] at b;by_cases u:j=k
  ·subst u;right;rw [FK] at b;simp at b;omega
  ·left;refine⟨j,?_⟩;rw [<-w];have q:(((c.setIfInBounds (k*3) (.bool true)).setIfInBounds (k*3+1) (.bool true)).setIfInBounds (k*3+2) (.slice (some ⟨W.heap.size,0,none⟩) 1024 1024))[j*3+2]?=c[j*3+2]?:=by
    rw [FK,GO Z,FK,GO Z,FK,GO Z]
   rw [q] at b;simp only [World.cell?,y];exact b
theorem iK (T Q n bud m) (first a:Nat) (w) (h:Sx T Q n bud m w) (z:n<=4096) (P:first+a<=n) (R:(bz m n:Int)+a<=bud) :
  Calls prog 148 #[.pointer (some ⟨T,0,none⟩),.int .i64 first,.int .i64 a] w λe w'=>e=.returned (.bool true)/\Sx T Q n bud (aT m first a) w'/\Sf Q w w':=by
 have j:=H (λW (b:Sx T Q n bud m W)=>gj T Q n bud m W b z);have A:=lh m n;have k:=H (show Sx T Q n bud m w.drew/\D w w.drew from ⟨h.drew,(Fu _ _).drew⟩);have f:Hid (∀ c,(Sx T Q n bud m c/\D w c)->c.cell? ⟨T,1,none⟩=some (.int .i64 bud)/\Hid (Sx T Q n bud m c/\D w c)):=λc h=>⟨h.1.c.2,h⟩
 have B:=h.ltQ;clear h;generalize bz m n=p at *;have l:IntKind.i64.wrap ((p:Int)+(a:Int))=(p:Int)+(a:Int):=by rw [Hh];omega
 have o:decide (bud<(p:Int)+(a:Int))=false:=GR Z;go_enter func148,ntmps148;go_wp2;refine wp_region_held (S:=λc=>c.cell? ⟨T,1,none⟩=some (.int .i64 bud)/\Hid (Sx T Q n bud m c/\D w c)) E ?_;simp only [FX,FN,F1,Nat.reduceAdd,FP,FO,FY,FV,F5];have b:=f.out _ k.out;refine aG (i:=0) (d:=8) (v:=.pointer (some ⟨T,0,none⟩)) rfl E E E E (λ_ _ _ h=>h) (Or.inl ⟨E,λ_ _=>E⟩) b ?_;simp only [Fw,FA,FB];refine aG (i:=2) (d:=10) (v:=.int .i64 (a:Int)) rfl E E E E (λ_ _ _ h=>h) (Or.inl ⟨E,λ_ _=>E⟩) b ?_;simp only [Fw,FA,FB];refine aG (i:=4) (d:=12) (v:=.pointer (some ⟨T,0,none⟩)) rfl E E E E (λ_ _ _ h=>h) (Or.inl ⟨E,λ_ _=>E⟩) b ?_;simp only [Fw,FA,FB];refine aG (i:=5) (d:=13) (v:=.pointer (some ⟨T,0,none⟩)) rfl E E E E (λ_ _ _ h=>h) (Or.inl ⟨E,λ_ _=>E⟩) b ?_;simp only [Fw,FA,FB];refine aG (i:=6) (d:=14) (v:=.pointer (some ⟨T,1,none⟩)) rfl E E E E (λ_ _ _ h=>h) (Or.inl ⟨E,λ_ _=>E⟩) b ?_;simp only [Fw,FA,FB];refine aG (i:=7) (d:=15) (v:=.int .i64 bud) rfl E E E E (λ_ _ _ h=>h) (Or.inl ⟨E,λW b=>by obtain ⟨q,_⟩:=b;go_simp⟩) b ?_;simp only [Fw,FA,FB];refine ez (r:=1) E ?_;refine fO rfl E (λK' g=>?_);go_simp;refine (j.out _ b.2.out.1).mono ?_;rintro e V ⟨rfl,u⟩;have q:=f.out _ ⟨b.2.out.1.below u,az b.2.out.2 u⟩;refine g.out _ _ ⟨q,?_⟩;clear b;have b:=q;clear g K';refine aG (i:=3) (d:=11) (v:=.int .i64 ((p:Int)+(a:Int))) rfl E E E E (λ_ _ _ h=>h) (Or.inl ⟨E,λW _=>by first|(go_simp;done)|(go_simp;omega)⟩) b ?_;simp only [Fw,FA,FB];refine aG (i:=8) (d:=16) (v:=.bool false) rfl E E E E (λ_ _ _ h=>h) (Or.inl ⟨E,λW _=>by first|(go_simp;done)|(go_simp;omega)⟩) b ?_;simp only [Fw,FA,FB];refine wpAnyH_done E ?_ _;clear l o j f k;have F:=H b.2.out.1;have G:=H (Sf.ofBelow b.2.out.2 B);clear b;have j:∀ w,(Instr.makeSlice 22 (.int .i64 1024) (.int .i64 1024)).run prog w=.ok (.slice (some ⟨w.heap.size,0,none⟩) 1024 1024) (w.alloc (.cells (madeCells #[Value.int .u8 0] 1024) 5)):=λw=>run_make_row' 22 5 (.int .u8 0) 1 underlying22 Tryz.info5By rfl .i64 .i64 1024 Z Z w
 have K:=H j;clear j;go_wp2;go_loopw [7] (λi wr=>∃ k:Nat,k<=a/\i=.int .i64 ((first:Int)+(k:Int))/\Hid (Sx T Q n bud (aT m first k) wr/\Sf Q w wr)) (λi _=>first+a-(intOf i).toNat);case atStart=>exact ⟨0,FH _,aY,F.out,G.out⟩
 case round =>
  obtain⟨k,X,rfl,o⟩:=hrel;by_cases L:k<a
  ·have s:=H (o.1.fresh (first+k) Z (mR 1024));have M:wr.cell? ⟨T,0,none⟩=some (.slice (some ⟨Q,0,none⟩) n n):=o.1.c.1;have f:D wr (wr.alloc (.cells (madeCells #[Value.int .u8 0] 1024) 5)):=(Fu _ _).alloc (Fv _) _;have x:=(o.1.below f).c.1;have N:=s.1.c.1;obtain⟨Y,pp,l,cc,d1,d2,d3,_⟩:=(o.1.below f).three (first+k) Z;obtain⟨c9,y,O,_⟩:=(o.1.below f).row;have f1:∀ i,(wr.alloc (.cells (madeCells #[Value.int .u8 0] 1024) 5)).frozen? ⟨Q,i,none⟩=false:=λi=>by simp [World.frozen?,y]
   have f2:=f1 ((first+k)*3);have f3:=f1 ((first+k)*3+1);have f4:=f1 ((first+k)*3+2);have j:∀ w,(Instr.makeSlice 22 (.int .i64 1024) (.int .i64 1024)).run prog w=.ok (.slice (some ⟨w.heap.size,0,none⟩) 1024 1024) (w.alloc (.cells (madeCells #[Value.int .u8 0] 1024) 5)):=K.out;have t:=H o.2;have tn:((first:Int)+(k:Int)).toNat=first+k:=Z
   have tl:(first:Int)+(k:Int)<(n:Int):=Z;clear f1 y O f;generalize madeCells #[Value.int .u8 0] 1024=f at *;go_wp2;refine wp_region_held (S:=λc=>c.cell? ⟨T,0,none⟩=some (.slice (some ⟨Q,0,none⟩) n n)) E ?_;simp only [FX,FN,F1,Nat.reduceAdd,FP,FO,FY,FV,F5];have b:=M;refine aG (i:=0) (d:=25) (v:=.pointer (some ⟨T,0,none⟩)) rfl E E E E (λ_ _ _ h=>h) (Or.inl ⟨E,λ_ _=>E⟩) b ?_;simp only [Fw,FA,FB];refine aG (i:=1) (d:=26) (v:=.pointer (some ⟨T,0,none⟩)) rfl E E E E (λ_ _ _ h=>h) (Or.inl ⟨E,λ_ _=>E⟩) b ?_;simp only [Fw,FA,FB];refine aG (i:=2) (d:=27) (v:=.pointer (some ⟨T,0,none⟩)) rfl E E E E (λ_ _ _ h=>h) (Or.inl ⟨E,λ_ _=>E⟩) b ?_;simp only [Fw,FA,FB];refine aG (i:=3) (d:=28) (v:=.slice (some ⟨Q,0,none⟩) n n) rfl E E E E (λ_ _ _ h=>h) (Or.inl ⟨E,λW b=>by obtain q:=b;go_simp⟩) b ?_;simp only [Fw,FA,FB];refine aG (i:=4) (d:=29) (v:=.int .i64 ((first:Int)+(k:Int))) rfl E E E E (λ_ _ _ h=>h) (Or.inl ⟨E,λ_ _=>E⟩) b ?_;simp only [Fw,FA,FB];refine ez (r:=5) E ?_;refine fO rfl E (λK' g=>?_);go_simp;refine g.out _ _ ⟨x,?_⟩;clear b;have b:=x;clear g K';refine aG (i:=6) (d:=31) (v:=.agg #[.bool true,.bool true,.slice (some ⟨wr.heap.size,0,none⟩) 1024 1024]) rfl E E E E (λ_ _ _ h=>h) (Or.inl ⟨E,λ_ _=>E⟩) b ?_;simp only [Fw,FA,FB];refine aG (i:=7) (d:=32) (v:=.pointer (some ⟨Q,(first+k)*3,none⟩)) rfl E E E E (λ_ _ _ h=>h) (Or.inl ⟨E,λW _=>by first|(go_simp;done)|(go_simp;omega)⟩) b ?_;simp only [Fw,FA,FB];refine ez (r:=8) E ?_;refine fO rfl E (λK' g=>?_);go_simp;refine g.out _ _ ⟨N,?_⟩;clear b;clear g K';refine wpAnyH_done E ?_ _;go_wp2;go_roundw;(case rel=>exact ⟨k+1,Z,aY,s.1,t.trans s.2⟩);case measure=>simp [intOf];omega
  ·have f:k=a:=Z;subst f;go_wp2;go_ret;exact⟨rfl,o.out⟩
theorem jm (T Q n bud m) (first a:Nat) (w) (h:Sx T Q n bud m w) (q:n<=4096) (x:first+a<=n) (y:bud<(bz m n:Int)+a) :
  Calls prog 148 #[.pointer (some ⟨T,0,none⟩),.int .i64 first,.int .i64 a] w λe w'=>e=.returned (.bool false)/\D w w':=by
 have k:=H (λW (b:Sx T Q n bud m W)=>gj T Q n bud m W b q);have s:=lh m n;have l:=H (show Sx T Q n bud m w.drew/\D w w.drew from ⟨h.drew,(Fu _ _).drew⟩);have g:Hid (∀ c,(Sx T Q n bud m c/\D w c)->c.cell? ⟨T,1,none⟩=some (.int .i64 bud)/\Hid (Sx T Q n bud m c/\D w c)):=λc h=>⟨h.1.c.2,h⟩
 clear h;generalize bz m n=f at *;have t:IntKind.i64.wrap ((f:Int)+(a:Int))=(f:Int)+(a:Int):=by rw [Hh];omega
 have u:decide (bud<(f:Int)+(a:Int))=true:=G8 Z;go_enter func148,ntmps148;go_wp2;refine wp_region_held (S:=λc=>c.cell? ⟨T,1,none⟩=some (.int .i64 bud)/\Hid (Sx T Q n bud m c/\D w c)) E ?_;simp only [FX,FN,F1,Nat.reduceAdd,FP,FO,FY,FV,F5];have b:=g.out _ l.out;refine aG (i:=0) (d:=8) (v:=.pointer (some ⟨T,0,none⟩)) rfl E E E E (λ_ _ _ h=>h) (Or.inl ⟨E,λ_ _=>E⟩) b ?_;simp only [Fw,FA,FB];refine aG (i:=2) (d:=10) (v:=.int .i64 (a:Int)) rfl E E E E (λ_ _ _ h=>h) (Or.inl ⟨E,λ_ _=>E⟩) b ?_;simp only [Fw,FA,FB];refine aG (i:=4) (d:=12) (v:=.pointer (some ⟨T,0,none⟩)) rfl E E E E (λ_ _ _ h=>h) (Or.inl ⟨E,λ_ _=>E⟩) b ?_;simp only [Fw,FA,FB];refine aG (i:=5) (d:=13) (v:=.pointer (some ⟨T,0,none⟩)) rfl E E E E (λ_ _ _ h=>h) (Or.inl ⟨E,λ_ _=>E⟩) b ?_;simp only [Fw,FA,FB];refine aG (i:=6) (d:=14) (v:=.pointer (some ⟨T,1,none⟩)) rfl E E E E (λ_ _ _ h=>h) (Or.inl ⟨E,λ_ _=>E⟩) b ?_;simp only [Fw,FA,FB];refine aG (i:=7) (d:=15) (v:=.int .i64 bud) rfl E E E E (λ_ _ _ h=>h) (Or.inl ⟨E,λW b=>by obtain ⟨j,_⟩:=b;go_simp⟩) b ?_;simp only [Fw,FA,FB];refine ez (r:=1) E ?_;refine fO rfl E (λK' o=>?_);go_simp;refine (k.out _ b.2.out.1).mono ?_;rintro e z ⟨rfl,p⟩;have j:=g.out _ ⟨b.2.out.1.below p,az b.2.out.2 p⟩;refine o.out _ _ ⟨j,?_⟩;clear b;have b:=j;clear o K';refine aG (i:=3) (d:=11) (v:=.int .i64 ((f:Int)+(a:Int))) rfl E E E E (λ_ _ _ h=>h) (Or.inl ⟨E,λW _=>by first|(go_simp;done)|(go_simp;omega)⟩) b ?_;simp only [Fw,FA,FB];refine aG (i:=8) (d:=16) (v:=.bool true) rfl E E E E (λ_ _ _ h=>h) (Or.inl ⟨E,λW _=>by first|(go_simp;done)|(go_simp;omega)⟩) b ?_;simp only [Fw,FA,FB];refine wpAnyH_done E ?_ _;clear t u k g l;have g:=H b.2.out.2;clear b;go_wp2;go_ret;exact⟨rfl,g.out⟩
end
section
open Go.RowKit Go.Maps
theorem lz {α : Type} {l : List α} {a : α} : l.toArray.setIfInBounds i a=(l.set i a).toArray := Fw ..
theorem l0 {α : Type} {a b : α} {l : List α} : (a :: l).set 0 b=b :: l := rfl
theorem ls {α : Type} {a b : α} {l : List α} : (a :: l).set (n+1) b=a :: l.set n b := rfl
theorem rh {id : Nat} {n' : Nat} (h : wpAnyH P .any ops Q S n' l' a { w with drawn := w.drawn+1 }) (hm : P.follows .mixedOrders=true := by kernel_rfl) (en : ops.size=n' := by simp only [FX,FN,F1,Nat.reduceAdd]; rfl) (el : Array.replicate ops.size false=l' := by simp only [FX,FN,F1,Nat.reduceAdd,FP,FO,FY,FV,F5]; rfl) : (Code.region id ops true).wp P Q a w := by subst en el; exact wp_region_held hm h
theorem bY {P:Program} {md:Region.Mode} {ops:Array Oper} {Q:Exit->Act->World->Prop} {S:World->Prop} {n:Nat} {l:Array Bool} {a:Act} {w:World} (h:Q .normal a w) (b:Region.ready md ops l=[]:=by kernel_rfl):wpAnyH P md ops Q S n l a w:=wpAnyH_done b h _
theorem cw {P:Program} {ops:Array Oper} {r:Nat} {o:Oper} {a:Act} {w:World} {G:Act->World->Prop} {Q:Exit->Act->World->Prop} (h:∀ K':Act->World->Prop,Hid (∀ b w',G b w'->K' b w')->o.wp P a w K' Q) (b:ops[r]?=some o:=by rfl) (c:Region.wanted o (yielded ops a.tmps)=true:=by kernel_rfl):wpOp P ops Q r G a w:=fO b c h
theorem gu {P:Program} {md:Region.Mode} {ops:Array Oper} {Q:Exit->Act->World->Prop} {S:World->Prop} {n:Nat} {l:Array Bool} {a:Act} {w:World} (r:Nat) (h:wpOp P ops Q r (λb w'=>S w'/\wpAnyH P md ops Q S n (l.setIfInBounds r true) b w') a w) (b:Region.ready md ops l=[r]:=by kernel_rfl):wpAnyH P md ops Q S (n+1) l a w:=ez b h
theorem lZ {P:Program} {md:Region.Mode} {ops:Array Oper} {Q:Exit->Act->World->Prop} {S:World->Prop} {n:Nat} {l:Array Bool} {a:Act} {w:World} (rs:List Nat) (h:∀ i,i∈rs->wpOp P ops Q i (λb w'=>S w'/\wpAnyH P md ops Q S n (l.setIfInBounds i true) b w') a w) (b:Region.ready md ops l=rs:=by kernel_rfl) (c:rs≠[]:=by simp):wpAnyH P md ops Q S (n+1) l a w:=wpAnyH_all b c h
theorem pk {md : Region.Mode} (i : Nat) {d : Nat} (v : Value) (hS : S w) (h : wpAnyH P md ops Q S fuel l' { a with tmps := t' } w) (hi : ops[i]? = some oi := by rfl) (hd : oi.dst=some d := by rfl) (hs : Region.noSelect ops=true := by kernel_rfl) (hf : Region.free md ops listed i=true := by kernel_rfl) (hr : (Region.ready md ops listed).contains i=true := by kernel_rfl) (hQ : ∀ c a w, Q (.panic c) (a.put oi.dst v) w->Q (.panic c) a w := by exact λ_ _ _ h => h) (h1 : Region.wanted oi (yielded ops a.tmps)=true := by kernel_rfl) (h2 : ∀ W, S W->(execOp a.eval oi).run P W=.ok (.value v) W := by exact λ_ _ => by kernel_rfl) (el : listed.setIfInBounds i true=l' := by first | (simp only [lz, l0, ls]; rfl) | rfl) (et : a.tmps.setIfInBounds d v=t' := by first | (simp only [lz, l0, ls]; rfl) | rfl) : wpAnyH P md ops Q S (fuel+1) listed a w := by subst el et; exact aG hi hd hs hf hr hQ (.inl ⟨h1, h2⟩) hS h
theorem ps {md : Region.Mode} (i : Nat) {d : Nat} (hS : S w) (h : wpAnyH P md ops Q S fuel l' { a with tmps := t' } w) (hi : ops[i]? = some oi := by rfl) (hd : oi.dst=some d := by rfl) (hs : Region.noSelect ops=true := by kernel_rfl) (hf : Region.free md ops listed i=true := by kernel_rfl) (hr : (Region.ready md ops listed).contains i=true := by kernel_rfl) (hQ : ∀ c a w, Q (.panic c) (a.put oi.dst undef) w->Q (.panic c) a w := by exact λ_ _ _ h => h) (h1 : Region.wanted oi (yielded ops a.tmps)=false := by kernel_rfl) (el : listed.setIfInBounds i true=l' := by first | (simp only [lz, l0, ls]; rfl) | rfl) (et : a.tmps.setIfInBounds d undef=t' := by first | (simp only [lz, l0, ls]; rfl) | rfl) : wpAnyH P md ops Q S (fuel+1) listed a w := by subst el et; exact aG hi hd hs hf hr hQ (.inr ⟨h1, rfl⟩) hS h
theorem pz {md : Region.Mode} (i : Nat) {d : Nat} (v : Value) (hS : S w) (h : wpAnyH P md ops Q S fuel l' { a with tmps := t' } w) (hi : ops[i]? = some oi := by rfl) (hd : oi.dst=some d := by rfl) (hs : Region.noSelect ops=true := by kernel_rfl) (hf : Region.free md ops listed i=true := by kernel_rfl) (hr : (Region.ready md ops listed).contains i=true := by kernel_rfl) (hQ : ∀ c a w, Q (.panic c) (a.put oi.dst v) w->Q (.panic c) a w := by exact λ_ _ _ h => h) (h1 : Region.wanted oi (yielded ops a.tmps)=true := by kernel_rfl) (h2 : ∀ W, S W->(execOp a.eval oi).run P W=.ok (.value v) W := by intro _ h; (repeat obtain ⟨_, h⟩ := h); first | (go_simp; done) | (go_simp; omega)) (el : listed.setIfInBounds i true=l' := by first | (simp only [lz, l0, ls]; rfl) | rfl) (et : a.tmps.setIfInBounds d v=t' := by first | (simp only [lz, l0, ls]; rfl) | rfl) : wpAnyH P md ops Q S (fuel+1) listed a w := by subst el et; exact aG hi hd hs hf hr hQ (.inl ⟨h1, h2⟩) hS h
theorem pf {md : Region.Mode} (i : Nat) {d : Nat} (v : Value) (hi : ops[i]? = some oi) (hS : S w) (h2 : ∀ W, S W->(execOp a.eval oi).run P W=.ok (.value v) W) (h : wpAnyH P md ops Q S fuel l' { a with tmps := t' } w) (hd : oi.dst=some d := by rfl) (hs : Region.noSelect ops=true := by kernel_rfl) (hf : Region.free md ops listed i=true := by kernel_rfl) (hr : (Region.ready md ops listed).contains i=true := by kernel_rfl) (hQ : ∀ c a w, Q (.panic c) (a.put oi.dst v) w->Q (.panic c) a w := by exact λ_ _ _ h => h) (h1 : Region.wanted oi (yielded ops a.tmps)=true := by kernel_rfl) (el : listed.setIfInBounds i true=l' := by first | (simp only [lz, l0, ls]; rfl) | rfl) (et : a.tmps.setIfInBounds d v=t' := by first | (simp only [lz, l0, ls]; rfl) | rfl) : wpAnyH P md ops Q S (fuel+1) listed a w := by subst el et; exact aG hi hd hs hf hr hQ (.inl ⟨h1, h2⟩) hS h
def fF (l : Array Bool) : Nat := l.toList.findIdx (λb => !b)
theorem f0 {l : List Bool} : fF (false :: l).toArray=0 := rfl
theorem f1 {l : List Bool} : fF (true :: l).toArray=fF l.toArray+1 := by simp [fF, List.findIdx_cons]
theorem py {md : Region.Mode} (hS : S w) (h : wpAnyH P md ops Q S fuel (listed.setIfInBounds (fF listed) true) { a with tmps := a.tmps.setIfInBounds d v } w) (hi : ops[fF listed]? = some oi := by simp only [f0, f1, Nat.reduceAdd, List.getElem?_toArray, List.getElem?_cons_succ, List.getElem?_cons_zero]; rfl) (hd : oi.dst=some d := by rfl) (h2 : YieldsIf P ops S oi v a := by first | exact .inr ⟨rfl, rfl⟩ | exact .inl ⟨by kernel_rfl, λ_ _ => rfl⟩ | (refine .inl ⟨by kernel_rfl, ?_⟩; intro _ h; (repeat obtain ⟨_, h⟩ := h); go_simp; (try rfl); done)) (hs : Region.noSelect ops=true := by kernel_rfl) (hf : Region.free md ops listed (fF listed)=true := by kernel_rfl) (hr : (Region.ready md ops listed).contains (fF listed)=true := by kernel_rfl) (hQ : ∀ c a w, Q (.panic c) (a.put oi.dst v) w->Q (.panic c) a w := by exact λ_ _ _ h => h) : wpAnyH P md ops Q S (fuel+1) listed a w := aG hi hd hs hf hr hQ h2 hS h
theorem po {md : Region.Mode} (r : Nat) {o : Oper} (h : ∀ K' : Act->World->Prop, Hid (∀ a' w', (S w'/\wpAnyH P md ops Q S fuel (listed.setIfInBounds r true) a' w')->K' a' w')->o.wp P a w K' Q) (hi : ops[r]? = some o := by rfl) (hr : Region.ready md ops listed=[r] := by kernel_rfl) (hw : Region.wanted o (yielded ops a.tmps)=true := by kernel_rfl) : wpAnyH P md ops Q S (fuel+1) listed a w := ez hr (fO hi hw h)
end
section
open Go.ChangeShapes Go.WideShapes Go.ChangeAt Go.RowKit
theorem dM {o:Oper} {K:Act->World->Prop} (b:ops[i]?=some o) (c:Region.wanted o (yielded ops a.tmps)=true)
  (h:∀ K':Act->World->Prop,Hid (∀ a w,K a w->K' a w)->o.wp P a w K' Q):wpOp P ops Q i K a w:=by
 unfold wpOp;simp only [b,c,IM];exact .inl (h K λ_ _ h=>h)
theorem cn {md:Region.Mode} (b:Region.ready md ops listed=[r])
  (h:wpOp P ops Q r (λc w'=>S w'/\wpAnyH P md ops Q S fuel (listed.setIfInBounds r true) c w') a w):wpAnyH P md ops Q S (fuel+1) listed a w :=
 wpAnyH_all b bH (λi b=>by
  obtain rfl:i=r:=by simpa using b
  exact h)
theorem bo {md:Region.Mode} (b:ops[i]?=some oi) (f:oi.dst=some d)
  (g:Region.noSelect ops=true) (j:Region.free md ops listed i=true) (k:(Region.ready md ops listed).contains i=true)
  (l:∀ c a w,Q (.panic c) (a.put oi.dst v) w->Q (.panic c) a w) (c:YieldsIf P ops S oi v a) (m:S w)
  (h:wpAnyH P md ops Q S fuel (listed.setIfInBounds i true) { a with tmps:=a.tmps.setIfInBounds d v } w):wpAnyH P md ops Q S (fuel+1) listed a w :=
 wpAnyH_take b g j k l c m (by
  have e:a.put oi.dst v={ a with tmps:=a.tmps.setIfInBounds d v }:=by rw [f];rfl
  rw [e];exact h)
theorem dO {R:Nat} (h:W.heap[R]?=some o):R<W.heap.size:=by
 by_cases a:R<W.heap.size;·exact a
 have:W.heap[R]?=none:=Hd Z;rw [this] at h;cases h
structure But (S:Nat->Prop) (w w':World):Prop where
 os:w'.os=w.os
 tape:w'.tape=w.tape
 output:w'.output=w.output
 size:w.heap.size<=w'.heap.size
 block:∀ k,k<w.heap.size->¬S k->w'.heap[k]?=w.heap[k]?
theorem But.refl (S w):But S w w:=⟨rfl,rfl,rfl,Fv _,λ_ _ _=>rfl⟩
theorem But.trans {S a b c} (h:But S a b) (k:But S b c):But S a c :=
 ⟨k.os.trans h.os,k.tape.trans h.tape,k.output.trans h.output,Fx h.size k.size,λg d e=>(k.block g (FG d h.size) e).trans (h.block g d e)⟩
theorem But.mono {S} {c:Nat->Prop} {a} (h:But S a b) (k:∀ g,S g->c g):But c a b :=
 ⟨h.os,h.tape,h.output,h.size,λg d e=>h.block g d λf=>e (k g f)⟩
theorem But.ofGrown {S:Nat->Prop} {a:World} (h:a.grownBy b (some g)) (k:S g):But S a b :=
 ⟨h.os,h.tape,h.output,h.size,λj d e=>h.block j d λc=>by
  simp at c;subst c;exact e k⟩
theorem But.ofBelow {S a} (h:D a b):But S a b:=⟨h.os,h.tape,h.output,h.size,λj c _=>h.block j c⟩
theorem But.below {S a} {B:Nat} (h:But S a b) (d:B<=a.heap.size) (k:∀ g,S g->B<=g):Below B a b :=
 ⟨h.os,h.tape,h.output,h.size,λj e=>h.block j Z λc=>by have:=k j c;omega⟩
theorem But.drew {S a b} (h:But S a b):But S a b.drew:=⟨h.os,h.tape,h.output,h.size,h.block⟩
theorem But.set {S a} (h:But S a b) (g i:Nat) (v:Value) (k:S g):But S a (b.setCell ⟨g,i,none⟩ v) :=
 h.trans (.ofGrown (au (al b g) i v) k)
theorem eK {a:World} {k:Nat} (h:a.grownBy b (some g)) (d:a.heap[k]?=some o) (c:k≠g):b.heap[k]?=some o:=by
 rw [h.block k (dO d) (by simpa using c)];exact d
theorem RowV.ne {e} {t:TypeId} {xs} {c:Array Value} {f:Nat×Nat} (h:RowV w r e xs) (k:w.heap[g]?=some (.cells c t f)) (a:e≠t):g≠r:=by
 obtain⟨d,b,_⟩:=h;rintro rfl;rw [b] at k;simp at k;exact a k.2.1
theorem RowV.but {S e xs} (h:RowV w r e xs) (b:But S w w') (d:¬S r):RowV w' r e xs:=by
 obtain⟨c,a,f⟩:=h;exact⟨c,by rw [b.block r (dO a) d];exact a,f⟩
theorem But.at {S} (a:But S w w') (h:w.heap[g]?=some o) (b:¬S g):w'.heap[g]?=some o:=by
 rw [a.block g (dO h) b];exact h
def cu (n:Nat) (xs:List Int) (x:Int):List Int×Int:=if xs.length<n then (xs++[x],-1) else (xs.tail++[x],xs[0]?.getD 0)
def Qu (w:World) (G r n:Nat) (xs:List Int):Prop :=
 ∃ (ps:List Int) (o h:Nat),w.heap[G]?=some (.cells #[Vl r n n,I o,I h] 151)/\RowV w r 3 (Ns .i64 ps)/\ps.length=n/\o<n/\h<=n/\(h<n->o=0)/\xs=(ps.drop o++ps.take o).take h
theorem Qu.but {S w w' G r n xs} (h:Qu w G r n xs) (d:But S w w') (e:¬S G) (f:¬S r):Qu w' G r n xs:=by
 obtain⟨ps,o,h,a,b,c⟩:=h;exact⟨ps,o,h,d.at a e,b.but d f,c⟩
theorem Qu.len {G xs} (h:Qu w G r n xs):xs.length<=n:=by
 obtain⟨ps,o,h,a,b,c,d,e,f,rfl⟩:=h;simp;omega
theorem tm (G r n h:Nat) (ps:List Int) (x d:Int) (w:World) (a:w.heap[G]?=some (.cells #[Vl r n n,I (0:Nat),I h] 151)) (c:RowV w r 3 (Ns .i64 ps)) (g:ps.length=n) (f:h<n) (p:n<=1024) :
 Calls prog 257 #[J G 0,I x,I d] w λe w'=>e=.returned (I (-1))/\w'.heap[G]?=some (.cells #[Vl r n n,I (0:Nat),I (h+1:Nat)] 151)/\RowV w' r 3 (Ns .i64 (ps.set h x))/\But (λk=>k=G\/k=r) w w':=by
 have b:G≠r:=c.ne a ar;have q:w.cell? ⟨G,0,none⟩=some (Vl r n n):=bJ a;have s:w.cell? ⟨G,1,none⟩=some (I (0:Nat)):=bJ a;have t:w.cell? ⟨G,2,none⟩=some (I h):=bJ a;have i:(h:Int)<(n:Int):=Z;have u:=H (lu G r n n 0 h h ps x w.drew.drew (by rw [Gb,H4 f]) g Z Z Z Z q s c);have j:=H a;clear a c g;go_enter func257,ntmps257;go_wp2;go_region;go_wp2;refine rh (S:=λW=>W.cell? ⟨G,2,none⟩=some (I h)/\Hid (W.heap[G]?=some (.cells #[Vl r n n,I (0:Nat),I h] 151))) ?_;have g:=(show _/\Hid _ from ⟨t,j⟩);iterate 9 (refine py g ?_;simp only [f0,f1,Nat.reduceAdd,lz,l0,ls])
 refine cn (r:=9) E ?_;refine dM rfl E (λK' l=>?_);go_simp;refine (u).mono ?_;rintro e m ⟨rfl,o,c⟩;have a:=H (eK (k:=G) c j b);refine l _ _ ⟨⟨bJ a.out,a⟩,?_⟩;have v:=H o;have y:=H c;clear g o c;clear l K';refine bY ?_;have c:m.cell? ⟨G,2,none⟩=some (I h):=bJ a.out;have g:m.frozen? ⟨G,2,none⟩=false:=GY _ _ _ _ _ a.out;go_wp2;go_ret;refine⟨rfl,?_,?_,?_⟩;·rw [Ic _ _ _ _ _ _ a.out];rfl
 ·exact v.other (by simpa using b.symm) _
 exact ((But.refl _ w).drew.drew.trans (.ofGrown y (.inr rfl))).set _ _ _ (.inl rfl)
end
end Go.Proofs.YtibblbenmpcplaaGreatDoor
