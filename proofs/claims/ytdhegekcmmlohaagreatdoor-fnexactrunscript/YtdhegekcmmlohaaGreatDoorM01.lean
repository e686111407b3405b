import Derived.Deep.CutBlock
import Derived.Deep.DeepCutAuto
import Derived.Test.YtdhegekcmmlohaaGreatDoorM00
set_option linter.unusedVariables false
set_option linter.unusedSimpArgs false
set_option maxRecDepth 20000
set_option maxHeartbeats 8000000
namespace Go.Proofs.YtdhegekcmmlohaaGreatDoor
open Go.Proofs.Tryz Go.RowKit Go.Maps Go.Shelf Go.ChangeShapes Go.WideShapes Go.ChangeAt
section
variable {Q:Exit->Act->World->Prop}{W b w w':World}{o:Obj}{T d fuel g i n r:Nat}{bud:Int}{m:Nat->Option (Bool×List Int)}{P:Program}{ops:Array Oper}{a:Act}{S:World->Prop}{l' listed:Array Bool}{oi:Oper}{v:Value}{t':Array Value}
def e_(Q:Nat)(w:World)(g:Nat):Prop:=∃k,w.cell? ⟨Q,k*3+2,none⟩=some (.slice (some ⟨g,0,none⟩) 1024 1024)
structure Sf(Q:Nat)(w w':QM):Prop where
  os:w'.os=w.os
  tape:w'.tape=w.tape
  output:w'.output=w.output
  size:w.heap.size<=w'.heap.size
  block:∀g,g<w.heap.size->g≠Q->¬e_ Q w g->w'.heap[g]?=w.heap[g]?
  pg:∀g,e_ Q w' g->e_ Q w g\/w.heap.size<=g
theorem Sf.refl(Q w):Sf Q w w:=⟨rfl,rfl,rfl,Fv _,λ_ _ _ _=>rfl,λ_ h=>.inl h⟩
theorem Sf.trans{Q a b c}(h:Sf Q a b)(k:Sf Q b c):Sf Q a c:=
  ⟨k.os.trans h.os,k.tape.trans h.tape,k.output.trans h.output,Fx h.size k.size,
   λg e d f=>(k.block g (FG e h.size) d (λi=>by
     rcases h.pg g i with i|i
     · exact f i
     · omega)).trans (h.block g e d f),
   λg e=>by
     rcases k.pg g e with d|d
     · exact h.pg g d
     · exact .inr (Fx h.size d)⟩
theorem Sf.ofBelow{Q:Nat}(h:D w w')(b:Q<w.heap.size):Sf Q w w':=
 ⟨h.os,h.tape,h.output,h.size,λg c _ _=>h.block g c,λg⟨k,a⟩=>.inl ⟨k,by
  unfold World.cell? at a⊢
  rw[h.block Q b]at a
  exact a⟩⟩
theorem Sf.below{Q B:Nat}(h:Sf Q w w')(b:B<=w.heap.size)(c:B<=Q)(a:∀g,e_ Q w g->B<=g):Below B w w':=
 ⟨h.os,h.tape,h.output,h.size,λg d=>h.block g Z Z (λb=>by have:=a g b;omega)⟩
theorem ag{R:Nat}(h:W.heap[R]?=some o):R<W.heap.size:=by
 by_cases a:R<W.heap.size;·exact a
 ·have:W.heap[R]?=none:=Hd Z;rw[this]at h;cases h
theorem Sx.below{Q W'}(h:Sx T Q n bud m W)(d:D W W'):Sx T Q n bud m W':=by
 have⟨c,e,j,o,a⟩:=h.row;refine⟨by rw[d.block _ (ag h.box)];exact h.box,⟨c,by rw[d.block _ (ag e)];exact e,j,λk p=>?_,a⟩,h.out⟩;have b:=o k p;cases f:m k with
 |none=>rw[f]at b;exact b
 |some q=>
  have⟨l,v⟩:=q;rw[f]at b;have⟨r,s,t,g,u,i⟩:=b;exact⟨r,s,t,g,u,by rw[d.block _ (ag i)];exact i⟩
theorem Sx.drew{T Q n bud m W}(h:Sx T Q n bud m W):Sx T Q n bud m W.drew:=h.below (Fu _ _).drew
theorem Sx.ltQ{Q}(h:Sx T Q n bud m W):Q<W.heap.size:=by
 have⟨c,a,_⟩:=h.row;exact ag a
theorem fO{o:Oper}{K:Act->QM->Prop}(b:ops[i]?=some o)(c:Region.wanted o (yielded ops a.tmps)=true)
  (h:∀K':Act->QM->Prop,Hid (∀a w,K a w->K' a w)->o.wp P a w K' Q):wpOp P ops Q i K a w:=by
 unfold wpOp;simp only[b,c,IM];exact .inl (h K λ_ _ h=>h)
theorem ez{md:Region.Mode}(b:Region.ready md ops listed=[r])
  (h:wpOp P ops Q r (λc w'=>S w'/\wpAnyH P md ops Q S fuel (listed.setIfInBounds r true) c w') a w):wpAnyH P md ops Q S (fuel+1) listed a w:=
 wpAnyH_all b bH (λi b=>by
  obtain rfl:i=r:=by simpa using b
  exact h)
theorem aG{md:Region.Mode}(b:ops[i]?=some oi)(f:oi.dst=some d)
  (g:Region.noSelect ops=true) (j:Region.free md ops listed i=true) (k:(Region.ready md ops listed).contains i=true)
  (l:∀c a w,Q (.panic c) (a.put oi.dst v) w->Q (.panic c) a w) (c:YieldsIf P ops S oi v a) (m:S w)
  (h:wpAnyH P md ops Q S fuel (listed.setIfInBounds i true) {a with tmps:=a.tmps.setIfInBounds d v} w):wpAnyH P md ops Q S (fuel+1) listed a w:=
 wpAnyH_take b g j k l c m (by
  have e:a.put oi.dst v={a with tmps:=a.tmps.setIfInBounds d v}:=by rw[f];rfl
  rw[e];exact h)
theorem ao(w:QM)(o:Obj):(w.alloc o).heap[w.heap.size]?=some o:=(Hq w o).1
theorem eg(w:QM)(o:Obj)(k:Nat)(h:k<w.heap.size):(w.alloc o).heap[k]?=w.heap[k]?:=(Hq w o).2 k h
theorem aO(w:QM)(o:Obj):(w.alloc o).heap.size=w.heap.size+1:=by
 have e:(w.alloc o).heap=w.heap.push o:=rfl;rw[e,Array.size_push]
theorem Sx.pglt{Q}(h:Sx T Q n bud m W){j:Nat}(d:j<n)(e:W.cell? (Qz Q (j*3+2))=some (.slice (some (Qz g 0)) 1024 1024)):g<W.heap.size:=by
 have⟨c,f,p,i,_⟩:=h.row;have a:=i j d;have e0:c[j*3+2]?=some (.slice (some (Qz g 0)) 1024 1024):=by simpa[QC,f]using e
 cases b:m j with
 |none=>rw[b]at a;rw[a.2.2]at e0;simp at e0
 |some q=>
  have⟨l,r⟩:=q;rw[b]at a;have⟨_,_,_,s,k,o⟩:=a;rw[k]at e0;simp at e0;subst e0;exact ag o
theorem mR(N:Nat):madeCells #[Value.int .u8 0] N=(Ns .u8 (List.replicate N 0)).toArray:=by
 apply Array.ext';simp[Ii,Ns]
theorem Sx.fresh{Q}(h:Sx T Q n bud m W)(k:Nat)(z:k<n){d:Array QN}(r:d=(Ns .u8 (List.replicate 1024 0)).toArray):
  Sx T Q n bud (dT m k (some (false,List.replicate 1024 0))) ((((W.alloc (.cells d 5)).setCell (Qz Q (k*3)) (.bool true)).setCell (Qz Q (k*3+1)) (.bool true)).setCell (Qz Q (k*3+2)) (.slice (some (Qz W.heap.size 0)) 1024 1024)).drew /\
  Sf Q W ((((W.alloc (.cells d 5)).setCell (Qz Q (k*3)) (.bool true)).setCell (Qz Q (k*3+1)) (.bool true)).setCell (Qz Q (k*3+2)) (.slice (some (Qz W.heap.size 0)) 1024 1024)).drew:=by
 have p:D W (W.alloc (.cells d 5)):=(Fu _ _).alloc (Fv _) _;have v:=h.below p;have A:=ao W (.cells d 5);have B:=h.ltQ;generalize W.alloc (.cells d 5)=f at*;have w:∀i,f.cell? (Qz Q i)=W.cell? (Qz Q i):=λi=>by unfold World.cell?;rw[p.block Q B]
 refine⟨(v.set3 k z (some (false,List.replicate 1024 0)) (.bool true) (.bool true) (.slice (some (Qz W.heap.size 0)) 1024 1024) (λg j s l x e=>?_) (λc q a b o F=>⟨a,b,Gc,W.heap.size,o,?_⟩)).drew,?_⟩
 ·rw[w]at x;have a:=h.pglt s x;simp only[Value.slice.injEq,Hk,Addr.mk.injEq,and_true]at e;omega
 ·rw[F W.heap.size Z,A,r]
 ·have t:∀g,g≠Q->(((f.setCell (Qz Q (k*3)) (.bool true)).setCell (Qz Q (k*3+1)) (.bool true)).setCell (Qz Q (k*3+2)) (.slice (some (Qz W.heap.size 0)) 1024 1024)).heap[g]?=f.heap[g]?:=by
   intro g o;rw[GQ _ _ _ _ o,GQ _ _ _ _ o,GQ _ _ _ _ o]
  have a:Below 0 W (((f.setCell (Qz Q (k*3)) (.bool true)).setCell (Qz Q (k*3+1)) (.bool true)).setCell (Qz Q (k*3+2)) (.slice (some (Qz W.heap.size 0)) 1024 1024)):=
   (((p.mono (FH _)).setCell (FH _) _).setCell (FH _) _).setCell (FH _) _
  have⟨c,y,_⟩:=v.row;have G:=bj (bj (bj y (i:=k*3) (.bool true)) (i:=k*3+1) (.bool true)) (i:=k*3+2) (.slice (some (Qz W.heap.size 0)) 1024 1024);generalize ((f.setCell (Qz Q (k*3)) (.bool true)).setCell (Qz Q (k*3+1)) (.bool true)).setCell (Qz Q (k*3+2)) (.slice (some (Qz W.heap.size 0)) 1024 1024)=K at*;refine⟨a.drew.os,a.drew.tape,a.drew.output,a.drew.size,λg o l _=>(t g l).trans (p.block g o),?_⟩;rintro g⟨j,s⟩;have b:K.cell? (Qz Q (j*3+2))=some (.slice (some (Qz g 0)) 1024 1024):=s;simp only[QC,G]at b;by_cases u:j=k
  ·subst u;right;rw[FK]at b;simp at b;omega
  ·left;refine⟨j,?_⟩;rw[<-w];have q:(((c.setIfInBounds (k*3) (.bool true)).setIfInBounds (k*3+1) (.bool true)).setIfInBounds (k*3+2) (.slice (some (Qz W.heap.size 0)) 1024 1024))[j*3+2]?=c[j*3+2]?:=by
    rw[FK,GO Z,FK,GO Z,FK,GO Z]
   rw[q]at b;simp only[QC,y];exact b
theorem iK(T Q n bud m)(first a:Nat)(w)(h:Sx T Q n bud m w)(z:n<=4096)(P:first+a<=n)(R:(bz m n:Int)+a<=bud):
  QA 127 #[J T 0,I first,I a] w λe w'=>e=QJ Ql/\Sx T Q n bud (aT m first a) w'/\Sf Q w w':=by
 have j:=H (λW(b:Sx T Q n bud m W)=>gj T Q n bud m W b z);have A:=lh m n;have k:=H (show Sx T Q n bud m w.drew/\D w w.drew from⟨h.drew,(Fu _ _).drew⟩);have f:Hid (∀c,(Sx T Q n bud m c/\D w c)->QG c T 1 (I bud)/\Hid (Sx T Q n bud m c/\D w c)):=λc h=>⟨h.1.c.2,h⟩
 have B:=h.ltQ;clear h;generalize bz m n=p at*;have l:IntKind.i64.wrap ((p:Int)+(a:Int))=(p:Int)+(a:Int):=by rw[Hh];omega
 have o:decide (bud<(p:Int)+(a:Int))=false:=GR Z;go_enter func127,ntmps127;go_wp2;refine wp_region_held (S:=λc=>QG c T 1 (I bud)/\Hid (Sx T Q n bud m c/\D w c)) E ?_;simp only[FX,FN,F1,Nat.reduceAdd,FP,FO,FY,FV,F5];have b:=f.out _ k;refine aG (i:=0) (d:=8) (v:=J T 0) rfl E E E E (λ_ _ _ h=>h) (Or.inl ⟨E,λ_ _=>E⟩) b ?_;simp only[Fw,FA,FB];refine aG (i:=2) (d:=10) (v:=I (a:Int)) rfl E E E E (λ_ _ _ h=>h) (Or.inl ⟨E,λ_ _=>E⟩) b ?_;simp only[Fw,FA,FB];refine aG (i:=4) (d:=12) (v:=J T 0) rfl E E E E (λ_ _ _ h=>h) (Or.inl ⟨E,λ_ _=>E⟩) b ?_;simp only[Fw,FA,FB];refine aG (i:=5) (d:=13) (v:=J T 0) rfl E E E E (λ_ _ _ h=>h) (Or.inl ⟨E,λ_ _=>E⟩) b ?_;simp only[Fw,FA,FB];refine aG (i:=6) (d:=14) (v:=J T 1) rfl E E E E (λ_ _ _ h=>h) (Or.inl ⟨E,λ_ _=>E⟩) b ?_;simp only[Fw,FA,FB];refine aG (i:=7) (d:=15) (v:=I bud) rfl E E E E (λ_ _ _ h=>h) (Or.inl ⟨E,λW b=>by obtain⟨q,_⟩:=b;go_simp⟩) b ?_;simp only[Fw,FA,FB];refine ez (r:=1) E ?_;refine fO rfl E (λK' g=>?_);go_simp;refine(j _ b.2.out.1).mono ?_;rintro e V⟨rfl,u⟩;have q:=f.out _ ⟨b.2.out.1.below u,az b.2.out.2 u⟩;refine g _ _ ⟨q,?_⟩;clear b;have b:=q;clear g K';refine aG (i:=3) (d:=11) (v:=I ((p:Int)+(a:Int))) rfl E E E E (λ_ _ _ h=>h) (Or.inl ⟨E,λW _=>by first|(go_simp;done)|(go_simp;omega)⟩) b ?_;simp only[Fw,FA,FB];refine aG (i:=8) (d:=16) (v:=.bool false) rfl E E E E (λ_ _ _ h=>h) (Or.inl ⟨E,λW _=>by first|(go_simp;done)|(go_simp;omega)⟩) b ?_;simp only[Fw,FA,FB];refine wpAnyH_done E ?_ _;clear l o f;have⟨F,G⟩:=y7 b.2.out.1 (Sf.ofBelow b.2.out.2 B);clear b;have j:∀w,(Instr.makeSlice 22 (I 1024) (I 1024)).run prog w=.ok (.slice (some (Qz w.heap.size 0)) 1024 1024) (w.alloc (.cells (madeCells #[Value.int .u8 0] 1024) 5)):=λw=>run_make_row' 22 5 (.int .u8 0) 1 underlying22 Tryz.info5By rfl .i64 .i64 1024 Z Z w
 have K:=H j;clear j;go_wp2;go_loopw [7] (λi wr=>∃k:Nat,k<=a/\i=I ((first:Int)+(k:Int))/\Hid (Sx T Q n bud (aT m first k) wr/\Sf Q w wr)) (λi _=>first+a-(intOf i).toNat);case atStart=>exact⟨0,FH _,aY,F,G⟩
 case round=>
  obtain⟨k,X,rfl,o⟩:=hrel;by_cases L:k<a
  ·have s:=H (o.1.fresh (first+k) Z (mR 1024));have M:wr.cell? (Qz T 0)=some (.slice (some (Qz Q 0)) n n):=o.1.c.1;have f:D wr (wr.alloc (.cells (madeCells #[Value.int .u8 0] 1024) 5)):=(Fu _ _).alloc (Fv _) _;have x:=(o.1.below f).c.1;have N:=s.1.c.1;have⟨Y,pp,l,cc,d1,d2,d3,_⟩:=(o.1.below f).three (first+k) Z;have⟨c9,y,O,_⟩:=(o.1.below f).row;have f1:∀i,(wr.alloc (.cells (madeCells #[Value.int .u8 0] 1024) 5)).frozen? (Qz Q i)=false:=λi=>by simp[QD,y]
   have f2:=f1 ((first+k)*3);have f3:=f1 ((first+k)*3+1);have f4:=f1 ((first+k)*3+2);have j:∀w,(Instr.makeSlice 22 (I 1024) (I 1024)).run prog w=.ok (.slice (some (Qz w.heap.size 0)) 1024 1024) (w.alloc (.cells (madeCells #[Value.int .u8 0] 1024) 5)):=K.out;have t:=H o.2;have tn:((first:Int)+(k:Int)).toNat=first+k:=Z
   have tl:(first:Int)+(k:Int)<(n:Int):=Z;clear f1 y O f;generalize madeCells #[Value.int .u8 0] 1024=f at*;go_wp2;refine wp_region_held (S:=λc=>QG c T 0 (.slice (some (Qz Q 0)) n n)) E ?_;simp only[FX,FN,F1,Nat.reduceAdd,FP,FO,FY,FV,F5];have b:=M;refine aG (i:=0) (d:=25) (v:=J T 0) rfl E E E E (λ_ _ _ h=>h) (Or.inl ⟨E,λ_ _=>E⟩) b ?_;simp only[Fw,FA,FB];refine aG (i:=1) (d:=26) (v:=J T 0) rfl E E E E (λ_ _ _ h=>h) (Or.inl ⟨E,λ_ _=>E⟩) b ?_;simp only[Fw,FA,FB];refine aG (i:=2) (d:=27) (v:=J T 0) rfl E E E E (λ_ _ _ h=>h) (Or.inl ⟨E,λ_ _=>E⟩) b ?_;simp only[Fw,FA,FB];refine aG (i:=3) (d:=28) (v:=.slice (some (Qz Q 0)) n n) rfl E E E E (λ_ _ _ h=>h) (Or.inl ⟨E,λW b=>by obtain q:=b;go_simp⟩) b ?_;simp only[Fw,FA,FB];refine aG (i:=4) (d:=29) (v:=I ((first:Int)+(k:Int))) rfl E E E E (λ_ _ _ h=>h) (Or.inl ⟨E,λ_ _=>E⟩) b ?_;simp only[Fw,FA,FB];refine ez (r:=5) E ?_;refine fO rfl E (λK' g=>?_);go_simp;refine g _ _ ⟨x,?_⟩;clear b;have b:=x;clear g K';refine aG (i:=6) (d:=31) (v:=.agg #[.bool true,.bool true,.slice (some (Qz wr.heap.size 0)) 1024 1024]) rfl E E E E (λ_ _ _ h=>h) (Or.inl ⟨E,λ_ _=>E⟩) b ?_;simp only[Fw,FA,FB];refine aG (i:=7) (d:=32) (v:=.pointer (some ⟨Q,(first+k)*3,none⟩)) rfl E E E E (λ_ _ _ h=>h) (Or.inl ⟨E,λW _=>by first|(go_simp;done)|(go_simp;omega)⟩) b ?_;simp only[Fw,FA,FB];refine ez (r:=8) E ?_;refine fO rfl E (λK' g=>?_);go_simp;refine g _ _ ⟨N,?_⟩;clear b;clear g K';refine wpAnyH_done E ?_ _;go_wp2;go_roundw;(case rel=>exact⟨k+1,Z,aY,s.1,t.trans s.2⟩);case measure=>exact QE
  ·have f:k=a:=Z;subst f;go_wp2;go_ret;exact⟨rfl,o⟩
theorem jm(T Q n bud m)(first a:Nat)(w)(h:Sx T Q n bud m w)(q:n<=4096)(x:first+a<=n)(y:bud<(bz m n:Int)+a):
  QA 127 #[J T 0,I first,I a] w λe w'=>e=QJ Qk/\D w w':=by
 have k:=H (λW(b:Sx T Q n bud m W)=>gj T Q n bud m W b q);have s:=lh m n;have l:=H (show Sx T Q n bud m w.drew/\D w w.drew from⟨h.drew,(Fu _ _).drew⟩);have g:Hid (∀c,(Sx T Q n bud m c/\D w c)->QG c T 1 (I bud)/\Hid (Sx T Q n bud m c/\D w c)):=λc h=>⟨h.1.c.2,h⟩
 generalize bz m n=f at*;have t:IntKind.i64.wrap ((f:Int)+(a:Int))=(f:Int)+(a:Int):=by rw[Hh];omega
 have u:decide (bud<(f:Int)+(a:Int))=true:=G8 Z;go_enter func127,ntmps127;go_wp2;refine wp_region_held (S:=λc=>QG c T 1 (I bud)/\Hid (Sx T Q n bud m c/\D w c)) E ?_;simp only[FX,FN,F1,Nat.reduceAdd,FP,FO,FY,FV,F5];have b:=g.out _ l;refine aG (i:=0) (d:=8) (v:=J T 0) rfl E E E E (λ_ _ _ h=>h) (Or.inl ⟨E,λ_ _=>E⟩) b ?_;simp only[Fw,FA,FB];refine aG (i:=2) (d:=10) (v:=I (a:Int)) rfl E E E E (λ_ _ _ h=>h) (Or.inl ⟨E,λ_ _=>E⟩) b ?_;simp only[Fw,FA,FB];refine aG (i:=4) (d:=12) (v:=J T 0) rfl E E E E (λ_ _ _ h=>h) (Or.inl ⟨E,λ_ _=>E⟩) b ?_;simp only[Fw,FA,FB];refine aG (i:=5) (d:=13) (v:=J T 0) rfl E E E E (λ_ _ _ h=>h) (Or.inl ⟨E,λ_ _=>E⟩) b ?_;simp only[Fw,FA,FB];refine aG (i:=6) (d:=14) (v:=J T 1) rfl E E E E (λ_ _ _ h=>h) (Or.inl ⟨E,λ_ _=>E⟩) b ?_;simp only[Fw,FA,FB];refine aG (i:=7) (d:=15) (v:=I bud) rfl E E E E (λ_ _ _ h=>h) (Or.inl ⟨E,λW b=>by obtain⟨j,_⟩:=b;go_simp⟩) b ?_;simp only[Fw,FA,FB];refine ez (r:=1) E ?_;refine fO rfl E (λK' o=>?_);go_simp;refine(k _ b.2.out.1).mono ?_;rintro e z⟨rfl,p⟩;have j:=g.out _ ⟨b.2.out.1.below p,az b.2.out.2 p⟩;refine o _ _ ⟨j,?_⟩;have b:=j;refine aG (i:=3) (d:=11) (v:=I ((f:Int)+(a:Int))) rfl E E E E (λ_ _ _ h=>h) (Or.inl ⟨E,λW _=>by first|(go_simp;done)|(go_simp;omega)⟩) b ?_;simp only[Fw,FA,FB];refine aG (i:=8) (d:=16) (v:=.bool true) rfl E E E E (λ_ _ _ h=>h) (Or.inl ⟨E,λW _=>by first|(go_simp;done)|(go_simp;omega)⟩) b ?_;simp only[Fw,FA,FB];refine wpAnyH_done E ?_ _;have g:=H b.2.out.2;go_wp2;go_ret;exact⟨rfl,g⟩
theorem lz{α:Type}{l:List α}{a:α}:l.toArray.setIfInBounds i a=(l.set i a).toArray:=Fw ..
theorem l0{α:Type}{a b:α}{l:List α}: (a::l).set 0 b=b::l:=rfl
theorem ls{α:Type}{a b:α}{l:List α}: (a::l).set (n+1) b=a::l.set n b:=rfl
theorem rh{id:Nat}{n':Nat}(h:wpAnyH P .any ops Q S n' l' a {w with drawn:=w.drawn+1})(hm:P.follows .mixedOrders=true:=by kernel_rfl)(en:ops.size=n':=by simp only[FX,FN,F1,Nat.reduceAdd];rfl)(el:Array.replicate ops.size false=l':=by simp only[FX,FN,F1,Nat.reduceAdd,FP,FO,FY,FV,F5];rfl): (Code.region id ops true).wp P Q a w:=by subst en el;exact wp_region_held hm h
theorem bY{P:Program}{md:Region.Mode}{ops:Array Oper}{Q:Exit->Act->QM->Prop}{S:QM->Prop}{n:Nat}{l:Array Bool}{a:Act}{w:QM}(h:Q .normal a w)(b:Region.ready md ops l=[]:=by kernel_rfl):wpAnyH P md ops Q S n l a w:=wpAnyH_done b h _
theorem cw{P:Program}{ops:Array Oper}{r:Nat}{o:Oper}{a:Act}{w:QM}{G:Act->QM->Prop}{Q:Exit->Act->QM->Prop}(h:∀K':Act->QM->Prop,Hid (∀b w',G b w'->K' b w')->o.wp P a w K' Q)(b:ops[r]?=some o:=by rfl)(c:Region.wanted o (yielded ops a.tmps)=true:=by kernel_rfl):wpOp P ops Q r G a w:=fO b c h
theorem gu{P:Program}{md:Region.Mode}{ops:Array Oper}{Q:Exit->Act->QM->Prop}{S:QM->Prop}{n:Nat}{l:Array Bool}{a:Act}{w:QM}(r:Nat)(h:wpOp P ops Q r (λb w'=>S w'/\wpAnyH P md ops Q S n (l.setIfInBounds r true) b w') a w)(b:Region.ready md ops l=[r]:=by kernel_rfl):wpAnyH P md ops Q S (n+1) l a w:=ez b h
theorem lZ{P:Program}{md:Region.Mode}{ops:Array Oper}{Q:Exit->Act->QM->Prop}{S:QM->Prop}{n:Nat}{l:Array Bool}{a:Act}{w:QM}(rs:List Nat)(h:∀i,i∈rs->wpOp P ops Q i (λb w'=>S w'/\wpAnyH P md ops Q S n (l.setIfInBounds i true) b w') a w)(b:Region.ready md ops l=rs:=by kernel_rfl)(c:rs≠[]:=by simp):wpAnyH P md ops Q S (n+1) l a w:=wpAnyH_all b c h
theorem pk{md:Region.Mode}(i:Nat){d:Nat}(v:QN)(hS:S w)(h:wpAnyH P md ops Q S fuel l' {a with tmps:=t'} w)(hi:ops[i]? =some oi:=by rfl)(hd:oi.dst=some d:=by rfl)(hs:Region.noSelect ops=true:=by kernel_rfl)(hf:Region.free md ops listed i=true:=by kernel_rfl)(hr: (Region.ready md ops listed).contains i=true:=by kernel_rfl)(hQ: ∀c a w,Q (.panic c) (a.put oi.dst v) w->Q (.panic c) a w:=by exact λ_ _ _ h=>h)(h1:Region.wanted oi (yielded ops a.tmps)=true:=by kernel_rfl)(h2: ∀W,S W->(execOp a.eval oi).run P W=.ok (.value v) W:=by exact λ_ _=>by kernel_rfl)(el:listed.setIfInBounds i true=l':=by first |(simp only[lz,l0,ls];rfl) |rfl)(et:a.tmps.setIfInBounds d v=t':=by first |(simp only[lz,l0,ls];rfl) |rfl):wpAnyH P md ops Q S (fuel+1) listed a w:=by subst el et;exact aG hi hd hs hf hr hQ (.inl ⟨h1,h2⟩) hS h
theorem ps{md:Region.Mode}(i:Nat){d:Nat}(hS:S w)(h:wpAnyH P md ops Q S fuel l' {a with tmps:=t'} w)(hi:ops[i]? =some oi:=by rfl)(hd:oi.dst=some d:=by rfl)(hs:Region.noSelect ops=true:=by kernel_rfl)(hf:Region.free md ops listed i=true:=by kernel_rfl)(hr: (Region.ready md ops listed).contains i=true:=by kernel_rfl)(hQ: ∀c a w,Q (.panic c) (a.put oi.dst undef) w->Q (.panic c) a w:=by exact λ_ _ _ h=>h)(h1:Region.wanted oi (yielded ops a.tmps)=false:=by kernel_rfl)(el:listed.setIfInBounds i true=l':=by first |(simp only[lz,l0,ls];rfl) |rfl)(et:a.tmps.setIfInBounds d undef=t':=by first |(simp only[lz,l0,ls];rfl) |rfl):wpAnyH P md ops Q S (fuel+1) listed a w:=by subst el et;exact aG hi hd hs hf hr hQ (.inr ⟨h1,rfl⟩) hS h
theorem pz{md:Region.Mode}(i:Nat){d:Nat}(v:QN)(hS:S w)(h:wpAnyH P md ops Q S fuel l' {a with tmps:=t'} w)(hi:ops[i]? =some oi:=by rfl)(hd:oi.dst=some d:=by rfl)(hs:Region.noSelect ops=true:=by kernel_rfl)(hf:Region.free md ops listed i=true:=by kernel_rfl)(hr: (Region.ready md ops listed).contains i=true:=by kernel_rfl)(hQ: ∀c a w,Q (.panic c) (a.put oi.dst v) w->Q (.panic c) a w:=by exact λ_ _ _ h=>h)(h1:Region.wanted oi (yielded ops a.tmps)=true:=by kernel_rfl)(h2: ∀W,S W->(execOp a.eval oi).run P W=.ok (.value v) W:=by intro _ h;(repeat obtain⟨_,h⟩:=h);first |(go_simp;done) |(go_simp;omega))(el:listed.setIfInBounds i true=l':=by first |(simp only[lz,l0,ls];rfl) |rfl)(et:a.tmps.setIfInBounds d v=t':=by first |(simp only[lz,l0,ls];rfl) |rfl):wpAnyH P md ops Q S (fuel+1) listed a w:=by subst el et;exact aG hi hd hs hf hr hQ (.inl ⟨h1,h2⟩) hS h
theorem pf{md:Region.Mode}(i:Nat){d:Nat}(v:QN)(hi:ops[i]? =some oi)(hS:S w)(h2: ∀W,S W->(execOp a.eval oi).run P W=.ok (.value v) W)(h:wpAnyH P md ops Q S fuel l' {a with tmps:=t'} w)(hd:oi.dst=some d:=by rfl)(hs:Region.noSelect ops=true:=by kernel_rfl)(hf:Region.free md ops listed i=true:=by kernel_rfl)(hr: (Region.ready md ops listed).contains i=true:=by kernel_rfl)(hQ: ∀c a w,Q (.panic c) (a.put oi.dst v) w->Q (.panic c) a w:=by exact λ_ _ _ h=>h)(h1:Region.wanted oi (yielded ops a.tmps)=true:=by kernel_rfl)(el:listed.setIfInBounds i true=l':=by first |(simp only[lz,l0,ls];rfl) |rfl)(et:a.tmps.setIfInBounds d v=t':=by first |(simp only[lz,l0,ls];rfl) |rfl):wpAnyH P md ops Q S (fuel+1) listed a w:=by subst el et;exact aG hi hd hs hf hr hQ (.inl ⟨h1,h2⟩) hS h
def fF(l:Array Bool):Nat:=l.toList.findIdx (λb=>!b)
theorem f0{l:List Bool}:fF (false::l).toArray=0:=rfl
theorem f1{l:List Bool}:fF (true::l).toArray=fF l.toArray+1:=by simp[fF,List.findIdx_cons]
theorem py{md:Region.Mode}(hS:S w)(h:wpAnyH P md ops Q S fuel (listed.setIfInBounds (fF listed) true) {a with tmps:=a.tmps.setIfInBounds d v} w)(hi:ops[fF listed]? =some oi:=by simp only[f0,f1,Nat.reduceAdd,List.getElem?_toArray,List.getElem?_cons_succ,List.getElem?_cons_zero];rfl)(hd:oi.dst=some d:=by rfl)(h2:YieldsIf P ops S oi v a:=by first |exact .inr ⟨rfl,rfl⟩ |exact .inl ⟨by kernel_rfl,λ_ _=>rfl⟩ |(refine .inl ⟨by kernel_rfl,?_⟩;intro _ h;(repeat obtain⟨_,h⟩:=h);go_simp;(try rfl);done))(hs:Region.noSelect ops=true:=by kernel_rfl)(hf:Region.free md ops listed (fF listed)=true:=by kernel_rfl)(hr: (Region.ready md ops listed).contains (fF listed)=true:=by kernel_rfl)(hQ: ∀c a w,Q (.panic c) (a.put oi.dst v) w->Q (.panic c) a w:=by exact λ_ _ _ h=>h):wpAnyH P md ops Q S (fuel+1) listed a w:=aG hi hd hs hf hr hQ h2 hS h
theorem po{md:Region.Mode}(r:Nat){o:Oper}(h: ∀K':Act->QM->Prop,Hid (∀a' w',(S w'/\wpAnyH P md ops Q S fuel (listed.setIfInBounds r true) a' w')->K' a' w')->o.wp P a w K' Q)(hi:ops[r]? =some o:=by rfl)(hr:Region.ready md ops listed=[r]:=by kernel_rfl)(hw:Region.wanted o (yielded ops a.tmps)=true:=by kernel_rfl):wpAnyH P md ops Q S (fuel+1) listed a w:=ez hr (fO hi hw h)
theorem dM{o:Oper}{K:Act->QM->Prop}(b:ops[i]?=some o)(c:Region.wanted o (yielded ops a.tmps)=true)
  (h:∀K':Act->QM->Prop,Hid (∀a w,K a w->K' a w)->o.wp P a w K' Q):wpOp P ops Q i K a w:=by
 unfold wpOp;simp only[b,c,IM];exact .inl (h K λ_ _ h=>h)
theorem cn{md:Region.Mode}(b:Region.ready md ops listed=[r])
  (h:wpOp P ops Q r (λc w'=>S w'/\wpAnyH P md ops Q S fuel (listed.setIfInBounds r true) c w') a w):wpAnyH P md ops Q S (fuel+1) listed a w:=
 wpAnyH_all b bH (λi b=>by
  obtain rfl:i=r:=by simpa using b
  exact h)
theorem bo{md:Region.Mode}(b:ops[i]?=some oi)(f:oi.dst=some d)
  (g:Region.noSelect ops=true) (j:Region.free md ops listed i=true) (k:(Region.ready md ops listed).contains i=true)
  (l:∀c a w,Q (.panic c) (a.put oi.dst v) w->Q (.panic c) a w) (c:YieldsIf P ops S oi v a) (m:S w)
  (h:wpAnyH P md ops Q S fuel (listed.setIfInBounds i true) {a with tmps:=a.tmps.setIfInBounds d v} w):wpAnyH P md ops Q S (fuel+1) listed a w:=
 wpAnyH_take b g j k l c m (by
  have e:a.put oi.dst v={a with tmps:=a.tmps.setIfInBounds d v}:=by rw[f];rfl
  rw[e];exact h)
theorem dO{R:Nat}(h:W.heap[R]?=some o):R<W.heap.size:=by
 by_cases a:R<W.heap.size;·exact a
 have:W.heap[R]?=none:=Hd Z;rw[this]at h;cases h
structure But(S:Nat->Prop)(w w':QM):Prop where
 os:w'.os=w.os
 tape:w'.tape=w.tape
 output:w'.output=w.output
 size:w.heap.size<=w'.heap.size
 block:∀k,k<w.heap.size->¬S k->w'.heap[k]?=w.heap[k]?
theorem But.refl(S w):But S w w:=⟨rfl,rfl,rfl,Fv _,λ_ _ _=>rfl⟩
theorem But.trans{S a b c}(h:But S a b)(k:But S b c):But S a c:=
 ⟨k.os.trans h.os,k.tape.trans h.tape,k.output.trans h.output,Fx h.size k.size,λg d e=>(k.block g (FG d h.size) e).trans (h.block g d e)⟩
theorem But.mono{S}{c:Nat->Prop}{a}(h:But S a b)(k:∀g,S g->c g):But c a b:=
 ⟨h.os,h.tape,h.output,h.size,λg d e=>h.block g d λf=>e (k g f)⟩
theorem But.ofGrown{S:Nat->Prop}{a:QM}(h:a.grownBy b (some g))(k:S g):But S a b:=
 ⟨h.os,h.tape,h.output,h.size,λj d e=>h.block j d λc=>by
  simp at c;subst c;exact e k⟩
theorem But.ofBelow{S a}(h:D a b):But S a b:=⟨h.os,h.tape,h.output,h.size,λj c _=>h.block j c⟩
theorem But.below{S a}{B:Nat}(h:But S a b)(d:B<=a.heap.size)(k:∀g,S g->B<=g):Below B a b:=
 ⟨h.os,h.tape,h.output,h.size,λj e=>h.block j Z λc=>by have:=k j c;omega⟩
theorem But.drew{S a b}(h:But S a b):But S a b.drew:=⟨h.os,h.tape,h.output,h.size,h.block⟩
theorem But.set{S a}(h:But S a b)(g i:Nat)(v:QN)(k:S g):But S a (b.setCell (Qz g i) v):=
 h.trans (.ofGrown (au (al b g) i v) k)
theorem eK{a:QM}{k:Nat}(h:a.grownBy b (some g))(d:a.heap[k]?=some o)(c:k≠g):b.heap[k]?=some o:=by
 rw[h.block k (dO d) (by simpa using c)];exact d
theorem RowV.ne{e}{t:QO}{xs}{c:Array QN}{f:Nat×Nat}(h:RowV w r e xs)(k:w.heap[g]?=some (.cells c t f))(a:e≠t):g≠r:=by
 have⟨d,b,_⟩:=h;rintro rfl;rw[b]at k;simp at k;exact a k.2.1
theorem RowV.but{S e xs}(h:RowV w r e xs)(b:But S w w')(d:¬S r):RowV w' r e xs:=by
 have⟨c,a,f⟩:=h;exact⟨c,by rw[b.block r (dO a) d];exact a,f⟩
theorem But.at{S}(a:But S w w')(h:w.heap[g]?=some o)(b:¬S g):w'.heap[g]?=some o:=by
 rw[a.block g (dO h) b];exact h
def cu(n:Nat)(xs:List Int)(x:Int):List Int×Int:=if xs.length<n then(xs++[x],-1)else(xs.tail++[x],xs[0]?.getD 0)
def Qu(w:World)(G r n:Nat)(xs:List Int):Prop:=
 ∃(ps:List Int)(o h:Nat),w.heap[G]?=some (.cells #[Vl r n n,I o,I h] 261)/\RowV w r 3 (Ns .i64 ps)/\ps.length=n/\o<n/\h<=n/\(h<n->o=0)/\xs=(ps.drop o++ps.take o).take h
theorem Qu.but{S w w' G r n xs}(h:Qu w G r n xs)(d:But S w w')(e:¬S G)(f:¬S r):Qu w' G r n xs:=by
 have⟨ps,o,h,a,b,c⟩:=h;exact⟨ps,o,h,d.at a e,b.but d f,c⟩
theorem Qu.len{G xs}(h:Qu w G r n xs):xs.length<=n:=by
 obtain⟨ps,o,h,a,b,c,d,e,f,rfl⟩:=h;simp;omega
theorem tm(G r n h:Nat)(ps:List Int)(x d:Int)(w:QM)(a:w.heap[G]?=some (.cells #[Vl r n n,I (0:Nat),I h] 261))(c:RowV w r 3 (Ns .i64 ps))(g:ps.length=n)(f:h<n)(p:n<=1024):
 QA 342 #[J G 0,I x,I d] w λe w'=>e=.returned (I (-1))/\w'.heap[G]?=some (.cells #[Vl r n n,I (0:Nat),I (h+1:Nat)] 261)/\RowV w' r 3 (Ns .i64 (ps.set h x))/\But (λk=>k=G\/k=r) w w':=by
 have b:G≠r:=c.ne a ar;have q:w.cell? (Qz G 0)=some (Vl r n n):=bJ a;have s:w.cell? (Qz G 1)=some (I (0:Nat)):=bJ a;have t:w.cell? (Qz G 2)=some (I h):=bJ a;have i:(h:Int)<(n:Int):=Z;have⟨u,j⟩:=y7 (lu G r n n 0 h h ps x w.drew.drew (by rw[Oi,H4 f]) g Z Z Z Z q s c) a;go_enter func342,ntmps342;go_wp2;go_region;go_wp2;refine rh (S:=λW=>W.cell? (Qz G 2)=some (I h)/\Hid (W.heap[G]?=some (.cells #[Vl r n n,I (0:Nat),I h] 261))) ?_;have g:=(show _/\Hid _ from⟨t,j⟩);iterate 9 (refine py g ?_;simp only[f0,f1,Nat.reduceAdd,lz,l0,ls])
 refine cn (r:=9) E ?_;refine dM rfl E (λK' l=>?_);go_simp;refine(u).mono ?_;rintro e m⟨rfl,o,c⟩;have a:=H (eK (k:=G) c j b);refine l _ _ ⟨⟨bJ a,a⟩,?_⟩;have⟨v,y⟩:=y7 o c;refine bY ?_;have c:m.cell? (Qz G 2)=some (I h):=bJ a;have g:m.frozen? (Qz G 2)=false:=GY _ _ _ _ _ a;go_wp2;go_ret;refine⟨rfl,?_,?_,?_⟩;·rw[Ic _ _ _ _ _ _ a];rfl
 ·exact v.other (by simpa using b.symm) _
 exact((But.refl _ w).drew.drew.trans (.ofGrown y (.inr rfl))).set _ _ _ (.inl rfl)
end
section
variable {v w:World}{g:Nat}
def NN(m:Nat->Option (Bool×List Int)):Nat->List Int
 |0=>[]
 |k+1=>if isOpen (m k)then NN m k++[(k:Int)]else NN m k
theorem mZ(m):∀k,(NN m k).length<=k
 |0=>Fv _
 |k+1=>by have:=mZ m k;simp only[NN];split<;>simp<;>omega
theorem Tryz.info3Op:(prog.info? 3).map (λi=>(i.zero,i.size,i.bytes))=some (some (I 0),1,8):=E
theorem ek(W:QM)(x:QN)(t:QO)(b:Nat)(a:W.heap.size=b):∀j u,[x][j]?=some u->(W.alloc (.cells #[x] t)).cell? (((Qz b 0):Addr).add j)=some u:=by
 subst a;intro j u h;cases j with
 |zero=>
  simp at h;subst h;rw[show((Qz W.heap.size 0):Addr).add 0=(Qz W.heap.size 0)from rfl,World.cell?_alloc_at _ _ _ _ rfl];rfl
 |succ j=>simp at h
theorem cI{A:QM}{a:Nat}{e:QO}{v:QN}{n:Nat}{b:List QN}(h:A.ownsRow a e 1 v n b):∀r,v.ownBlock=some r->a<=r:=by
 intro r e;rcases h.2 with⟨rfl,_⟩|⟨g,c,d,rfl,f,i,_⟩;·cases e
 cases e;exact f
theorem rX(T Q n bud m w)(h:Sx T Q n bud m w)(V:n<=4096):
  QA 45 #[J T 0] w λe F=>∃v,e=QJ v/\F.ownsRow w.heap.size 3 1 v (NN m n).length (Ns .i64 (NN m n))/\D w F:=by
 have⟨P,s,t,x,y⟩:=G0 Tryz.info3Op;have⟨W,X⟩:=h.c;have R:=H h;go_enter func45,ntmps45;go_wp2;go_loopw [3,11] (λv i wr=>∃k:Nat,k<=n/\i=I k/\Hid (wr.ownsRow w.heap.size 3 1 v (NN m k).length (Ns .i64 (NN m k)))/\Hid (D w wr)) (λ_ i _=>n-(intOf i).toNat);case atStart=>exact⟨0,FH _,rfl,H ⟨rfl,.inl ⟨rfl,rfl⟩⟩,H (Fu _ _)⟩
 case round=>
  obtain⟨k,Y,rfl,b,a⟩:=hrel;by_cases z:k<n
  ·have⟨G,p,l,c,K,L,M,d⟩:=R.three k z;have K:=NI a K;have L:=NI a L;have M:=NI a M;have S:=mZ m k;have⟨q,A⟩:=y7 (a.alloc a.size (.cells #[.bool (m k).isSome,.bool G,.slice p l c] 179)) (b.alloc (.cells #[.bool (m k).isSome,.bool G,.slice p l c] 179));cases f:isOpen (m k)
   ·have r:=H (show NN m (k+1)=NN m k by simp only[NN];rw[f];rfl);rw[f]at d;generalize (m k).isSome=B at*;cases B
    ·go_wp2;go_roundw;(case rel=>exact⟨k+1,Z,aY,by rw[r];exact A,q⟩);case measure=>exact QE
    simp only[Bool.true_and]at d;subst d;go_wp2;go_roundw;(case rel=>exact⟨k+1,Z,aY,by rw[r];exact A,q⟩);case measure=>exact QE
   have r:=H (show NN m (k+1)=NN m k++[(k:Int)] by simp only[NN];rw[f];rfl);rw[f]at d;generalize (m k).isSome=B at*;cases B;·simp at d
   simp only[Bool.true_and]at d;subst d;have⟨g,f⟩:=y7 (A.alloc (.cells #[I k] 3)) (q.alloc q.size (.cells #[I k] 3));go_wp2_with (at_builtin;refine Ib _ rfl _ _ 28 rfl w.heap.size 3 P (I 0) 1 8 underlying28 s t x y rfl Z _ _ _ rfl g _ 1 1 [I k] rfl rfl ?hc ?h1c ?b1 ?b2 ?b3 ?_);(case hc=>exact ek _ _ _ _ bH);(case h1c=>intro u N;simp at N;subst N;rfl);(case b1=>unfold maxLen;omega);(case b2=>omega);(case b3=>exact f.size);intro v1 w1 j o _;have O:=H (IT j (f.grown o f.size (cI g)));go_wp2;go_roundw;(case rel=>exact⟨k+1,Z,aY,H (by rw[r];simpa[Ns]using O.1),H O.2⟩);case measure=>exact QE
  have c:k=n:=Z;subst c;go_wp2;go_ret;exact⟨_,rfl,b,a⟩
def stA(k:Nat):Array Value:=((List.range 13).map λj=>Value.int .i64 (if j<=k then fp j else 0)).toArray
theorem pT(k):(stA k).size=13:=by simp[stA]
theorem lx(k j:Nat)(h:j<13):(stA k)[j]?=some (I (if j<=k then fp j else 0)):=by
 simp[stA,h]
theorem yN(k):(stA k).setIfInBounds (k+1) (I (fp (k+1)))=stA (k+1):=by
 apply Array.ext;·simp[stA]
 intro i c b;have d:i<13:=by simpa[stA]using b
 rw[Array.getElem_setIfInBounds (by simpa[stA]using b)];simp only[stA,List.getElem_toArray,List.getElem_map,List.getElem_range];by_cases a:k+1=i;·subst a;simp
 have e:(i<=k)↔(i<=k+1):=Z;simp[e,a]
theorem Ed:stA 0=#[Value.int IntKind.i64 1,Value.int IntKind.i64 0,Value.int IntKind.i64 0,Value.int IntKind.i64 0,Value.int IntKind.i64 0,Value.int IntKind.i64 0,Value.int IntKind.i64 0,Value.int IntKind.i64 0,Value.int IntKind.i64 0,Value.int IntKind.i64 0,Value.int IntKind.i64 0,Value.int IntKind.i64 0,Value.int IntKind.i64 0]:=E
def nG:Array Value:=#[Value.int IntKind.i64 0,Value.int IntKind.i64 0,Value.int IntKind.i64 0,Value.int IntKind.i64 0,Value.int IntKind.i64 0,Value.int IntKind.i64 0,Value.int IntKind.i64 0,Value.int IntKind.i64 0,Value.int IntKind.i64 0,Value.int IntKind.i64 0,Value.int IntKind.i64 0,Value.int IntKind.i64 0,Value.int IntKind.i64 0]
theorem jh(w:QM)(o:Obj):(w.alloc o).heap[w.heap.size]?=some o:=(Hq w o).1
theorem zS(w:QM)(o:Obj)(k:Nat)(h:k<w.heap.size):(w.alloc o).heap[k]?=w.heap[k]?:=(Hq w o).2 k h
theorem OC(w:QM)(o:Obj):(w.alloc o).heap.size=w.heap.size+1:=by
 have e:(w.alloc o).heap=w.heap.push o:=rfl;rw[e,Array.size_push]
theorem Below.setRow{B:Nat}{a w:QM}(h:Below B a w){g:Nat}(c:B<=g)(b:Array QN):Below B a (w.setRow g b):=by
 refine h.trans ⟨rfl,rfl,rfl,by simp[World.setRow],λk d=>?_⟩;have:g≠k:=Z;simp[World.setRow,FD,this]
theorem eW(w)(a:Tb w):
  QA 198 #[] w λe f=>e=QJ (.agg (stA 12))/\D w f:=by
 have n:Hid (∀(c:Int)w,Tb w->_):=λc w h=>lO c w h
 have o:=hidR a;go_enter func198,ntmps198;go_wp2;go_loopw [4] (λi wr=>∃k:Nat,k<=12/\i=I k/\Hid (wr.heap[w.heap.size]?=some (.cells nG 310)/\wr.heap[w.heap.size+1]?=some (.cells (stA k) 310)/\D w wr)) (λi _=>12-(intOf i).toNat);case atStart=>
  refine⟨0,Z,rfl,?_,?_,?_⟩;·rw[zS _ _ _ (by rw[OC];omega)];exact jh _ _
  ·rw[Ed,<-OC w];exact jh _ _
  exact((Fu _ _).alloc (Fv _) _).alloc (by rw[OC];omega) _
 case round=>
  obtain⟨k,x,rfl,d⟩:=hrel;by_cases q:k<12
  ·have r:=iU k;have s:=tM (k:Int);have u:wr.cell? ⟨w.heap.size+1,k,none⟩=some (I (fp k)):=by
    simp[QC,d.2.1,lx k k Z]
   have y:wr.cell? ⟨w.heap.size+1,k+1,none⟩=some (I 0):=by
    simp[QC,d.2.1,lx k (k+1) Z];intro h;omega
   have f2:wr.frozen? ⟨w.heap.size+1,k+1,none⟩=false:=by
    simp[QD,d.2.1]
   have m:Hid (∀W:QM,W.heap=wr.heap->QA 234 #[I (k:Int)] W λe f=>e=QJ (I (rp (k:Int)))/\f=W):=λW v=>n.out _ W (by
    have⟨t,a,h⟩:=(o.below d.2.2).row;exact⟨t,a,by rw[v];exact h⟩)
   have j:=hidR (show fp (k+1)=fp k+rp (k:Int)from rfl);generalize fp k=a at r u j;generalize rp (k:Int)=b at s m j;go_wp2
   go_region_with (go_at_call 234;refine(m _ ?_).mono ?_;exact rfl;rintro e f⟨rfl,rfl⟩)
   all_goals
    go_wp2
    go_roundw
    case rel=>
     refine⟨k+1,Z,aY,?_,?_,?_⟩;·have g:=d.1;simp[World.setCell,FD,World.drew,g]
     ·have l:=d.2.1;rw[<-yN,j];simp[World.setCell,FD,World.drew,l]
     exact d.2.2.drew.setCell (p:=⟨w.heap.size+1,k+1,none⟩) bH _
    case measure=>exact QE
  obtain rfl:k=12:=Z;have g:=hidR d.1;have l:=hidR d.2.1;have b:=hidR (Below.setRow d.2.2 (Fv _) (stA 12));have j:Hid ((wr.setRow w.heap.size (stA 12)).heap[w.heap.size]?=some (.cells (stA 12) 310)):=by
   have:=g.out;exact hidR (by simp[World.setRow,FD,this])
  have a:=hidR (show(stA 12).all (·.oneCell')=true by kernel_rfl);go_wp2_with (first|refine Gt rfl 310 _ rfl _ rfl _ _ _ _ l underlying310 rfl E ?_|refine Gf rfl 310 _ _ rfl _ _ rfl rfl _ _ g E (by rw[pT];rfl) a ?_);refine GX (Gq dU _ _ w.heap.size 310 (stA 12) (0,0) _ dU j underlying310 rfl E) dU ?_;exact⟨rfl,b⟩
theorem kz(w:QM)(k:Nat)(a:k<13):(Instr.index 310 (.agg (stA 12)) (I k)).run prog w=.ok (I (fp k)) w:=by
 have h:=lx 12 k a;rw[GP Z]at h;simp[Instr.index,run_underlying underlying310,asIntOf,a,go_sem,h]
theorem mO(c w)(a:Tb w):
  QA 240 #[I c] w λe b=>e=QJ (I (rs c))/\D w b:=by
 have d:=hidR (eW w a);by_cases h:0<=c/\c<12
 ·have f:=hidR (NR _ w h);rw[kB h];obtain⟨m,rfl⟩:=Ha h.1;have i:m<13:=Z;simp only[F0];have g:=hidR (λW=>kz W m i);generalize stA 12=S at d g;go_enter func240,ntmps240;go_wp2_with fail;refine(f).mono ?_;rintro e b⟨rfl,rfl⟩;go_wp2_with fail;refine(d).mono ?_;rintro e j⟨rfl,k⟩;have l:=g.out j;go_wp2;go_ret;exact⟨rfl,k⟩
 rw[se h];have f:=hidR (dY _ w h);go_enter func240,ntmps240;go_wp2_with fail;refine(f).mono ?_;rintro e b⟨rfl,rfl⟩;go_wp2;go_ret;exact⟨rfl,Fu _ _⟩
theorem iI(w)(a:Tb w):
  QA 149 #[] w λe d=>e=QJ (I 187)/\D w d:=by
 have b:=hidR (eW w a);have c:Hid (∀W:QM,(Instr.index 310 (.agg (stA 12)) (I 12)).run prog W=.ok (I 187) W):=λW=>by
  have:=kz W 12 Z;rw[pN]at this;exact this
 generalize stA 12=S at b c;go_enter func149,ntmps149;go_wp2_with fail;refine(b).mono ?_;rintro e a⟨rfl,f⟩;have g:=c.out a;go_wp2;go_ret;exact⟨rfl,f⟩
theorem eH(w)(a:Tb w):
  QA 91 #[] w λe b=>e=QJ (I 283)/\D w b:=by
 have c:=hidR (iI w a);go_enter func91,ntmps91;go_wp2_with fail;refine(c).mono ?_;rintro e d⟨rfl,a⟩;go_wp2;go_ret;exact⟨rfl,a⟩
def pl(k c s t p o:Int):Value:=.agg #[I k,I c,I s,I t,I p,I o]
def z6:Array Value:=#[I 0,I 0,I 0,I 0,I 0,I 0]
structure Rt(w:QM)(g:Nat)(v:QM):Prop where
 blk:v.heap[g]?=some (.cells z6 322)
 bel:D w v
 new:w.heap.size<=g
theorem Rt.first(w):Rt w w.heap.size (w.alloc (.cells z6 322)):=⟨jh _ _,(Fu _ _).alloc (Fv _) _,Fv _⟩
theorem Rt.below{v'}(h:Rt w g v)(b:D v v'):Rt w g v':=by
 have a:g<v.heap.size:=by
  by_cases a:g<v.heap.size;·exact a
  have:v.heap[g]?=none:=Hd Z;have c:=h.blk;rw[this]at c;cases c
 exact⟨by rw[b.block g a];exact h.blk,cv h.bel b,h.new⟩
theorem Rt.drew{w v g}(h:Rt w g v):Rt w g v.drew:=h.below (Fu _ _).drew
theorem Tb.drew{w}(h:Tb w):Tb w.drew:=⟨h.row⟩
theorem Rt.row(h:Rt w g v)(a:Array QN):(v.setRow g a).heap[g]?=some (.cells a 322):=by
 simp[World.setRow,FD,h.blk]
theorem Rt.done(h:Rt w g v)(a:Array QN):D w (v.setRow g a):=Below.setRow h.bel h.new a
theorem Rt.six(h:Rt w g v)(a b c d e f:QN):
  ((((((v.setCell (Qz g 0) a).setCell (Qz g 1) b).setCell (Qz g 2) c).setCell (Qz g 3) d).setCell (Qz g 4) e).setCell (Qz g 5) f).drew.heap[g]?=some (.cells #[a,b,c,d,e,f] 322) /\
  D w ((((((v.setCell (Qz g 0) a).setCell (Qz g 1) b).setCell (Qz g 2) c).setCell (Qz g 3) d).setCell (Qz g 4) e).setCell (Qz g 5) f).drew:=by
 refine⟨?_,((((((h.bel.setCell h.new _).setCell h.new _).setCell h.new _).setCell h.new _).setCell h.new _).setCell h.new _).drew⟩;simp[World.drew,World.setCell,FD,h.blk,z6]
def zT(c s o:Int):Value:=
 if pg c*1024<=o then pl 1 c s 0 0 0
 else if sl c*sz c<=o then pl 2 c s 0 0 (o-sl c*sz c)
 else pl 3 c s (o/sz c) 0 (o%sz c)
theorem jH(c b:Int)(w)(j:Tb w)(h:0<=c/\c<12)(B:0<=b)(k:b<6*((pg c+1)*1024)):
  QA 242 #[I c,I b] w λe a=>e=QJ (zT c (b/((pg c+1)*1024)) (b%((pg c+1)*1024)))/\D w a:=by
 have f:=hidR (Rt.first w);have i:=hidR (j.below f.bel);have r:=hidR (gp c);have t:=hidR (eY c);have u:=hidR (dJ c);have x:=hidR (gK c);have F:=eJ h;have G:=fy h;have d:=kh h;have K:0<=b/((pg c+1)*1024)/\b/((pg c+1)*1024)<=6:=by
  have:pg c=1\/pg c=2\/pg c=3\/pg c=4:=Z;rcases this with e|e|e|e<;>rw[e]at k⊢<;>omega
 have m:0<=b%((pg c+1)*1024)/\b%((pg c+1)*1024)<(pg c+1)*1024:=by
  have:pg c=1\/pg c=2\/pg c=3\/pg c=4:=Z;rcases this with e|e|e|e<;>rw[e]<;>omega
 have L:b<30720:=Z;unfold zT;clear j;have M:0<=sl c*sz c/\sl c*sz c<=pg c*1024:=⟨Int.mul_nonneg Z Z,d.2.2.2⟩;have y:4<=sl c/\sl c<=64:=⟨d.1,d.2.1⟩;clear d k;generalize sz c=s at*;generalize sl c=l at*;generalize pg c=p at*;unfold z6 at*;go_enter func242,ntmps242;go_wp2_with fail;generalize w.alloc (Obj.cells #[Value.int IntKind.i64 0,Value.int IntKind.i64 0,Value.int IntKind.i64 0,Value.int IntKind.i64 0,Value.int IntKind.i64 0,Value.int IntKind.i64 0] 322)=v at f i⊢;generalize w.heap.size=g at f⊢;refine(r _ i).mono ?_;rintro e a⟨rfl,rfl⟩;go_wp2_with fail;go_region;have d:=hidR f.drew;have j:=hidR i.drew;clear f i;generalize a.drew=N at d j⊢;go_wp2_with fail;refine(t _ j).mono ?_;rintro e a⟨rfl,rfl⟩;have n:=hidR d.done;have o:=hidR d.row;have k:=hidR d.blk;have q:=hidR d.six;clear d;by_cases O:p*1024<=b%((p+1)*1024);·go_wp2_with (refine Gf rfl 322 _ _ rfl g _ rfl rfl 322 z6 k E rfl mL ?_);refine fM (o _) underlying322 ?_;exact⟨rfl,n _⟩
 have z:b%((p+1)*1024)<p*1024:=Z;go_wp2_with fail;refine(u _ j).mono ?_;rintro e a⟨rfl,rfl⟩;go_wp2_with fail;refine(x _ j).mono ?_;rintro e a⟨rfl,rfl⟩;by_cases P:l*s<=b%((p+1)*1024);·go_wp2_with (refine Gf rfl 322 _ _ rfl g _ rfl rfl 322 z6 k E rfl mL ?_);refine fM (o _) underlying322 ?_;exact⟨rfl,n _⟩
 have A:b%((p+1)*1024)<l*s:=Z;have Q:0<=b%((p+1)*1024)/s/\b%((p+1)*1024)/s<=4096:=⟨Int.ediv_nonneg m.1 Z,Int.le_trans (Int.ediv_le_self _ m.1) Z⟩;have R:0<=b%((p+1)*1024)%s/\b%((p+1)*1024)%s<s:=⟨IP _ Z,IB _ Z⟩;have d:∀i,i<6->a.cell? (Qz g i)=some (I 0):=λi S=>by
  have:i=0\/i=1\/i=2\/i=3\/i=4\/i=5:=Z;rcases this with rfl|rfl|rfl|rfl|rfl|rfl<;>simp[QC,k.out,z6]
 have f:∀i,a.frozen? (Qz g i)=false:=λi=>by simp[QD,k.out]
 have T:=d 0 Z;have V:=d 1 Z;have W:=d 2 Z;have X:=d 3 Z;have Y:=d 4 Z;have c5:=d 5 Z;have f0:=f 0;have f1:=f 1;have f2:=f 2;have f3:=f 3;have f4:=f 4;have f5:=f 5;clear d f;go_wp2;go_region;go_wp2;refine GX (Gq dU _ _ g 322 _ (0,0) _ dU (q _ _ _ _ _ _).1 underlying322 rfl E) dU ?_;exact⟨rfl,(q _ _ _ _ _ _).2⟩
end
section
variable {A Q Rb T g k n r:Nat}{W w:World}{v:Value}{xs:List Value}{bud:Int}{m:Nat->Option (Bool×List Int)}
theorem bF{P:Program}{md:Region.Mode}{c:Array Oper}{Q:Exit->Act->QM->Prop}{d:Nat}{b:Array Bool}{a:Act}(e:Region.ready md c b=[r])
  (h:wpOp P c Q r (wpAny P md c Q d (b.setIfInBounds r true)) a w):wpAny P md c Q (d+1) b a w:=
 wpAny_all e bH (λi a=>by
  obtain rfl:i=r:=by simpa using a
  exact h)
theorem cd{P:Program}{md:Region.Mode}{f:Array Oper}{Q:Exit->Act->QM->Prop}{i d:Nat}{j:Oper}{g:Nat}{b:Array Bool}{a:Act}(k:f[i]?=some j)(l:j.dst=some d)
  (m:Region.noSelect f=true) (n:Region.free md f b i=true) (o:(Region.ready md f b).contains i=true)
  (p:∀c a w,Q (.panic c) (a.put j.dst v) w->Q (.panic c) a w) (c:Yields P f j v a)
  (h:wpAny P md f Q g (b.setIfInBounds i true) {a with tmps:=a.tmps.setIfInBounds d v} w):wpAny P md f Q (g+1) b a w:=
 wpAny_take k m n o p c (by
  have e:a.put j.dst v={a with tmps:=a.tmps.setIfInBounds d v}:=by rw[l];rfl
  rw[e];exact h)
def aH(m:Nat->Option (Bool×List Int))(a n:Nat):List Int:=(List.range n).map λi=>bO m (a+i)
theorem lP(m a)(k:Nat):aH m a (k+1)=aH m a k++[bO m (a+k)]:=by
 simp[aH,Gs]
structure La(w:QM)(Rb A:Nat)(v:QN)(k:Nat)(xs:List QN)(W:QM):Prop where
 own:W.ownsRow (w.heap.size+2) 5 1 v k xs
 at_:W.heap[A]?=some (.cells #[I 0,v] 172)
 res:W.heap[Rb]?=some Qw
 bel:D w W
 big:w.heap.size+2<=W.heap.size
 hA:A=w.heap.size+1
 hR:Rb=w.heap.size
theorem La.next{w9:QM}(h:La w Rb A v k xs W)(b:QN)(g cap)(j:w9.ownsRow (w.heap.size+2) 5 1 (Vl g (k+1) cap) (k+1) (xs++[b]))(a:((W.alloc (.cells #[b] 5)).drew).grownBy w9 v.ownBlock):
  w9.cell? (Qz A 1)=some v/\w9.frozen? (Qz A 1)=false/\La w Rb A (Vl g (k+1) cap) (k+1) (xs++[b]) (w9.setCell (Qz A 1) (Vl g (k+1) cap)):=by
 have c:A<W.heap.size:=by have:=h.hA;have:=h.big;omega
 have d:Rb<W.heap.size:=by have:=h.hR;have:=h.big;omega
 have m:v.ownBlock≠some A:=by
  intro e;have:=cI h.own A e;have:=h.hA;omega
 have n:v.ownBlock≠some Rb:=by
  intro e;have:=cI h.own Rb e;have:=h.hR;omega
 have sz:((W.alloc (.cells #[b] 5)).drew).heap.size=W.heap.size+1:=aO W _;have f:w9.heap[A]?=some (.cells #[I 0,v] 172):=by
  rw[a.block A (by rw[sz];omega) (Iq m)];exact(eg W _ A c).trans h.at_
 have o:w9.heap[Rb]?=some Qw:=by
  rw[a.block Rb (by rw[sz];omega) (Iq n)];exact(eg W _ Rb d).trans h.res
 have i:g≠A:=by
  have:=cI j g rfl;have:=h.hA;omega
 have p:D w w9:=by
  have l:D w (W.alloc (.cells #[b] 5)).drew:=(h.bel.alloc h.bel.size _).drew;exact l.grown a l.size (λr b=>by have:=cI h.own r b;omega)
 refine⟨by simp[QC,f],by simp[QD,f],?_⟩;refine⟨j.kept (au (al w9 A) 1 _) (.inr (by simpa[Value.ownBlock]using i)),?_,?_,?_,?_,h.hA,h.hR⟩;·rw[bj f];rfl
 ·rw[GQ _ _ _ _ (by have:=h.hA;have:=h.hR;show Rb≠A;omega)];exact o
 ·exact p.setCell (by have:=h.hA;show w.heap.size<=A;omega) _
 have:w9.heap.size<=(w9.setCell (Qz A 1) (Vl g (k+1) cap)).heap.size:=(au (al w9 A) 1 _).size;have:=a.size;have:=h.big;rw[sz]at*;omega
theorem aw{v:QM}{a:Array QN}{t:QO}(h:v.heap[g]?=some (.cells a t))(b:Array QN):(v.setRow g b).heap[g]?=some (.cells b t):=by
 simp[World.setRow,FD,h]
theorem aj(w:QM)(g:Nat)(b:Array QN):w.grownBy (w.setRow g b) (some g):=
 ⟨rfl,rfl,rfl,by simp[World.setRow],λk _ a=>by
  have:g≠k:=λe=>a (by rw[e])
  simp[World.setRow,FD,this]⟩
theorem dm{b a:Nat}{e:QO}{c:Nat}(h:w.ownsRow b e c v n xs)(i:a<=b):w.ownsRow a e c v n xs:=
 ⟨h.1,h.2.imp id λ⟨g,d,f,j,k,l⟩=>⟨g,d,f,j,Fx i k,l⟩⟩
theorem La.one(h:La w Rb A v k xs W):(#[Value.int IntKind.i64 0,v].all λx=>x.oneCell')=true:=by
 rcases h.own.2 with⟨rfl,_⟩|⟨g,a,b,rfl,_⟩<;>simp[Value.oneCell']
theorem La.done(h:La w Rb A v k xs W):(W.setRow Rb #[Value.int IntKind.i64 0,v]).ownsRow w.heap.size 5 1 v k xs/\D w (W.setRow Rb #[Value.int IntKind.i64 0,v]):=by
 have a:=aj W Rb #[Value.int IntKind.i64 0,v];refine⟨dm (h.own.kept a ?_) Z,h.bel.grown a h.bel.size (λr a=>by have:=h.hR;simp at a;omega)⟩;right;intro e;have:=cI h.own Rb e;have:=h.hR;omega
theorem kr(T Q nn bud m)(a n:Nat)(w)(b:Sx T Q nn bud m w)(a1:nn<=4096)(h2:n<=4096)(ha:a+n<18446744073709551616)(c:∀i,i<n->isOpen (m ((a+i)/1024))=true)(t:∀W,D w W->QA 133 #[J T 0,U a,I n] W λe V=>e=QJ (I 0)/\V=W):
  QA 79 #[J T 0,U a,I n] w λe V=>∃v,e=QJ (.agg #[I 0,v])/\V.ownsRow w.heap.size 5 1 v n (Ns .u8 (aH m a n))/\D w V:=by
 have⟨i0,B,F,G,K⟩:=G0 Tryz.info5By;have⟨H1,HS,HO⟩:=Qe t b c;go_enter func79,ntmps79;go_wp2_with fail;refine(H1 _ ((Fu _ _).alloc (Fv _) _)).mono ?_;rintro _ w1⟨rfl,rfl⟩;have X:Hid (La w w.heap.size (w.heap.size+1) (C) 0 [] ((w.alloc Qw).alloc Qw)):=
  ⟨⟨rfl,.inl ⟨rfl,rfl⟩⟩,by rw[<-aO w];exact ao _ _,by rw[eg _ _ _ (by rw[aO];omega)];exact ao _ _,((Fu _ _).alloc (Fv _) _).alloc (by rw[aO];omega) _,by rw[aO,aO];omega,rfl,rfl⟩
 go_wp2;generalize (w.alloc (Obj.cells #[Value.int IntKind.i64 0,Value.slice none 0 0] 172)).alloc (Obj.cells #[Value.int IntKind.i64 0,Value.slice none 0 0] 172)=W0 at X⊢;generalize a3:w.heap.size+1=A at X⊢;generalize a4:w.heap.size=Rb at X⊢;go_loopw [8] (λi wr=>∃k:Nat,k<=n/\i=I k/\Hid (∃v,La w Rb A v k (Ns .u8 (aH m a k)) wr)) (λi _=>n-(intOf i).toNat);case atStart=>exact⟨0,FH _,rfl,_,X⟩
 case round=>
  obtain⟨k,hk,rfl,x⟩:=hrel;have⟨v,p⟩:=x.out;have a5:wr.cell? (Qz A 0)=some (I 0):=by simp[QC,p.at_]
  have L:wr.cell? (Qz A 1)=some v:=by simp[QC,p.at_]
  by_cases a2:k<n
  ·have fA:wr.frozen? (Qz A 1)=false:=(by simp[QD,p.at_]);have⟨HG,Y,HE,c,f⟩:=Qg (kT T Q nn bud m (a+k) wr.drew (HS.below p.bel).drew a1 Z (HO k a2)) (λb g o M c h2=>p.next (w9:=M) (.int .u8 b) g o c h2) (lP m a k) (λb=>(p.own.alloc (.cells #[.int .u8 b] 5)).drew) (λ(b:Int)=>ek wr (.int .u8 b) 5 wr.heap.size rfl);have j:Hid (∀b:Int,w.heap.size+2<=((wr.alloc (.cells #[.int .u8 b] 5)).drew).heap.size):=(λb=>by
    have:=p.big;have e:((wr.alloc (.cells #[.int .u8 b] 5)).drew).heap.size=wr.heap.size+1:=aO wr _;omega)
   generalize bO m (a+k)=b at*;have⟨Y,N,O,P⟩:=Qf (Y b) (c b) (f b) (j b);have R:(wr.alloc (.cells #[.int .u8 b] 5)).cell? (Qz A 1)=some v:=by
    have l:A<wr.heap.size:=(by have:=p.hA;have:=p.big;omega);have e:=(eg wr (.cells #[.int .u8 b] 5) A l).trans p.at_;simp[QC,e]
   have m1:IntKind.u64.wrap (k:Int)=(k:Int):=(by rw[IntKind.wrap_u64];omega);have m2:IntKind.u64.wrap ((a:Int)+(k:Int))=((a+k:Nat):Int):=(by rw[IntKind.wrap_u64];omega);go_wp2;refine wp_region_any E ?_;simp only[FX,FN,F1,Nat.reduceAdd,FP,FO,FY,FV,F5];refine cd (i:=0) (d:=24) (v:=J A 1) rfl E E E E (λ_ _ _ h=>h) (Or.inl ⟨E,λ_=>E⟩) ?_;simp only[lz,l0,ls];refine cd (i:=2) (d:=26) (v:=J T 0) rfl E E E E (λ_ _ _ h=>h) (Or.inl ⟨E,λ_=>E⟩) ?_;simp only[lz,l0,ls];refine cd (i:=3) (d:=27) (v:=U (a:Int)) rfl E E E E (λ_ _ _ h=>h) (Or.inl ⟨E,λ_=>E⟩) ?_;simp only[lz,l0,ls];refine cd (i:=4) (d:=28) (v:=I (k:Int)) rfl E E E E (λ_ _ _ h=>h) (Or.inl ⟨E,λ_=>E⟩) ?_;simp only[lz,l0,ls];refine cd (i:=5) (d:=29) (v:=U (k:Int)) rfl E E E E (λ_ _ _ h=>h) (Or.inl ⟨E,λW=>by first|(go_simp;done)|(go_simp;omega)⟩) ?_;simp only[lz,l0,ls];refine cd (i:=6) (d:=30) (v:=U ((a+k:Nat):Int)) rfl E E E E (λ_ _ _ h=>h) (Or.inl ⟨E,λW=>by first|(go_simp;done)|(go_simp;omega)⟩) ?_;simp only[lz,l0,ls];refine wpAny_all (rs:=[1,7]) E bH (λi hi=>?_);have S:i=1\/i=7:=(by simpa using hi);rcases S with rfl|rfl
   ·skip
    refine cw λK' c=>?_;go_simp;refine c _ _ ?_;refine bF (r:=7) E ?_;refine cw λK' c=>?_;go_simp;refine(HG).mono ?_;rintro e V⟨rfl,rfl⟩;refine c _ _ ?_;refine bF (r:=8) E ?_;refine cw λK' c=>?_;go_simp;refine c _ _ ?_;refine bF (r:=9) E ?_;refine cw λK' c=>?_;refine wp_append_lies _ (.tmp 25) (.tmp 32) 22 rfl (w.heap.size+2) 5 i0 (.int .u8 0) 1 1 underlying22 B F G K rfl Z v k _ dU N (Qz wr.heap.size 0) 1 1 [.int .u8 b] dU rfl O ?h1c Z ?b1 ?b2 ?b3 _ rfl ?_
    (case h1c=>intro u y;simp at y;subst y;rfl);(case b1=>unfold maxLen;omega);(case b2=>omega);(case b3=>exact P);intro g o M f j q s;have l:=H (Y g o M f j);have⟨z,a0,_⟩:=l.out;refine c _ _ ?_;simp only[Act.put,Fw,FA,FB];refine cd (i:=10) (d:=34) (v:=J A 1) rfl E E E E (λ_ _ _ h=>h) (Or.inl ⟨E,λ_=>E⟩) ?_;refine bF (r:=11) E ?_;refine cw λK' c=>?_;go_simp;refine c _ _ ?_;refine wpAny_done E ?_ _;go_wp2;go_roundw
    (case rel=>exact⟨k+1,Z,aY,_,by rw[HE];simpa[Ns]using l.2.2⟩);case measure=>exact QE
   skip
   refine cw λK' c=>?_;go_simp;refine(HG).mono ?_;rintro e V⟨rfl,rfl⟩;refine c _ _ ?_;refine wpAny_all (rs:=[1,8]) E bH (λi hi=>?_);have S:i=1\/i=8:=(by simpa using hi)
   rcases S with rfl|rfl
   ·skip
    refine cw λK' c=>?_;go_simp;refine c _ _ ?_;refine bF (r:=8) E ?_;refine cw λK' c=>?_;go_simp;refine c _ _ ?_;refine bF (r:=9) E ?_;refine cw λK' c=>?_;refine wp_append_lies _ (.tmp 25) (.tmp 32) 22 rfl (w.heap.size+2) 5 i0 (.int .u8 0) 1 1 underlying22 B F G K rfl Z v k _ dU N (Qz wr.heap.size 0) 1 1 [.int .u8 b] dU rfl O ?h1c Z ?b1 ?b2 ?b3 _ rfl ?_
    (case h1c=>intro u y;simp at y;subst y;rfl);(case b1=>unfold maxLen;omega);(case b2=>omega);(case b3=>exact P);intro g o M f j q s;have l:=H (Y g o M f j);have⟨z,a0,_⟩:=l.out;refine c _ _ ?_;simp only[Act.put,Fw,FA,FB];refine cd (i:=10) (d:=34) (v:=J A 1) rfl E E E E (λ_ _ _ h=>h) (Or.inl ⟨E,λ_=>E⟩) ?_;refine bF (r:=11) E ?_;refine cw λK' c=>?_;go_simp;refine c _ _ ?_;refine wpAny_done E ?_ _;go_wp2;go_roundw
    (case rel=>exact⟨k+1,Z,aY,_,by rw[HE];simpa[Ns]using l.2.2⟩);case measure=>exact QE
   skip
   refine cw λK' c=>?_;go_simp;refine c _ _ ?_;refine bF (r:=1) E ?_;refine cw λK' c=>?_;go_simp;refine c _ _ ?_;refine bF (r:=9) E ?_;refine cw λK' c=>?_;refine wp_append_lies _ (.tmp 25) (.tmp 32) 22 rfl (w.heap.size+2) 5 i0 (.int .u8 0) 1 1 underlying22 B F G K rfl Z v k _ dU N (Qz wr.heap.size 0) 1 1 [.int .u8 b] dU rfl O ?h1c Z ?b1 ?b2 ?b3 _ rfl ?_
   (case h1c=>intro u y;simp at y;subst y;rfl);(case b1=>unfold maxLen;omega);(case b2=>omega);(case b3=>exact P);intro g o M f j q s;have l:=H (Y g o M f j);have⟨z,a0,_⟩:=l.out;refine c _ _ ?_;simp only[Act.put,Fw,FA,FB];refine cd (i:=10) (d:=34) (v:=J A 1) rfl E E E E (λ_ _ _ h=>h) (Or.inl ⟨E,λ_=>E⟩) ?_;refine bF (r:=11) E ?_;refine cw λK' c=>?_;go_simp;refine c _ _ ?_;refine wpAny_done E ?_ _;go_wp2;go_roundw
   (case rel=>exact⟨k+1,Z,aY,_,by rw[HE];simpa[Ns]using l.2.2⟩);case measure=>exact QE
  have b:k=n:=Z;subst b;have x:=H p;go_wp2_with (first|(refine Gt rfl 172 _ rfl _ rfl _ _ _ _ x.at_ underlying172 rfl E ?_)|(refine Gf rfl 172 _ _ rfl _ _ rfl rfl 172 _ x.res E rfl ?o1 ?_));case o1=>exact x.one
  refine fM (aw x.res _) underlying172 ?_;exact⟨v,rfl,x.done⟩
def dZ(m:Nat->Option (Bool×List Int))(p:Nat)(x:Int):Nat->Option (Bool×List Int):=dT m (p/1024) ((m (p/1024)).map λq=>(q.1,q.2.set (p%1024) x))
def ay(m:Nat->Option (Bool×List Int))(a:Nat)(ys:List Int):Nat->(Nat->Option (Bool×List Int))
 |0=>m
 |k+1=>dZ (ay m a ys k) (a+k) (ys[k]?.getD 0)
theorem uP(m p x)(j:Nat):isOpen (dZ m p x j)=isOpen (m j):=by
 unfold dZ;by_cases e:j=p/1024
 ·subst e;rw[bV];cases m (p/1024)with
  |none=>rfl
  |some q=>rfl
 rw[aW _ _ _ _ e]
theorem eO(m a ys):∀k j,isOpen (ay m a ys k j)=isOpen (m j)
 |0,j=>rfl
 |k+1,j=>by simp only[ay];rw[uP];exact eO m a ys k j
structure Dt(Q:Nat)(w:QM)(d:QP)(len:Nat)(ys:List Int):Prop where
 hlen:ys.length=len
 cell:∀i,i<len->∃x,d=some x/\w.cell? (x.add i)=some (.int .u8 (ys[i]?.getD 0))/\(x.add i).block<w.heap.size/\(x.add i).block≠Q/\¬e_ Q w (x.add i).block
theorem Dt.keep{w' d len ys}(h:Dt Q w d len ys)(a:Sf Q w w'):Dt Q w' d len ys:=by
 refine⟨h.hlen,λi j=>?_⟩;have⟨x,k,b,c,e,f⟩:=h.cell i j;refine⟨x,k,?_,FG c a.size,e,λl=>?_⟩;·unfold World.cell? at b⊢;rw[a.block _ c e f];exact b
 rcases a.pg _ l with g|g;·exact f g
 omega
theorem Sf.ofPut{a:QM}(l:Sx T Q n bud m w){c:Array QN}(f:w.heap[g]?=some (.cells c 5))(o:w.cell? (Qz Q (k*3+2))=some (Vl g 1024 1024))(h:w.grownBy a (some g)):Sf Q w a:=by
 have⟨s,i,_⟩:=l.row;have b:Q≠g:=by
  intro e;subst e;rw[i]at f;simp at f
 have p:a.heap[Q]?=w.heap[Q]?:=h.block Q (ag i) (by simpa using b);refine⟨h.os,h.tape,h.output,h.size,λx q _ r=>h.block x q (λe=>r ⟨k,by rw[o];simp at e;rw[e]⟩),λx⟨j,d⟩=>.inl ⟨j,?_⟩⟩;unfold World.cell? at d⊢;rw[p]at d;exact d
structure Sa(w:QM)(Q Rb A:Nat)(W:QM):Prop where
 at_:W.heap[A]?=some Qw
 res:W.heap[Rb]?=some Qw
 fr:Sf Q w W
 hA:A=w.heap.size+1
 hR:Rb=w.heap.size
theorem Sa.next{d:QM}(h:Sa w Q Rb A W)(f:Sx T Q n bud m W){c:Array QN}(a:W.heap[g]?=some (.cells c 5))(i:W.cell? (Qz Q (k*3+2))=some (Vl g 1024 1024))(b:W.grownBy d (some g)):Sa w Q Rb A d:=by
 have j:A≠g:=by intro e;subst e;rw[h.at_]at a;simp at a
 have l:Rb≠g:=by intro e;subst e;rw[h.res]at a;simp at a
 exact⟨(b.block A (ag h.at_) (by simpa using j)).trans h.at_,(b.block Rb (ag h.res) (by simpa using l)).trans h.res,h.fr.trans (Sf.ofPut f a i b),h.hA,h.hR⟩
theorem Sx.other{i:QM}(h:Sx T Q n bud m W)(w:W.grownBy i (some r))(x:∀c t f,W.heap[r]?=some (.cells c t f)->t≠177/\t≠179/\t≠5):Sx T Q n bud m i:=by
 have a:∀(g:Nat)(c:Array QN)(t:QO)(f:Nat×Nat),W.heap[g]?=some (.cells c t f)->(t=177\/t=179\/t=5)->i.heap[g]?=W.heap[g]?:=by
  intro g c t f b j;refine w.block g (ag b) ?_;intro e;simp at e;subst e;have⟨o,p,s⟩:=x c t f b;rcases j with e|e|e;·exact o e
  ·exact p e
  exact s e
 have⟨c,e,y,j,b⟩:=h.row;refine⟨(a _ _ _ _ h.box (.inl rfl)).trans h.box,⟨c,(a _ _ _ _ e (.inr (.inl rfl))).trans e,y,λk z=>?_,b⟩,h.out⟩;have d:=j k z;cases u:m k with
 |none=>rw[u]at d;exact d
 |some q=>
  have⟨l,xs⟩:=q;rw[u]at d;have⟨o,p,A,g,s,v⟩:=d;exact⟨o,p,A,g,s,(a _ _ _ _ v (.inr (.inr rfl))).trans v⟩
theorem Sf.newBlock(h:Sf Q w W)(l:w.heap.size<=r)(c:r≠Q)(a:Array QN):Sf Q w (W.setRow r a):=by
 have b:=aj W r a;refine⟨b.os.trans h.os,b.tape.trans h.tape,b.output.trans h.output,Fx h.size b.size,λg f i k=>?_,λg⟨j,d⟩=>h.pg g ⟨j,?_⟩⟩
 ·have e:r≠g:=Z;have:(W.setRow r a).heap[g]?=W.heap[g]?:=by simp[World.setRow,FD,e]
  rw[this];exact h.block g f i k
 have:(W.setRow r a).heap[Q]?=W.heap[Q]?:=by simp[World.setRow,FD,c]
 unfold World.cell? at d⊢;rw[this]at d;exact d
theorem Sa.done(h:Sa w Q Rb A W)(b:Q<w.heap.size)(a:Array QN):Sf Q w (W.setRow Rb a):=
 h.fr.newBlock (by have:=h.hR;omega) (by have:=h.hR;omega) a
theorem jn(T Q nn bud m)(a:Nat)(n)(z:Nat)(d ys w)(b:Sx T Q nn bud m w)(c:Dt Q w d n ys)(B:nn<=4096)(h2:n<=4096)(ha:a+n<18446744073709551616)(j:∀i,i<n->isOpen (m ((a+i)/1024))=true)(f:∀W,D w W->QA 133 #[J T 0,U a,I n] W λe u=>e=QJ (I 0)/\u=W):
  QA 80 #[J T 0,U a,.slice d n z] w λe u=>e=QJ (.agg #[I 0,C])/\Sx T Q nn bud (ay m a ys n) u/\Sf Q w u:=by
 have⟨N,F,O,P⟩:=Qf f b j c;go_enter func80,ntmps80;go_wp2_with fail;refine(N _ ((Fu _ _).alloc (Fv _) _)).mono ?_;rintro _ w1⟨rfl,rfl⟩;have b:D w ((w.alloc Qw).alloc Qw):=((Fu _ _).alloc (Fv _) _).alloc (by rw[aO];omega) _;have o:Hid (Sa w Q w.heap.size (w.heap.size+1) ((w.alloc Qw).alloc Qw)):=
  ⟨by rw[<-aO w];exact ao _ _,by rw[eg _ _ _ (by rw[aO];omega)];exact ao _ _,Sf.ofBelow b F.ltQ,rfl,rfl⟩
 have⟨G,R⟩:=y7 (F.below b) F.ltQ;go_wp2;generalize (w.alloc (Obj.cells #[Value.int IntKind.i64 0,C] 172)).alloc (Obj.cells #[Value.int IntKind.i64 0,C] 172)=W0 at o G⊢;generalize S:w.heap.size+1=A at o⊢;generalize V:w.heap.size=Rb at o⊢;go_loopw [8] (λi wr=>∃k:Nat,k<=n/\i=I k/\Hid (Sa w Q Rb A wr/\Sx T Q nn bud (ay m a ys k) wr)) (λi _=>n-(intOf i).toNat);case atStart=>exact⟨0,FH _,rfl,o,G⟩
 case round=>
  obtain⟨k,hk,rfl,b⟩:=hrel;have K:wr.cell? (Qz A 0)=some (I 0):=by simp[QC,b.1.at_]
  by_cases p:k<n
  ·obtain⟨x,rfl,X,_⟩:=(P.keep b.1.fr).cell k p;have j:isOpen (ay m a ys k ((a+k)/1024))=true:=(by rw[eO];exact O k p);cases v:ay m a ys k ((a+k)/1024)with
   |none=>rw[v]at j;cases j
   |some q=>
    have⟨l,xs⟩:=q;have Y:=H (ud T Q nn bud (ay m a ys k) (a+k) (ys[k]?.getD 0) wr b.2 B Z v);have HE:=H (show ay m a ys (k+1)=dT (ay m a ys k) ((a+k)/1024) (some (l,xs.set ((a+k)%1024) (ys[k]?.getD 0))) by simp only[ay,dZ,v];rfl);have m1:IntKind.u64.wrap (k:Int)=(k:Int):=(by rw[IntKind.wrap_u64];omega);have EC:=H (show(a:Int)+(k:Int)=((a+k:Nat):Int) by omega);generalize ys[k]?.getD 0=y at*;go_wp2_with fail;rw[EC];refine(Y).mono ?_;rintro e w2⟨rfl,r,g,c,L,s,t⟩;have M:=H (IT (b.1.next b.2 L s t) r);go_wp2;go_roundw;(case rel=>exact⟨k+1,Z,aY,M.1,by rw[HE];exact M.2⟩);case measure=>exact QE
  have j:k=n:=Z;subst j;go_wp2_with (first|(refine Gt rfl 172 _ rfl _ rfl _ _ _ _ b.1.at_ underlying172 rfl E ?_)|(refine eG b.1.res ?_));refine fM (aw b.1.res _) underlying172 ?_;exact⟨rfl,b.2.other (aj wr Rb _) (λc t f e=>by rw[b.1.res]at e;cases e;exact⟨ar,ar,ar⟩),b.1.done R _⟩
def ci(m:Nat->Option (Bool×List Int))(a:Nat)(n:Int):Int:=
 if n<0\/4096<n then 6 else if n=0 then 0 else if 4611686018427387904<=(a:Int)+(n-1)then 2 else jk (dE m a n.toNat)
theorem nR(T Q nn bud m)(a:Nat)(n w)(g:Sx T Q nn bud m w)(b:nn<=4096)(ha:a<18446744073709551616):
  QA 133 #[J T 0,U a,I n] w λe i=>e=QJ (I (ci m a n))/\i=w:=by
 unfold ci;by_cases c:n<0\/4096<n;·rw[GP c];exact kP T a n w c
 rw[GO c];by_cases d:n=0;·rw[GP d];subst d;exact mJ T a w
 rw[GO d];by_cases f:4611686018427387904<=(a:Int)+(n-1);·rw[GP f];exact nf T a n w Z Z Z Z f
 rw[GO f];obtain⟨k,rfl⟩:=Ha (show 0<=n by omega);exact lI T Q nn bud m a k w g b Z Z Z
theorem ku{m a}: ∀{n:Nat},dE m a n=true->∀i,i<n->isOpen (m ((a+i)/1024))=true
 |0,_,i,b=>by omega
 |n+1,h,i,b=>by
  simp only[dE,Gi]at h
  by_cases e:i=n
  ·subst e;exact h.2
  exact ku h.1 i Z
theorem ut{a n}(h:ci m a n=0):0<=n/\n<=4096/\(n=0\/(a:Int)+n<=4611686018427387904)/\∀i,i<n.toNat->isOpen (m ((a+i)/1024))=true:=by
 unfold ci at h;split at h;·omega
 split at h;·rename_i c b;subst b;exact⟨Z,Z,.inl rfl,λi d=>by simp at d⟩
 split at h;·omega
 rename_i c b e;refine⟨Z,Z,.inr Z,ku ?_⟩;unfold jk at h;split at h;·assumption
 omega
theorem oI(T a n)(c:Int)(w)(f:(c==0)=false)(h:∀W,D w W->QA 133 #[J T 0,U a,I n] W λe b=>e=QJ (I c)/\b=W):
  QA 79 #[J T 0,U a,I n] w λe b=>e=QJ (.agg #[I c,C])/\D w b:=by
 have d:=H h;by_cases g:0<n
 all_goals
  go_enter func79,ntmps79
  go_wp2_with fail
  refine(d _ ((Fu _ _).alloc (Fv _) _)).mono ?_
  rintro _ i⟨rfl,rfl⟩
  go_wp2_with fail
  refine Hc 1 ?_
  rw[Hu]
  go_wp2
  exact GX (v:=.agg #[I c,C]) (by simp[results,Tryz.results79,go_sem]) rfl ⟨rfl,((Fu _ w).alloc (Fv _) _).alloc bH _⟩
theorem nv(T a)(c:Int)(d:QP)(b f:Nat)(w)(j:(c==0)=false)(h:∀W,D w W->QA 133 #[J T 0,U a,I b] W λe g=>e=QJ (I c)/\g=W):
  QA 80 #[J T 0,U a,.slice d b f] w λe g=>e=QJ (.agg #[I c,C])/\D w g:=by
 have i:=H h;by_cases k:0<b
 all_goals
  go_enter func80,ntmps80
  go_wp2_with fail
  refine(i _ ((Fu _ _).alloc (Fv _) _)).mono ?_
  rintro _ l⟨rfl,rfl⟩
  go_wp2_with fail
  refine Hc 1 ?_
  rw[Hu]
  go_wp2
  exact GX (v:=.agg #[I c,C]) (by simp[results,Tryz.results80,go_sem]) rfl ⟨rfl,((Fu _ w).alloc (Fv _) _).alloc bH _⟩
theorem yY(T Q nn bud m)(a:Nat)(n w)(j:Sx T Q nn bud m w)(d:nn<=4096)(ha:a<18446744073709551616)(c:Int)(i:ci m a n=c):
  QA 79 #[J T 0,U a,I n] w λe f=>∃v,e=QJ (.agg #[I c,v])/\f.ownsRow w.heap.size 5 1 v (if c=0 then n.toNat else 0) (Ns .u8 (if c=0 then aH m a n.toNat else[]))/\D w f:=by
 have b:∀W,D w W->QA 133 #[J T 0,U a,I n] W λe f=>e=QJ (I c)/\f=W:=λW p=>by
  have:=nR T Q nn bud m a n W (j.below p) d ha;rw[i]at this;exact this
 by_cases g:c=0
 ·subst g;have⟨q,r,s,l⟩:=ut i;obtain⟨k,rfl⟩:=Ha q;simp only[IM,F0]at l⊢;rcases Nat.eq_zero_or_pos k with o|o;·subst o;exact kr T Q nn bud m a 0 w j d Z Z (λi i=>Z) b
  exact kr T Q nn bud m a k w j d Z Z l b
 refine(oI T a n c w (by simp[g]) b).mono ?_;rintro e f⟨rfl,l⟩;refine⟨_,rfl,?_,l⟩;rw[GO g,GO g];exact⟨rfl,.inl ⟨rfl,rfl⟩⟩
theorem qR(T Q nn bud m)(a:Nat)(len)(f:Nat)(d ys w)(j:Sx T Q nn bud m w)(n:Dt Q w d len ys)(g:nn<=4096)(ha:a<18446744073709551616)(c:Int)(i:ci m a (len:Int)=c):
  QA 80 #[J T 0,U a,.slice d len f] w λe k=>e=QJ (.agg #[I c,C])/\Sx T Q nn bud (if c=0 then ay m a ys len else m) k/\Sf Q w k:=by
 have b:∀W,D w W->QA 133 #[J T 0,U a,I len] W λe k=>e=QJ (I c)/\k=W:=λW q=>by
  have:=nR T Q nn bud m a len W (j.below q) g ha;rw[i]at this;exact this
 by_cases l:c=0
 ·subst l;have⟨r,s,t,o⟩:=ut i;simp only[IM,F0]at o⊢;rcases Nat.eq_zero_or_pos len with p|p;·subst p;exact jn T Q nn bud m a 0 f d ys w j n g Z Z (λi i=>Z) b
  exact jn T Q nn bud m a len f d ys w j n g Z Z o b
 refine(nv T a c d len f w (by simp[l]) b).mono ?_;rintro e k⟨rfl,o⟩;rw[GO l];exact⟨rfl,j.below o,Sf.ofBelow o j.ltQ⟩
end
section
variable {W W' w:World}{M S g:Nat}{bud c n p s t:Int}{f:Nat->Option Nat}{m:Nat->Option (Bool×List Int)}
def kf(k p c:Int)(a:Nat)(n:Int)(d:Option Addr)(dl dc:Nat):Value:=.agg #[I k,I p,I c,U a,I n,.slice d dl dc]
theorem zp{a:Nat}{v:QN}{k:Nat}{b:List QN}(h:W.ownsRow a 5 1 v k b)(c:Int):(#[Value.int IntKind.i64 c,v].all λx=>x.oneCell')=true:=by
 rcases h.2 with⟨rfl,_⟩|⟨g,d,e,rfl,_⟩<;>simp[Value.oneCell']
theorem Im.lt{S M st n bud f w}(h:Im S M st n bud f w):S<w.heap.size/\M<w.heap.size:=by
 have⟨a,b,c⟩:=h.map;exact⟨ag h.box,b.lt⟩
theorem Im.setRow{S M st n bud f w}(h:Im S M st n bud f w){r:Nat}(d:r≠S)(e:r≠M)(b:Array QN):Im S M st n bud f (w.setRow r b):=by
 have c:=aj w r b;have⟨a,g,i⟩:=h.map;exact⟨(c.block S (ag h.box) (by simpa using Iq d)).trans h.box,a,g.kept c (by simpa using Iq e),i⟩
theorem Im.apartT{st}(h:Im S M st n bud f W)(j:Pg f m W){c:Array QN}{t:QO}{o:Nat×Nat}(d:W.heap[g]?=some (.cells c t o))(p:t≠256)(q:t≠288):g≠S/\g≠M/\∀k,f k≠some g:=by
 refine⟨?_,?_,λk e=>?_⟩;·rintro rfl;have:=h.box;rw[d]at this;simp at this;exact p this.2.1
 ·rintro rfl;obtain⟨a,⟨l,b,i,_⟩,_⟩:=h.map;rw[d]at i;cases i
 rcases j.at' k with⟨e1,_⟩|⟨b,l,i,e1,_,_,a⟩;·rw[e]at e1;cases e1
 rw[e]at e1;cases e1;rw[d]at a;simp at a;exact q a.2.1
theorem Pg.other(h:Pg f m W)(a:∀k b,f k=some b->W'.heap[b]?=W.heap[b]?):Pg f m W':=
 ⟨λk=>(h.at' k).imp id λ⟨b,l,c,e1,d,e,g⟩=>⟨b,l,c,e1,d,e,(a k b e1).trans g⟩,h.inj⟩
structure Dl(w:QM)(op:Array QN)(S M:Nat)(nn bud:Int)(f f':Nat->Option Nat)(m:Nat->Option (Bool×List Int))(O Rb:Nat)(V:QM):Prop where
 im:Im S M 1 nn bud f' V
 pg:Pg f' m V
 fr:Fr S M f f' w V
 o:V.heap[O]?=some (.cells op 284)
 r:V.heap[Rb]?=some Qw
 hO:O=w.heap.size
 hR:Rb=w.heap.size+1
theorem Dl.first(h:Im S M 0 n bud f w)(i:Pg f m w)(op):Dl w op S M n bud f f m w.heap.size (w.heap.size+1) (((w.alloc (.cells op 284)).alloc Qw).setCell (Qz S 0) (.int .i32 1)):=by
 have o:=h.lt;have c:=(h.alloc (.cells op 284)).alloc Qw;have d:=(i.alloc (.cells op 284)).alloc Qw;refine⟨c.st 1,d.other (λk b a=>GQ _ _ _ _ (d.apart c a).1),?_,?_,?_,rfl,rfl⟩;·have a:D w ((w.alloc (.cells op 284)).alloc Qw):=((Fu _ _).alloc (Fv _) _).alloc (by rw[aO];omega) _;have b:=au (al ((w.alloc (.cells op 284)).alloc Qw) S) 0 (.int .i32 1);exact⟨b.os.trans a.os,b.tape.trans a.tape,b.output.trans a.output,Fx a.size b.size,λg e j p q=>(b.block g (FG e a.size) (by simpa using j)).trans (a.block g e),λk g l=>.inl ⟨k,l⟩⟩
 ·rw[GQ _ _ _ _ (by show w.heap.size≠S;omega),eg _ _ _ (by rw[aO];omega)];exact ao _ _
 rw[GQ _ _ _ _ (by show w.heap.size+1≠S;omega),<-aO w (.cells op 284)];exact ao _ _
theorem Dl.move{O Rb f' f'' m' V V' op}(h:Dl w op S M n bud f f' m O Rb V)(b:Im S M 1 n bud f'' V')(c:Pg f'' m' V')(a:Fr S M f' f'' V V'):Dl w op S M n bud f f'' m' O Rb V':=by
 have⟨d,e,g⟩:=h.im.apartT h.pg h.o ar ar;have⟨i,j,k⟩:=h.im.apartT h.pg h.r ar ar;exact⟨b,c,h.fr.trans a,(a.block O (ag h.o) d e g).trans h.o,(a.block Rb (ag h.r) i j k).trans h.r,h.hO,h.hR⟩
def tg(S M:Nat)(n bud:Int)(f:Nat->Option Nat)(m:Nat->Option (Bool×List Int))(w w':World):Prop:=∃e,Im S M 0 n bud e w'/\Pg e m w'/\Fr S M f e w w'
theorem Dl.done{O Rb f' V op}(h:Dl w op S M n bud f f' m O Rb V)(a:Array QN):(V.setRow Rb a).cell? (Qz S 0)=some (.int .i32 1)/\(V.setRow Rb a).frozen? (Qz S 0)=false/\((V.setRow Rb a).setCell (Qz S 0) (.int .i32 0)).heap[Rb]?=some (.cells a 172)/\tg S M n bud f m w ((V.setRow Rb a).setCell (Qz S 0) (.int .i32 0)):=by
 have⟨o,q,r⟩:=h.im.apartT h.pg h.r ar ar;have i:=h.im.setRow o q a;have c:=aj V Rb a;have p:Pg f' m (V.setRow Rb a):=h.pg.other (λk b d=>c.block b (by
  rcases h.pg.at' k with⟨e1,_⟩|⟨j,l,s,e1,_,_,e⟩;·rw[d]at e1;cases e1
  rw[d]at e1;cases e1;exact ag e) (λe=>by cases e;exact r k d))
 have e:=au (al (V.setRow Rb a) S) 0 (.int .i32 0);refine⟨by simp[QC,i.box],by simp[QD,i.box],?_,f',i.st 0,p.other (λk b d=>GQ _ _ _ _ (p.apart i d).1),?_⟩;·rw[GQ _ _ _ _ o];exact aw h.r a
 have u:=h.hR;exact⟨e.os.trans (c.os.trans h.fr.os),e.tape.trans (c.tape.trans h.fr.tape),e.output.trans (c.output.trans h.fr.output),Fx h.fr.size (Fx c.size e.size),λg j l s t=>(e.block g (FG j (Fx h.fr.size c.size)) (by simpa using l)).trans ((c.block g (FG j h.fr.size) bG).trans (h.fr.block g j l s t)),h.fr.made⟩
theorem wH(S M nn bud f m)(b:Int)(p c a n d dl dc w)(h:Im S M 0 nn bud f w)(g:Pg f m w)(k:b<0\/5<b):
  QA 221 #[J S 0,kf b p c a n d dl dc] w λe l=>e=QJ (.agg #[I 6,C])/\tg S M nn bud f m w l:=by
 have o:¬b=0:=Z;have q:¬b=1:=Z;have r:¬b=2:=Z;have s:¬b=3:=Z;have t:¬b=4:=Z;have u:¬b=5:=Z;have⟨i,j⟩:=y7 h g;clear h k g;unfold kf;go_enter_defers func221,ntmps221;go_wp2_with fail;refine(fX ((i.alloc _).alloc _)).mono ?_;rintro e V⟨rfl,k⟩;have g:=H (Dl.first i j #[I b,I p,I c,U a,I n,.slice d dl dc]);rw[<-k]at g;clear k;generalize j:w.heap.size+1=v at g⊢;generalize w.heap.size=O at g⊢;have x:V.cell? (Qz O 0)=some (I b):=by simp[QC,g.o]
 go_wp2_with (refine eG g.r ?_);have i:=g.done #[I 6,C];refine Iy (f:=167) (args:=#[J S 0]) bH (by simp[go_sem]) ?_;refine(Go.MuLone.unlock_deferred jw (Qz S 0) .returning _ i.1 i.2.1).mono ?_;rintro e y k⟨rfl,rfl,rfl⟩;exact⟨_,AV i.2.2.1 underlying172,rfl,i.2.2.2⟩
theorem lL(S M nn bud f m m' code p c a n d dl dc w)(h:Im S M 0 nn bud f w)(b:Pg f m w)(k:∀V,Im S M 1 nn bud f V->Pg f m V->QA 243 #[J S 0,I p,I c] V λe g=>e=QJ (I code)/\∃i,Im S M 1 nn bud i g/\Pg i m' g/\Fr S M f i V g):
  QA 221 #[J S 0,kf 0 p c a n d dl dc] w λe g=>e=QJ (.agg #[I code,C])/\tg S M nn bud f m' w g:=by
 have⟨j,l,o⟩:=Qe h b k;clear h b k;unfold kf;go_enter_defers func221,ntmps221;go_wp2_with fail;refine(fX ((j.alloc _).alloc _)).mono ?_;rintro e V⟨rfl,q⟩;have b:=H (Dl.first j l #[I 0,I p,I c,U a,I n,.slice d dl dc]);rw[<-q]at b;clear q;generalize s:w.heap.size+1=x at b⊢;generalize w.heap.size=O at b⊢;have t:V.cell? (Qz O 0)=some (I 0):=by simp[QC,b.o]
 have u:V.cell? (Qz O 1)=some (I p):=by simp[QC,b.o]
 have v:V.cell? (Qz O 2)=some (I c):=by simp[QC,b.o]
 go_wp2_with fail;refine(o V b.im b.pg).mono ?_;rintro e y⟨rfl,i,j,l,q⟩;have r:=H (b.move j l q);clear j l q t u v;go_wp2_with (refine eG r.r ?_);have b:=r.done #[I code,C];refine Iy (f:=167) (args:=#[J S 0]) bH (by simp[go_sem]) ?_;refine(Go.MuLone.unlock_deferred jw (Qz S 0) .returning _ b.1 b.2.1).mono ?_;rintro e l j⟨rfl,rfl,rfl⟩;exact⟨_,AV b.2.2.1 underlying172,rfl,b.2.2.2⟩
theorem jz(S M nn bud f m m' code p c a n d dl dc w)(h:Im S M 0 nn bud f w)(b:Pg f m w)(k:∀V,Im S M 1 nn bud f V->Pg f m V->QA 244 #[J S 0,I p,I c] V λe g=>e=QJ (I code)/\∃i,Im S M 1 nn bud i g/\Pg i m' g/\Fr S M f i V g):
  QA 221 #[J S 0,kf 1 p c a n d dl dc] w λe g=>e=QJ (.agg #[I code,C])/\tg S M nn bud f m' w g:=by
 have⟨j,l,o⟩:=Qe h b k;clear h b k;unfold kf;go_enter_defers func221,ntmps221;go_wp2_with fail;refine(fX ((j.alloc _).alloc _)).mono ?_;rintro e V⟨rfl,q⟩;have b:=H (Dl.first j l #[I 1,I p,I c,U a,I n,.slice d dl dc]);rw[<-q]at b;clear q;generalize s:w.heap.size+1=x at b⊢;generalize w.heap.size=O at b⊢;have t:V.cell? (Qz O 0)=some (I 1):=by simp[QC,b.o]
 have u:V.cell? (Qz O 1)=some (I p):=by simp[QC,b.o]
 have v:V.cell? (Qz O 2)=some (I c):=by simp[QC,b.o]
 go_wp2_with fail;refine(o V b.im b.pg).mono ?_;rintro e y⟨rfl,i,j,l,q⟩;have r:=H (b.move j l q);clear j l q t u v;go_wp2_with (refine eG r.r ?_);have b:=r.done #[I code,C];refine Iy (f:=167) (args:=#[J S 0]) bH (by simp[go_sem]) ?_;refine(Go.MuLone.unlock_deferred jw (Qz S 0) .returning _ b.1 b.2.1).mono ?_;rintro e l j⟨rfl,rfl,rfl⟩;exact⟨_,AV b.2.2.1 underlying172,rfl,b.2.2.2⟩
theorem ri(S M nn bud f m m' code p c a n d dl dc w)(h:Im S M 0 nn bud f w)(b:Pg f m w)(k:∀V,Im S M 1 nn bud f V->Pg f m V->QA 245 #[J S 0,I p,I c,.bool true] V λe g=>e=QJ (I code)/\∃i,Im S M 1 nn bud i g/\Pg i m' g/\Fr S M f i V g):
  QA 221 #[J S 0,kf 2 p c a n d dl dc] w λe g=>e=QJ (.agg #[I code,C])/\tg S M nn bud f m' w g:=by
 have⟨j,l,o⟩:=Qe h b k;clear h b k;unfold kf;go_enter_defers func221,ntmps221;go_wp2_with fail;refine(fX ((j.alloc _).alloc _)).mono ?_;rintro e V⟨rfl,q⟩;have b:=H (Dl.first j l #[I 2,I p,I c,U a,I n,.slice d dl dc]);rw[<-q]at b;clear q;generalize s:w.heap.size+1=x at b⊢;generalize w.heap.size=O at b⊢;have t:V.cell? (Qz O 0)=some (I 2):=by simp[QC,b.o]
 have u:V.cell? (Qz O 1)=some (I p):=by simp[QC,b.o]
 have v:V.cell? (Qz O 2)=some (I c):=by simp[QC,b.o]
 go_wp2_with fail;refine(o V b.im b.pg).mono ?_;rintro e y⟨rfl,i,j,l,q⟩;have r:=H (b.move j l q);clear j l q t u v;go_wp2_with (refine eG r.r ?_);have b:=r.done #[I code,C];refine Iy (f:=167) (args:=#[J S 0]) bH (by simp[go_sem]) ?_;refine(Go.MuLone.unlock_deferred jw (Qz S 0) .returning _ b.1 b.2.1).mono ?_;rintro e l j⟨rfl,rfl,rfl⟩;exact⟨_,AV b.2.2.1 underlying172,rfl,b.2.2.2⟩
theorem my(S M nn bud f m m' code p c a n d dl dc w)(h:Im S M 0 nn bud f w)(b:Pg f m w)(k:∀V,Im S M 1 nn bud f V->Pg f m V->QA 245 #[J S 0,I p,I c,.bool false] V λe g=>e=QJ (I code)/\∃i,Im S M 1 nn bud i g/\Pg i m' g/\Fr S M f i V g):
  QA 221 #[J S 0,kf 3 p c a n d dl dc] w λe g=>e=QJ (.agg #[I code,C])/\tg S M nn bud f m' w g:=by
 have⟨j,l,o⟩:=Qe h b k;clear h b k;unfold kf;go_enter_defers func221,ntmps221;go_wp2_with fail;refine(fX ((j.alloc _).alloc _)).mono ?_;rintro e V⟨rfl,q⟩;have b:=H (Dl.first j l #[I 3,I p,I c,U a,I n,.slice d dl dc]);rw[<-q]at b;clear q;generalize s:w.heap.size+1=x at b⊢;generalize w.heap.size=O at b⊢;have t:V.cell? (Qz O 0)=some (I 3):=by simp[QC,b.o]
 have u:V.cell? (Qz O 1)=some (I p):=by simp[QC,b.o]
 have v:V.cell? (Qz O 2)=some (I c):=by simp[QC,b.o]
 go_wp2_with fail;refine(o V b.im b.pg).mono ?_;rintro e y⟨rfl,i,j,l,q⟩;have r:=H (b.move j l q);clear j l q t u v;go_wp2_with (refine eG r.r ?_);have b:=r.done #[I code,C];refine Iy (f:=167) (args:=#[J S 0]) bH (by simp[go_sem]) ?_;refine(Go.MuLone.unlock_deferred jw (Qz S 0) .returning _ b.1 b.2.1).mono ?_;rintro e l j⟨rfl,rfl,rfl⟩;exact⟨_,AV b.2.2.1 underlying172,rfl,b.2.2.2⟩
theorem Tryz.info92:(prog.info? 179).map (λi=>(i.zero,i.size,i.bytes))=some (some (.agg #[.bool false,.bool false,C]),3,32):=E
theorem lj(z:Array QN)(n i:Nat)(a:i<n):(madeCells z n)[i]?=some (z[i%z.size]!):=by
 simp[madeCells,a]
theorem Sx.made(w:QM)(n bud):Sx (w.heap.size+1) w.heap.size n bud (λ_=>none) ((w.alloc (.cells (madeCells #[.bool false,.bool false,C] (n*3)) 179)).alloc (.cells #[Vl w.heap.size n n,I bud] 177)):=by
 refine⟨by rw[<-aO w (.cells (madeCells #[.bool false,.bool false,C] (n*3)) 179)];exact ao _ _,⟨_,by rw[eg _ _ _ (by rw[aO];omega)];exact ao _ _,size_madeCells _ _,λk d=>?_,λj k g e d b _=>?_⟩,λ_ _=>rfl⟩
 ·have e0:k*3%3=0:=Z;have e1:(k*3+1)%3=1:=Z;have a:(k*3+2)%3=2:=Z;refine⟨?_,?_,?_⟩;·rw[lj _ _ _ Z];show some ((#[Value.bool false,.bool false,C]:Array QN)[k*3%3]!)=_;rw[e0];rfl
  ·rw[lj _ _ _ Z];show some ((#[Value.bool false,.bool false,C]:Array QN)[(k*3+1)%3]!)=_;rw[e1];rfl
  rw[lj _ _ _ Z];show some ((#[Value.bool false,.bool false,C]:Array QN)[(k*3+2)%3]!)=_;rw[a];rfl
 have a:(j*3+2)%3=2:=Z;rw[lj _ _ _ Z]at b;have c:some ((#[Value.bool false,.bool false,C]:Array QN)[(j*3+2)%3]!)=some (Value.slice (some (Qz g 0)) 1024 1024):=b;rw[a]at c;cases c
theorem Ce(n:Nat)(bud)(w:QM)(l:n<=4096):
  QA 68 #[I n,I bud] w λe d=>∃T Q,e=QJ (J T 0)/\Sx T Q n bud (λ_=>none) d/\D w d/\w.heap.size<=T/\w.heap.size<=Q:=by
 have⟨f,g,a,b,c⟩:=G0 Tryz.info92;have i:(Instr.makeSlice 175 (I n) (I n)).run prog w=.ok (Vl w.heap.size n n) (w.alloc (.cells (madeCells #[.bool false,.bool false,C] (n*3)) 179)):=by
  have:=run_make (P:=prog) w 175 179 f _ underlying175 g a .i64 .i64 n n Z (Int.le_refl _) (by rw[c];omega) Z;rw[b]at this;simpa[Value.cells]using this
 have j:=H (Sx.made w n bud);have k:Hid (D w ((w.alloc (.cells (madeCells #[.bool false,.bool false,C] (n*3)) 179)).alloc (.cells #[Vl w.heap.size n n,I bud] 177))):=H (((Fu _ _).alloc (Fv _) _).alloc (by rw[aO];omega) _);generalize madeCells #[.bool false,.bool false,C] (n*3)=m at*;go_enter func68,ntmps68;go_wp2;go_ret;exact⟨_,_,rfl,j,k,Z,Z⟩
attribute [local go_sem] Oper.semAt_some
def Da(S M:Nat)(f:Nat->Option Nat)(w:World)(p:Option Addr)(n:Nat)(ys:List Int):Prop:=
 ys.length=n/\∀i,i<n->∃x,p=some x/\w.cell? (x.add i)=some (.int .u8 (ys[i]?.getD 0))/\(x.add i).block<w.heap.size/\(x.add i).block≠S/\(x.add i).block≠M/\∀k,f k≠some (x.add i).block
theorem Da.cell{S M f f' w W p n ys}(h:Da S M f w p n ys)(a:Fr S M f f' w W):∀i,i<n->∃x,p=some x/\W.cell? (x.add i)=some (.int .u8 (ys[i]?.getD 0)):=by
 intro i b;have⟨x,e,c,l,d,g,j⟩:=h.2 i b;refine⟨x,e,?_⟩;unfold World.cell? at c⊢;rw[a.block _ l d g j];exact c
structure Sd(S M:Nat)(st nn bud:Int)(f:Nat->Option Nat)(mm:Nat->Option (Bool×List Int))(w:QM)(DB:Nat)(p:QP)(n cap c:Nat)(W:QM):Prop where
 im:Im S M st nn bud f W
 pg:Pg f mm W
 fr:Fr S M f f w W
 box:∃pd,W.heap[DB]?=some (.cells #[.slice pd (n-c) (cap-c)] 22)/\(c<n->∃x,p=some x/\pd=some (x.add c))
 mlt:M<w.heap.size
 dge:w.heap.size<=DB
theorem sM(w:QM)(n o:QP)(a c b d g f:Nat)(i:List QN)(t:QO)(p:w.heap[g]?=some (.cells i.toArray t))(e:List QN)(q:e.length=Nat.min b a)
  (k:0<e.length->n=some (Qz g f)/\∃m,o=some m/\∀j v,e[j]?=some v->w.cell? (m.add j)=some v)
  (j:f+e.length<=i.length) (r:∀v∈e,v.oneCell'=true):
  ∃l,(Builtin.copy_ #[22,22] 3 #[.slice n a c,.slice o b d]).run prog w=.ok (I e.length) l/\l.heap[g]?=some (.cells (splice i f e).toArray t)/\w.grownBy l (some g):=by
 by_cases s:e.length=0;·obtain rfl:e=[]:=Ik s;refine⟨w,run_copy_none (P:=prog) w 22 22 3 5 n o a c b d underlying22 E (by simpa using q.symm),by simpa[splice]using p,al w g⟩
 obtain⟨rfl,m,rfl,l⟩:=k Z;refine⟨_,run_copy_row (P:=prog) w 22 22 3 5 g f a c m b d i.toArray t e underlying22 E p q l (by simpa using j) r,?_,aj w g _⟩;simpa[splice]using setRow_heap w g _ _ t _ p
theorem xD(c:QP)(l a b:Nat)(f:l<=a)(g:a<=b):∃d,(∀w:QM,(Instr.slice 22 (.slice c a b) (some (I l)) none none).run prog w=.ok (.slice d (a-l) (b-l)) w)/\(l<a->d=c.map λx=>x.add l):=by
 have d:prog.elem 22=5:=E;have h:=λw=>run_slice_l (P:=prog) w 22 c a b (by rw[d];exact underlying22) .i64 (l:Int) Z Z
 have e:∀w:QM,(sizeOf (prog.elem 22)).run prog w=.ok 1 w:=λw=>E
 refine⟨if b=l then c else c.map λx=>x.add l,λw=>?_,λh=>?_⟩;·rw[h w,e];simp[sliced,Result.andThen]
 rw[GO Z]
theorem Pg.lay{mm}(h:Pg f mm W){k:Nat}(c:f k=some g){l}{xs:List Int}(m:xs.length=1024)(n:W'.heap[g]?=some (.cells (eh l xs) 288))(o:W.grownBy W' (some g)):Pg f (dT mm k (some (l,xs))) W':=by
 refine⟨?_,h.inj⟩;intro j;by_cases e:j=k;·subst e;exact .inr ⟨g,l,xs,c,bV _ _ _,m,n⟩
 rw[aW mm k j _ e];rcases h.at' j with a|⟨d,l2,b,a,p,q,i⟩;·exact .inl a
 refine .inr ⟨d,l2,b,a,p,q,?_⟩;rw[o.block d (G_ i) (λb=>by cases b;exact e (h.inj j k _ a c))];exact i
theorem Im.grownAt{st}(h:Im S M st n bud f W)(e:W.grownBy W' (some g))(i:g≠S)(j:g≠M):Im S M st n bud f W':=by
 obtain⟨a,⟨k,b,c,l⟩,r⟩:=h.map;refine⟨by rw[e.block S (G_ h.box) (by simpa using i.symm)];exact h.box,a,⟨k,b,?_,l⟩,r⟩;have d:M<W.heap.size:=by
  by_cases m:M<W.heap.size;·exact m
  rw[Hd Z]at c;cases c
 rw[e.block M d (by simpa using j.symm)];exact c
theorem Fr.grownAt(h:Fr S M f f w W)(a:W.grownBy W' (some g))(b:(∃k,f k=some g)\/w.heap.size<=g):Fr S M f f w W':=
 ⟨a.os.trans h.os,a.tape.trans h.tape,a.output.trans h.output,Fx h.size a.size,λj c i l d=>by
  rw[a.block j (FG c h.size) (λe=>by
   cases e
   rcases b with⟨k,b⟩|b
   ·exact d k b
   omega)]
  exact h.block j c i l d,h.made⟩
theorem sx(G r n o k:Nat)(ps:List Int)(x d:Int)(w:QM)(a:w.heap[G]?=some (.cells #[Vl r n n,I o,I n] 261))(c:RowV w r 3 (Ns .i64 ps))(j:ps.length=n)(m:o<n)(p:n<=1024)(l:(o+1)%n=k):
  QA 342 #[J G 0,I x,I d] w λe f=>e=QJ (I (ps[o]?.getD 0))/\f.heap[G]?=some (.cells #[Vl r n n,I k,I n] 261)/\RowV f r 3 (Ns .i64 (ps.set o x))/\But (λk=>k=G\/k=r) w f:=by
 have b:G≠r:=c.ne a ar;have g:w.cell? (Qz G 0)=some (Vl r n n):=bJ a;have i:w.cell? (Qz G 1)=some (I o):=bJ a;have q:w.cell? (Qz G 2)=some (I n):=bJ a;have⟨s,t⟩:=y7 (lu G r n n o 0 o ps x w.drew (by rw[GK,H4 m]) j Z Z Z Z g i c) a;have z:((n:Int)==0)=false:=bG;have u:((o:Int)+1)%(n:Int)=(k:Int):=by rw[<-l];simp
 clear a c j l;go_enter func342,ntmps342;go_wp2;go_region;go_wp2_with fail;refine(s).mono ?_;rintro e c⟨rfl,l,j⟩;have⟨a,v,y⟩:=Qe (eK (k:=G) j t b) l j;clear l j g i q;have g:c.cell? (Qz G 0)=some (Vl r n n):=bJ a;have i:c.cell? (Qz G 1)=some (I o):=bJ a;have f1:c.frozen? (Qz G 1)=false:=GY _ _ _ _ _ a;go_wp2;go_region;rw[u];go_wp2;go_ret;refine⟨rfl,?_,?_,?_⟩;·show(c.setCell (Qz G 1) _).heap[G]?=_;rw[Ic _ _ _ _ _ _ a];rfl
 ·exact(v.other (by simpa using b.symm) _).drew
 exact(((But.refl _ w).drew.trans (.ofGrown y (.inr rfl))).set _ _ _ (.inl rfl)).drew
theorem pW(ps:List Int)(o:Nat)(x:Int)(h:o<ps.length):(ps.set o x).drop (o+1)=ps.drop (o+1):=by
 rw[List.drop_set_of_lt Z]
theorem gh(ps:List Int)(o:Nat)(x:Int)(h:o<ps.length):(ps.set o x).take (o+1)=ps.take o++[x]:=by
 rw[F_,List.take_set_of_le (Fv _)];simp[h]
theorem AF(G r n xs x d w)(h:Qu w G r n xs)(a:n<=1024):
  QA 342 #[J G 0,I x,I d] w λe j=>e=QJ (I (cu n xs x).2)/\Qu j G r n (cu n xs x).1/\But (λk=>k=G\/k=r) w j:=by
 obtain⟨ps,o,h,q,s,k,t,z,u,rfl⟩:=h;by_cases g:h<n
 ·obtain rfl:=u g;refine(tm G r n h ps x d w q s k g a).mono ?_;rintro e j⟨rfl,b,c,f⟩;have e1:(ps.drop 0++ps.take 0).take h=ps.take h:=bH;have m:cu n (ps.take h) x=(ps.take h++[x],-1):=by
   unfold cu;rw[GP bG]
  rw[e1,m];refine⟨rfl,⟨ps.set h x,0,h+1,b,c,by simpa using k,t,Z,λ_=>rfl,?_⟩,f⟩;simp only[IE,List.take_zero,Gl];rw[gh _ _ _ Z]
 have p:h=n:=Z;subst p;refine(sx G r h o _ ps x d w q s k t a rfl).mono ?_;rintro e j⟨rfl,b,c,f⟩;have v:ps.drop o=(ps[o]?.getD 0)::ps.drop (o+1):=by
  rw[List.drop_eq_getElem_cons Z];congr 1;rw[Fy Z];rfl
 have e1:(ps.drop o++ps.take o).take h=ps.drop o++ps.take o:=Ge bG;have m:cu h (ps.drop o++ps.take o) x=(ps.drop (o+1)++ps.take o++[x],ps[o]?.getD 0):=by
  unfold cu;rw[GO bG,v];rfl
 rw[e1,m];refine⟨rfl,⟨ps.set o x,_,h,b,c,by simpa using k,Nat.mod_lt _ Z,Z,λh=>Z,?_⟩,f⟩;by_cases y:o+1<h;·rw[H4 y,pW _ _ _ Z,gh _ _ _ Z,Ge (l:=ps.drop (o+1)++(ps.take o++[x])) bG,GJ]
 have i:o+1=h:=Z;rw[i,Nat.mod_self];simp only[IE,List.take_zero,Gl];rw[List.drop_of_length_le Z,FV,<-i,gh _ _ _ Z]
def ed(n:Nat)(mix fifo:List Int)(slot draw:Int):List Int×List Int×Int:=
 if mix=[]then([],(cu n fifo slot).1,(cu n fifo slot).2)
 else if mix[md draw mix.length]?.getD 0 = -1 then(mix.set (md draw mix.length) slot,fifo,-1)
 else(mix.set (md draw mix.length) slot,(cu n fifo (mix[md draw mix.length]?.getD 0)).1,(cu n fifo (mix[md draw mix.length]?.getD 0)).2)
structure Hit(p c s:Int):Prop where
 c0:0<=c
 c1:c<12
 s0:0<=s
 s1:s<6
 lo:rs c+s*(pg c+1)<=p
 hi:p<=rs c+s*(pg c+1)+pg c
theorem ru(k:Nat)(h:k<12):fp (k+1)=fp k+6*(pg k+1):=by
 simp only[fp];rw[ub ⟨Z,Z⟩]
theorem pR(a:Nat):∀d,fp a<=fp (a+d)
 |0=>Int.le_refl _
 |d+1=>by
  have b:=pR a d
  have c:=tM ((a+d:Nat):Int)
  have e:fp (a+(d+1))=fp (a+d)+rp ((a+d:Nat):Int):=rfl
  omega
theorem Hit.c_le{c' s'}(h:Hit p c s)(d:Hit p c' s'):c<=c':=by
 apply Int.not_lt.1;intro f;obtain⟨a,rfl⟩:=Ha h.c0;obtain⟨b,rfl⟩:=Ha d.c0;have e1:rs (a:Int)=fp a:=by rw[kB ⟨h.c0,h.c1⟩];rfl
 have g:rs (b:Int)=fp b:=by rw[kB ⟨d.c0,d.c1⟩];rfl
 have i:=pR (b+1) (a-(b+1));have j:b+1+(a-(b+1))=a:=Z;rw[j,ru b (by have:=d.c1;omega)]at i;have k:=h.lo;have l:=d.hi;rw[e1]at k;rw[g]at l;have o:=fy (c:=(b:Int)) ⟨d.c0,d.c1⟩;have m:=fy (c:=(a:Int)) ⟨h.c0,h.c1⟩;have n:=d.s1;have e:=h.s0;generalize pg (b:Int)=x at*;generalize pg (a:Int)=y at*;have q:0<=s*(y+1):=Int.mul_nonneg e Z;have r:s'*(x+1)<=5*(x+1):=Int.mul_le_mul_of_nonneg_right Z Z;omega
theorem Hit.one{c' s'}(h:Hit p c s)(a:Hit p c' s'):c=c'/\s=s':=by
 have e:c=c':=Int.le_antisymm (h.c_le a) (a.c_le h);subst e;refine⟨rfl,?_⟩;have i:=fy (c:=c) ⟨h.c0,h.c1⟩;have b:=h.lo;have d:=h.hi;have f:=a.lo;have g:=a.hi;have:pg c=1\/pg c=2\/pg c=3\/pg c=4:=Z;rcases this with e|e|e|e<;>rw[e]at b d f g<;>omega
inductive Dec:Int->Value->Prop
 |out (a:Int) (h:289792<=a):Dec a (pl 0 0 0 0 0 0)
 |large (a:Int) (h0:191488<=a) (h1:a<289792):Dec a (pl 4 0 0 0 (a/1024-187) (a%1024))
 |zero (a:Int) (h0:0<=a) (h1:a<1024):Dec a (pl 1 0 0 0 0 0)
 |slab (a c s:Int) (h0:1024<=a) (h1:a<191488) (h:Hit (a/1024) c s):Dec a (zT c s (a-(rs c+s*(pg c+1))*1024))
theorem Dec.one{a:Int}{v b:QN}(h:Dec a v)(d:Dec a b):v=b:=by
 cases h<;>cases d<;>first|rfl|omega|skip
 rename_i c s g i e j k l m f;obtain⟨rfl,rfl⟩:=e.one f;rfl
theorem zr{v:QM}{a:Array QN}{t:QO}(h:v.heap[g]?=some (.cells a t))(b:Array QN):(v.setRow g b).heap[g]?=some (.cells b t):=by
 simp[World.setRow,FD,h]
theorem zk(c s o):∃a:Array QN,zT c s o=.agg a/\a.size=6/\a.all (·.oneCell')=true:=by
 unfold zT;split;·exact⟨_,rfl,rfl,mL⟩
 split;·exact⟨_,rfl,rfl,mL⟩
 exact⟨_,rfl,rfl,mL⟩
theorem iB(a:Int)(x:0<=a)(T:a<=18446744073709551615)(w)(b:Tb w):
  QA 220 #[U a] w λe V=>(∃v,Dec a v/\e=QJ v)/\D w V:=by
 have d:=hidR (Rt.first w);have f:=hidR (b.below d.bel);have M:=hidR eH;have N:=hidR eW;have O:=hidR jH;unfold z6 at*;go_enter func220,ntmps220;go_wp2_with fail;generalize w.alloc (Obj.cells #[Value.int IntKind.i64 0,Value.int IntKind.i64 0,Value.int IntKind.i64 0,Value.int IntKind.i64 0,Value.int IntKind.i64 0,Value.int IntKind.i64 0] 322)=v at d f⊢;generalize w.heap.size=g at d⊢;refine(M _ f).mono ?_;rintro e w2⟨rfl,i⟩;have b:=hidR (d.below i);have j:=hidR (f.below i);by_cases W:289792<=a;·have y:=hidR b.done;have z:=hidR b.row;have B:=hidR b.blk;go_wp2_with (refine Gf rfl 322 _ _ rfl g _ rfl rfl 322 z6 B E rfl mL ?_);refine fM (z _) underlying322 ?_;exact⟨⟨_,.out a W,rfl⟩,y _⟩
 by_cases X:a<1024
 ·have y:=hidR b.done;have z:=hidR b.row;have B:=hidR b.blk;have Y:a/1024<1:=Z;go_wp2_with (refine Gf rfl 322 _ _ rfl g _ rfl rfl 322 z6 B E rfl mL ?_);refine fM (z _) underlying322 ?_;exact⟨⟨_,.zero a x X,rfl⟩,y _⟩
 have Y:1<=a/1024:=Z;go_wp2_with fail;refine(N _ j).mono ?_;rintro e m⟨rfl,d⟩;have n:=hidR (b.below d);have o:=hidR (j.below d);have j:D m ((m.alloc (.cells nG 310)).setRow m.heap.size (stA 12)):=Below.setRow ((Fu _ _).alloc (Fv _) _) (Fv _) _;have d:=hidR (n.below j);have p:=hidR (o.below j);have l:=hidR (jh m (.cells nG 310));have f:Hid (∀k:Nat,k<13->((m.alloc (.cells nG 310)).setRow m.heap.size (stA 12)).cell? (Qz m.heap.size k)=some (I (fp k))):=hidR (λk F=>by
  have h:=lx 12 k F;rw[GP Z]at h;have e:=zr l (stA 12);simp only[QC,e];exact h)
 have b:=hidR (show(stA 12).all (·.oneCell')=true by kernel_rfl);have i:=hidR (show nG.size=(stA 12).size by rw[pT];rfl);generalize stA 12=A at f d p b i⊢;unfold nG at*;by_cases h3:191488<=a
 ·have t3:187<=a/1024:=Z;go_wp2_with (first|(refine Gf rfl 310 _ _ rfl _ _ rfl rfl 310 _ l E i b ?_;generalize World.setRow _ _ _=P at f d p⊢;have j:=f.out 12 Z;rw[pN]at j)|(refine Gf rfl 322 _ _ rfl g _ rfl rfl 322 z6 d.blk E rfl mL ?_));refine fM (d.row _) underlying322 ?_;exact⟨⟨_,.large a h3 Z,rfl⟩,d.done _⟩
 have t3:a/1024<187:=Z;go_wp2_with (first|(refine Gf rfl 310 _ _ rfl _ _ rfl rfl 310 _ l E i b ?_;generalize World.setRow _ _ _=P at f d p⊢;have j:=f.out 12 Z;rw[pN]at j)|(refine Gf rfl 322 _ _ rfl g _ rfl rfl 322 z6 d.blk E rfl mL ?_));have e1:decide (289792<=a)=false:=GR Z;have n:decide (a/1024<1)=false:=GR Z;have o:decide (187<=a/1024)=false:=GR Z;simp only[e1,n,o];go_loop [6] (λc=>∃k:Nat,k<12/\c=I k/\fp k<=a/1024) (λc=>12-(intOf c).toNat);case atStart=>exact⟨0,Z,rfl,by simp only[fp];omega⟩
 case round=>
  obtain⟨k,F,rfl,a0⟩:=hrel;have t:=f.out (k+1) Z;have q:=f.out k Z;have a1:=iU k;have b:=ru k F;have a2:=fy (c:=(k:Int)) ⟨Z,Z⟩;by_cases i:fp (k+1)<=a/1024
  ·have l:k+1<12:=by
    apply Nat.lt_of_le_of_ne Z;intro e;rw[e,pN]at i;omega
   have n:=hidR i;generalize fp (k+1)=Q at t i b;go_wp2
   go_round
   (case rel=>exact⟨k+1,l,aY,n⟩);case measure=>exact QE
  have G:0<=(a/1024-fp k)*1024+a%1024:=Z;have r:(a/1024-fp k)*1024+a%1024<6*((pg (k:Int)+1)*1024):=Z;have n:=hidR (O (k:Int) _ P p ⟨Z,Z⟩ G r);have R:Hid (Dec a (zT (k:Int) (((a/1024-fp k)*1024+a%1024)/((pg (k:Int)+1)*1024)) (((a/1024-fp k)*1024+a%1024)%((pg (k:Int)+1)*1024)))):=hidR (by
   have l:rs (k:Int)=fp k:=(by rw[kB ⟨Z,Z⟩];rfl);have o:Hit (a/1024) (k:Int) (((a/1024-fp k)*1024+a%1024)/((pg (k:Int)+1)*1024))/\((a/1024-fp k)*1024+a%1024)%((pg (k:Int)+1)*1024)=a-(rs (k:Int)+(((a/1024-fp k)*1024+a%1024)/((pg (k:Int)+1)*1024))*(pg (k:Int)+1))*1024:=by
    rw[l];have:pg (k:Int)=1\/pg (k:Int)=2\/pg (k:Int)=3\/pg (k:Int)=4:=Z;generalize fp (k+1)=Q at*;rcases this with e|e|e|e<;>rw[e]at b r⊢<;>refine⟨⟨Z,Z,Z,Z,by rw[l,e];omega,by rw[l,e];omega⟩,Z⟩
   rw[o.2];exact .slab a _ _ Z Z o.1)
  have⟨u,K,o,l⟩:=zk (k:Int) (((a/1024-fp k)*1024+a%1024)/((pg (k:Int)+1)*1024)) (((a/1024-fp k)*1024+a%1024)%((pg (k:Int)+1)*1024));rw[K]at n R;have s:a/1024<fp (k+1):=Z;generalize fp (k+1)=Q at t s b;generalize fp k=r0 at*;go_wp2_with fail;refine(n).mono ?_;rintro e w5⟨rfl,S⟩;have i:=hidR (d.below S);have L:=hidR (show z6.size=u.size by rw[o];rfl);have b:=hidR (show(prog.info? 322).map (·.size)=some u.size by rw[o];kernel_rfl);have HO:=hidR l;go_wp2_with (refine Gf rfl 322 _ _ rfl g u rfl rfl 322 z6 i.blk b L HO ?_);refine GX (Gq dU _ _ g 322 u (0,0) _ dU (i.row _) underlying322 rfl b) dU ?_;exact⟨⟨_,R,rfl⟩,i.done _⟩
structure Slot(c s t:Int):Prop where
 c0:0<=c
 c1:c<12
 s0:0<=s
 s1:s<6
 t0:0<=t
 t1:t<sl c
theorem Hit.off{a:Int}(h:Hit (a/1024) c s):0<=a-(rs c+s*(pg c+1))*1024/\a-(rs c+s*(pg c+1))*1024<(pg c+1)*1024:=by
 have b:=h.lo;have d:=h.hi;generalize s*(pg c+1)=m at*;omega
theorem Dec.slot{a o:Int}(h:Dec a (pl 3 c s t p o)):Slot c s t/\p=0/\0<=o/\o<sz c/\a=(rs c+s*(pg c+1))*1024+t*sz c+o:=by
 generalize hv:pl 3 c s t p o=v at h;cases h with
 |out h=>simp[pl]at hv
 |large j k=>simp[pl]at hv
 |zero j k=>simp[pl]at hv
 | slab q w j k h=>
  have b:=h.off;have x:=eJ (c:=q) ⟨h.c0,h.c1⟩;unfold zT at hv;split at hv;·simp[pl]at hv
  split at hv;·simp[pl]at hv
  rename_i y r;simp only[pl,Value.agg.injEq,Array.mk.injEq,List.cons.injEq,Hy,true_and,and_true]at hv;obtain⟨rfl,rfl,f,u,l⟩:=hv;have m:=Int.emod_add_mul_ediv (a-(rs c+s*(pg c+1))*1024) (sz c);have d:=IP (a-(rs c+s*(pg c+1))*1024) (show sz c≠0 by omega);have e:=IB (a-(rs c+s*(pg c+1))*1024) (show 0<sz c by omega);rw[<-f,<-l]at m;rw[<-l]at d e;have g:0<=t:=by rw[f];exact Int.ediv_nonneg b.1 Z
  have i:t<sl c:=by
   apply Int.not_le.1;intro n;rw[f]at n;exact r ((Int.le_ediv_iff_mul_le Z).1 n)
  refine⟨⟨h.c0,h.c1,h.s0,h.s1,g,i⟩,u,d,e,?_⟩;rw[Int.mul_comm]at m;omega
theorem Od(h:0<=c/\c<12)(a:0<=t)(b:t<sl c):0<=t*sz c/\t*sz c+sz c<=sl c*sz c:=by
 have d:=eJ h;refine⟨Int.mul_nonneg a Z,?_⟩;have:=Int.mul_le_mul_of_nonneg_right (show t+1<=sl c by omega) (show 0<=sz c by omega);rw[Int.add_mul]at this;omega
theorem Slot.dec(h:Slot c s t){o:Int}(b:0<=o)(d:o<sz c):Dec ((rs c+s*(pg c+1))*1024+t*sz c+o) (pl 3 c s t 0 o) /\
  1024<=(rs c+s*(pg c+1))*1024+t*sz c/\(rs c+s*(pg c+1))*1024+t*sz c+o<191488:=by
 have f:0<=c/\c<12:=⟨h.c0,h.c1⟩;have n:=eJ f;have p:=kh f;have q:=fy f;have r:=Od f h.t0 h.t1;have k:=h.s0;have l:=h.s1;have u:1<=rs c/\rs c+6*(pg c+1)<=187:=by
  rcases fh f with rfl|rfl|rfl|rfl|rfl|rfl|rfl|rfl|rfl|rfl|rfl|rfl<;>decide
 have v:0<=s*(pg c+1)/\s*(pg c+1)+(pg c+1)<=6*(pg c+1):=by
  have:pg c=1\/pg c=2\/pg c=3\/pg c=4:=Z;rcases this with e|e|e|e<;>rw[e]<;>omega
 have j:1024<=(rs c+s*(pg c+1))*1024+t*sz c:=Z;have g:(rs c+s*(pg c+1))*1024+t*sz c+o<191488:=Z;refine⟨?_,j,g⟩;have i:Hit (((rs c+s*(pg c+1))*1024+t*sz c+o)/1024) c s:=⟨h.c0,h.c1,h.s0,h.s1,Z,Z⟩;have a:=Dec.slab _ c s Z g i;have e:(rs c+s*(pg c+1))*1024+t*sz c+o-(rs c+s*(pg c+1))*1024=t*sz c+o:=Z;rw[e]at a;unfold zT at a;rw[GO Z,GO Z]at a;have e1:(t*sz c+o)/sz c=t:=by
  rw[Int.add_comm,Int.add_mul_ediv_right _ _ Z,Int.ediv_eq_zero_of_lt b d];omega
 have m:(t*sz c+o)%sz c=o:=by
  rw[Int.add_comm,Int.add_mul_emod_self_right,Int.emod_eq_of_lt b d]
 rw[e1,m]at a;exact a
theorem wrap64_in{x:Int}(a: -9223372036854775808<=x)(b:x<=9223372036854775807):wrap64 x=x:=by
 simp only[wrap64];omega
theorem kG(c s t)(h:Slot c s t)(w)(d:Tb w):
  QA 218 #[I c,I s,I t] w λe q=>e=QJ (.tuple #[U ((rs c+s*(pg c+1))*1024+t*sz c),.bool true])/\D w q:=by
 have a:0<=c/\c<12:=⟨h.c0,h.c1⟩;have j:=hidR (mO c);have k:=hidR (gp c);have l:=hidR (dJ c);have F:=eJ a;have G:=fy a;have f:=h.dec (o:=0) Z Z;have u:=h.s0;have x:=h.s1;have K:1<=rs c/\rs c<=361:=by have:=we c;rw[kB a]at this⊢;have:=iU c.toNat;omega
 have L:0<=s*(pg c+1)/\s*(pg c+1)<=25:=by
  have:pg c=1\/pg c=2\/pg c=3\/pg c=4:=Z;rcases this with e|e|e|e<;>rw[e]<;>omega
 have m:=Od a h.t0 h.t1;have b:t*sz c<=4096:=by have:=(kh a).2.2.2;omega
 have g:=hidR f.1;have i:=f.2;have n:=hidR (λW a=>iB ((rs c+s*(pg c+1))*1024+t*sz c) Z Z W a);rw[Int.add_zero]at g i;have y:0<=t*sz c/\t*sz c<=4096:=⟨m.1,b⟩;generalize rs c=r at*;generalize pg c=p at*;generalize sz c=z at*;go_enter func218,ntmps218;go_wp2_with fail;refine(j _ d).mono ?_;rintro e M⟨rfl,f⟩;have b:=hidR (d.below f);go_wp2_with fail;refine(k _ b).mono ?_;rintro e N⟨rfl,rfl⟩;go_wp2_with fail;refine(l _ b).mono ?_;rintro e O⟨rfl,rfl⟩;go_wp2_with fail;refine(n _ b).mono ?_;rintro e P⟨⟨v,hv,rfl⟩,m⟩;have A:=g.one hv;subst A;have B:=hidR (cv f m);unfold pl;go_wp2
 go_ret2
 exact⟨rfl,B⟩
def Os(w:World)(a:Option Addr)(c:Nat)(e:List Int):Prop:=(a=none/\c=0/\e=[])\/∃g,a=some ⟨g,0,none⟩/\RowV w g 3 (Ns .i64 e)
theorem Os.sl{a c zs}(h:Os w a c zs):Sl w a zs:=by
 rcases h with⟨rfl,_,rfl⟩|h;·exact .inl ⟨rfl,rfl⟩
 exact .inr h
theorem Os.but{S w w' a c zs}(h:Os w a c zs)(b:But S w w')(d:∀g,a=some (Qz g 0)->¬S g):Os w' a c zs:=by
 rcases h with h|⟨g,e,f⟩;·exact .inl h
 exact .inr ⟨g,e,f.but b (d g e)⟩
theorem Os.below{w' a c zs}(h:Os w a c zs)(b:D w w'):Os w' a c zs:=h.but (But.ofBelow (S:=λ_=>False) b) (λ_ _=>id)
theorem Os.lt{w a c zs}(h:Os w a c zs):∀g,a=some (Qz g 0)->g<w.heap.size:=by
 rintro g rfl;rcases h with⟨e,_⟩|⟨d,e,b⟩;·cases e
 simp at e;subst e;exact b.lt
theorem Os.ne{w a c}{b:Nat}{zs}{d:Array QN}{t:QO}(h:Os w a c zs)(f:w.heap[b]?=some (.cells d t))(g:3≠t):a≠some (Qz b 0):=by
 rintro rfl;rcases h with⟨e,_⟩|⟨j,e,i⟩;·cases e
 simp at e;subst e;exact i.ne f g rfl
theorem Wt.but{S w w' am lm af lf mix fifo}(h:Wt w am lm af lf mix fifo)(b:But S w w')(c:∀g,am=some (Qz g 0)->¬S g)(d:∀g,af=some (Qz g 0)->¬S g):Wt w' am lm af lf mix fifo:=
  ⟨by rcases h.m with e|⟨g,e,a⟩
      · exact .inl e
      · exact .inr ⟨g,e,a.but b (c g e)⟩,h.ml,by
      rcases h.f with e|⟨g,e,a⟩
      · exact .inl e
      · exact .inr ⟨g,e,a.but b (d g e)⟩,h.fl⟩
end
section
variable {g:Nat}{w:World}
theorem Tryz.info3In:(prog.info? 3).map (λi=>(i.zero,i.size,i.bytes))=some (some (I 0),1,8):=E
theorem Sx.pgT{T Q n bud m W}(d:Sx T Q n bud m W)(e:e_ Q W g):∃c,W.heap[g]?=some (.cells c 5):=by
 have⟨k,f⟩:=e;have⟨i,j,s,o,_⟩:=d.row;have e0:i[k*3+2]?=some (Vl g 1024 1024):=by simpa[QC,j]using f
 have b:k<n:=by
  by_cases a:k<n;·exact a
  rw[Hd Z]at e0;cases e0
 have a:=o k b;cases c:m k with
 |none=>rw[c]at a;rw[a.2.2]at e0;simp at e0
 |some q=>
  have⟨l,t⟩:=q;rw[c]at a;have⟨_,_,_,u,p,r⟩:=a;rw[p]at e0;simp at e0;subst e0;exact⟨_,r⟩
theorem mM{W:QM}{a:Nat}{e:QO}{b:Nat}{v:QN}{n:Nat}{f:List QN}(h:W.ownsRow a e b v n f)(d:v.ownBlock=some g):∃c,W.heap[g]?=some (.cells c e):=by
 rcases h.2 with⟨rfl,_⟩|⟨k,i,j,rfl,l,c,_⟩;·cases d
 cases d;exact⟨_,c⟩
theorem qk(M G r n k:Nat)(a:List Int)(x d:Int)(w:QM)(b:w.heap[M]?=some (.cells #[Vl r n n,I (0:Nat),I n,.iface 146 (J G 0)] 263))(c:RowV w r 3 (Ns .i64 a))(g:a.length=n)(j:0<n)(y:n<=1024)(f:md d n=k)(z:a[k]?.getD 0 = -1):
  QA 340 #[J M 0,I x,I d] w λe q=>e=QJ (I (-1))/\RowV q r 3 (Ns .i64 (a.set k x))/\w.grownBy q (some r):=by
 have l:M≠r:=c.ne b ar;have A:w.cell? (Qz M 0)=some (Vl r n n):=bJ b;have B:w.cell? (Qz M 1)=some (I (0:Nat)):=bJ b;have F:w.cell? (Qz M 2)=some (I n):=bJ b;have m:k<n:=f▸oh d n j;have⟨s,t⟩:=y7 (lu M r n n 0 k k a x w.drew (by rw[Oi,H4 m]) g j Z Z Z A B c) (λW=>iA d n W j Z);rw[f]at t;have u:=H b;rw[z]at s;go_enter func340,ntmps340;go_wp2;refine rh (S:=λW=>QG W M 2 (I n)/\Hid (W.heap[M]?=some (.cells #[Vl r n n,I (0:Nat),I n,.iface 146 (J G 0)] 263))) ?_;have b:=(show _/\Hid _ from⟨F,u⟩);iterate 9 (refine py b ?_;simp only[f0,f1,Nat.reduceAdd,lz,l0,ls])
 refine pk 10 (I x) b ?_;refine cn (r:=9) E ?_;refine dM rfl E (λK' c=>?_);go_simp;refine(t _).mono ?_;rintro e o⟨rfl,rfl⟩;refine c _ _ ⟨b,?_⟩;refine cn (r:=11) E ?_;refine dM rfl E (λK' c=>?_);go_simp;refine(s).mono ?_;rintro e o⟨rfl,v,p⟩;have f:=H (eK (k:=M) p u l);have g:QG o M 2 (I n)/\Hid (o.heap[M]?=some (.cells #[Vl r n n,I (0:Nat),I n,.iface 146 (J G 0)] 263)):=⟨bJ f,f⟩;refine c _ _ ⟨g,?_⟩;have⟨K,i⟩:=y7 v p;have b:=g;refine pk 12 (I (-1)) b ?_;refine bY ?_;go_wp2;go_ret;exact⟨rfl,K,⟨i.os,i.tape,i.output,i.size,i.block⟩⟩
theorem xg(a:Addr)(w:QM): (method 524 146 (.pointer (some a)) "loop.example/s01868/impl.push").run prog w=.ok (342,.pointer (some a)) w:=E
theorem Bp(a:Addr)(w:QM): (method 524 145 (.pointer (some a)) "loop.example/s01868/impl.push").run prog w=.ok (340,.pointer (some a)) w:=E
theorem ww(M G r n k:Nat)(b:List Int)(x d:Int)(w:QM)(f:w.heap[M]?=some (.cells #[Vl r n n,I (0:Nat),I n,.iface 146 (J G 0)] 263))(g:RowV w r 3 (Ns .i64 b))(j:b.length=n)(m:0<n)(B:n<=1024)(i:md d n=k)(y:Int)(F:b[k]?.getD 0=y)(K:y ≠ -1)
  (R:QN->QM->Prop) (a:∀c,RowV c r 3 (Ns .i64 (b.set k x))->w.grownBy c (some r)->QA 342 #[J G 0,I y,I d] c λe o=>∃z,e=QJ (I z)/\R (I z) o):
  QA 340 #[J M 0,I x,I d] w λe o=>∃z,e=QJ (I z)/\R (I z) o:=by
 have p:M≠r:=g.ne f ar;have L:w.cell? (Qz M 0)=some (Vl r n n):=bJ f;have N:w.cell? (Qz M 1)=some (I (0:Nat)):=bJ f;have O:w.cell? (Qz M 2)=some (I n):=bJ f;have q:k<n:=i▸oh d n m;have⟨t,u⟩:=y7 (lu M r n n 0 k k b x w.drew (by rw[Oi,H4 q]) j m Z Z Z L N g) (λW=>iA d n W m Z);rw[i]at u;have v:=H f;rw[F]at t;have P:=H a;have Q:(y == -1)=false:=by simpa using K
 go_enter func340,ntmps340;go_wp2;refine rh (S:=λW=>QG W M 2 (I n)/\Hid (W.heap[M]?=some (.cells #[Vl r n n,I (0:Nat),I n,.iface 146 (J G 0)] 263))) ?_;have g:=(show _/\Hid _ from⟨O,v⟩);iterate 9 (refine py g ?_;simp only[f0,f1,Nat.reduceAdd,lz,l0,ls])
 refine pk 10 (I x) g ?_;refine cn (r:=9) E ?_;refine dM rfl E (λK' i=>?_);go_simp;refine(u _).mono ?_;rintro e c⟨rfl,rfl⟩;refine i _ _ ⟨g,?_⟩;refine cn (r:=11) E ?_;refine dM rfl E (λK' i=>?_);go_simp;refine(t).mono ?_;rintro e c⟨rfl,A,s⟩;have f:=H (eK (k:=M) s v p);have j:QG c M 2 (I n)/\Hid (c.heap[M]?=some (.cells #[Vl r n n,I (0:Nat),I n,.iface 146 (J G 0)] 263)):=⟨bJ f,f⟩;refine i _ _ ⟨j,?_⟩;have⟨T,l⟩:=y7 A s;have g:=j;refine pk 12 (I (y)) g ?_;refine bY ?_;have V:c.cell? (Qz M 3)=some (.iface 146 (J G 0)):=bJ f;have s:=λw=>xg (Qz G 0) w
 go_wp2_with fail;refine(P c T ⟨l.os,l.tape,l.output,l.size,l.block⟩).mono ?_;rintro e X⟨z,rfl,A⟩;go_wp2;go_ret;exact⟨z,rfl,A⟩
theorem nh(w:QM)(g:Nat)(a:Array QN):w.grownBy (w.setRow g a) (some g):=
 ⟨rfl,rfl,rfl,by simp[World.setRow],λk _ h=>setRow_other w g k a (by simpa using h)⟩
theorem ii(w:QM)(n o:QP)(a c b d g f:Nat)(i:List QN)(p:w.heap[g]?=some (.cells i.toArray 3))(e:List QN)(q:e.length=Nat.min b a)
  (k:0<e.length->n=some (Qz g f)/\∃m,o=some m/\∀j v,e[j]?=some v->w.cell? (m.add j)=some v)
  (j:f+e.length<=i.length) (r:∀v∈e,v.oneCell'=true):
  ∃l,(Builtin.copy_ #[28,28] 3 #[.slice n a c,.slice o b d]).run prog w=.ok (I e.length) l/\l.heap[g]?=some (.cells (splice i f e).toArray 3)/\w.grownBy l (some g):=by
 by_cases s:e.length=0;·obtain rfl:e=[]:=Ik s;refine⟨w,run_copy_none (P:=prog) w 28 28 3 3 n o a c b d underlying28 E (by simpa using q.symm),by simpa[splice]using p,al w g⟩
 obtain⟨rfl,m,rfl,l⟩:=k Z;refine⟨_,run_copy_row (P:=prog) w 28 28 3 3 g f a c m b d i.toArray 3 e underlying28 E p q l (by simpa using j) r,?_,nh w g _⟩;simpa[splice]using setRow_heap w g _ _ 3 _ p
theorem BF(n:Nat)(h:n<=1048576)(w:QM):(Instr.makeSlice 28 (I (n:Int)) (I (n:Int))).run prog w=.ok (Vl w.heap.size n n) (w.alloc (.cells (madeCells #[Value.int .i64 0] n) 3)):=
 run_make_row' 28 3 (I 0) 8 underlying28 Tryz.info3In rfl .i64 .i64 n Z Z w
theorem dD(w:QM)(o:Obj):(w.alloc o).heap[w.heap.size]?=some o:=heap_alloc_new w o
theorem cS(w:QM)(o:Obj):(w.alloc o).heap.size=w.heap.size+1:=by
 have e:(w.alloc o).heap=w.heap.push o:=rfl;rw[e,Array.size_push]
theorem lw{k:Nat}{p:Obj}(h:w.heap[k]?=some p)(o:Obj):(w.alloc o).heap[k]?=some p:=by
 rw[heap_alloc_old w o (dO h)];exact h
theorem wJ(w:QM)(A B a:Obj):((((w.alloc A).alloc B).alloc a).heap[w.heap.size]?=some A)/\((((w.alloc A).alloc B).alloc a).heap[w.heap.size+1]?=some B)/\((((w.alloc A).alloc B).alloc a).heap[w.heap.size+1+1]?=some a)/\D w (((w.alloc A).alloc B).alloc a):=by
 have d:=dD w A;have b:=dD (w.alloc A) B;have c:=dD ((w.alloc A).alloc B) a;rw[cS]at b;rw[cS,cS]at c;exact⟨lw (lw d B) a,lw b a,c,(((Fu _ w).alloc (Fv _) A).alloc (by rw[cS];omega) B).alloc (by rw[cS,cS];omega) a⟩
theorem si(n:Nat):madeCells #[Value.int .i64 0] n=(Ns .i64 (List.replicate n 0)).toArray:=by
 apply Array.ext';simp[Ii,Ns]
theorem Sl.src{a zs}(h:Sl w a zs)(c:0<zs.length):∃b,a=some b/\∀j v,(Ns .i64 zs)[j]?=some v->w.cell? (b.add j)=some v:=by
 rcases h with⟨_,rfl⟩|⟨g,rfl,d⟩;·simp at c
 refine⟨_,rfl,λj v hv=>?_⟩;have b:j<(Ns .i64 zs).length:=by
  by_cases b:j<(Ns .i64 zs).length;·exact b
  rw[FJ Z]at hv;cases hv
 have:=d.cell j b;rw[hv]at this;have e:((Qz g 0):Addr).add j=(Qz g j):=by cases j<;>simp[Addr.add]
 rw[e];exact this
theorem jU(k zs):∀v∈Ns k zs,v.oneCell'=true:=by
 intro v hv;simp only[Ns,FQ]at hv;obtain⟨x,_,rfl⟩:=hv;rfl
theorem oP(a:List Int)(n:Nat)(h:a.length<=n):splice (Ns .i64 (List.replicate n 0)) 0 (Ns .i64 a)=Ns .i64 (a++List.replicate (n-a.length) 0):=by
 simp[splice,Ns]
theorem rowOf{e:QO}{a:List QN}(h:w.heap[g]?=some (.cells a.toArray e)):RowV w g e a:=
 ⟨_,h,bH,λi b=>bH⟩
theorem set3{a b c:QN}{t:QO}(h:w.heap[g]?=some (.cells #[a,b,c] t))(x y z:QN):
  (((w.setCell (Qz g 0) x).setCell (Qz g 1) y).setCell (Qz g 2) z).heap[g]?=some (.cells #[x,y,z] t):=by
 rw[Ic _ _ _ _ _ _ (Ic _ _ _ _ _ _ (Ic _ _ _ _ _ _ h))];rfl
theorem oZ{o:Obj}(h:w.heap[g]?=some o)(k i:Nat)(v:QN)(a:g≠k):(w.setCell (Qz k i) v).heap[g]?=some o:=by
 rw[heap_setCell_other _ _ _ _ (by simpa using a)];exact h
theorem lQ(n b k:Nat)(a)(o:List Int)(w)(c:o.length=b)(f:b<=n)(x:n<=1024)(d:Sl w a o):
  QA 150 #[I n,.slice a b k] w λe s=>∃g,e=QJ (.agg #[Vl g n n,I (0:Nat),I b])/\RowV s g 3 (Ns .i64 (o++List.replicate (n-b) 0))/\w.heap.size<=g/\D w s:=by
 have t:=λW=>BF n Z W
 have⟨u,l,j⟩:=Qe d c (wJ w (.cells #[C,I 0,I 0] 258) (.cells (madeCells #[I 0] n) 3) (.cells #[Vl (w.heap.size+1) n n,I 0,I 0] 258));have⟨c,q,m,d⟩:=ii _ (some ⟨w.heap.size+1,0,none⟩) a n n b k (w.heap.size+1) 0 (Ns .i64 (List.replicate n 0)) (by rw[<-si];exact j.2.1) (Ns .i64 o) (by rw[NM,l];exact(Hz f).symm) (λb=>⟨rfl,(u.below j.2.2.2).src (by rw[NM]at b;exact b)⟩) (by simp only[NM,Gc];rw[l];omega) (jU _ _);rw[NM,l]at q;have⟨i,p,v,r⟩:=Qf (eK d j.1 Z) (eK d j.2.2.1 Z) (below_grown j.2.2.2 d Z) (rowOf m);have m:c.cell? ⟨w.heap.size+1+1,2,none⟩=some (I 0):=bJ p;have f2:c.frozen? ⟨w.heap.size+1+1,2,none⟩=false:=GY _ _ _ _ _ p;have d:c.cell? ⟨w.heap.size+1+1,0,none⟩=some (Vl (w.heap.size+1) n n):=bJ p;have j:c.cell? ⟨w.heap.size+1+1,1,none⟩=some (I 0):=bJ p;have y:c.cell? (Qz w.heap.size 0)=some (C):=bJ i;have z:c.cell? (Qz w.heap.size 1)=some (I 0):=bJ i;have A:c.cell? (Qz w.heap.size 2)=some (I 0):=bJ i;have f0:c.frozen? (Qz w.heap.size 0)=false:=GY _ _ _ _ _ i;have f1:c.frozen? (Qz w.heap.size 1)=false:=GY _ _ _ _ _ i;have f3:c.frozen? (Qz w.heap.size 2)=false:=GY _ _ _ _ _ i;go_enter func150,ntmps150;go_wp2;refine GX (Gq dU _ _ w.heap.size 258 _ (0,0) _ dU (set3 (oZ i _ _ _ Z) _ _ _) underlying258 rfl E) dU ?_;refine⟨w.heap.size+1,rfl,?_,Z,?_⟩
 ·rw[<-l.out,<-oP _ _ (by rw[l];exact f)];refine(((r.other ?_ _).other ?_ _).other ?_ _).other ?_ _
  all_goals(dsimp only;omega)
 exact(((v.setCell iM _).setCell iM _).setCell iM _).setCell iM _
theorem iy(g l a b:Nat)(d:l<=a)(f:a<=b):∃c,(∀w:QM,(Instr.slice 28 (Vl g a b) (some (I l)) none none).run prog w=.ok (.slice c (a-l) (b-l)) w)/\(l<a->c=some (Qz g l)):=by
 have h:=λw=>run_slice_l (P:=prog) w 28 (some (Qz g 0)) a b underlying28 .i64 (l:Int) Z Z
 have c:∀w:QM,(sizeOf (prog.elem 28)).run prog w=.ok 1 w:=λw=>E
 refine⟨if b=l then some (Qz g 0)else some (Qz g l),λw=>?_,λh=>?_⟩
 ·rw[h w,c];have e:((Qz g 0):Addr).add l=(Qz g l):=by cases l<;>simp[Addr.add]
  simp[sliced,Result.andThen,e]
 rw[GO Z]
theorem mU{r}{ps:List Int}(b:RowV w r 3 (Ns .i64 ps))(o k:Nat)(c:o+k<=ps.length):∀j v,(Ns .i64 ((ps.drop o).take k))[j]?=some v->w.cell? (((Qz r o):Addr).add j)=some v:=by
 intro j v hv;have a:j<k:=by
  by_cases a:j<k;·exact a
  rw[FJ (by simp[Ns];omega)]at hv;cases hv
 have e:((Qz r o):Addr).add j=(Qz r (o+j)):=by cases j<;>simp[Addr.add]
 rw[e,b.cell _ (by rw[NM];omega)];rw[<-hv];simp[Ns,a]
theorem yP{α:Type}(a A B:List α)(m:Nat)(b:A.length=m)(c:a.length=m+B.length):splice (splice a 0 A) m B=A++B:=by
 subst b;have e1:splice a 0 A=A++a.drop A.length:=by simp[splice]
 rw[e1];unfold splice;rw[Iz (Fv _),G9,List.drop_of_length_le bG];simp
theorem xv(ps:List Int)(n o h m:Nat)(f:ps.length=n)(g:o<=n)(i:h<=n)(d:m<=n-o/\m<=h/\(m=n-o\/m=h)):(ps.drop o).take m++(ps.drop 0).take (h-m)=(ps.drop o++ps.take o).take h:=by
 rw[List.take_append,IE];have e:(ps.drop o).length=n-o:=bG;rw[e];rcases d with⟨a,b,c|c⟩;·subst c;rw[Ge Z,Ge (l:=ps.drop o) Z,List.take_take,Hz Z]
 subst c;rw[Nat.sub_self,show m-(n-o)=0 by omega];simp
theorem row_in(G r n o h m g:Nat)(ps:List Int)(w:QM)(f:g=w.heap.size)(y:m=Nat.min (n-o) h)(z:QG w G 0 (Vl r n n))(A:QG w G 1 (I o))(c2:QG w G 2 (I h))
  (j:RowV w r 3 (Ns .i64 ps)) (T:ps.length=n) (N:o<=n) (V:h<=n) (X:n<=1024):
  QA 173 #[J G 0] w λe O=>e=QJ (Vl g h h)/\RowV O g 3 (Ns .i64 ((ps.drop o++ps.take o).take h))/\D w O:=by
 have k:m<=n-o/\m<=h/\(m=n-o\/m=h):=by
  rw[y];refine⟨Nat.min_le_left _ _,Nat.min_le_right _ _,?_⟩;show min (n-o) h=_\/min (n-o) h=_;omega
 have⟨Y,a0,B⟩:=iy r o n n N (Fv _);have⟨dq,a1,F⟩:=iy g m h h k.2.1 (Fv _);have a2:=λW=>BF h Z W
 have l:D w (w.alloc (.cells (madeCells #[I 0] h) 3)).drew:=((Fu _ w).alloc (Fv _) _).drew;have P:(w.alloc (.cells (madeCells #[I 0] h) 3)).drew.heap[g]?=some (.cells (Ns .i64 (List.replicate h 0)).toArray 3):=by
  rw[<-si,f];exact dD _ _
 have K:QG (w.alloc (.cells (madeCells #[I 0] h) 3)).drew G 0 (Vl r n n)/\(w.alloc (.cells (madeCells #[I 0] h) 3)).drew.cell? (Qz G 1)=some (I o):=⟨NI l z,NI l A⟩;have p:=j.below l j.lt;have rl:=j.lt;have⟨q,L,s,t⟩:=ii (w.alloc (.cells (madeCells #[I 0] h) 3)).drew (some (Qz g 0)) Y h h (n-o) (n-o) g 0 (Ns .i64 (List.replicate h 0)) P (Ns .i64 ((ps.drop o).take m)) (by rw[NM];simp;rw[<-y];omega) (λu=>⟨rfl,_,B (by rw[NM]at u;simp at u;omega),mU p o m Z⟩) (by rw[NM,NM];simp;omega) (jU _ _);rw[show(Ns .i64 ((ps.drop o).take m)).length=m by rw[NM];simp;omega]at L;have a:=below_grown l t Z;have v:QG q.drew G 0 (Vl r n n)/\q.drew.cell? (Qz G 1)=some (I o):=⟨NI a.drew z,NI a.drew A⟩;have c:QG q G 0 (Vl r n n)/\q.cell? (Qz G 1)=some (I o):=v;have x:=j.below a.drew j.lt;have⟨Q,a3,i,d⟩:=ii q.drew dq (some (Qz r 0)) (h-m) (h-m) n n g m _ s (Ns .i64 ((ps.drop 0).take (h-m))) (by rw[NM];simp;show min _ _=min _ _;omega) (λu=>⟨F (by rw[NM]at u;simp at u;omega),_,rfl,mU x 0 (h-m) Z⟩) (by rw[length_splice _ _ _ (by rw[NM,NM];simp;omega),NM,NM];simp;omega) (jU _ _);have b:=below_grown a.drew d Z;have M:QG Q G 0 (Vl r n n)/\Q.cell? (Qz G 1)=some (I o):=⟨NI b z,NI b A⟩;have R:splice (splice (Ns .i64 (List.replicate h 0)) 0 (Ns .i64 ((ps.drop o).take m))) m (Ns .i64 ((ps.drop 0).take (h-m)))=Ns .i64 ((ps.drop o++ps.take o).take h):=by
  rw[yP _ _ _ m (by rw[NM];simp;omega) (by rw[NM,NM];simp;omega),<-xv ps n o h m T N V k];simp[Ns]
 rw[R]at i;have⟨HR,HB,HW⟩:=Qe (rowOf i) b f;clear f y;clear p x s i t d l a b P R j;go_enter func173,ntmps173;go_wp2;rw[<-HW.out];generalize w.alloc (.cells (madeCells #[I 0] h) 3)=d at*;refine rh (S:=λW=>QG W G 0 (Vl r n n)/\QG W G 1 (I o)) ?_;have a:=K;iterate 10 (refine py a ?_;simp only[f0,f1,Nat.reduceAdd,lz,l0,ls])
 refine cn (r:=10) E ?_;refine dM rfl E (λK' b=>?_);go_simp;refine b _ _ ⟨c,?_⟩;clear a;have a:=c;clear b K';refine pk 11 (I m) a ?_;refine bY ?_;go_wp2;refine rh (S:=λW=>QG W G 0 (Vl r n n)/\QG W G 1 (I o)) ?_;have a:=v;iterate 7 (refine py a ?_;simp only[f0,f1,Nat.reduceAdd,lz,l0,ls])
 refine cn (r:=7) E ?_;refine dM rfl E (λK' b=>?_);go_simp;refine b _ _ ⟨M,?_⟩;clear b K';refine bY ?_;go_wp2;go_ret;exact⟨rfl,HR,HB⟩
end
end Go.Proofs.YtdhegekcmmlohaaGreatDoor
