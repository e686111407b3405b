import Derived.Deep.CutBlock
import Derived.Deep.DeepCutAuto
import Derived.Deep.RegionHeld
import Derived.Lib.SmallJoins
import Derived.Test.YtbcacchkcedffaaGreatDoorM00
set_option linter.all false
set_option maxRecDepth 20000
set_option maxHeartbeats 0
namespace Go.Proofs.YtbcacchkcedffaaGreatDoor
open Go.Proofs.Tryz Go.RowKit Go.Maps Go.Shelf Go.ChangeShapes Go.WideShapes Go.ChangeAt
section
variable {Q:Exit->Act->World->Prop}{W b w w':World}{o:Obj}{T d fuel g i n r:Nat}{bud:Int}{m:Nat->Option (Bool×List Int)}{P:Program}{ops:Array Oper}{a:Act}{S:World->Prop}{l' listed:Array Bool}{oi:Oper}{v:Value}{t':Array Value}
def e_(Q:Nat)(w:World)(g:Nat):Prop:=∃k,w.cell? ⟨Q,k*3+2,none⟩=some (.slice (some ⟨g,0,none⟩) 1024 1024)
structure Sf(Q:Nat)(w w':QM):Prop where
  os:w'.os=w.os
  tape:w'.tape=w.tape
  output:w'.output=w.output
  size:w.heap.size<=w'.heap.size
  block:∀g,g<w.heap.size->g≠Q->¬e_ Q w g->w'.heap[g]?=w.heap[g]?
  pg:∀g,e_ Q w' g->e_ Q w g\/w.heap.size<=g
def Sf.refl(Q w):Sf Q w w:=⟨rfl,rfl,rfl,gi,λ_ _ _ _=>rfl,λ_ h=>.inl h⟩
def Sf.trans{Q a b c}(h:Sf Q a b)(k:Sf Q b c):Sf Q a c:=
  ⟨k.os.trans h.os,k.tape.trans h.tape,k.output.trans h.output,Fx h.size k.size,
   λg e d f=>(k.block g (FG e h.size) d (λi=>by
     rcases h.pg g i with i|i
     · exact f i
     · omega)).trans (h.block g e d f),
   λg e=>by
     rcases k.pg g e with d|d
     · exact h.pg g d
     · exact .inr (Fx h.size d)⟩
def Sf.ofBelow{Q:Nat}(h:D w w')(b:Q<w.heap.size):Sf Q w w':=
 ⟨h.os,h.tape,h.output,h.size,λg c _ _=>h.block g c,λg⟨k,a⟩=>.inl ⟨k,by
  unfold World.cell? at a⊢
  rw[h.block Q b]at a
  exact a⟩⟩
def Sf.below{Q B:Nat}(h:Sf Q w w')(b:B<=w.heap.size)(c:B<=Q)(a:∀g,e_ Q w g->B<=g):Below B w w':=
 ⟨h.os,h.tape,h.output,h.size,λg d=>h.block g Z Z (λb=>by have:=a g b;omega)⟩
def ag{R:Nat}(h:W.heap[R]?=some o):R<W.heap.size:=by
 by_cases a:R<W.heap.size;.exact a
 .have:W.heap[R]?=none:=Hd Z;rw[this]at h;cases h
def Sx.below{Q W'}(h:Sx T Q n bud m W)(d:D W W'):Sx T Q n bud m W':=by
 let⟨c,e,j,o,a⟩:=h.row;refine⟨by rw[d.block _ (ag h.box)];exact h.box,⟨c,by rwa[d.block _ (ag e)],j,λk p=>?_,a⟩,h.out⟩;let b:=o k p;cases f:m k with
 |none=>rw[f]at b;exact b
 |some q=>let⟨l,v⟩:=q;rw[f]at b;let⟨r,s,t,g,u,i⟩:=b;exact⟨r,s,t,g,u,by rwa[d.block _ (ag i)]⟩
def Sx.drew{T Q n bud m W}(h:Sx T Q n bud m W):Sx T Q n bud m W.drew:=h.below ld
def Sx.ltQ{Q}(h:Sx T Q n bud m W):Q<W.heap.size:=by let⟨c,a,_⟩:=h.row;exact ag a
def fO{o:Oper}{K:Act->QM->Prop}(b:ops[i]?=some o)(c:Region.wanted o (yielded ops a.tmps)=true)
  (h:∀K':Act->QM->Prop,Hid (∀a w,K a w->K' a w)->o.wp P a w K' Q):wpOp P ops Q i K a w:=by
 unfold wpOp;simp only[b,c,IM];exact .inl (h K λ_ _ h=>h)
def ur{P:Program}{t u:TypeId}{b:Array Oper}{Q:Exit->Act->World->Prop}{i:Nat}{o:Oper}{K:Act->World->Prop}{a:Act}{w g:World}{s x:Operand}{v e f:Value}(p:(Builtin.append_ #[t,u] t #[v,e]).run P w=.ok f g)(q:K (a.put o.dst f) g)(j:b[i]?=some o:=by exact rfl)(c:o.guard=none:=by exact rfl)(k:o.op=.call {callee:=.builtin .append,args:=#[s,x],argTypes:=#[t,u]}:=by exact rfl)(l:o.type=t:=by exact rfl)(m:a.eval s=v:=by exact rfl)(n:a.eval x=e:=by exact rfl):wpOp P b Q i K a w:=by
 refine fO j (by simp[Region.wanted,c]) (λK' d=>?_);unfold Oper.wp;simp[execOp,k,l,resolve,invoke,builtin,m,n,p,Result.andThen];exact d _ _ q
def ez{md:Region.Mode}(b:Region.ready md ops listed=[r])
  (h:wpOp P ops Q r (λc w'=>S w'/\wpAnyH P md ops Q S fuel (listed.setIfInBounds r true) c w') a w):wpAnyH P md ops Q S (fuel+1) listed a w:=
 wpAnyH_all b bH (λi b=>by
  obtain rfl:i=r:=by simpa using b
  exact h)
def aG{md:Region.Mode}(b:ops[i]?=some oi)(f:oi.dst=some d)
  (g:Region.noSelect ops=true) (j:Region.free md ops listed i=true) (k:(Region.ready md ops listed).contains i=true)
  (l:∀c a w,Q (.panic c) (a.put oi.dst v) w->Q (.panic c) a w) (c:YieldsIf P ops S oi v a) (m:S w)
  (h:wpAnyH P md ops Q S fuel (listed.setIfInBounds i true) {a with tmps:=a.tmps.setIfInBounds d v} w):wpAnyH P md ops Q S (fuel+1) listed a w:=
 wpAnyH_take b g j k l c m (by
  let e:a.put oi.dst v={a with tmps:=a.tmps.setIfInBounds d v}:=by rw[f];rfl
  rwa[e])
def ao(w:QM)(o:Obj):(w.alloc o).heap[w.heap.size]?=some o:=(Hq w o).1
def XD{w o}:(World.alloc w o).heap[w.heap.size]?=some o:=ao w o
def eg(w:QM)(o:Obj)(k:Nat)(h:k<w.heap.size):(w.alloc o).heap[k]?=w.heap[k]?:=(Hq w o).2 k h
def aO(w:QM)(o:Obj):(w.alloc o).heap.size=w.heap.size+1:=by let e:(w.alloc o).heap=w.heap.push o:=rfl;rw[e,Array.size_push]
def Sx.pglt{Q}(h:Sx T Q n bud m W){j:Nat}(e:j<n)(f:W.cell? (Qz Q (j*3+2))=some (.slice (some (Qz g 0)) 1024 1024)):g<W.heap.size:=by
 let⟨c,i,r,k,_⟩:=h.row;let b:=k j e;let a:c[j*3+2]?=some (.slice (some (Qz g 0)) 1024 1024):=by simpa[QC,i]using f
 cases d:m j with
 |none=>rw[d]at b;rw[b.2.2]at a;simp at a
 |some q=>let⟨l,s⟩:=q;rw[d]at b;let⟨_,_,_,t,o,p⟩:=b;rw[o]at a;simp at a;subst a;exact ag p
def mR(N:Nat):madeCells #[Value.int .u8 0] N=(Ns .u8 (List.replicate N 0)).toArray:=by apply Array.ext';simp[Ii,Ns]
def Sx.fresh{Q}(h:Sx T Q n bud m W)(k:Nat)(z:k<n){d:Array QN}(r:d=(Ns .u8 (List.replicate 1024 0)).toArray):
  Sx T Q n bud (dT m k (some (false,List.replicate 1024 0))) ((((W.alloc (.cells d 5)).setCell (Qz Q (k*3)) (.bool true)).setCell (Qz Q (k*3+1)) (.bool true)).setCell (Qz Q (k*3+2)) (.slice (some (Qz W.heap.size 0)) 1024 1024)).drew /\
  Sf Q W ((((W.alloc (.cells d 5)).setCell (Qz Q (k*3)) (.bool true)).setCell (Qz Q (k*3+1)) (.bool true)).setCell (Qz Q (k*3+2)) (.slice (some (Qz W.heap.size 0)) 1024 1024)).drew:=by
 have p:D W (W.alloc (.cells d 5)):=ph;have v:=h.below p;have A:=ao W (.cells d 5);have B:=h.ltQ;generalize W.alloc (.cells d 5)=f at*;let w:∀i,f.cell? (Qz Q i)=W.cell? (Qz Q i):=λi=>by unfold World.cell?;rw[p.block Q B]
 refine(let_mvar%?B:=some (Qz W.heap.size 0);?_);refine⟨(v.set3 k z (some (false,List.replicate 1024 0)) (.bool true) (.bool true) (.slice ?B 1024 1024) (λg j s l x e=>?_) (λc q a b o F=>⟨a,b,Gc,W.heap.size,o,?_⟩)).drew,?_⟩
 .rw[w]at x;let a:=h.pglt s x;simp only[Value.slice.injEq,Hk,Addr.mk.injEq,and_true]at e;omega
 ·rw[F W.heap.size Z,A,r]
 ·refine(let_mvar%?A:=((f.setCell (Qz Q (k*3)) (.bool true)).setCell (Qz Q (k*3+1)) (.bool true)).setCell (Qz Q (k*3+2)) (.slice ?B 1024 1024);?_);have t:∀g,g≠Q->(?A).heap[g]?=f.heap[g]?:=by intro g o;rw[XB o,XB o,XB o]
  have a:Below 0 W (?A):=
   (((p.mono aa).setCell aa _).setCell aa _).setCell aa _
  have⟨c,y,_⟩:=v.row;have G:=bj (bj (bj y (i:=k*3) (.bool true)) (i:=k*3+1) (.bool true)) (i:=k*3+2) (.slice ?B 1024 1024);generalize ?A=K at*;refine⟨a.drew.os,a.drew.tape,a.drew.output,a.drew.size,λg o l _=>(t g l).trans (p.block g o),?_⟩;rintro g⟨j,s⟩;let b:K.cell? (Qz Q (j*3+2))=some (.slice (some (Qz g 0)) 1024 1024):=s;simp only[QC,G]at b;by_cases u:j=k
  .subst u;right;rw[FK]at b;simp at b;omega
  .left;refine⟨j,?_⟩;rw[<-w];let q:(((c.setIfInBounds (k*3) (.bool true)).setIfInBounds (k*3+1) (.bool true)).setIfInBounds (k*3+2) (.slice ?B 1024 1024))[j*3+2]?=c[j*3+2]?:=by rw[FK,GO Z,FK,GO Z,FK,GO Z]
   rw[q]at b;simp only[QC,y];exact b
def iK(T Q n bud m)(first a:Nat)(w)(h:Sx T Q n bud m w)(z:n<=4096)(P:first+a<=n)(R:(bz m n:Int)+a<=bud):
  Calls prog 262 #[J T 0,I first,I a] w λe w'=>e=QJ Ql/\Sx T Q n bud (aT m first a) w'/\Sf Q w w':=by
 refine(let_mvar%?C:=Sx T Q n bud;?_);have j:=H (λW(b:?C m W)=>gj T Q n bud m W b z);have A:=lh m n;have k:=H (show ?C m w.drew/\D w w.drew from⟨h.drew,ld⟩);have f:Hid (∀c,(?C m c/\D w c)->QG c T 1 (I bud)/\Hid (?C m c/\D w c)):=λc h=>⟨h.1.c.2,h⟩
 have B:=h.ltQ;clear h;generalize bz m n=p at*;have l:IntKind.i64.wrap ((p:Int)+(a:Int))=(p:Int)+(a:Int):=by rw[Hh];omega
 have o:decide (bud<(p:Int)+(a:Int))=false:=GR Z;go_wp2;apply wp_region_held (S:=λc=>QG c T 1 (I bud)/\Hid (?C m c/\D w c)) E;simp only[FX,FN,F1,Nat.reduceAdd,FP,FO,FY,FV,F5];have b:=f.out _ k;apply aG (i:=0) (d:=8) (v:=J T 0) rfl E E E E (λ_ _ _ h=>h) (Or.inl ⟨E,λ_ _=>E⟩) b;simp only[Fw,FA,FB];apply aG (i:=2) (d:=10) (v:=I (a:Int)) rfl E E E E (λ_ _ _ h=>h) (Or.inl ⟨E,λ_ _=>E⟩) b;simp only[Fw,FA,FB];apply aG (i:=4) (d:=12) (v:=J T 0) rfl E E E E (λ_ _ _ h=>h) (Or.inl ⟨E,λ_ _=>E⟩) b;simp only[Fw,FA,FB];apply aG (i:=5) (d:=13) (v:=J T 0) rfl E E E E (λ_ _ _ h=>h) (Or.inl ⟨E,λ_ _=>E⟩) b;simp only[Fw,FA,FB];apply aG (i:=6) (d:=14) (v:=J T 1) rfl E E E E (λ_ _ _ h=>h) (Or.inl ⟨E,λ_ _=>E⟩) b;simp only[Fw,FA,FB];refine aG (i:=7) (d:=15) (v:=I bud) rfl E E E E (λ_ _ _ h=>h) (Or.inl ⟨E,λW b=>by obtain⟨q,_⟩:=b;go_simp⟩) b ?_;simp only[Fw,FA,FB];apply ez (r:=1) E;refine fO rfl E (λK' g=>?_);go_simp;apply(j _ b.2.out.1).mono;rintro e V⟨rfl,u⟩;have q:=f.out _ ⟨b.2.out.1.below u,az b.2.out.2 u⟩;refine g _ _ ⟨q,?_⟩;clear b;have b:=q;clear g K';refine aG (i:=3) (d:=11) (v:=I ((p:Int)+(a:Int))) rfl E E E E (λ_ _ _ h=>h) (Or.inl ⟨E,λW _=>by first|(go_simp;done)|(go_simp;omega)⟩) b ?_;simp only[Fw,FA,FB];refine aG (i:=8) (d:=16) (v:=.bool false) rfl E E E E (λ_ _ _ h=>h) (Or.inl ⟨E,λW _=>by first|(go_simp;done)|(go_simp;omega)⟩) b ?_;simp only[Fw,FA,FB];refine wpAnyH_done E ?_ _;clear l o f;have⟨F,G⟩:=y7 b.2.out.1 (Sf.ofBelow b.2.out.2 B);clear b;refine(let_mvar%?A:=madeCells #[Value.int .u8 0] 1024;let_mvar%?B:=(Instr.makeSlice 22 (I 1024) (I 1024)).run prog;?_);have j:∀w,?B w=.ok (.slice (some (Qz w.heap.size 0)) 1024 1024) (w.alloc (.cells (?A) 5)):=λw=>run_make_row' 22 5 (.int .u8 0) 1 underlying22 Tryz.info5By rfl .i64 .i64 1024 Z Z w
 have K:=H j;clear j;go_wp2;go_loopw [7] (λi wr=>∃k:Nat,k<=a/\i=I ((first:Int)+(k:Int))/\Hid (?C (aT m first k) wr/\Sf Q w wr)) (λi _=>first+a-(intOf i).toNat);exact⟨0,aa,aY,F,G⟩
 obtain⟨k,X,rfl,o⟩:=hrel;by_cases L:k<a
 ·refine(let_mvar%?D:=first+k;?_);have s:=H (o.1.fresh ?D Z (mR 1024));have M:wr.cell? (Qz T 0)=some (.slice (some (Qz Q 0)) n n):=o.1.c.1;have f:D wr (wr.alloc (.cells (?A) 5)):=ph;have x:=(o.1.below f).c.1;have N:=s.1.c.1;have⟨Y,pp,l,cc,d1,d2,d3,_⟩:=(o.1.below f).three ?D Z;have⟨c9,y,O,_⟩:=(o.1.below f).row;have f1:∀i,(wr.alloc (.cells (?A) 5)).frozen? (Qz Q i)=false:=λi=>by simp[QD,y]
  have f2:=f1 (?D*3);have f3:=f1 (?D*3+1);have f4:=f1 (?D*3+2);have j:∀w,?B w=.ok (.slice (some (Qz w.heap.size 0)) 1024 1024) (w.alloc (.cells (?A) 5)):=K.out;have t:=H o.2;have tn:((first:Int)+(k:Int)).toNat=first+k:=Z
  have tl:(first:Int)+(k:Int)<(n:Int):=Z;clear f1 y O f;generalize ?A=f at*;go_wp2;apply wp_region_held (S:=λc=>QG c T 0 (.slice (some (Qz Q 0)) n n)) E;simp only[FX,FN,F1,Nat.reduceAdd,FP,FO,FY,FV,F5];have b:=M;apply aG (i:=0) (d:=25) (v:=J T 0) rfl E E E E (λ_ _ _ h=>h) (Or.inl ⟨E,λ_ _=>E⟩) b;simp only[Fw,FA,FB];apply aG (i:=1) (d:=26) (v:=J T 0) rfl E E E E (λ_ _ _ h=>h) (Or.inl ⟨E,λ_ _=>E⟩) b;simp only[Fw,FA,FB];apply aG (i:=2) (d:=27) (v:=J T 0) rfl E E E E (λ_ _ _ h=>h) (Or.inl ⟨E,λ_ _=>E⟩) b;simp only[Fw,FA,FB];refine aG (i:=3) (d:=28) (v:=.slice (some (Qz Q 0)) n n) rfl E E E E (λ_ _ _ h=>h) (Or.inl ⟨E,λW b=>by obtain q:=b;go_simp⟩) b ?_;simp only[Fw,FA,FB];apply aG (i:=4) (d:=29) (v:=I ((first:Int)+(k:Int))) rfl E E E E (λ_ _ _ h=>h) (Or.inl ⟨E,λ_ _=>E⟩) b;simp only[Fw,FA,FB];apply ez (r:=5) E;refine fO rfl E (λK' g=>?_);go_simp;refine g _ _ ⟨x,?_⟩;clear b;have b:=x;clear g K';apply aG (i:=6) (d:=31) (v:=.agg #[.bool true,.bool true,.slice (some (Qz wr.heap.size 0)) 1024 1024]) rfl E E E E (λ_ _ _ h=>h) (Or.inl ⟨E,λ_ _=>E⟩) b;simp only[Fw,FA,FB];refine aG (i:=7) (d:=32) (v:=.pointer (some ⟨Q,?D*3,none⟩)) rfl E E E E (λ_ _ _ h=>h) (Or.inl ⟨E,λW _=>by first|(go_simp;done)|(go_simp;omega)⟩) b ?_;simp only[Fw,FA,FB];apply ez (r:=8) E;refine fO rfl E (λK' g=>?_);go_simp;refine g _ _ ⟨N,?_⟩;clear b;clear g K';refine wpAnyH_done E ?_ _;go_wp2;go_roundw;(exact⟨k+1,Z,aY,s.1,t.trans s.2⟩);exact QE
 ·have f:k=a:=Z;subst f;go_wp2;go_ret;exact⟨rfl,o⟩
def jm(T Q n bud m)(first a:Nat)(w)(h:Sx T Q n bud m w)(q:n<=4096)(x:first+a<=n)(y:bud<(bz m n:Int)+a):
  Calls prog 262 #[J T 0,I first,I a] w λe w'=>e=QJ Qk/\D w w':=by
 refine(let_mvar%?A:=Sx T Q n bud m;?_);have k:=H (λW(b:?A W)=>gj T Q n bud m W b q);have s:=lh m n;have l:=H (show ?A w.drew/\D w w.drew from⟨h.drew,ld⟩);have g:Hid (∀c,(?A c/\D w c)->QG c T 1 (I bud)/\Hid (?A c/\D w c)):=λc h=>⟨h.1.c.2,h⟩
 generalize bz m n=f at*;let t:IntKind.i64.wrap ((f:Int)+(a:Int))=(f:Int)+(a:Int):=by rw[Hh];omega
 let u:decide (bud<(f:Int)+(a:Int))=true:=G8 Z;go_wp2;apply wp_region_held (S:=λc=>QG c T 1 (I bud)/\Hid (?A c/\D w c)) E;simp only[FX,FN,F1,Nat.reduceAdd,FP,FO,FY,FV,F5];let b:=g.out _ l;apply aG (i:=0) (d:=8) (v:=J T 0) rfl E E E E (λ_ _ _ h=>h) (Or.inl ⟨E,λ_ _=>E⟩) b;simp only[Fw,FA,FB];apply aG (i:=2) (d:=10) (v:=I (a:Int)) rfl E E E E (λ_ _ _ h=>h) (Or.inl ⟨E,λ_ _=>E⟩) b;simp only[Fw,FA,FB];apply aG (i:=4) (d:=12) (v:=J T 0) rfl E E E E (λ_ _ _ h=>h) (Or.inl ⟨E,λ_ _=>E⟩) b;simp only[Fw,FA,FB];apply aG (i:=5) (d:=13) (v:=J T 0) rfl E E E E (λ_ _ _ h=>h) (Or.inl ⟨E,λ_ _=>E⟩) b;simp only[Fw,FA,FB];apply aG (i:=6) (d:=14) (v:=J T 1) rfl E E E E (λ_ _ _ h=>h) (Or.inl ⟨E,λ_ _=>E⟩) b;simp only[Fw,FA,FB];refine aG (i:=7) (d:=15) (v:=I bud) rfl E E E E (λ_ _ _ h=>h) (Or.inl ⟨E,λW b=>by obtain⟨j,_⟩:=b;go_simp⟩) b ?_;simp only[Fw,FA,FB];apply ez (r:=1) E;refine fO rfl E (λK' o=>?_);go_simp;apply(k _ b.2.out.1).mono;rintro e z⟨rfl,p⟩;let j:=g.out _ ⟨b.2.out.1.below p,az b.2.out.2 p⟩;refine o _ _ ⟨j,?_⟩;let b:=j;refine aG (i:=3) (d:=11) (v:=I ((f:Int)+(a:Int))) rfl E E E E (λ_ _ _ h=>h) (Or.inl ⟨E,λW _=>by first|(go_simp;done)|(go_simp;omega)⟩) b ?_;simp only[Fw,FA,FB];refine aG (i:=8) (d:=16) (v:=.bool true) rfl E E E E (λ_ _ _ h=>h) (Or.inl ⟨E,λW _=>by first|(go_simp;done)|(go_simp;omega)⟩) b ?_;simp only[Fw,FA,FB];refine wpAnyH_done E ?_ _;let g:=H b.2.out.2;go_wp2;go_ret;exact⟨rfl,g⟩
def lz{α:Type}{l:List α}{a:α}:l.toArray.setIfInBounds i a=(l.set i a).toArray:=Fw ..
def l0{α:Type}{a b:α}{l:List α}: (a::l).set 0 b=b::l:=rfl
def ls{α:Type}{a b:α}{l:List α}: (a::l).set (n+1) b=a::l.set n b:=rfl
def rh{id:Nat}{n':Nat}(h:wpAnyH P .any ops Q S n' l' a {w with drawn:=w.drawn+1})(hm:P.follows .mixedOrders=true:=by kernel_rfl)(en:ops.size=n':=by simp only[FX,FN,F1,Nat.reduceAdd];rfl)(el:Array.replicate ops.size false=l':=by simp only[FX,FN,F1,Nat.reduceAdd,FP,FO,FY,FV,F5];rfl): (Code.region id ops true).wp P Q a w:=by subst en el;exact wp_region_held hm h
def bY{P:Program}{md:Region.Mode}{ops:Array Oper}{Q:Exit->Act->QM->Prop}{S:QM->Prop}{n:Nat}{l:Array Bool}{a:Act}{w:QM}(h:Q .normal a w)(b:Region.ready md ops l=[]:=by kernel_rfl):wpAnyH P md ops Q S n l a w:=wpAnyH_done b h _
def cw{P:Program}{ops:Array Oper}{r:Nat}{o:Oper}{a:Act}{w:QM}{G:Act->QM->Prop}{Q:Exit->Act->QM->Prop}(h:∀K':Act->QM->Prop,Hid (∀b w',G b w'->K' b w')->o.wp P a w K' Q)(b:ops[r]?=some o:=by rfl)(c:Region.wanted o (yielded ops a.tmps)=true:=by kernel_rfl):wpOp P ops Q r G a w:=fO b c h
def gu{P:Program}{md:Region.Mode}{ops:Array Oper}{Q:Exit->Act->QM->Prop}{S:QM->Prop}{n:Nat}{l:Array Bool}{a:Act}{w:QM}(r:Nat)(h:wpOp P ops Q r (λb w'=>S w'/\wpAnyH P md ops Q S n (l.setIfInBounds r true) b w') a w)(b:Region.ready md ops l=[r]:=by kernel_rfl):wpAnyH P md ops Q S (n+1) l a w:=ez b h
def lZ{P:Program}{md:Region.Mode}{ops:Array Oper}{Q:Exit->Act->QM->Prop}{S:QM->Prop}{n:Nat}{l:Array Bool}{a:Act}{w:QM}(rs:List Nat)(h:∀i,i∈rs->wpOp P ops Q i (λb w'=>S w'/\wpAnyH P md ops Q S n (l.setIfInBounds i true) b w') a w)(b:Region.ready md ops l=rs:=by kernel_rfl)(c:rs≠[]:=by simp):wpAnyH P md ops Q S (n+1) l a w:=wpAnyH_all b c h
def pk{md:Region.Mode}(i:Nat){d:Nat}(v:QN)(hS:S w)(h:wpAnyH P md ops Q S fuel l' {a with tmps:=t'} w)(hi:ops[i]? =some oi:=by rfl)(hd:oi.dst=some d:=by rfl)(hs:Region.noSelect ops=true:=by kernel_rfl)(hf:Region.free md ops listed i=true:=by kernel_rfl)(hr: (Region.ready md ops listed).contains i=true:=by kernel_rfl)(hQ: ∀c a w,Q (.panic c) (a.put oi.dst v) w->Q (.panic c) a w:=by exact λ_ _ _ h=>h)(h1:Region.wanted oi (yielded ops a.tmps)=true:=by kernel_rfl)(h2: ∀W,S W->(execOp a.eval oi).run P W=.ok (.value v) W:=by exact λ_ _=>by kernel_rfl)(el:listed.setIfInBounds i true=l':=by first |(simp only[lz,l0,ls];rfl) |rfl)(et:a.tmps.setIfInBounds d v=t':=by first |(simp only[lz,l0,ls];rfl) |rfl):wpAnyH P md ops Q S (fuel+1) listed a w:=by subst el et;exact aG hi hd hs hf hr hQ (.inl ⟨h1,h2⟩) hS h
def ps{md:Region.Mode}(i:Nat){d:Nat}(hS:S w)(h:wpAnyH P md ops Q S fuel l' {a with tmps:=t'} w)(hi:ops[i]? =some oi:=by rfl)(hd:oi.dst=some d:=by rfl)(hs:Region.noSelect ops=true:=by kernel_rfl)(hf:Region.free md ops listed i=true:=by kernel_rfl)(hr: (Region.ready md ops listed).contains i=true:=by kernel_rfl)(hQ: ∀c a w,Q (.panic c) (a.put oi.dst undef) w->Q (.panic c) a w:=by exact λ_ _ _ h=>h)(h1:Region.wanted oi (yielded ops a.tmps)=false:=by kernel_rfl)(el:listed.setIfInBounds i true=l':=by first |(simp only[lz,l0,ls];rfl) |rfl)(et:a.tmps.setIfInBounds d undef=t':=by first |(simp only[lz,l0,ls];rfl) |rfl):wpAnyH P md ops Q S (fuel+1) listed a w:=by subst el et;exact aG hi hd hs hf hr hQ (.inr ⟨h1,rfl⟩) hS h
def pz{md:Region.Mode}(i:Nat){d:Nat}(v:QN)(hS:S w)(h:wpAnyH P md ops Q S fuel l' {a with tmps:=t'} w)(hi:ops[i]? =some oi:=by rfl)(hd:oi.dst=some d:=by rfl)(hs:Region.noSelect ops=true:=by kernel_rfl)(hf:Region.free md ops listed i=true:=by kernel_rfl)(hr: (Region.ready md ops listed).contains i=true:=by kernel_rfl)(hQ: ∀c a w,Q (.panic c) (a.put oi.dst v) w->Q (.panic c) a w:=by exact λ_ _ _ h=>h)(h1:Region.wanted oi (yielded ops a.tmps)=true:=by kernel_rfl)(h2: ∀W,S W->(execOp a.eval oi).run P W=.ok (.value v) W:=by intro _ h;(repeat obtain⟨_,h⟩:=h);first |(go_simp;done) |(go_simp;omega))(el:listed.setIfInBounds i true=l':=by first |(simp only[lz,l0,ls];rfl) |rfl)(et:a.tmps.setIfInBounds d v=t':=by first |(simp only[lz,l0,ls];rfl) |rfl):wpAnyH P md ops Q S (fuel+1) listed a w:=by subst el et;exact aG hi hd hs hf hr hQ (.inl ⟨h1,h2⟩) hS h
def pf{md:Region.Mode}(i:Nat){d:Nat}(v:QN)(hi:ops[i]? =some oi)(hS:S w)(h2: ∀W,S W->(execOp a.eval oi).run P W=.ok (.value v) W)(h:wpAnyH P md ops Q S fuel l' {a with tmps:=t'} w)(hd:oi.dst=some d:=by rfl)(hs:Region.noSelect ops=true:=by kernel_rfl)(hf:Region.free md ops listed i=true:=by kernel_rfl)(hr: (Region.ready md ops listed).contains i=true:=by kernel_rfl)(hQ: ∀c a w,Q (.panic c) (a.put oi.dst v) w->Q (.panic c) a w:=by exact λ_ _ _ h=>h)(h1:Region.wanted oi (yielded ops a.tmps)=true:=by kernel_rfl)(el:listed.setIfInBounds i true=l':=by first |(simp only[lz,l0,ls];rfl) |rfl)(et:a.tmps.setIfInBounds d v=t':=by first |(simp only[lz,l0,ls];rfl) |rfl):wpAnyH P md ops Q S (fuel+1) listed a w:=by subst el et;exact aG hi hd hs hf hr hQ (.inl ⟨h1,h2⟩) hS h
def fF(l:Array Bool):Nat:=l.toList.findIdx (λb=>!b)
def f0{l:List Bool}:fF (false::l).toArray=0:=rfl
def f1{l:List Bool}:fF (true::l).toArray=fF l.toArray+1:=by simp[fF,List.findIdx_cons]
def py{md:Region.Mode}(hS:S w)(h:wpAnyH P md ops Q S fuel (listed.setIfInBounds (fF listed) true) {a with tmps:=a.tmps.setIfInBounds d v} w)(hi:ops[fF listed]? =some oi:=by simp only[f0,f1,Nat.reduceAdd,List.getElem?_toArray,List.getElem?_cons_succ,List.getElem?_cons_zero];rfl)(hd:oi.dst=some d:=by rfl)(h2:YieldsIf P ops S oi v a:=by first |exact .inr ⟨rfl,rfl⟩ |exact .inl ⟨by kernel_rfl,λ_ _=>rfl⟩ |(refine .inl ⟨by kernel_rfl,?_⟩;intro _ h;(repeat obtain⟨_,h⟩:=h);go_simp;(try rfl);done))(hs:Region.noSelect ops=true:=by kernel_rfl)(hf:Region.free md ops listed (fF listed)=true:=by kernel_rfl)(hr: (Region.ready md ops listed).contains (fF listed)=true:=by kernel_rfl)(hQ: ∀c a w,Q (.panic c) (a.put oi.dst v) w->Q (.panic c) a w:=by exact λ_ _ _ h=>h):wpAnyH P md ops Q S (fuel+1) listed a w:=aG hi hd hs hf hr hQ h2 hS h
def QQ:Nat->Array Bool->Nat
 |0,l=>l.toList.findIdx (λb=>!b)
 |k+1,l=>QQ k (l.toList.drop 1).toArray+1
def QR{l:List Bool}:QQ 0 (false::l).toArray=0:=rfl
def QS{l:List Bool}:QQ 0 (true::l).toArray=QQ 0 l.toArray+1:=by simp[QQ,List.findIdx_cons]
def QU{l:List Bool}{b:Bool}{k:Nat}:QQ (k+1) (b::l).toArray=QQ k l.toArray+1:=rfl
def PX{md:Region.Mode}(i:Nat){d:Nat}(hS:S w)(h:wpAnyH P md ops Q S fuel l' {a with tmps:=t'} w)(hi:ops[QQ i listed]?=some oi:=by simp only[QR,QS,QU,Nat.reduceAdd,List.getElem?_toArray,List.getElem?_cons_succ,List.getElem?_cons_zero];rfl)(hd:oi.dst=some d:=by rfl)(h2:YieldsIf P ops S oi v a:=by first |exact .inr ⟨rfl,rfl⟩ |exact .inl ⟨rfl,λ_ _=>rfl⟩ |(refine .inl ⟨rfl,?_⟩;intro _ h;(repeat obtain⟨_,h⟩:=h);go_simp;(try rw[if_pos (by omega)]);(try rfl);done))(hs:Region.noSelect ops=true:=by kernel_rfl)(hf:Region.free md ops listed (QQ i listed)=true:=by kernel_rfl)(hr:(Region.ready md ops listed).contains (QQ i listed)=true:=by kernel_rfl)(hQ:∀c a w,Q (.panic c) (a.put oi.dst v) w->Q (.panic c) a w:=by exact λ_ _ _ h=>h)(el:listed.setIfInBounds (QQ i listed) true=l':=by simp only[QR,QS,QU,Nat.reduceAdd,lz,l0,ls];rfl)(et:a.tmps.setIfInBounds d v=t':=by first |(simp only[lz,l0,ls];rfl) |rfl):wpAnyH P md ops Q S (fuel+1) listed a w:=by subst el et;exact aG hi hd hs hf hr hQ h2 hS h
def po{md:Region.Mode}(r:Nat){o:Oper}(h: ∀K':Act->QM->Prop,Hid (∀a' w',(S w'/\wpAnyH P md ops Q S fuel (listed.setIfInBounds r true) a' w')->K' a' w')->o.wp P a w K' Q)(hi:ops[r]? =some o:=by rfl)(hr:Region.ready md ops listed=[r]:=by kernel_rfl)(hw:Region.wanted o (yielded ops a.tmps)=true:=by kernel_rfl):wpAnyH P md ops Q S (fuel+1) listed a w:=ez hr (fO hi hw h)
def dM{o:Oper}{K:Act->QM->Prop}(b:ops[i]?=some o)(c:Region.wanted o (yielded ops a.tmps)=true)
  (h:∀K':Act->QM->Prop,Hid (∀a w,K a w->K' a w)->o.wp P a w K' Q):wpOp P ops Q i K a w:=by
 unfold wpOp;simp only[b,c,IM];exact .inl (h K λ_ _ h=>h)
def cn{md:Region.Mode}(b:Region.ready md ops listed=[r])
  (h:wpOp P ops Q r (λc w'=>S w'/\wpAnyH P md ops Q S fuel (listed.setIfInBounds r true) c w') a w):wpAnyH P md ops Q S (fuel+1) listed a w:=
 wpAnyH_all b bH (λi b=>by
  obtain rfl:i=r:=by simpa using b
  exact h)
def bo{md:Region.Mode}(b:ops[i]?=some oi)(f:oi.dst=some d)
  (g:Region.noSelect ops=true) (j:Region.free md ops listed i=true) (k:(Region.ready md ops listed).contains i=true)
  (l:∀c a w,Q (.panic c) (a.put oi.dst v) w->Q (.panic c) a w) (c:YieldsIf P ops S oi v a) (m:S w)
  (h:wpAnyH P md ops Q S fuel (listed.setIfInBounds i true) {a with tmps:=a.tmps.setIfInBounds d v} w):wpAnyH P md ops Q S (fuel+1) listed a w:=
 wpAnyH_take b g j k l c m (by
  let e:a.put oi.dst v={a with tmps:=a.tmps.setIfInBounds d v}:=by rw[f];rfl
  rwa[e])
def dO{R:Nat}(h:W.heap[R]?=some o):R<W.heap.size:=by
 by_cases a:R<W.heap.size;.exact a
 have:W.heap[R]?=none:=Hd Z;rw[this]at h;cases h
structure But(S:Nat->Prop)(w w':QM):Prop where
 os:w'.os=w.os
 tape:w'.tape=w.tape
 output:w'.output=w.output
 size:w.heap.size<=w'.heap.size
 block:∀k,k<w.heap.size->¬S k->w'.heap[k]?=w.heap[k]?
def But.refl(S w):But S w w:=⟨rfl,rfl,rfl,gi,λ_ _ _=>rfl⟩
def But.trans{S a b c}(h:But S a b)(k:But S b c):But S a c:=
 ⟨k.os.trans h.os,k.tape.trans h.tape,k.output.trans h.output,Fx h.size k.size,λg d e=>(k.block g (FG d h.size) e).trans (h.block g d e)⟩
def But.mono{S}{c:Nat->Prop}{a}(h:But S a b)(k:∀g,S g->c g):But c a b:=
 ⟨h.os,h.tape,h.output,h.size,λg d e=>h.block g d λf=>e (k g f)⟩
def But.ofGrown{S:Nat->Prop}{a:QM}(h:a.grownBy b (some g))(k:S g):But S a b:=
 ⟨h.os,h.tape,h.output,h.size,λj d e=>h.block j d λc=>by simp at c;subst c;exact e k⟩
def But.ofBelow{S a}(h:D a b):But S a b:=⟨h.os,h.tape,h.output,h.size,λj c _=>h.block j c⟩
def But.below{S a}{B:Nat}(h:But S a b)(d:B<=a.heap.size)(k:∀g,S g->B<=g):Below B a b:=
 ⟨h.os,h.tape,h.output,h.size,λj e=>h.block j Z λc=>by have:=k j c;omega⟩
def But.drew{S a b}(h:But S a b):But S a b.drew:=⟨h.os,h.tape,h.output,h.size,h.block⟩
def But.set{S a}(h:But S a b)(g i:Nat)(v:QN)(k:S g):But S a (b.setCell (Qz g i) v):=
 h.trans (.ofGrown (au (Q6 b g) i v) k)
def eK{a:QM}{k:Nat}(h:a.grownBy b (some g))(d:a.heap[k]?=some o)(c:k≠g):b.heap[k]?=some o:=by rwa[h.block k (dO d) (by simpa using c)]
def RowV.ne{e}{t:QO}{xs}{c:Array QN}{f:Nat×Nat}(h:RowV w r e xs)(k:w.heap[g]?=some (.cells c t f))(a:e≠t):g≠r:=by let⟨d,b,_⟩:=h;rintro rfl;rw[b]at k;simp at k;exact a k.2.1
def RowV.but{S e xs}(h:RowV w r e xs)(b:But S w w')(d:¬S r):RowV w' r e xs:=by let⟨c,a,f⟩:=h;exact⟨c,by rwa[b.block r (dO a) d],f⟩
def But.at{S}(a:But S w w')(h:w.heap[g]?=some o)(b:¬S g):w'.heap[g]?=some o:=by rwa[a.block g (dO h) b]
def cu(n:Nat)(xs:List Int)(x:Int):List Int×Int:=if xs.length<n then(xs++[x],-1)else(xs.tail++[x],xs[0]?.getD 0)
def Qu(w:World)(G r n:Nat)(xs:List Int):Prop:=
 ∃(ps:List Int)(o h:Nat),w.heap[G]?=some (.cells #[Vl r n n,I o,I h] 192)/\RowV w r 3 (Ns .i64 ps)/\ps.length=n/\o<n/\h<=n/\(h<n->o=0)/\xs=(ps.drop o++ps.take o).take h
def Qu.but{S w w' G r n xs}(h:Qu w G r n xs)(d:But S w w')(e:¬S G)(f:¬S r):Qu w' G r n xs:=by let⟨ps,o,h,a,b,c⟩:=h;exact⟨ps,o,h,d.at a e,b.but d f,c⟩
def Qu.len{G xs}(h:Qu w G r n xs):xs.length<=n:=by obtain⟨ps,o,h,a,b,c,d,e,f,rfl⟩:=h;simp;omega
def tm(G r n h:Nat)(ps:List Int)(x d:Int)(w:QM)(a:w.heap[G]?=some (.cells #[Vl r n n,I (0:Nat),I h] 192))(c:RowV w r 3 (Ns .i64 ps))(g:ps.length=n)(f:h<n)(p:n<=1024):
 Calls prog 338 #[J G 0,I x,I d] w λe w'=>e=.returned (I (-1))/\w'.heap[G]?=some (.cells #[Vl r n n,I (0:Nat),I (h+1:Nat)] 192)/\RowV w' r 3 (Ns .i64 (ps.set h x))/\But (λk=>k=G\/k=r) w w':=by
 let b:G≠r:=c.ne a ar;let q:w.cell? (Qz G 0)=some (Vl r n n):=bJ a;let s:w.cell? (Qz G 1)=some (I (0:Nat)):=bJ a;let t:w.cell? (Qz G 2)=some (I h):=bJ a;let⟨u,j⟩:=y7 (lu G r n n 0 h h ps x w.drew.drew (by rw[Oi,H4 f]) g Z Z Z Z q s c) a;go_wp2;go_region;go_wp2;refine rh (S:=λW=>W.cell? (Qz G 2)=some (I h)/\Hid (W.heap[G]?=some (.cells #[Vl r n n,I (0:Nat),I h] 192))) ?_;let g:=(show _/\Hid _ from⟨t,j⟩);iterate 9 (apply py g;simp only[f0,f1,Nat.reduceAdd,lz,l0,ls])
 apply cn (r:=9) E;refine dM rfl E (λK' l=>?_);go_simp;apply(u).mono;rintro e m⟨rfl,o,c⟩;let a:=H (eK (k:=G) c j b);refine l _ _ ⟨⟨bJ a,a⟩,?_⟩;have⟨v,y⟩:=y7 o c;refine bY ?_;have c:m.cell? (Qz G 2)=some (I h):=bJ a;have g:m.frozen? (Qz G 2)=false:=ah a;go_wp2;go_ret;refine⟨rfl,?_,?_,?_⟩;·rw[Ic _ _ _ _ _ _ a];rfl
 ·exact v.other (by simpa using b.symm) _
 exact((But.refl _ w).drew.drew.trans (.ofGrown y (.inr rfl))).set _ _ _ (.inl rfl)
end
section
variable {v w:World}{g:Nat}
def NN(m:Nat->Option (Bool×List Int)):Nat->List Int
 |0=>[]
 |k+1=>if isOpen (m k)then NN m k++[(k:Int)]else NN m k
def mZ(m):∀k,(NN m k).length<=k
 |0=>gi
 |k+1=>by have:=mZ m k;simp only[NN];split<;>simp<;>omega
def Tryz.info3Op:(prog.info? 3).map (λi=>(i.zero,i.size,i.bytes))=some (some (I 0),1,8):=E
def ek(W:QM)(x:QN)(t:QO)(b:Nat)(a:W.heap.size=b):∀j u,[x][j]?=some u->(W.alloc (.cells #[x] t)).cell? (((Qz b 0):Addr).add j)=some u:=by
 subst a;intro j u h;cases j with
 |zero=>simp at h;subst h;rw[show((Qz W.heap.size 0):Addr).add 0=(Qz W.heap.size 0)from rfl,World.cell?_alloc_at _ _ _ _ rfl];rfl
 |succ j=>simp at h
def cI{A:QM}{a:Nat}{e:QO}{v:QN}{n:Nat}{b:List QN}(h:A.ownsRow a e 1 v n b):∀r,v.ownBlock=some r->a<=r:=by
 intro r e;rcases h.2 with⟨rfl,_⟩|⟨g,c,d,rfl,f,i,_⟩;.cases e
 cases e;exact f
def rX(T Q n bud m w)(h:Sx T Q n bud m w)(V:n<=4096):
  Calls prog 132 #[J T 0] w λe F=>∃v,e=QJ v/\F.ownsRow w.heap.size 3 1 v (NN m n).length (Ns .i64 (NN m n))/\D w F:=by
 let⟨P,s,t,x,y⟩:=G0 Tryz.info3Op;let⟨W,X⟩:=h.c;let R:=H h;go_wp2;go_loopw [3,11] (λv i wr=>∃k:Nat,k<=n/\i=I k/\Hid (wr.ownsRow w.heap.size 3 1 v (NN m k).length (Ns .i64 (NN m k)))/\Hid (D w wr)) (λ_ i _=>n-(intOf i).toNat);exact⟨0,aa,rfl,H ⟨rfl,.inl ⟨rfl,rfl⟩⟩,H th⟩
 obtain⟨k,Y,rfl,b,a⟩:=hrel;by_cases z:k<n
 .let⟨G,p,l,c,K,L,M,d⟩:=R.three k z;let K:=NI a K;let L:=NI a L;let M:=NI a M;let S:=mZ m k;let⟨q,A⟩:=y7 (a.alloc a.size (.cells #[.bool (m k).isSome,.bool G,.slice p l c] 305)) (b.alloc (.cells #[.bool (m k).isSome,.bool G,.slice p l c] 305));cases f:isOpen (m k)
  .let r:=H (show NN m (k+1)=NN m k by simp only[NN];rw[f];rfl);rw[f]at d;generalize (m k).isSome=B at*;cases B
   .go_wp2;go_roundw;(exact⟨k+1,Z,aY,by rwa[r],q⟩);exact QE
   simp only[Bool.true_and]at d;subst d;go_wp2;go_roundw;(exact⟨k+1,Z,aY,by rwa[r],q⟩);exact QE
  let r:=H (show NN m (k+1)=NN m k++[(k:Int)] by simp only[NN];rw[f];rfl);rw[f]at d;generalize (m k).isSome=B at*;cases B;.simp at d
  simp only[Bool.true_and]at d;subst d;let⟨g,f⟩:=y7 (A.alloc (.cells #[I k] 3)) (q.alloc q.size (.cells #[I k] 3));go_wp2_with (at_builtin;refine Ib _ rfl _ _ 25 rfl w.heap.size 3 P (I 0) 1 8 underlying25 s t x y rfl Z _ _ _ rfl g _ 1 1 [I k] rfl rfl ?hc ?h1c ?b1 ?b2 ?b3 ?_);(case hc=>exact ek _ _ _ _ bH);(case h1c=>intro u N;simp at N;subst N;rfl);(case b1=>unfold maxLen;omega);(case b2=>omega);(case b3=>exact f.size);intro v1 w1 j o _;let O:=H (IT j (f.grown o f.size (cI g)));go_wp2;go_roundw;(exact⟨k+1,Z,aY,H (by rw[r];simpa[Ns]using O.1),H O.2⟩);exact QE
 have c:k=n:=Z;subst c;go_wp2;go_ret;exact⟨_,rfl,b,a⟩
def stA(k:Nat):Array Value:=((List.range 13).map λj=>Value.int .i64 (if j<=k then fp j else 0)).toArray
def pT(k):(stA k).size=13:=by simp[stA]
def lx(k j:Nat)(h:j<13):(stA k)[j]?=some (I (if j<=k then fp j else 0)):=by simp[stA,h]
def yN(k):(stA k).setIfInBounds (k+1) (I (fp (k+1)))=stA (k+1):=by
 apply Array.ext;.simp[stA]
 intro i c b
 rw[Array.getElem_setIfInBounds (by simpa[stA]using b)];simp only[stA,List.getElem_toArray,List.getElem_map,List.getElem_range];by_cases a:k+1=i;.subst a;simp
 let e:(i<=k)↔(i<=k+1):=Z;simp[e,a]
def Ed:stA 0=#[Value.int IntKind.i64 1,Value.int IntKind.i64 0,Value.int IntKind.i64 0,Value.int IntKind.i64 0,Value.int IntKind.i64 0,Value.int IntKind.i64 0,Value.int IntKind.i64 0,Value.int IntKind.i64 0,Value.int IntKind.i64 0,Value.int IntKind.i64 0,Value.int IntKind.i64 0,Value.int IntKind.i64 0,Value.int IntKind.i64 0]:=E
def nG:Array Value:=#[Value.int IntKind.i64 0,Value.int IntKind.i64 0,Value.int IntKind.i64 0,Value.int IntKind.i64 0,Value.int IntKind.i64 0,Value.int IntKind.i64 0,Value.int IntKind.i64 0,Value.int IntKind.i64 0,Value.int IntKind.i64 0,Value.int IntKind.i64 0,Value.int IntKind.i64 0,Value.int IntKind.i64 0,Value.int IntKind.i64 0]
def jh(w:QM)(o:Obj):(w.alloc o).heap[w.heap.size]?=some o:=(Hq w o).1
def zS{w:QM}{o:Obj}{k:Nat}(h:k<w.heap.size):(w.alloc o).heap[k]?=w.heap[k]?:=(Hq w o).2 k h
def OC(w:QM)(o:Obj):(w.alloc o).heap.size=w.heap.size+1:=by let e:(w.alloc o).heap=w.heap.push o:=rfl;rw[e,Array.size_push]
def Below.setRow{B:Nat}{a w:QM}(h:Below B a w){g:Nat}(c:B<=g)(b:Array QN):Below B a (w.setRow g b):=by refine h.trans ⟨rfl,rfl,rfl,by simp[World.setRow],λk d=>?_⟩;have:g≠k:=Z;simp[World.setRow,FD,this]
def eW(w)(a:Tb w):
  Calls prog 147 #[] w λe f=>e=QJ (.agg (stA 12))/\D w f:=by
 let n:Hid (∀(c:Int)w,Tb w->_):=λc w h=>lO c w h
 let o:=H a;go_wp2;refine(let_mvar%?A:=w.heap.size+1;?_);go_loopw [4] (λi wr=>∃k:Nat,k<=12/\i=I k/\Hid (wr.heap[w.heap.size]?=some (.cells nG 264)/\wr.heap[?A]?=some (.cells (stA k) 264)/\D w wr)) (λi _=>12-(intOf i).toNat);case atStart=>
  refine⟨0,Z,rfl,?_,?_,?_⟩;.rw[zS (by rw[OC];omega)];exact jh _ _
  .rw[Ed,<-OC w];exact jh _ _
  exact ph.alloc (by rw[OC];omega) _
 obtain⟨k,x,rfl,d⟩:=hrel;by_cases q:k<12
 .have r:=iU k;have s:=tM (k:Int);have u:wr.cell? ⟨?A,k,none⟩=some (I (fp k)):=by simp[QC,d.2.1,lx k k Z]
  let y:wr.cell? ⟨?A,k+1,none⟩=some (I 0):=by simp[QC,d.2.1,lx k (k+1) Z];intro h;omega
  let f2:wr.frozen? ⟨?A,k+1,none⟩=false:=by simp[QD,d.2.1]
  have m:Hid (∀W:QM,W.heap=wr.heap->QA 205 #[I (k:Int)] W λe f=>e=QJ (I (rp (k:Int)))/\f=W):=λW v=>n.out _ W (by let⟨t,a,h⟩:=(o.below d.2.2).row;exact⟨t,a,by rwa[v]⟩)
  have j:=H (show fp (k+1)=fp k+rp (k:Int)from rfl);generalize fp k=a at r u j;generalize rp (k:Int)=b at s m j;go_wp2
  go_region_with (go_at_call 205;refine(m _ ?_).mono ?_;exact rfl;rintro e f⟨rfl,rfl⟩)
  all_goals
   go_wp2
   go_roundw
   case rel=>
    refine⟨k+1,Z,aY,?_,?_,?_⟩;.let g:=d.1;simp[World.setCell,FD,World.drew,g]
    .let l:=d.2.1;rw[<-yN,j];simp[World.setCell,FD,World.drew,l]
    exact d.2.2.drew.setCell (p:=⟨?A,k+1,none⟩) bH _
   exact QE
 obtain rfl:k=12:=Z;let g:=H d.1;let l:=H d.2.1;let b:=H (Below.setRow d.2.2 gi (stA 12));let j:Hid ((wr.setRow w.heap.size (stA 12)).heap[w.heap.size]?=some (.cells (stA 12) 264)):=by have:=g.out;exact H (by simp[World.setRow,FD,this])
 let a:=H (show(stA 12).all (·.oneCell')=true by kernel_rfl);go_wp2_with (first|refine Rl rfl 264 _ rfl _ rfl _ _ _ _ l underlying264 rfl E ?_|refine Gf rfl 264 _ _ rfl _ _ rfl rfl _ _ g E (by rw[pT];rfl) a ?_);apply GX (Gq dU _ _ w.heap.size 264 (stA 12) (0,0) _ dU j underlying264 rfl E) dU;exact⟨rfl,b⟩
def kz(w:QM)(k:Nat)(a:k<13):(Instr.index 264 (.agg (stA 12)) (I k)).run prog w=.ok (I (fp k)) w:=by let h:=lx 12 k a;rw[GP Z]at h;simp[Instr.index,run_underlying underlying264,asIntOf,a,go_sem,h]
def mO(c w)(a:Tb w):
  QA 211 #[I c] w λe b=>e=QJ (I (rs c))/\D w b:=by
 have d:=H (eW w a);by_cases h:0<=c/\c<12
 .let f:=H (NR w h);rw[kB h];obtain⟨m,rfl⟩:=Ha h.1;let i:m<13:=Z;simp only[F0];have g:=H (λW=>kz W m i);generalize stA 12=S at d g;go_enter func211,ntmps211;go_wp2_with fail;apply (f).mono;rintro e b⟨rfl,rfl⟩;go_wp2_with fail;apply (d).mono;rintro e j⟨rfl,k⟩;let l:=g.out j;go_wp2;go_ret;exact⟨rfl,k⟩
 rw[se h];let f:=H (dY w h);go_enter func211,ntmps211;go_wp2_with fail;apply (f).mono;rintro e b⟨rfl,rfl⟩;go_wp2;go_ret;exact⟨rfl,th⟩
def iI(w)(a:Tb w):
  Calls prog 100 #[] w λe d=>e=QJ (I 187)/\D w d:=by
 have b:=H (eW w a);have c:Hid (∀W:QM,(Instr.index 264 (.agg (stA 12)) (I 12)).run prog W=.ok (I 187) W):=λW=>by have:=kz W 12 Z;rw[pN]at this;exact this
 generalize stA 12=S at b c;go_in;go_wp2_with fail;apply (b).mono;rintro e a⟨rfl,f⟩;let g:=c.out a;go_wp2;go_ret;exact⟨rfl,f⟩
def eH(w)(a:Tb w):
  Calls prog 48 #[] w λe b=>e=QJ (I 283)/\D w b:=by
 let c:=H (iI w a);go_in;go_wp2_with fail;apply (c).mono;rintro e d⟨rfl,a⟩;go_wp2;go_ret;exact⟨rfl,a⟩
def pl(k c s t p o:Int):Value:=.agg #[I k,I c,I s,I t,I p,I o]
def z6:Array Value:=#[I 0,I 0,I 0,I 0,I 0,I 0]
structure Rt(w:QM)(g:Nat)(v:QM):Prop where
 blk:v.heap[g]?=some (.cells z6 281)
 bel:D w v
 new:w.heap.size<=g
def Rt.first(w):Rt w w.heap.size (w.alloc (.cells z6 281)):=⟨jh _ _,ph,gi⟩
def Rt.below{v'}(h:Rt w g v)(b:D v v'):Rt w g v':=by
 let a:g<v.heap.size:=by
  by_cases a:g<v.heap.size;.exact a
  have:v.heap[g]?=none:=Hd Z;let c:=h.blk;rw[this]at c;cases c
 exact⟨by rw[b.block g a];exact h.blk,cv h.bel b,h.new⟩
def Rt.drew{w v g}(h:Rt w g v):Rt w g v.drew:=h.below ld
def Tb.drew{w}(h:Tb w):Tb w.drew:=⟨h.row⟩
def Rt.row(h:Rt w g v)(a:Array QN):(v.setRow g a).heap[g]?=some (.cells a 281):=by simp[World.setRow,FD,h.blk]
def Rt.done(h:Rt w g v)(a:Array QN):D w (v.setRow g a):=Below.setRow h.bel h.new a
def Rt.six(h:Rt w g v)(a b c d e f:QN):
  ((((((v.setCell (Qz g 0) a).setCell (Qz g 1) b).setCell (Qz g 2) c).setCell (Qz g 3) d).setCell (Qz g 4) e).setCell (Qz g 5) f).drew.heap[g]?=some (.cells #[a,b,c,d,e,f] 281) /\
  D w ((((((v.setCell (Qz g 0) a).setCell (Qz g 1) b).setCell (Qz g 2) c).setCell (Qz g 3) d).setCell (Qz g 4) e).setCell (Qz g 5) f).drew:=by
 refine⟨?_,((((((h.bel.setCell h.new _).setCell h.new _).setCell h.new _).setCell h.new _).setCell h.new _).setCell h.new _).drew⟩;simp[World.drew,World.setCell,FD,h.blk,z6]
def zT(c s o:Int):Value:=
 if pg c*1024<=o then pl 1 c s 0 0 0
 else if sl c*sz c<=o then pl 2 c s 0 0 (o-sl c*sz c)
 else pl 3 c s (o/sz c) 0 (o%sz c)
def jH(c b:Int)(w)(j:Tb w)(h:0<=c/\c<12)(B:0<=b)(k:b<6*((pg c+1)*1024)):
  Calls prog 213 #[I c,I b] w λe a=>e=QJ (zT c (b/((pg c+1)*1024)) (b%((pg c+1)*1024)))/\D w a:=by
 have f:=H (Rt.first w);have i:=H (j.below f.bel);have r:=H (gp c);have t:=H (eY c);have u:=H (dJ c);have x:=H (gK c);have F:=eJ h;have G:=fy h;have d:=kh h;refine(let_mvar%?C:=(pg c+1)*1024;let_mvar%?D:=pg c=1\/pg c=2\/pg c=3\/pg c=4;?_);have K:0<=b/?C/\b/?C<=6:=by have:?D:=Z;rcases this with e|e|e|e<;>rw[e]at k⊢<;>omega
 have m:0<=b%?C/\b%?C<(pg c+1)*1024:=by have:?D:=Z;rcases this with e|e|e|e<;>rw[e]<;>omega
 have L:b<30720:=Z;unfold zT;clear j;have M:0<=sl c*sz c/\sl c*sz c<=pg c*1024:=⟨Int.mul_nonneg Z Z,d.2.2.2⟩;have y:4<=sl c/\sl c<=64:=⟨d.1,d.2.1⟩;clear d k;generalize sz c=s at*;generalize sl c=l at*;generalize pg c=p at*;unfold z6 at*;go_in;go_wp2_with fail;refine(let_mvar%?A:=Value.int IntKind.i64 0;?_);generalize w.alloc (Obj.cells #[?A,?A,?A,?A,?A,?A] 281)=v at f i⊢;generalize w.heap.size=g at f⊢;refine(r _ i).mono ?_;rintro e a⟨rfl,rfl⟩;go_wp2_with fail;go_region;have d:=H f.drew;have j:=H i.drew;clear f i;generalize a.drew=N at d j⊢;go_wp2_with fail;refine(t _ j).mono ?_;rintro e a⟨rfl,rfl⟩;have n:=H d.done;have o:=H d.row;have k:=H d.blk;have q:=H d.six;clear d;refine(let_mvar%?B:=(p+1)*1024;?_);by_cases O:p*1024<=b%?B;·go_wp2_with (refine Gf rfl 281 _ _ rfl g _ rfl rfl 281 z6 k E rfl mL ?_);refine fM (o _) underlying281 ?_;exact⟨rfl,n _⟩
 have z:b%?B<p*1024:=Z;go_wp2_with fail;refine(u _ j).mono ?_;rintro e a⟨rfl,rfl⟩;go_wp2_with fail;refine(x _ j).mono ?_;rintro e a⟨rfl,rfl⟩;by_cases P:l*s<=b%?B;·go_wp2_with (refine Gf rfl 281 _ _ rfl g _ rfl rfl 281 z6 k E rfl mL ?_);refine fM (o _) underlying281 ?_;exact⟨rfl,n _⟩
 have A:b%?B<l*s:=Z;have Q:0<=b%?B/s/\b%?B/s<=4096:=⟨Int.ediv_nonneg m.1 Z,Int.le_trans (Int.ediv_le_self _ m.1) Z⟩;have R:0<=b%?B%s/\b%?B%s<s:=⟨IP _ Z,IB _ Z⟩;have d:∀i,i<6->a.cell? (Qz g i)=some (I 0):=λi S=>by have:i=0\/i=1\/i=2\/i=3\/i=4\/i=5:=Z;rcases this with rfl|rfl|rfl|rfl|rfl|rfl<;>simp[QC,k.out,z6]
 have f:∀i,a.frozen? (Qz g i)=false:=λi=>by simp[QD,k.out]
 have T:=d 0 Z;have V:=d 1 Z;have W:=d 2 Z;have X:=d 3 Z;have Y:=d 4 Z;have c5:=d 5 Z;have f0:=f 0;have f1:=f 1;have f2:=f 2;have f3:=f 3;have f4:=f 4;have f5:=f 5;clear d f;go_wp2;go_region;go_wp2;refine GX (Gq dU _ _ g 281 _ (0,0) _ dU (q _ _ _ _ _ _).1 underlying281 rfl E) dU ?_;exact⟨rfl,(q _ _ _ _ _ _).2⟩
end
section
variable {A Q Rb T g k n r:Nat}{W w:World}{v:Value}{xs:List Value}{bud:Int}{m:Nat->Option (Bool×List Int)}
def bF{P:Program}{md:Region.Mode}{c:Array Oper}{Q:Exit->Act->QM->Prop}{d:Nat}{b:Array Bool}{a:Act}(e:Region.ready md c b=[r])
  (h:wpOp P c Q r (wpAny P md c Q d (b.setIfInBounds r true)) a w):wpAny P md c Q (d+1) b a w:=
 wpAny_all e bH (λi a=>by
  obtain rfl:i=r:=by simpa using a
  exact h)
def cd{P:Program}{md:Region.Mode}{f:Array Oper}{Q:Exit->Act->QM->Prop}{i d:Nat}{j:Oper}{g:Nat}{b:Array Bool}{a:Act}(k:f[i]?=some j)(l:j.dst=some d)
  (m:Region.noSelect f=true) (n:Region.free md f b i=true) (o:(Region.ready md f b).contains i=true)
  (p:∀c a w,Q (.panic c) (a.put j.dst v) w->Q (.panic c) a w) (c:Yields P f j v a)
  (h:wpAny P md f Q g (b.setIfInBounds i true) {a with tmps:=a.tmps.setIfInBounds d v} w):wpAny P md f Q (g+1) b a w:=
 wpAny_take k m n o p c (by
  let e:a.put j.dst v={a with tmps:=a.tmps.setIfInBounds d v}:=by rw[l];rfl
  rwa[e])
def aH(m:Nat->Option (Bool×List Int))(a n:Nat):List Int:=(List.range n).map λi=>bO m (a+i)
def lP(m a)(k:Nat):aH m a (k+1)=aH m a k++[bO m (a+k)]:=by simp[aH,Gs]
structure La(w:QM)(Rb A:Nat)(v:QN)(k:Nat)(xs:List QN)(W:QM):Prop where
 own:W.ownsRow (w.heap.size+2) 5 1 v k xs
 at_:W.heap[A]?=some (.cells #[I 0,v] 284)
 res:W.heap[Rb]?=some (.cells #[I 0,C] 284)
 bel:D w W
 big:w.heap.size+2<=W.heap.size
 hA:A=w.heap.size+1
 hR:Rb=w.heap.size
def La.next{w9:QM}(h:La w Rb A v k xs W)(b:QN)(g cap)(j:w9.ownsRow (w.heap.size+2) 5 1 (Vl g (k+1) cap) (k+1) (xs++[b]))(a:((W.alloc (.cells #[b] 5)).drew).grownBy w9 v.ownBlock):
  w9.cell? (Qz A 1)=some v/\w9.frozen? (Qz A 1)=false/\La w Rb A (Vl g (k+1) cap) (k+1) (xs++[b]) (w9.setCell (Qz A 1) (Vl g (k+1) cap)):=by
 let c:A<W.heap.size:=by have:=h.hA;have:=h.big;omega
 let d:Rb<W.heap.size:=by have:=h.hR;have:=h.big;omega
 let m:v.ownBlock≠some A:=by intro e;have:=cI h.own A e;have:=h.hA;omega
 let n:v.ownBlock≠some Rb:=by intro e;have:=cI h.own Rb e;have:=h.hR;omega
 let sz:((W.alloc (.cells #[b] 5)).drew).heap.size=W.heap.size+1:=aO W _;let f:w9.heap[A]?=some (.cells #[I 0,v] 284):=by rw[a.block A (by rw[sz];omega) (Iq m)];exact(eg W _ A c).trans h.at_
 let o:w9.heap[Rb]?=some (.cells #[I 0,C] 284):=by rw[a.block Rb (by rw[sz];omega) (Iq n)];exact(eg W _ Rb d).trans h.res
 let i:g≠A:=by have:=cI j g rfl;have:=h.hA;omega
 let p:D w w9:=by let l:D w (W.alloc (.cells #[b] 5)).drew:=(h.bel.alloc h.bel.size _).drew;exact l.grown a l.size (λr b=>by have:=cI h.own r b;omega)
 refine⟨by simp[QC,f],by simp[QD,f],?_⟩;refine⟨j.kept (au (Q6 w9 A) 1 _) (.inr (by simpa[Value.ownBlock]using i)),?_,?_,?_,?_,h.hA,h.hR⟩;.rw[bj f];rfl
 .rwa[XB (by have:=h.hA;have:=h.hR;show Rb≠A;omega)]
 .exact p.setCell (by have:=h.hA;show w.heap.size<=A;omega) _
 have:w9.heap.size<=(w9.setCell (Qz A 1) (Vl g (k+1) cap)).heap.size:=(au (Q6 w9 A) 1 _).size;have:=a.size;have:=h.big;rw[sz]at*;omega
def aw{v:QM}{a:Array QN}{t:QO}(h:v.heap[g]?=some (.cells a t))(b:Array QN):(v.setRow g b).heap[g]?=some (.cells b t):=by simp[World.setRow,FD,h]
def aj(w:QM)(g:Nat)(b:Array QN):w.grownBy (w.setRow g b) (some g):=
 ⟨rfl,rfl,rfl,by simp[World.setRow],λk _ a=>by
  have:g≠k:=λe=>a (by rw[e])
  simp[World.setRow,FD,this]⟩
def dm{b a:Nat}{e:QO}{c:Nat}(h:w.ownsRow b e c v n xs)(i:a<=b):w.ownsRow a e c v n xs:=
 ⟨h.1,h.2.imp id λ⟨g,d,f,j,k,l⟩=>⟨g,d,f,j,Fx i k,l⟩⟩
def La.one(h:La w Rb A v k xs W):(#[Value.int IntKind.i64 0,v].all λx=>x.oneCell')=true:=by rcases h.own.2 with⟨rfl,_⟩|⟨g,a,b,rfl,_⟩<;>simp[Value.oneCell']
def La.done(h:La w Rb A v k xs W):(W.setRow Rb #[Value.int IntKind.i64 0,v]).ownsRow w.heap.size 5 1 v k xs/\D w (W.setRow Rb #[Value.int IntKind.i64 0,v]):=by let a:=aj W Rb #[Value.int IntKind.i64 0,v];refine⟨dm (h.own.kept a ?_) Z,h.bel.grown a h.bel.size (λr a=>by have:=h.hR;simp at a;omega)⟩;right;intro e;have:=cI h.own Rb e;have:=h.hR;omega
def kr(T Q nn bud m)(a n:Nat)(w)(b:Sx T Q nn bud m w)(a1:nn<=4096)(h2:n<=4096)(ha:a+n<18446744073709551616)(c:∀i,i<n->isOpen (m ((a+i)/1024))=true)(t:∀W,D w W->QA 268 #[J T 0,U a,I n] W λe V=>e=QJ (I 0)/\V=W):
  Calls prog 189 #[J T 0,U a,I n] w λe V=>∃v,e=QJ (.agg #[I 0,v])/\V.ownsRow w.heap.size 5 1 v n (Ns .u8 (aH m a n))/\D w V:=by
 let⟨i0,B,F,G,K⟩:=G0 Tryz.info5By;let⟨H1,HS,HO⟩:=Qe t b c;go_in;go_wp2_with fail;apply (H1 _ ph).mono;rintro _ w1⟨rfl,rfl⟩;have X:Hid (La w w.heap.size (w.heap.size+1) (C) 0 [] ((w.alloc (.cells #[I 0,C] 284)).alloc (.cells #[I 0,C] 284))):=
  ⟨⟨rfl,.inl ⟨rfl,rfl⟩⟩,by rw[<-aO w];exact XD,by rw[eg _ _ _ (by rw[aO];omega)];exact XD,ph.alloc (by rw[aO];omega) _,by rw[aO,aO];omega,rfl,rfl⟩
 go_wp2;refine(let_mvar%?A:=Obj.cells #[Value.int IntKind.i64 0,Value.slice none 0 0] 284;?_);generalize (w.alloc ?A).alloc ?A=W0 at X⊢;generalize a3:w.heap.size+1=A at X⊢;generalize a4:w.heap.size=Rb at X⊢;go_loopw [8] (λi wr=>∃k:Nat,k<=n/\i=I k/\Hid (∃v,La w Rb A v k (Ns .u8 (aH m a k)) wr)) (λi _=>n-(intOf i).toNat);exact⟨0,aa,rfl,_,X⟩
 obtain⟨k,hk,rfl,x⟩:=hrel;let⟨v,p⟩:=x.out;let a5:wr.cell? (Qz A 0)=some (I 0):=by simp[QC,p.at_]
 let L:wr.cell? (Qz A 1)=some v:=by simp[QC,p.at_]
 by_cases a2:k<n
 .let fA:wr.frozen? (Qz A 1)=false:=(by simp[QD,p.at_]);let⟨HG,Y,HE,c,f⟩:=Qg (kT T Q nn bud m (a+k) wr.drew (HS.below p.bel).drew a1 Z (HO k a2)) (λb g o M c h2=>p.next (w9:=M) (.int .u8 b) g o c h2) (lP m a k) (λb=>(p.own.alloc (.cells #[.int .u8 b] 5)).drew) (λ(b:Int)=>ek wr (.int .u8 b) 5 wr.heap.size rfl);let j:Hid (∀b:Int,w.heap.size+2<=((wr.alloc (.cells #[.int .u8 b] 5)).drew).heap.size):=(λb=>by have:=p.big;let e:((wr.alloc (.cells #[.int .u8 b] 5)).drew).heap.size=wr.heap.size+1:=aO wr _;omega)
  generalize bO m (a+k)=b at*;let⟨Y,N,O,P⟩:=Qf (Y b) (c b) (f b) (j b);let R:(wr.alloc (.cells #[.int .u8 b] 5)).cell? (Qz A 1)=some v:=by let l:A<wr.heap.size:=(by have:=p.hA;have:=p.big;omega);let e:=(eg wr (.cells #[.int .u8 b] 5) A l).trans p.at_;simp[QC,e]
  let m1:IntKind.u64.wrap (k:Int)=(k:Int):=(by rw[IntKind.wrap_u64];omega);let m2:IntKind.u64.wrap ((a:Int)+(k:Int))=((a+k:Nat):Int):=(by rw[IntKind.wrap_u64];omega);go_wp2;apply wp_region_any E;simp only[FX,FN,F1,Nat.reduceAdd,FP,FO,FY,FV,F5];refine cd (i:=0) (d:=24) (v:=J A 1) rfl E E E E (λ_ _ _ h=>h) (Or.inl ⟨E,λ_=>E⟩) ?_;simp only[lz,l0,ls];refine cd (i:=2) (d:=26) (v:=J T 0) rfl E E E E (λ_ _ _ h=>h) (Or.inl ⟨E,λ_=>E⟩) ?_;simp only[lz,l0,ls];refine cd (i:=3) (d:=27) (v:=U (a:Int)) rfl E E E E (λ_ _ _ h=>h) (Or.inl ⟨E,λ_=>E⟩) ?_;simp only[lz,l0,ls];refine cd (i:=4) (d:=28) (v:=I (k:Int)) rfl E E E E (λ_ _ _ h=>h) (Or.inl ⟨E,λ_=>E⟩) ?_;simp only[lz,l0,ls];refine cd (i:=5) (d:=29) (v:=U (k:Int)) rfl E E E E (λ_ _ _ h=>h) (Or.inl ⟨E,λW=>by first|(go_simp;done)|(go_simp;omega)⟩) ?_;simp only[lz,l0,ls];refine cd (i:=6) (d:=30) (v:=U ((a+k:Nat):Int)) rfl E E E E (λ_ _ _ h=>h) (Or.inl ⟨E,λW=>by first|(go_simp;done)|(go_simp;omega)⟩) ?_;simp only[lz,l0,ls];refine wpAny_all (rs:=[1,7]) E bH (λi hi=>?_);let S:i=1\/i=7:=(by simpa using hi);rcases S with rfl|rfl
  .skip
   refine cw λK' c=>?_;go_simp;apply c _ _;apply bF (r:=7) E;refine cw λK' c=>?_;go_simp;apply (HG).mono;rintro e V⟨rfl,rfl⟩;apply c _ _;apply bF (r:=8) E;refine cw λK' c=>?_;go_simp;apply c _ _;apply bF (r:=9) E;refine cw λK' c=>?_;refine wp_append_lies _ (.tmp 25) (.tmp 32) 22 rfl (w.heap.size+2) 5 i0 (.int .u8 0) 1 1 underlying22 B F G K rfl Z v k _ dU N (Qz wr.heap.size 0) 1 1 [.int .u8 b] dU rfl O ?h1c Z ?b1 ?b2 ?b3 _ rfl ?_
   (case h1c=>intro u y;simp at y;subst y;rfl);(case b1=>unfold maxLen;omega);(case b2=>omega);(case b3=>exact P);intro g o M f j q s;let l:=H (Y g o M f j);let⟨z,a0,_⟩:=l.out;apply c _ _;simp only[Act.put,Fw,FA,FB];refine cd (i:=10) (d:=34) (v:=J A 1) rfl E E E E (λ_ _ _ h=>h) (Or.inl ⟨E,λ_=>E⟩) ?_;apply bF (r:=11) E;refine cw λK' c=>?_;go_simp;apply c _ _;refine wpAny_done E ?_ _;go_wp2;go_roundw
   (exact⟨k+1,Z,aY,_,by rw[HE];simpa[Ns]using l.2.2⟩);exact QE
  skip
  refine cw λK' c=>?_;go_simp;apply (HG).mono;rintro e V⟨rfl,rfl⟩;apply c _ _;refine wpAny_all (rs:=[1,8]) E bH (λi hi=>?_);let S:i=1\/i=8:=(by simpa using hi)
  rcases S with rfl|rfl
  .skip
   refine cw λK' c=>?_;go_simp;apply c _ _;apply bF (r:=8) E;refine cw λK' c=>?_;go_simp;apply c _ _;apply bF (r:=9) E;refine cw λK' c=>?_;refine wp_append_lies _ (.tmp 25) (.tmp 32) 22 rfl (w.heap.size+2) 5 i0 (.int .u8 0) 1 1 underlying22 B F G K rfl Z v k _ dU N (Qz wr.heap.size 0) 1 1 [.int .u8 b] dU rfl O ?h1c Z ?b1 ?b2 ?b3 _ rfl ?_
   (case h1c=>intro u y;simp at y;subst y;rfl);(case b1=>unfold maxLen;omega);(case b2=>omega);(case b3=>exact P);intro g o M f j q s;let l:=H (Y g o M f j);let⟨z,a0,_⟩:=l.out;apply c _ _;simp only[Act.put,Fw,FA,FB];refine cd (i:=10) (d:=34) (v:=J A 1) rfl E E E E (λ_ _ _ h=>h) (Or.inl ⟨E,λ_=>E⟩) ?_;apply bF (r:=11) E;refine cw λK' c=>?_;go_simp;apply c _ _;refine wpAny_done E ?_ _;go_wp2;go_roundw
   (exact⟨k+1,Z,aY,_,by rw[HE];simpa[Ns]using l.2.2⟩);exact QE
  skip
  refine cw λK' c=>?_;go_simp;apply c _ _;apply bF (r:=1) E;refine cw λK' c=>?_;go_simp;apply c _ _;apply bF (r:=9) E;refine cw λK' c=>?_;refine wp_append_lies _ (.tmp 25) (.tmp 32) 22 rfl (w.heap.size+2) 5 i0 (.int .u8 0) 1 1 underlying22 B F G K rfl Z v k _ dU N (Qz wr.heap.size 0) 1 1 [.int .u8 b] dU rfl O ?h1c Z ?b1 ?b2 ?b3 _ rfl ?_
  (case h1c=>intro u y;simp at y;subst y;rfl);(case b1=>unfold maxLen;omega);(case b2=>omega);(case b3=>exact P);intro g o M f j q s;let l:=H (Y g o M f j);let⟨z,a0,_⟩:=l.out;apply c _ _;simp only[Act.put,Fw,FA,FB];refine cd (i:=10) (d:=34) (v:=J A 1) rfl E E E E (λ_ _ _ h=>h) (Or.inl ⟨E,λ_=>E⟩) ?_;apply bF (r:=11) E;refine cw λK' c=>?_;go_simp;refine c _ _ ?_;refine wpAny_done E ?_ _;go_wp2;go_roundw
  (exact⟨k+1,Z,aY,_,by rw[HE];simpa[Ns]using l.2.2⟩);exact QE
 have b:k=n:=Z;subst b;have x:=H p;go_wp2_with (first|(refine Rl rfl 284 _ rfl _ rfl _ _ _ _ x.at_ underlying284 rfl E ?_)|(refine Gf rfl 284 _ _ rfl _ _ rfl rfl 284 _ x.res E rfl ?o1 ?_));case o1=>exact x.one
 refine fM (aw x.res _) underlying284 ?_;exact⟨v,rfl,x.done⟩
def dZ(m:Nat->Option (Bool×List Int))(p:Nat)(x:Int):Nat->Option (Bool×List Int):=dT m (p/1024) ((m (p/1024)).map λq=>(q.1,q.2.set (p%1024) x))
def ay(m:Nat->Option (Bool×List Int))(a:Nat)(ys:List Int):Nat->(Nat->Option (Bool×List Int))
 |0=>m
 |k+1=>dZ (ay m a ys k) (a+k) (ys[k]?.getD 0)
def uP(m p x)(j:Nat):isOpen (dZ m p x j)=isOpen (m j):=by
 unfold dZ;by_cases e:j=p/1024
 .subst e;rw[bV];cases m (p/1024)with
  |none=>rfl
  |some q=>rfl
 rw[aW _ _ _ _ e]
def eO(m a ys):∀k j,isOpen (ay m a ys k j)=isOpen (m j)
 |0,j=>rfl
 |k+1,j=>by simp only[ay];rw[uP];exact eO m a ys k j
structure Dt(Q:Nat)(w:QM)(d:QP)(len:Nat)(ys:List Int):Prop where
 hlen:ys.length=len
 cell:∀i,i<len->∃x,d=some x/\w.cell? (x.add i)=some (.int .u8 (ys[i]?.getD 0))/\(x.add i).block<w.heap.size/\(x.add i).block≠Q/\¬e_ Q w (x.add i).block
def Dt.keep{w' d len ys}(h:Dt Q w d len ys)(a:Sf Q w w'):Dt Q w' d len ys:=by
 refine⟨h.hlen,λi j=>?_⟩;let⟨x,k,b,c,e,f⟩:=h.cell i j;refine⟨x,k,?_,FG c a.size,e,λl=>?_⟩;.unfold World.cell? at b⊢;rwa[a.block _ c e f]
 rcases a.pg _ l with g|g;.exact f g
 omega
def Sf.ofPut{a:QM}(l:Sx T Q n bud m w){c:Array QN}(f:w.heap[g]?=some (.cells c 5))(o:w.cell? (Qz Q (k*3+2))=some (Vl g 1024 1024))(h:w.grownBy a (some g)):Sf Q w a:=by
 let⟨s,i,_⟩:=l.row;let b:Q≠g:=by intro e;subst e;rw[i]at f;simp at f
 let p:a.heap[Q]?=w.heap[Q]?:=h.block Q (ag i) (by simpa using b);refine⟨h.os,h.tape,h.output,h.size,λx q _ r=>h.block x q (λe=>r ⟨k,by rw[o];simp at e;rw[e]⟩),λx⟨j,d⟩=>.inl ⟨j,?_⟩⟩;unfold World.cell? at d⊢;rw[p]at d;exact d
structure Sa(w:QM)(Q Rb A:Nat)(W:QM):Prop where
 at_:W.heap[A]?=some (.cells #[I 0,C] 284)
 res:W.heap[Rb]?=some (.cells #[I 0,C] 284)
 fr:Sf Q w W
 hA:A=w.heap.size+1
 hR:Rb=w.heap.size
def Sa.next{d:QM}(h:Sa w Q Rb A W)(f:Sx T Q n bud m W){c:Array QN}(a:W.heap[g]?=some (.cells c 5))(i:W.cell? (Qz Q (k*3+2))=some (Vl g 1024 1024))(b:W.grownBy d (some g)):Sa w Q Rb A d:=by
 let j:A≠g:=by intro e;subst e;rw[h.at_]at a;simp at a
 let l:Rb≠g:=by intro e;subst e;rw[h.res]at a;simp at a
 exact⟨(b.block A (ag h.at_) (by simpa using j)).trans h.at_,(b.block Rb (ag h.res) (by simpa using l)).trans h.res,h.fr.trans (Sf.ofPut f a i b),h.hA,h.hR⟩
def Sx.other{i:QM}(h:Sx T Q n bud m W)(w:W.grownBy i (some r))(x:∀c t f,W.heap[r]?=some (.cells c t f)->t≠303/\t≠305/\t≠5):Sx T Q n bud m i:=by
 let a:∀(g:Nat)(c:Array QN)(t:QO)(f:Nat×Nat),W.heap[g]?=some (.cells c t f)->(t=303\/t=305\/t=5)->i.heap[g]?=W.heap[g]?:=by
  intro g c t f b j;apply w.block g (ag b);intro e;simp at e;subst e;let⟨o,p,s⟩:=x c t f b;rcases j with e|e|e;.exact o e
  .exact p e
  exact s e
 let⟨c,e,y,j,b⟩:=h.row;refine⟨(a _ _ _ _ h.box (.inl rfl)).trans h.box,⟨c,(a _ _ _ _ e (.inr (.inl rfl))).trans e,y,λk z=>?_,b⟩,h.out⟩;let d:=j k z;cases u:m k with
 |none=>rw[u]at d;exact d
 |some q=>let⟨l,xs⟩:=q;rw[u]at d;let⟨o,p,A,g,s,v⟩:=d;exact⟨o,p,A,g,s,(a _ _ _ _ v (.inr (.inr rfl))).trans v⟩
def Sf.newBlock(h:Sf Q w W)(l:w.heap.size<=r)(c:r≠Q)(a:Array QN):Sf Q w (W.setRow r a):=by
 let b:=aj W r a;refine⟨b.os.trans h.os,b.tape.trans h.tape,b.output.trans h.output,Fx h.size b.size,λg f i k=>?_,λg⟨j,d⟩=>h.pg g ⟨j,?_⟩⟩
 .let e:r≠g:=Z;have:(W.setRow r a).heap[g]?=W.heap[g]?:=by simp[World.setRow,FD,e]
  rw[this];exact h.block g f i k
 have:(W.setRow r a).heap[Q]?=W.heap[Q]?:=by simp[World.setRow,FD,c]
 unfold World.cell? at d⊢;rw[this]at d;exact d
def Sa.done(h:Sa w Q Rb A W)(b:Q<w.heap.size)(a:Array QN):Sf Q w (W.setRow Rb a):=
 h.fr.newBlock (by have:=h.hR;omega) (by have:=h.hR;omega) a
def jn(T Q nn bud m)(a:Nat)(n)(z:Nat)(d ys w)(b:Sx T Q nn bud m w)(c:Dt Q w d n ys)(B:nn<=4096)(h2:n<=4096)(ha:a+n<18446744073709551616)(j:∀i,i<n->isOpen (m ((a+i)/1024))=true)(f:∀W,D w W->QA 268 #[J T 0,U a,I n] W λe u=>e=QJ (I 0)/\u=W):
  Calls prog 190 #[J T 0,U a,.slice d n z] w λe u=>e=QJ (.agg #[I 0,C])/\Sx T Q nn bud (ay m a ys n) u/\Sf Q w u:=by
 let⟨N,F,O,P⟩:=Qf f b j c;go_in;go_wp2_with fail;apply (N _ ph).mono;rintro _ w1⟨rfl,rfl⟩;refine(let_mvar%?A:=(w.alloc (.cells #[I 0,C] 284)).alloc (.cells #[I 0,C] 284);?_);have b:D w ?A:=ph.alloc (by rw[aO];omega) _;have o:Hid (Sa w Q w.heap.size (w.heap.size+1) ?A):=
  ⟨by rw[<-aO w];exact XD,by rw[eg _ _ _ (by rw[aO];omega)];exact XD,Sf.ofBelow b F.ltQ,rfl,rfl⟩
 let⟨G,R⟩:=y7 (F.below b) F.ltQ;go_wp2;refine(let_mvar%?B:=Obj.cells #[Value.int IntKind.i64 0,C] 284;?_);generalize (w.alloc ?B).alloc ?B=W0 at o G⊢;generalize S:w.heap.size+1=A at o⊢;generalize V:w.heap.size=Rb at o⊢;refine(let_mvar%?C:=ay m a ys;?_);go_loopw [8] (λi wr=>∃k:Nat,k<=n/\i=I k/\Hid (Sa w Q Rb A wr/\Sx T Q nn bud (?C k) wr)) (λi _=>n-(intOf i).toNat);exact⟨0,aa,rfl,o,G⟩
 obtain⟨k,hk,rfl,b⟩:=hrel;let K:wr.cell? (Qz A 0)=some (I 0):=by simp[QC,b.1.at_]
 by_cases p:k<n
 .obtain⟨x,rfl,X,_⟩:=(P.keep b.1.fr).cell k p;let j:isOpen (?C k ((a+k)/1024))=true:=(by rw[eO];exact O k p);cases v:?C k ((a+k)/1024)with
  |none=>rw[v]at j;cases j
  |some q=>have⟨l,xs⟩:=q;have Y:=H (ud T Q nn bud (?C k) (a+k) (ys[k]?.getD 0) wr b.2 B Z v);have HE:=H (show ?C (k+1)=dT (?C k) ((a+k)/1024) (some (l,xs.set ((a+k)%1024) (ys[k]?.getD 0))) by simp only[ay,dZ,v];rfl);have m1:IntKind.u64.wrap (k:Int)=(k:Int):=(by rw[IntKind.wrap_u64];omega);have EC:=H (show(a:Int)+(k:Int)=((a+k:Nat):Int) by omega);generalize ys[k]?.getD 0=y at*;go_wp2_with fail;rw[EC];apply (Y).mono;rintro e w2⟨rfl,r,g,c,L,s,t⟩;have M:=H (IT (b.1.next b.2 L s t) r);go_wp2;go_roundw;(exact⟨k+1,Z,aY,M.1,by rw[HE];exact M.2⟩);exact QE
 have j:k=n:=Z;subst j;go_wp2_with (first|(refine Rl rfl 284 _ rfl _ rfl _ _ _ _ b.1.at_ underlying284 rfl E ?_)|(refine eG b.1.res ?_));refine fM (aw b.1.res _) underlying284 ?_;exact⟨rfl,b.2.other (aj wr Rb _) (λc t f e=>by rw[b.1.res]at e;cases e;exact⟨ar,ar,ar⟩),b.1.done R _⟩
def ci(m:Nat->Option (Bool×List Int))(a:Nat)(n:Int):Int:=
 if n<0\/4096<n then 6 else if n=0 then 0 else if 4611686018427387904<=(a:Int)+(n-1)then 2 else jk (dE m a n.toNat)
def nR(T Q nn bud m)(a:Nat)(n w)(g:Sx T Q nn bud m w)(b:nn<=4096)(ha:a<18446744073709551616):
  QA 268 #[J T 0,U a,I n] w λe i=>e=QJ (I (ci m a n))/\i=w:=by
 unfold ci;by_cases c:n<0\/4096<n;.rw[GP c];exact kP T a n w c
 rw[GO c];by_cases d:n=0;.rw[GP d];subst d;exact mJ T a w
 rw[GO d];by_cases f:4611686018427387904<=(a:Int)+(n-1);.rw[GP f];exact nf T a n w Z Z Z Z f
 rw[GO f];obtain⟨k,rfl⟩:=Ha (show 0<=n by omega);exact lI T Q nn bud m a k w g b Z Z Z
def ku{m a}: ∀{n:Nat},dE m a n=true->∀i,i<n->isOpen (m ((a+i)/1024))=true
 |0,_,i,b=>by omega
 |n+1,h,i,b=>by
  simp only[dE,Gi]at h
  by_cases e:i=n
  .subst e;exact h.2
  exact ku h.1 i Z
def ut{a n}(h:ci m a n=0):0<=n/\n<=4096/\(n=0\/(a:Int)+n<=4611686018427387904)/\∀i,i<n.toNat->isOpen (m ((a+i)/1024))=true:=by
 unfold ci at h;split at h;.omega
 split at h;.rename_i c b;subst b;exact⟨Z,Z,.inl rfl,λi d=>by simp at d⟩
 split at h;.omega
 rename_i c b e;refine⟨Z,Z,.inr Z,ku ?_⟩;unfold jk at h;split at h;.assumption
 omega
def oI(T a n)(c:Int)(w)(f:(c==0)=false)(h:∀W,D w W->QA 268 #[J T 0,U a,I n] W λe b=>e=QJ (I c)/\b=W):
  Calls prog 189 #[J T 0,U a,I n] w λe b=>e=QJ (.agg #[I c,C])/\D w b:=by
 let d:=H h;by_cases g:0<n
 all_goals
  go_in
  go_wp2_with fail
  apply (d _ ph).mono
  rintro _ i⟨rfl,rfl⟩
  go_wp2_with fail
  apply Hc 1
  rw[Hu]
  go_wp2
  exact GX (v:=.agg #[I c,C]) (by simp[results,Tryz.results189,go_sem]) rfl ⟨rfl,((Fu _ w).alloc gi _).alloc bH _⟩
def nv(T a)(c:Int)(d:QP)(b f:Nat)(w)(j:(c==0)=false)(h:∀W,D w W->QA 268 #[J T 0,U a,I b] W λe g=>e=QJ (I c)/\g=W):
  Calls prog 190 #[J T 0,U a,.slice d b f] w λe g=>e=QJ (.agg #[I c,C])/\D w g:=by
 let i:=H h;by_cases k:0<b
 all_goals
  go_in
  go_wp2_with fail
  apply (i _ ph).mono
  rintro _ l⟨rfl,rfl⟩
  go_wp2_with fail
  apply Hc 1
  rw[Hu]
  go_wp2
  exact GX (v:=.agg #[I c,C]) (by simp[results,Tryz.results190,go_sem]) rfl ⟨rfl,((Fu _ w).alloc gi _).alloc bH _⟩
def yY(T Q nn bud m)(a:Nat)(n w)(j:Sx T Q nn bud m w)(d:nn<=4096)(ha:a<18446744073709551616)(c:Int)(i:ci m a n=c):
  QA 189 #[J T 0,U a,I n] w λe f=>∃v,e=QJ (.agg #[I c,v])/\f.ownsRow w.heap.size 5 1 v (if c=0 then n.toNat else 0) (Ns .u8 (if c=0 then aH m a n.toNat else[]))/\D w f:=by
 let b:∀W,D w W->QA 268 #[J T 0,U a,I n] W λe f=>e=QJ (I c)/\f=W:=λW p=>by have:=nR T Q nn bud m a n W (j.below p) d ha;rw[i]at this;exact this
 by_cases g:c=0
 .subst g;let⟨q,r,s,l⟩:=ut i;obtain⟨k,rfl⟩:=Ha q;simp only[IM,F0]at l⊢;rcases Nat.eq_zero_or_pos k with o|o;.subst o;exact kr T Q nn bud m a 0 w j d Z Z (λi i=>Z) b
  exact kr T Q nn bud m a k w j d Z Z l b
 apply(oI T a n c w (by simp[g]) b).mono;rintro e f⟨rfl,l⟩;refine⟨_,rfl,?_,l⟩;rw[GO g,GO g];exact⟨rfl,.inl ⟨rfl,rfl⟩⟩
def qR(T Q nn bud m)(a:Nat)(len)(f:Nat)(d ys w)(j:Sx T Q nn bud m w)(n:Dt Q w d len ys)(g:nn<=4096)(ha:a<18446744073709551616)(c:Int)(i:ci m a (len:Int)=c):
  QA 190 #[J T 0,U a,.slice d len f] w λe k=>e=QJ (.agg #[I c,C])/\Sx T Q nn bud (if c=0 then ay m a ys len else m) k/\Sf Q w k:=by
 let b:∀W,D w W->QA 268 #[J T 0,U a,I len] W λe k=>e=QJ (I c)/\k=W:=λW q=>by have:=nR T Q nn bud m a len W (j.below q) g ha;rw[i]at this;exact this
 by_cases l:c=0
 .subst l;let⟨r,s,t,o⟩:=ut i;simp only[IM,F0]at o⊢;rcases Nat.eq_zero_or_pos len with p|p;.subst p;exact jn T Q nn bud m a 0 f d ys w j n g Z Z (λi i=>Z) b
  exact jn T Q nn bud m a len f d ys w j n g Z Z o b
 apply(nv T a c d len f w (by simp[l]) b).mono;rintro e k⟨rfl,o⟩;rw[GO l];exact⟨rfl,j.below o,Sf.ofBelow o j.ltQ⟩
end
section
variable {W W' w:World}{M S g:Nat}{bud c n p s t:Int}{f:Nat->Option Nat}{m:Nat->Option (Bool×List Int)}
def kf(k p c:Int)(a:Nat)(n:Int)(d:Option Addr)(dl dc:Nat):Value:=.agg #[I k,I p,I c,U a,I n,.slice d dl dc]
def zp{a:Nat}{v:QN}{k:Nat}{b:List QN}(h:W.ownsRow a 5 1 v k b){c:Int}:(#[Value.int IntKind.i64 c,v].all λx=>x.oneCell')=true:=by rcases h.2 with⟨rfl,_⟩|⟨g,d,e,rfl,_⟩<;>simp[Value.oneCell']
def Im.lt{S M st n bud f w}(h:Im S M st n bud f w):S<w.heap.size/\M<w.heap.size:=by let⟨a,b,c⟩:=h.map;exact⟨ag h.box,b.lt⟩
def Im.setRow{S M st n bud f w}(h:Im S M st n bud f w){r:Nat}(d:r≠S)(e:r≠M)(b:Array QN):Im S M st n bud f (w.setRow r b):=by let c:=aj w r b;let⟨a,g,i⟩:=h.map;exact⟨(c.block S (ag h.box) (by simpa using Iq d)).trans h.box,a,g.kept c (by simpa using Iq e),i⟩
def Im.apartT{st}(h:Im S M st n bud f W)(j:Pg f m W){c:Array QN}{t:QO}{o:Nat×Nat}(d:W.heap[g]?=some (.cells c t o))(p:t≠187)(q:t≠220):g≠S/\g≠M/\∀k,f k≠some g:=by
 refine⟨?_,?_,λk i=>?_⟩;.rintro rfl;have:=h.box;rw[d]at this;simp at this;exact p this.2.1
 .rintro rfl;obtain⟨a,⟨l,b,e,_⟩,_⟩:=h.map;rw[d]at e;cases e
 rcases j.at' k with⟨a,_⟩|⟨b,l,r,a,_,_,e⟩;.rw[i]at a;cases a
 rw[i]at a;cases a;rw[d]at e;simp at e;exact q e.2.1
def Pg.other(h:Pg f m W)(c:∀k b,f k=some b->W'.heap[b]?=W.heap[b]?):Pg f m W':=
 ⟨λk=>(h.at' k).imp id λ⟨b,l,d,a,e,g,i⟩=>⟨b,l,d,a,e,g,(c k b a).trans i⟩,h.inj⟩
structure Dl(w:QM)(op:Array QN)(S M:Nat)(nn bud:Int)(f f':Nat->Option Nat)(m:Nat->Option (Bool×List Int))(O Rb:Nat)(V:QM):Prop where
 im:Im S M 1 nn bud f' V
 pg:Pg f' m V
 fr:Fr S M f f' w V
 o:V.heap[O]?=some (.cells op 216)
 r:V.heap[Rb]?=some (.cells #[I 0,C] 284)
 hO:O=w.heap.size
 hR:Rb=w.heap.size+1
def Dl.first(h:Im S M 0 n bud f w)(i:Pg f m w)(op):Dl w op S M n bud f f m w.heap.size (w.heap.size+1) (((w.alloc (.cells op 216)).alloc (.cells #[I 0,C] 284)).setCell (Qz S 0) (.int .i32 1)):=by
 let o:=h.lt;let c:=(h.alloc (.cells op 216)).alloc (.cells #[I 0,C] 284);let d:=(i.alloc (.cells op 216)).alloc (.cells #[I 0,C] 284);refine⟨c.st 1,d.other (λk b a=>XB (d.apart c a).1),?_,?_,?_,rfl,rfl⟩;.refine(let_mvar%?A:=(w.alloc (.cells op 216)).alloc (.cells #[I 0,C] 284);?_);let a:D w ?A:=ph.alloc (by rw[aO];omega) _;let b:=au (Q6 ?A S) 0 (.int .i32 1);exact⟨b.os.trans a.os,b.tape.trans a.tape,b.output.trans a.output,Fx a.size b.size,λg e j p q=>(b.block g (FG e a.size) (by simpa using j)).trans (a.block g e),λk g l=>.inl ⟨k,l⟩⟩
 .rw[XB (by show w.heap.size≠S;omega),eg _ _ _ (by rw[aO];omega)];exact XD
 rw[XB (by show w.heap.size+1≠S;omega),<-aO w (.cells op 216)];exact XD
def Dl.move{O Rb f' f'' m' V V' op}(h:Dl w op S M n bud f f' m O Rb V)(b:Im S M 1 n bud f'' V')(c:Pg f'' m' V')(a:Fr S M f' f'' V V'):Dl w op S M n bud f f'' m' O Rb V':=by let⟨d,e,g⟩:=h.im.apartT h.pg h.o ar ar;let⟨i,j,k⟩:=h.im.apartT h.pg h.r ar ar;exact⟨b,c,h.fr.trans a,(a.block O (ag h.o) d e g).trans h.o,(a.block Rb (ag h.r) i j k).trans h.r,h.hO,h.hR⟩
def tg(S M:Nat)(n bud:Int)(f:Nat->Option Nat)(m:Nat->Option (Bool×List Int))(w w':World):Prop:=∃e,Im S M 0 n bud e w'/\Pg e m w'/\Fr S M f e w w'
def Dl.done{O Rb f' V op}(h:Dl w op S M n bud f f' m O Rb V)(a:Array QN):(V.setRow Rb a).cell? (Qz S 0)=some (.int .i32 1)/\(V.setRow Rb a).frozen? (Qz S 0)=false/\((V.setRow Rb a).setCell (Qz S 0) (.int .i32 0)).heap[Rb]?=some (.cells a 284)/\tg S M n bud f m w ((V.setRow Rb a).setCell (Qz S 0) (.int .i32 0)):=by
 let⟨o,q,r⟩:=h.im.apartT h.pg h.r ar ar;let i:=h.im.setRow o q a;let c:=aj V Rb a;let p:Pg f' m (V.setRow Rb a):=h.pg.other (λk b d=>c.block b (by
  rcases h.pg.at' k with⟨e,_⟩|⟨s,l,t,e,_,_,j⟩;.rw[d]at e;cases e
  rw[d]at e;cases e;exact ag j) (λe=>by cases e;exact r k d))
 let e:=au (Q6 (V.setRow Rb a) S) 0 (.int .i32 0);refine⟨by simp[QC,i.box],by simp[QD,i.box],?_,f',i.st 0,p.other (λk b d=>XB (p.apart i d).1),?_⟩;.rw[XB o];exact aw h.r a
 let u:=h.hR;exact⟨e.os.trans (c.os.trans h.fr.os),e.tape.trans (c.tape.trans h.fr.tape),e.output.trans (c.output.trans h.fr.output),Fx h.fr.size (Fx c.size e.size),λg j l s t=>(e.block g (FG j (Fx h.fr.size c.size)) (by simpa using l)).trans ((c.block g (FG j h.fr.size) bG).trans (h.fr.block g j l s t)),h.fr.made⟩
def wH(S M nn bud f m)(b:Int)(p c a n d dl dc w)(h:Im S M 0 nn bud f w)(g:Pg f m w)(k:b<0\/5<b):
  QA 171 #[J S 0,kf b p c a n d dl dc] w λe l=>e=QJ (.agg #[I 6,C])/\tg S M nn bud f m w l:=by
 have o:¬b=0:=Z;have q:¬b=1:=Z;have r:¬b=2:=Z;have s:¬b=3:=Z;have t:¬b=4:=Z;have u:¬b=5:=Z;have⟨i,j⟩:=y7 h g;clear h k g;unfold kf;go_enter_defers func171,ntmps171;go_wp2_with fail;apply (fX ((i.alloc _).alloc _)).mono;rintro e V⟨rfl,k⟩;let g:=H (Dl.first i j #[I b,I p,I c,U a,I n,.slice d dl dc]);rw[<-k]at g;clear k;generalize j:w.heap.size+1=v at g⊢;generalize w.heap.size=O at g⊢;let x:V.cell? (Qz O 0)=some (I b):=by simp[QC,g.o]
 go_wp2_with (apply eG g.r);let i:=g.done #[I 6,C];refine Iy (f:=119) (args:=#[J S 0]) bH (by simp[go_sem]) ?_;apply (Go.MuLone.unlock_deferred jw (Qz S 0) .returning _ i.1 i.2.1).mono;rintro e y k⟨rfl,rfl,rfl⟩;exact⟨_,AV i.2.2.1 underlying284,rfl,i.2.2.2⟩
def lL(S M nn bud f m){m' code}(p c a n d dl dc w)(h:Im S M 0 nn bud f w)(b:Pg f m w)(k:∀V,Im S M 1 nn bud f V->Pg f m V->QA 214 #[J S 0,I p,I c] V λe g=>e=QJ (I code)/\∃i,Im S M 1 nn bud i g/\Pg i m' g/\Fr S M f i V g):
  QA 171 #[J S 0,kf 0 p c a n d dl dc] w λe g=>e=QJ (.agg #[I code,C])/\tg S M nn bud f m' w g:=by
 let⟨j,l,o⟩:=Qe h b k;clear h b k;unfold kf;go_enter_defers func171,ntmps171;go_wp2_with fail;apply (fX ((j.alloc _).alloc _)).mono;rintro e V⟨rfl,q⟩;let b:=H (Dl.first j l #[I 0,I p,I c,U a,I n,.slice d dl dc]);rw[<-q]at b;clear q;generalize s:w.heap.size+1=x at b⊢;generalize w.heap.size=O at b⊢;have t:V.cell? (Qz O 0)=some (I 0):=by simp[QC,b.o]
 have u:V.cell? (Qz O 1)=some (I p):=by simp[QC,b.o]
 have v:V.cell? (Qz O 2)=some (I c):=by simp[QC,b.o]
 go_wp2_with fail;apply (o V b.im b.pg).mono;rintro e y⟨rfl,i,j,l,q⟩;have r:=H (b.move j l q);clear j l q t u v;go_wp2_with (apply eG r.r);let b:=r.done #[I code,C];refine Iy (f:=119) (args:=#[J S 0]) bH (by simp[go_sem]) ?_;apply (Go.MuLone.unlock_deferred jw (Qz S 0) .returning _ b.1 b.2.1).mono;rintro e l j⟨rfl,rfl,rfl⟩;exact⟨_,AV b.2.2.1 underlying284,rfl,b.2.2.2⟩
def jz(S M nn bud f m){m' code}(p c a n d dl dc w)(h:Im S M 0 nn bud f w)(b:Pg f m w)(k:∀V,Im S M 1 nn bud f V->Pg f m V->QA 215 #[J S 0,I p,I c] V λe g=>e=QJ (I code)/\∃i,Im S M 1 nn bud i g/\Pg i m' g/\Fr S M f i V g):
  QA 171 #[J S 0,kf 1 p c a n d dl dc] w λe g=>e=QJ (.agg #[I code,C])/\tg S M nn bud f m' w g:=by
 let⟨j,l,o⟩:=Qe h b k;clear h b k;unfold kf;go_enter_defers func171,ntmps171;go_wp2_with fail;apply (fX ((j.alloc _).alloc _)).mono;rintro e V⟨rfl,q⟩;let b:=H (Dl.first j l #[I 1,I p,I c,U a,I n,.slice d dl dc]);rw[<-q]at b;clear q;generalize s:w.heap.size+1=x at b⊢;generalize w.heap.size=O at b⊢;have t:V.cell? (Qz O 0)=some (I 1):=by simp[QC,b.o]
 have u:V.cell? (Qz O 1)=some (I p):=by simp[QC,b.o]
 have v:V.cell? (Qz O 2)=some (I c):=by simp[QC,b.o]
 go_wp2_with fail;apply (o V b.im b.pg).mono;rintro e y⟨rfl,i,j,l,q⟩;have r:=H (b.move j l q);clear j l q t u v;go_wp2_with (apply eG r.r);let b:=r.done #[I code,C];refine Iy (f:=119) (args:=#[J S 0]) bH (by simp[go_sem]) ?_;apply (Go.MuLone.unlock_deferred jw (Qz S 0) .returning _ b.1 b.2.1).mono;rintro e l j⟨rfl,rfl,rfl⟩;exact⟨_,AV b.2.2.1 underlying284,rfl,b.2.2.2⟩
def ri(S M nn bud f m){m' code}(p c a n d dl dc w)(h:Im S M 0 nn bud f w)(b:Pg f m w)(k:∀V,Im S M 1 nn bud f V->Pg f m V->QA 216 #[J S 0,I p,I c,.bool true] V λe g=>e=QJ (I code)/\∃i,Im S M 1 nn bud i g/\Pg i m' g/\Fr S M f i V g):
  QA 171 #[J S 0,kf 2 p c a n d dl dc] w λe g=>e=QJ (.agg #[I code,C])/\tg S M nn bud f m' w g:=by
 let⟨j,l,o⟩:=Qe h b k;clear h b k;unfold kf;go_enter_defers func171,ntmps171;go_wp2_with fail;apply (fX ((j.alloc _).alloc _)).mono;rintro e V⟨rfl,q⟩;let b:=H (Dl.first j l #[I 2,I p,I c,U a,I n,.slice d dl dc]);rw[<-q]at b;clear q;generalize s:w.heap.size+1=x at b⊢;generalize w.heap.size=O at b⊢;have t:V.cell? (Qz O 0)=some (I 2):=by simp[QC,b.o]
 have u:V.cell? (Qz O 1)=some (I p):=by simp[QC,b.o]
 have v:V.cell? (Qz O 2)=some (I c):=by simp[QC,b.o]
 go_wp2_with fail;apply (o V b.im b.pg).mono;rintro e y⟨rfl,i,j,l,q⟩;have r:=H (b.move j l q);clear j l q t u v;go_wp2_with (apply eG r.r);let b:=r.done #[I code,C];refine Iy (f:=119) (args:=#[J S 0]) bH (by simp[go_sem]) ?_;apply (Go.MuLone.unlock_deferred jw (Qz S 0) .returning _ b.1 b.2.1).mono;rintro e l j⟨rfl,rfl,rfl⟩;exact⟨_,AV b.2.2.1 underlying284,rfl,b.2.2.2⟩
def my(S M nn bud f m){m' code}(p c a n d dl dc w)(h:Im S M 0 nn bud f w)(b:Pg f m w)(k:∀V,Im S M 1 nn bud f V->Pg f m V->QA 216 #[J S 0,I p,I c,.bool false] V λe g=>e=QJ (I code)/\∃i,Im S M 1 nn bud i g/\Pg i m' g/\Fr S M f i V g):
  QA 171 #[J S 0,kf 3 p c a n d dl dc] w λe g=>e=QJ (.agg #[I code,C])/\tg S M nn bud f m' w g:=by
 let⟨j,l,o⟩:=Qe h b k;clear h b k;unfold kf;go_enter_defers func171,ntmps171;go_wp2_with fail;apply (fX ((j.alloc _).alloc _)).mono;rintro e V⟨rfl,q⟩;let b:=H (Dl.first j l #[I 3,I p,I c,U a,I n,.slice d dl dc]);rw[<-q]at b;clear q;generalize s:w.heap.size+1=x at b⊢;generalize w.heap.size=O at b⊢;have t:V.cell? (Qz O 0)=some (I 3):=by simp[QC,b.o]
 have u:V.cell? (Qz O 1)=some (I p):=by simp[QC,b.o]
 have v:V.cell? (Qz O 2)=some (I c):=by simp[QC,b.o]
 go_wp2_with fail;apply (o V b.im b.pg).mono;rintro e y⟨rfl,i,j,l,q⟩;have r:=H (b.move j l q);clear j l q t u v;go_wp2_with (apply eG r.r);let b:=r.done #[I code,C];refine Iy (f:=119) (args:=#[J S 0]) bH (by simp[go_sem]) ?_;apply (Go.MuLone.unlock_deferred jw (Qz S 0) .returning _ b.1 b.2.1).mono;rintro e l j⟨rfl,rfl,rfl⟩;exact⟨_,AV b.2.2.1 underlying284,rfl,b.2.2.2⟩
def Tryz.info92:(prog.info? 305).map (λi=>(i.zero,i.size,i.bytes))=some (some (.agg #[.bool false,.bool false,C]),3,32):=E
def lj{z:Array QN}{n i:Nat}(a:i<n):(madeCells z n)[i]?=some (z[i%z.size]!):=by simp[madeCells,a]
def Sx.made(w:QM)(n bud):Sx (w.heap.size+1) w.heap.size n bud (λ_=>none) ((w.alloc (.cells (madeCells #[.bool false,.bool false,C] (n*3)) 305)).alloc (.cells #[Vl w.heap.size n n,I bud] 303)):=by
 refine⟨by rw[<-aO w (.cells (madeCells #[.bool false,.bool false,C] (n*3)) 305)];exact XD,⟨_,by rw[eg _ _ _ (by rw[aO];omega)];exact XD,size_madeCells _ _,λk d=>?_,λj k g f d b _=>?_⟩,λ_ _=>rfl⟩
 .let c:k*3%3=0:=Z;let e:(k*3+1)%3=1:=Z;let a:(k*3+2)%3=2:=Z;refine⟨?_,?_,?_⟩;.rw[lj Z];refine(let_mvar%?A:=(#[Value.bool false,.bool false,C]:Array QN);?_);show some (?A[k*3%3]!)=_;rw[c];rfl
  .rw[lj Z];show some (?A[(k*3+1)%3]!)=_;rw[e];rfl
  rw[lj Z];show some (?A[(k*3+2)%3]!)=_;rw[a];rfl
 let a:(j*3+2)%3=2:=Z;rw[lj Z]at b;let c:some ((#[Value.bool false,.bool false,C]:Array QN)[(j*3+2)%3]!)=some (Value.slice (some (Qz g 0)) 1024 1024):=b;rw[a]at c;cases c
def Ce(n:Nat)(bud)(w:QM)(l:n<=4096):
  Calls prog 180 #[I n,I bud] w λe d=>∃T Q,e=QJ (J T 0)/\Sx T Q n bud (λ_=>none) d/\D w d/\w.heap.size<=T/\w.heap.size<=Q:=by
 let⟨f,g,a,b,c⟩:=G0 Tryz.info92;refine(let_mvar%?A:=madeCells #[.bool false,.bool false,C] (n*3);?_);have i:(Instr.makeSlice 301 (I n) (I n)).run prog w=.ok (Vl w.heap.size n n) (w.alloc (.cells (?A) 305)):=by have:=run_make (P:=prog) w 301 305 f _ underlying301 g a .i64 .i64 n n Z (Int.le_refl _) (by rw[c];omega) Z;rw[b]at this;simpa[Value.cells]using this
 have j:=H (Sx.made w n bud);have k:Hid (D w ((w.alloc (.cells (?A) 305)).alloc (.cells #[Vl w.heap.size n n,I bud] 303))):=H (ph.alloc (by rw[aO];omega) _);generalize ?A=m at*;go_wp2;go_ret;exact⟨_,_,rfl,j,k,Z,Z⟩
attribute [local go_sem] Oper.semAt_some
def Da(S M:Nat)(f:Nat->Option Nat)(w:World)(p:Option Addr)(n:Nat)(ys:List Int):Prop:=
 ys.length=n/\∀i,i<n->∃x,p=some x/\w.cell? (x.add i)=some (.int .u8 (ys[i]?.getD 0))/\(x.add i).block<w.heap.size/\(x.add i).block≠S/\(x.add i).block≠M/\∀k,f k≠some (x.add i).block
def Da.cell{S M f f' w W p n ys}(h:Da S M f w p n ys)(a:Fr S M f f' w W):∀i,i<n->∃x,p=some x/\W.cell? (x.add i)=some (.int .u8 (ys[i]?.getD 0)):=by intro i b;let⟨x,e,c,l,d,g,j⟩:=h.2 i b;refine⟨x,e,?_⟩;unfold World.cell? at c⊢;rwa[a.block _ l d g j]
structure Sd(S M:Nat)(st nn bud:Int)(f:Nat->Option Nat)(mm:Nat->Option (Bool×List Int))(w:QM)(DB:Nat)(p:QP)(n cap c:Nat)(W:QM):Prop where
 im:Im S M st nn bud f W
 pg:Pg f mm W
 fr:Fr S M f f w W
 box:∃pd,W.heap[DB]?=some (.cells #[.slice pd (n-c) (cap-c)] 22)/\(c<n->∃x,p=some x/\pd=some (x.add c))
 mlt:M<w.heap.size
 dge:w.heap.size<=DB
def sM(w:QM)(n o:QP)(a c b d g f:Nat)(i:List QN)(t:QO)(p:w.heap[g]?=some (.cells i.toArray t))(e:List QN)(q:e.length=Nat.min b a)
  (k:0<e.length->n=some (Qz g f)/\∃m,o=some m/\∀j v,e[j]?=some v->w.cell? (m.add j)=some v)
  (j:f+e.length<=i.length) (r:∀v∈e,v.oneCell'=true):
  ∃l,(Builtin.copy_ #[22,22] 3 #[.slice n a c,.slice o b d]).run prog w=.ok (I e.length) l/\l.heap[g]?=some (.cells (splice i f e).toArray t)/\w.grownBy l (some g):=by
 by_cases s:e.length=0;.obtain rfl:e=[]:=Ik s;refine⟨w,run_copy_none (P:=prog) w 22 22 3 5 n o a c b d underlying22 E (by simpa using q.symm),by simpa[splice]using p,Q6 w g⟩
 obtain⟨rfl,m,rfl,l⟩:=k Z;refine⟨_,run_copy_row (P:=prog) w 22 22 3 5 g f a c m b d i.toArray t e underlying22 E p q l (by simpa using j) r,?_,aj w g _⟩;simpa[splice]using setRow_heap w g _ _ t _ p
def xD(c:QP)(l a b:Nat)(f:l<=a)(g:a<=b):∃d,(∀w:QM,(Instr.slice 22 (.slice c a b) (some (I l)) none none).run prog w=.ok (.slice d (a-l) (b-l)) w)/\(l<a->d=c.map λx=>x.add l):=by
 let d:prog.elem 22=5:=E
 let e:∀w:QM,(sizeOf (prog.elem 22)).run prog w=.ok 1 w:=λw=>E
 refine⟨if b=l then c else c.map λx=>x.add l,λw=>?_,λh=>?_⟩;.rw[(λw=>run_slice_l (P:=prog) w 22 c a b (by rw[d];exact underlying22) .i64 (l:Int) Z Z) w,e];simp[sliced,Result.andThen]
 rw[GO Z]
def Pg.lay{mm}(h:Pg f mm W){k:Nat}(c:f k=some g){l}{xs:List Int}(m:xs.length=1024)(n:W'.heap[g]?=some (.cells (eh l xs) 220))(o:W.grownBy W' (some g)):Pg f (dT mm k (some (l,xs))) W':=by
 refine⟨?_,h.inj⟩;intro j;by_cases e:j=k;.subst e;exact .inr ⟨g,l,xs,c,bV,m,n⟩
 rw[aW mm k j _ e];rcases h.at' j with a|⟨d,p,b,a,q,r,i⟩;.exact .inl a
 refine .inr ⟨d,p,b,a,q,r,?_⟩;rwa[o.block d (G_ i) (λb=>by cases b;exact e (h.inj j k _ a c))]
def Im.grownAt{st}(h:Im S M st n bud f W)(e:W.grownBy W' (some g))(i:g≠S)(j:g≠M):Im S M st n bud f W':=by
 obtain⟨a,⟨k,b,c,l⟩,r⟩:=h.map;refine⟨by rw[e.block S (G_ h.box) (by simpa using i.symm)];exact h.box,a,⟨k,b,?_,l⟩,r⟩;let d:M<W.heap.size:=by
  by_cases m:M<W.heap.size;.exact m
  rw[Hd Z]at c;cases c
 rwa[e.block M d (by simpa using j.symm)]
def Fr.grownAt(h:Fr S M f f w W)(a:W.grownBy W' (some g))(b:(∃k,f k=some g)\/w.heap.size<=g):Fr S M f f w W':=
 ⟨a.os.trans h.os,a.tape.trans h.tape,a.output.trans h.output,Fx h.size a.size,λj c i l d=>by
  rw[a.block j (FG c h.size) (λe=>by
   cases e
   rcases b with⟨k,b⟩|b
   .exact d k b
   omega)]
  exact h.block j c i l d,h.made⟩
def sx(G r n o k:Nat)(ps:List Int)(x d:Int)(w:QM)(a:w.heap[G]?=some (.cells #[Vl r n n,I o,I n] 192))(c:RowV w r 3 (Ns .i64 ps))(j:ps.length=n)(m:o<n)(p:n<=1024)(l:(o+1)%n=k):
  Calls prog 338 #[J G 0,I x,I d] w λe f=>e=QJ (I (ps[o]?.getD 0))/\f.heap[G]?=some (.cells #[Vl r n n,I k,I n] 192)/\RowV f r 3 (Ns .i64 (ps.set o x))/\But (λk=>k=G\/k=r) w f:=by
 have b:G≠r:=c.ne a ar;have g:w.cell? (Qz G 0)=some (Vl r n n):=bJ a;have i:w.cell? (Qz G 1)=some (I o):=bJ a;have q:w.cell? (Qz G 2)=some (I n):=bJ a;have⟨s,t⟩:=y7 (lu G r n n o 0 o ps x w.drew (by rw[GK,H4 m]) j Z Z Z Z g i c) a;have u:((o:Int)+1)%(n:Int)=(k:Int):=by rw[<-l];simp
 clear a c j l;go_wp2;go_region;go_wp2_with fail;apply (s).mono;rintro e c⟨rfl,l,j⟩;let⟨a,v,y⟩:=Qe (eK (k:=G) j t b) l j;clear l j g i q;let g:c.cell? (Qz G 0)=some (Vl r n n):=bJ a;let i:c.cell? (Qz G 1)=some (I o):=bJ a;let f1:c.frozen? (Qz G 1)=false:=ah a;go_wp2;go_region;rw[u];go_wp2;go_ret;refine⟨rfl,?_,?_,?_⟩;.show(c.setCell (Qz G 1) _).heap[G]?=_;rw[Ic _ _ _ _ _ _ a];rfl
 .exact(v.other (by simpa using b.symm) _).drew
 exact(((But.refl _ w).drew.trans (.ofGrown y (.inr rfl))).set _ _ _ (.inl rfl)).drew
def pW{ps:List Int}{o:Nat}{x:Int}(h:o<ps.length):(ps.set o x).drop (o+1)=ps.drop (o+1):=by rw[List.drop_set_of_lt Z]
def gh{ps:List Int}{o:Nat}{x:Int}(h:o<ps.length):(ps.set o x).take (o+1)=ps.take o++[x]:=by rw[F_,List.take_set_of_le gi];simp[h]
def AF(G r n xs x d w)(h:Qu w G r n xs)(a:n<=1024):
  QA 338 #[J G 0,I x,I d] w λe j=>e=QJ (I (cu n xs x).2)/\Qu j G r n (cu n xs x).1/\But (λk=>k=G\/k=r) w j:=by
 obtain⟨ps,o,h,s,t,k,u,A,v,rfl⟩:=h;by_cases g:h<n
 .obtain rfl:=v g;apply(tm G r n h ps x d w s t k g a).mono;rintro e j⟨rfl,b,c,f⟩;have m:(ps.drop 0++ps.take 0).take h=ps.take h:=bH;have p:cu n (ps.take h) x=(ps.take h++[x],-1):=by unfold cu;rw[GP bG]
  rw[m,p];refine⟨rfl,⟨ps.set h x,0,h+1,b,c,by simpa using k,u,Z,λ_=>rfl,?_⟩,f⟩;simp[IE,List.take_zero,Gl];rw[gh Z]
 have q:h=n:=Z;subst q;apply(sx G r h o _ ps x d w s t k u a rfl).mono;rintro e j⟨rfl,b,c,f⟩;let y:ps.drop o=(ps[o]?.getD 0)::ps.drop (o+1):=by rw[List.drop_eq_getElem_cons Z];congr 1;rw[Fy Z];rfl
 have m:(ps.drop o++ps.take o).take h=ps.drop o++ps.take o:=Ge bG;have p:cu h (ps.drop o++ps.take o) x=(ps.drop (o+1)++ps.take o++[x],ps[o]?.getD 0):=by unfold cu;rw[GO bG,y];rfl
 rw[m,p];refine⟨rfl,⟨ps.set o x,_,h,b,c,by simpa using k,Nat.mod_lt _ Z,Z,λh=>Z,?_⟩,f⟩;by_cases z:o+1<h;.rw[H4 z,pW Z,gh Z,Ge (l:=ps.drop (o+1)++(ps.take o++[x])) bG,GJ]
 let i:o+1=h:=Z;rw[i,Nat.mod_self];simp[IE,List.take_zero,Gl];rw[List.drop_of_length_le Z,FV,<-i,gh Z]
def ed(n:Nat)(mix fifo:List Int)(slot draw:Int):List Int×List Int×Int:=
 if mix=[]then([],(cu n fifo slot).1,(cu n fifo slot).2)
 else if mix[md draw mix.length]?.getD 0 = -1 then(mix.set (md draw mix.length) slot,fifo,-1)
 else(mix.set (md draw mix.length) slot,(cu n fifo (mix[md draw mix.length]?.getD 0)).1,(cu n fifo (mix[md draw mix.length]?.getD 0)).2)
structure Hit(p c s:Int):Prop where
 c0:0<=c
 c1:c<12
 s0:0<=s
 s1:s<6
 lo:rs c+s*(pg c+1)<=p
 hi:p<=rs c+s*(pg c+1)+pg c
def ru(k:Nat)(h:k<12):fp (k+1)=fp k+6*(pg k+1):=by simp[fp];rw[ub ⟨Z,Z⟩]
def pR(a:Nat):∀d,fp a<=fp (a+d)
 |0=>Int.le_refl _
 |d+1=>by
  let b:=pR a d
  let c:=tM ((a+d:Nat):Int)
  let e:fp (a+(d+1))=fp (a+d)+rp ((a+d:Nat):Int):=rfl
  omega
def Hit.c_le{c' s'}(h:Hit p c s)(d:Hit p c' s'):c<=c':=by
 apply Int.not_lt.1;intro f;obtain⟨a,rfl⟩:=Ha h.c0;obtain⟨b,rfl⟩:=Ha d.c0;let g:rs (a:Int)=fp a:=by rw[kB ⟨h.c0,h.c1⟩];rfl
 let i:rs (b:Int)=fp b:=by rw[kB ⟨d.c0,d.c1⟩];rfl
 let j:=pR (b+1) (a-(b+1));let k:b+1+(a-(b+1))=a:=Z;rw[k,ru b (by have:=d.c1;omega)]at j;have l:=h.lo;have m:=d.hi;rw[g]at l;rw[i]at m;have q:=fy (c:=(b:Int)) ⟨d.c0,d.c1⟩;have n:=fy (c:=(a:Int)) ⟨h.c0,h.c1⟩;have o:=d.s1;generalize pg (b:Int)=x at*;generalize pg (a:Int)=y at*;let r:0<=s*(y+1):=Int.mul_nonneg h.s0 Z;let t:s'*(x+1)<=5*(x+1):=Int.mul_le_mul_of_nonneg_right Z Z;omega
def Hit.one{c' s'}(h:Hit p c s)(a:Hit p c' s'):c=c'/\s=s':=by have e:c=c':=Int.le_antisymm (h.c_le a) (a.c_le h);subst e;refine⟨rfl,?_⟩;let i:=fy (c:=c) ⟨h.c0,h.c1⟩;let b:=h.lo;let d:=h.hi;let f:=a.lo;let g:=a.hi;have:pg c=1\/pg c=2\/pg c=3\/pg c=4:=Z;rcases this with e|e|e|e<;>rw[e]at b d f g<;>omega
inductive Dec:Int->Value->Prop
 |out (a:Int) (h:289792<=a):Dec a (pl 0 0 0 0 0 0)
 |large (a:Int) (h0:191488<=a) (h1:a<289792):Dec a (pl 4 0 0 0 (a/1024-187) (a%1024))
 |zero (a:Int) (h0:0<=a) (h1:a<1024):Dec a (pl 1 0 0 0 0 0)
 |slab (a c s:Int) (h0:1024<=a) (h1:a<191488) (h:Hit (a/1024) c s):Dec a (zT c s (a-(rs c+s*(pg c+1))*1024))
def Dec.one{a:Int}{v b:QN}(h:Dec a v)(d:Dec a b):v=b:=by
 cases h<;>cases d<;>first|rfl|omega|skip
 rename_i c s g i e j k l m f;obtain⟨rfl,rfl⟩:=e.one f;rfl
def zr{v:QM}{a:Array QN}{t:QO}(h:v.heap[g]?=some (.cells a t))(b:Array QN):(v.setRow g b).heap[g]?=some (.cells b t):=by simp[World.setRow,FD,h]
def zk(c s o):∃a:Array QN,zT c s o=.agg a/\a.size=6/\a.all (·.oneCell')=true:=by
 unfold zT;split;.exact⟨_,rfl,rfl,mL⟩
 split;.exact⟨_,rfl,rfl,mL⟩
 exact⟨_,rfl,rfl,mL⟩
def iB(a:Int)(x:0<=a)(T:a<=18446744073709551615)(w)(b:Tb w):
  Calls prog 170 #[U a] w λe V=>(∃v,Dec a v/\e=QJ v)/\D w V:=by
 have d:=H (Rt.first w);have f:=H (b.below d.bel);unfold z6 at*;go_in;go_wp2_with fail;refine(let_mvar%?C:=Value.int IntKind.i64 0;?_);generalize w.alloc (Obj.cells #[?C,?C,?C,?C,?C,?C] 281)=v at d f⊢;generalize w.heap.size=g at d⊢;apply ((H eH) _ f).mono;rintro e w2⟨rfl,i⟩;have b:=H (d.below i);let j:=H (f.below i);by_cases W:289792<=a;.let y:=H b.done;have z:=H b.row;let B:=H b.blk;go_wp2_with (refine Gf rfl 281 _ _ rfl g _ rfl rfl 281 z6 B E rfl mL ?_);apply fM (z _) underlying281;exact⟨⟨_,.out a W,rfl⟩,y _⟩
 by_cases X:a<1024
 .let y:=H b.done;have z:=H b.row;have B:=H b.blk;have Y:a/1024<1:=Z;go_wp2_with (refine Gf rfl 281 _ _ rfl g _ rfl rfl 281 z6 B E rfl mL ?_);refine fM (z _) underlying281 ?_;exact⟨⟨_,.zero a x X,rfl⟩,y _⟩
 let Y:1<=a/1024:=Z;go_wp2_with fail;apply ((H eW) _ j).mono;rintro e m⟨rfl,d⟩;let n:=H (b.below d);let o:=H (j.below d);refine(let_mvar%?D:=(m.alloc (.cells nG 264)).setRow m.heap.size (stA 12);?_);let j:D m ?D:=Below.setRow ph gi _;have d:=H (n.below j);have p:=H (o.below j);let l:=H (jh m (.cells nG 264));have f:Hid (∀k:Nat,k<13->(?D).cell? (Qz m.heap.size k)=some (I (fp k))):=H (λk F=>by let h:=lx 12 k F;rw[GP Z]at h;let e:=zr l (stA 12);simp only[QC,e];exact h)
 have b:=H (show(stA 12).all (·.oneCell')=true by kernel_rfl);have i:=H (show nG.size=(stA 12).size by rw[pT];rfl);generalize stA 12=A at f d p b i⊢;unfold nG at*;by_cases h3:191488<=a
 .let t3:187<=a/1024:=Z;go_wp2_with (first|(refine Gf rfl 264 _ _ rfl _ _ rfl rfl 264 _ l E i b ?_;generalize World.setRow _ _ _=P at f d p⊢;have j:=f.out 12 Z;rw[pN]at j)|(refine Gf rfl 281 _ _ rfl g _ rfl rfl 281 z6 d.blk E rfl mL ?_));refine fM (d.row _) underlying281 ?_;exact⟨⟨_,.large a h3 Z,rfl⟩,d.done _⟩
 let t3:a/1024<187:=Z;go_wp2_with (first|(apply Gf rfl 264 _ _ rfl _ _ rfl rfl 264 _ l E i b;generalize World.setRow _ _ _=P at f d p⊢;let j:=f.out 12 Z;rw[pN]at j)|(apply Gf rfl 281 _ _ rfl g _ rfl rfl 281 z6 d.blk E rfl mL));have n:decide (289792<=a)=false:=GR Z;have o:decide (a/1024<1)=false:=GR Z;have q:decide (187<=a/1024)=false:=GR Z;simp[n,o,q];go_loop [6] (λc=>∃k:Nat,k<12/\c=I k/\fp k<=a/1024) (λc=>12-(intOf c).toNat);exact⟨0,Z,rfl,by simp[fp];omega⟩
 obtain⟨k,F,rfl,a0⟩:=hrel;have t:=f.out (k+1) Z;have q:=f.out k Z;have b:=ru k F;have a2:=fy (c:=(k:Int)) ⟨Z,Z⟩;by_cases i:fp (k+1)<=a/1024
 ·have l:k+1<12:=by apply Nat.lt_of_le_of_ne Z;intro e;rw[e,pN]at i;omega
  have n:=H i;generalize fp (k+1)=Q at t i b;go_wp2
  go_round
  (exact⟨k+1,l,aY,n⟩);exact QE
 have G:0<=(a/1024-fp k)*1024+a%1024:=Z;refine(let_mvar%?E:=pg (k:Int);let_mvar%?B:=((?E+1)*1024);?_);have r:(a/1024-fp k)*1024+a%1024<6*?B:=Z;have n:=H ((H jH) (k:Int) _ P p ⟨Z,Z⟩ G r);refine(let_mvar%?A:=(a/1024-fp k)*1024+a%1024;?_);have R:Hid (Dec a (zT (k:Int) (?A/?B) (?A%?B))):=H (by
  have l:rs (k:Int)=fp k:=(by rw[kB ⟨Z,Z⟩];rfl);have o:Hit (a/1024) (k:Int) (?A/?B)/\?A%?B=a-(rs (k:Int)+(?A/?B)*(?E+1))*1024:=by rw[l];have:?E=1\/?E=2\/?E=3\/?E=4:=Z;generalize fp (k+1)=Q at*;rcases this with e|e|e|e<;>rw[e]at b r⊢<;>refine⟨⟨Z,Z,Z,Z,by rw[l,e];omega,by rw[l,e];omega⟩,Z⟩
  rw[o.2];exact .slab a _ _ Z Z o.1)
 have⟨u,K,o,l⟩:=zk (k:Int) (?A/?B) (?A%?B);rw[K]at n R;have s:a/1024<fp (k+1):=Z;generalize fp (k+1)=Q at t s b;generalize fp k=r0 at*;go_wp2_with fail;apply (n).mono;rintro e w5⟨rfl,S⟩;let i:=H (d.below S);let b:=H (show(prog.info? 281).map (·.size)=some u.size by rw[o];kernel_rfl);go_wp2_with (apply Gf rfl 281 _ _ rfl g u rfl rfl 281 z6 i.blk b (H (show z6.size=u.size by rw[o];rfl)) (H l));apply GX (Gq dU _ _ g 281 u (0,0) _ dU (i.row _) underlying281 rfl b) dU;exact⟨⟨_,R,rfl⟩,i.done _⟩
structure Slot(c s t:Int):Prop where
 c0:0<=c
 c1:c<12
 s0:0<=s
 s1:s<6
 t0:0<=t
 t1:t<sl c
def Hit.off{a:Int}(h:Hit (a/1024) c s):0<=a-(rs c+s*(pg c+1))*1024/\a-(rs c+s*(pg c+1))*1024<(pg c+1)*1024:=by have b:=h.lo;have d:=h.hi;generalize s*(pg c+1)=m at*;omega
def Dec.slot{a o:Int}(h:Dec a (pl 3 c s t p o)):Slot c s t/\p=0/\0<=o/\o<sz c/\a=(rs c+s*(pg c+1))*1024+t*sz c+o:=by
 generalize hv:pl 3 c s t p o=v at h;cases h with
 |out h=>simp[pl]at hv
 |large j k=>simp[pl]at hv
 |zero j k=>simp[pl]at hv
 | slab q w j k h=>
  let x:=eJ (c:=q) ⟨h.c0,h.c1⟩;unfold zT at hv;split at hv;.simp[pl]at hv
  split at hv;.simp[pl]at hv
  rename_i y r;simp[pl,Value.agg.injEq,Array.mk.injEq,List.cons.injEq,Hy,true_and,and_true]at hv;obtain⟨rfl,rfl,f,u,l⟩:=hv;refine(let_mvar%?A:=a-(rs c+s*(pg c+1))*1024;?_);let m:=Int.emod_add_mul_ediv ?A (sz c);let d:=IP ?A (show sz c≠0 by omega);let e:=IB ?A (show 0<sz c by omega);rw[<-f,<-l]at m;rw[<-l]at d e;let g:0<=t:=by rw[f];exact Int.ediv_nonneg h.off.1 Z
  let i:t<sl c:=by apply Int.not_le.1;intro n;rw[f]at n;exact r ((Int.le_ediv_iff_mul_le Z).1 n)
  refine⟨⟨h.c0,h.c1,h.s0,h.s1,g,i⟩,u,d,e,?_⟩;rw[Int.mul_comm]at m;omega
def Od(h:0<=c/\c<12)(a:0<=t)(b:t<sl c):0<=t*sz c/\t*sz c+sz c<=sl c*sz c:=by let d:=eJ h;refine⟨Int.mul_nonneg a Z,?_⟩;have:=Int.mul_le_mul_of_nonneg_right (show t+1<=sl c by omega) (show 0<=sz c by omega);rw[Int.add_mul]at this;omega
def Slot.dec(h:Slot c s t){o:Int}(b:0<=o)(d:o<sz c):Dec ((rs c+s*(pg c+1))*1024+t*sz c+o) (pl 3 c s t 0 o) /\
  1024<=(rs c+s*(pg c+1))*1024+t*sz c/\(rs c+s*(pg c+1))*1024+t*sz c+o<191488:=by
 let f:0<=c/\c<12:=⟨h.c0,h.c1⟩;let p:=eJ f;let q:=kh f;let r:=fy f;let u:=Od f h.t0 h.t1;let k:=h.s0;let l:=h.s1;refine(let_mvar%?B:=pg c+1;?_);let v:1<=rs c/\rs c+6*?B<=187:=by rcases fh f with rfl|rfl|rfl|rfl|rfl|rfl|rfl|rfl|rfl|rfl|rfl|rfl<;>decide
 let w:0<=s*?B/\s*?B+?B<=6*?B:=by have:pg c=1\/pg c=2\/pg c=3\/pg c=4:=Z;rcases this with e|e|e|e<;>rw[e]<;>omega
 refine(let_mvar%?A:=rs c+s*?B;?_);let j:1024<=?A*1024+t*sz c:=Z;let g:?A*1024+t*sz c+o<191488:=Z;refine⟨?_,j,g⟩;let i:Hit ((?A*1024+t*sz c+o)/1024) c s:=⟨h.c0,h.c1,h.s0,h.s1,Z,Z⟩;let a:=Dec.slab _ c s Z g i;let e:?A*1024+t*sz c+o-?A*1024=t*sz c+o:=Z;rw[e]at a;unfold zT at a;rw[GO Z,GO Z]at a;let m:(t*sz c+o)/sz c=t:=by rw[Int.add_comm,Int.add_mul_ediv_right _ _ Z,Int.ediv_eq_zero_of_lt b d];omega
 let n:(t*sz c+o)%sz c=o:=by rw[Int.add_comm,Int.add_mul_emod_self_right,Int.emod_eq_of_lt b d]
 rw[m,n]at a;exact a
def wrap64_in{x:Int}(a: -9223372036854775808<=x)(b:x<=9223372036854775807):wrap64 x=x:=by simp[wrap64];omega
def kG(c s t)(h:Slot c s t)(w)(d:Tb w):
  Calls prog 168 #[I c,I s,I t] w λe q=>e=QJ (.tuple #[U ((rs c+s*(pg c+1))*1024+t*sz c),.bool true])/\D w q:=by
 have a:0<=c/\c<12:=⟨h.c0,h.c1⟩;have j:=H (mO c);have k:=H (gp c);have l:=H (dJ c);have F:=eJ a;have G:=fy a;have f:=h.dec (o:=0) Z Z;have u:=h.s0;have x:=h.s1;have K:1<=rs c/\rs c<=361:=by have:=we c;rw[kB a]at this⊢;have:=iU c.toNat;omega
 have L:0<=s*(pg c+1)/\s*(pg c+1)<=25:=by have:pg c=1\/pg c=2\/pg c=3\/pg c=4:=Z;rcases this with e|e|e|e<;>rw[e]<;>omega
 have m:=Od a h.t0 h.t1;have b:t*sz c<=4096:=by have:=(kh a).2.2.2;omega
 have g:=H f.1;have i:=f.2;have n:=H (λW a=>iB ((rs c+s*(pg c+1))*1024+t*sz c) Z Z W a);rw[Int.add_zero]at g i;generalize rs c=r at*;generalize pg c=p at*;generalize sz c=z at*;go_in;go_wp2_with fail;apply (j _ d).mono;rintro e M⟨rfl,f⟩;let b:=H (d.below f);go_wp2_with fail;refine(k _ b).mono ?_;rintro e N⟨rfl,rfl⟩;go_wp2_with fail;refine(l _ b).mono ?_;rintro e O⟨rfl,rfl⟩;go_wp2_with fail;refine(n _ b).mono ?_;rintro e P⟨⟨v,hv,rfl⟩,m⟩;have A:=g.one hv;subst A;have B:=H (cv f m);unfold pl;go_wp2
 go_ret2
 exact⟨rfl,B⟩
def Os(w:World)(a:Option Addr)(c:Nat)(e:List Int):Prop:=(a=none/\c=0/\e=[])\/∃g,a=some ⟨g,0,none⟩/\RowV w g 3 (Ns .i64 e)
def Os.sl{a c zs}(h:Os w a c zs):Sl w a zs:=by
 rcases h with⟨rfl,_,rfl⟩|h;.exact .inl ⟨rfl,rfl⟩
 exact .inr h
def Os.but{S w w' a c zs}(h:Os w a c zs)(b:But S w w')(d:∀g,a=some (Qz g 0)->¬S g):Os w' a c zs:=by
 rcases h with h|⟨g,e,f⟩;.exact .inl h
 exact .inr ⟨g,e,f.but b (d g e)⟩
def Os.below{w' a c zs}(h:Os w a c zs)(b:D w w'):Os w' a c zs:=h.but (But.ofBelow (S:=λ_=>False) b) (λ_ _=>id)
def Os.lt{w a c zs}(h:Os w a c zs):∀g,a=some (Qz g 0)->g<w.heap.size:=by
 rintro g rfl;rcases h with⟨e,_⟩|⟨d,e,b⟩;.cases e
 simp at e;subst e;exact b.lt
def Os.ne{w a c}{b:Nat}{zs}{d:Array QN}{t:QO}(h:Os w a c zs)(f:w.heap[b]?=some (.cells d t))(g:3≠t):a≠some (Qz b 0):=by
 rintro rfl;rcases h with⟨e,_⟩|⟨j,e,i⟩;.cases e
 simp at e;subst e;exact i.ne f g rfl
def Wt.but{S w w' am lm af lf mix fifo}(h:Wt w am lm af lf mix fifo)(b:But S w w')(c:∀g,am=some (Qz g 0)->¬S g)(d:∀g,af=some (Qz g 0)->¬S g):Wt w' am lm af lf mix fifo:=
  ⟨by rcases h.m with e|⟨g,e,a⟩
      · exact .inl e
      · exact .inr ⟨g,e,a.but b (c g e)⟩,h.ml,by
      rcases h.f with e|⟨g,e,a⟩
      · exact .inl e
      · exact .inr ⟨g,e,a.but b (d g e)⟩,h.fl⟩
end
section
variable {g n:Nat}{W w:World}{e:TypeId}{xs:List Value}
def Tryz.info3In:(prog.info? 3).map (λi=>(i.zero,i.size,i.bytes))=some (some (I 0),1,8):=E
def Sx.pgT{T Q bud m}(e:Sx T Q n bud m W)(f:e_ Q W g):∃c,W.heap[g]?=some (.cells c 5):=by
 let⟨k,i⟩:=f;let⟨j,o,t,p,_⟩:=e.row;let a:j[k*3+2]?=some (Vl g 1024 1024):=by simpa[QC,o]using i
 let c:k<n:=by
  by_cases b:k<n;.exact b
  rw[Hd Z]at a;cases a
 let b:=p k c;cases d:m k with
 |none=>rw[d]at b;rw[b.2.2]at a;simp at a
 |some q=>let⟨l,xs⟩:=q;rw[d]at b;let⟨_,_,_,u,r,s⟩:=b;rw[r]at a;simp at a;subst a;exact⟨_,s⟩
def mM{a:Nat}{b:Nat}{v:QN}(h:W.ownsRow a e b v n xs)(d:v.ownBlock=some g):∃c,W.heap[g]?=some (.cells c e):=by
 rcases h.2 with⟨rfl,_⟩|⟨j,f,i,rfl,k,c,_⟩;.cases d
 cases d;exact⟨_,c⟩
def qk(M G r n k:Nat)(a:List Int)(x d:Int)(w:QM)(b:w.heap[M]?=some (.cells #[Vl r n n,I (0:Nat),I n,.iface 84 (J G 0)] 194))(c:RowV w r 3 (Ns .i64 a))(g:a.length=n)(j:0<n)(y:n<=1024)(f:md d n=k)(z:a[k]?.getD 0 = -1):
  Calls prog 336 #[J M 0,I x,I d] w λe q=>e=QJ (I (-1))/\RowV q r 3 (Ns .i64 (a.set k x))/\w.grownBy q (some r):=by
 let l:M≠r:=c.ne b ar;let A:w.cell? (Qz M 0)=some (Vl r n n):=bJ b;let B:w.cell? (Qz M 1)=some (I (0:Nat)):=bJ b;let F:w.cell? (Qz M 2)=some (I n):=bJ b;let m:k<n:=f▸oh d n j;let⟨s,t⟩:=y7 (lu M r n n 0 k k a x w.drew (by rw[Oi,H4 m]) g j Z Z Z A B c) (λW=>iA d n W j Z);rw[f]at t;let u:=H b;rw[z]at s;go_wp2;refine rh (S:=λW=>QG W M 2 (I n)/\Hid (W.heap[M]?=some (.cells #[Vl r n n,I (0:Nat),I n,.iface 84 (J G 0)] 194))) ?_;let b:=(show _/\Hid _ from⟨F,u⟩);iterate 9 (apply py b;simp only[f0,f1,Nat.reduceAdd,lz,l0,ls])
 apply pk 10 (I x) b;apply cn (r:=9) E;refine dM rfl E (λK' c=>?_);go_simp;apply(t _).mono;rintro e o⟨rfl,rfl⟩;refine c _ _ ⟨b,?_⟩;apply cn (r:=11) E;refine dM rfl E (λK' c=>?_);go_simp;apply(s).mono;rintro e o⟨rfl,v,p⟩;let f:=H (eK (k:=M) p u l);let g:QG o M 2 (I n)/\Hid (o.heap[M]?=some (.cells #[Vl r n n,I (0:Nat),I n,.iface 84 (J G 0)] 194)):=⟨bJ f,f⟩;refine c _ _ ⟨g,?_⟩;let⟨K,i⟩:=y7 v p;let b:=g;apply pk 12 (I (-1)) b;refine bY ?_;go_wp2;go_ret;exact⟨rfl,K,⟨i.os,i.tape,i.output,i.size,i.block⟩⟩
def xg(a:Addr)(w:QM): (method 531 84 (.pointer (some a)) "loop.example/s01868/impl.push").run prog w=.ok (338,.pointer (some a)) w:=E
def Bp(a:Addr)(w:QM): (method 531 83 (.pointer (some a)) "loop.example/s01868/impl.push").run prog w=.ok (336,.pointer (some a)) w:=E
def ww(M G r n k:Nat)(b:List Int)(x d:Int)(w:QM)(f:w.heap[M]?=some (.cells #[Vl r n n,I (0:Nat),I n,.iface 84 (J G 0)] 194))(g:RowV w r 3 (Ns .i64 b))(j:b.length=n)(m:0<n)(B:n<=1024)(i:md d n=k)(y:Int)(F:b[k]?.getD 0=y)(K:y ≠ -1)
  (R:QN->QM->Prop) (a:∀c,RowV c r 3 (Ns .i64 (b.set k x))->w.grownBy c (some r)->QA 338 #[J G 0,I y,I d] c λe o=>∃z,e=QJ (I z)/\R (I z) o):
  Calls prog 336 #[J M 0,I x,I d] w λe o=>∃z,e=QJ (I z)/\R (I z) o:=by
 let p:M≠r:=g.ne f ar;let L:w.cell? (Qz M 0)=some (Vl r n n):=bJ f;let N:w.cell? (Qz M 1)=some (I (0:Nat)):=bJ f;let O:w.cell? (Qz M 2)=some (I n):=bJ f;let q:k<n:=i▸oh d n m;let⟨t,u⟩:=y7 (lu M r n n 0 k k b x w.drew (by rw[Oi,H4 q]) j m Z Z Z L N g) (λW=>iA d n W m Z);rw[i]at u;let v:=H f;rw[F]at t;let P:=H a
 go_wp2;refine rh (S:=λW=>QG W M 2 (I n)/\Hid (W.heap[M]?=some (.cells #[Vl r n n,I (0:Nat),I n,.iface 84 (J G 0)] 194))) ?_;let g:=(show _/\Hid _ from⟨O,v⟩);iterate 9 (apply py g;simp only[f0,f1,Nat.reduceAdd,lz,l0,ls])
 apply PX 10 g;apply cn (r:=9) E;refine dM rfl E (λK' i=>?_);go_simp;apply (u _).mono;rintro e c⟨rfl,rfl⟩;refine i _ _ ⟨g,?_⟩;apply cn (r:=11) E;refine dM rfl E (λK' i=>?_);go_simp;apply (t).mono;rintro e c⟨rfl,A,s⟩;let f:=H (eK (k:=M) s v p);let j:QG c M 2 (I n)/\Hid (c.heap[M]?=some (.cells #[Vl r n n,I (0:Nat),I n,.iface 84 (J G 0)] 194)):=⟨bJ f,f⟩;refine i _ _ ⟨j,?_⟩;let⟨T,l⟩:=y7 A s;let g:=j;apply pk 12 (I (y)) g;refine bY ?_;have V:c.cell? (Qz M 3)=some (.iface 84 (J G 0)):=bJ f;have s:=λw=>xg (Qz G 0) w
 go_wp2_with fail;refine(P c T ⟨l.os,l.tape,l.output,l.size,l.block⟩).mono ?_;rintro e X⟨z,rfl,A⟩;go_wp2;go_ret;exact⟨z,rfl,A⟩
def nh(w:QM)(g:Nat){a:Array QN}:w.grownBy (w.setRow g a) (some g):=
 ⟨rfl,rfl,rfl,by simp[World.setRow],λk _ h=>setRow_other w g k a (by simpa using h)⟩
def ii(w:QM)(n o:QP)(a c b d g f:Nat)(i:List QN)(p:w.heap[g]?=some (.cells i.toArray 3))(e:List QN)(q:e.length=Nat.min b a)
  (k:0<e.length->n=some (Qz g f)/\∃m,o=some m/\∀j v,e[j]?=some v->w.cell? (m.add j)=some v)
  (j:f+e.length<=i.length) (r:∀v∈e,v.oneCell'=true):
  ∃l,(Builtin.copy_ #[25,25] 3 #[.slice n a c,.slice o b d]).run prog w=.ok (I e.length) l/\l.heap[g]?=some (.cells (splice i f e).toArray 3)/\w.grownBy l (some g):=by
 by_cases s:e.length=0;.obtain rfl:e=[]:=Ik s;refine⟨w,run_copy_none (P:=prog) w 25 25 3 3 n o a c b d underlying25 E (by simpa using q.symm),by simpa[splice]using p,Q6 w g⟩
 obtain⟨rfl,m,rfl,l⟩:=k Z;refine⟨_,run_copy_row (P:=prog) w 25 25 3 3 g f a c m b d i.toArray 3 e underlying25 E p q l (by simpa using j) r,?_,nh w g⟩;simpa[splice]using setRow_heap w g _ _ 3 _ p
def BF(n:Nat)(h:n<=1048576)(w:QM):(Instr.makeSlice 25 (I (n:Int)) (I (n:Int))).run prog w=.ok (Vl w.heap.size n n) (w.alloc (.cells (madeCells #[Value.int .i64 0] n) 3)):=
 run_make_row' 25 3 (I 0) 8 underlying25 Tryz.info3In rfl .i64 .i64 n Z Z w
def dD(w:QM)(o:Obj):(w.alloc o).heap[w.heap.size]?=some o:=heap_alloc_new w o
def cS(w:QM)(o:Obj):(w.alloc o).heap.size=w.heap.size+1:=by let e:(w.alloc o).heap=w.heap.push o:=rfl;rw[e,Array.size_push]
def lw{k:Nat}{p:Obj}(h:w.heap[k]?=some p)(o:Obj):(w.alloc o).heap[k]?=some p:=by rwa[heap_alloc_old w o (dO h)]
def wJ(w:QM)(A B a:Obj):((((w.alloc A).alloc B).alloc a).heap[w.heap.size]?=some A)/\((((w.alloc A).alloc B).alloc a).heap[w.heap.size+1]?=some B)/\((((w.alloc A).alloc B).alloc a).heap[w.heap.size+1+1]?=some a)/\D w (((w.alloc A).alloc B).alloc a):=by let d:=dD w A;let b:=dD (w.alloc A) B;let c:=dD ((w.alloc A).alloc B) a;rw[cS]at b;rw[cS,cS]at c;exact⟨lw (lw d B) a,lw b a,c,(((Fu _ w).alloc gi A).alloc (by rw[cS];omega) B).alloc (by rw[cS,cS];omega) a⟩
def si(n:Nat):madeCells #[Value.int .i64 0] n=(Ns .i64 (List.replicate n 0)).toArray:=by apply Array.ext';simp[Ii,Ns]
def Sl.src{a zs}(h:Sl w a zs)(c:0<zs.length):∃b,a=some b/\∀j v,(Ns .i64 zs)[j]?=some v->w.cell? (b.add j)=some v:=by
 rcases h with⟨_,rfl⟩|⟨g,rfl,d⟩;.simp at c
 refine⟨_,rfl,λj v hv=>?_⟩;let b:j<(Ns .i64 zs).length:=by
  by_cases b:j<(Ns .i64 zs).length;.exact b
  rw[FJ Z]at hv;cases hv
 have:=d.cell j b;rw[hv]at this;let e:((Qz g 0):Addr).add j=(Qz g j):=by cases j<;>simp[Addr.add]
 rw[e];exact this
def jU{k zs}:∀v∈Ns k zs,v.oneCell'=true:=by intro v hv;simp only[Ns,FQ]at hv;obtain⟨x,_,rfl⟩:=hv;rfl
def oP{a:List Int}{n:Nat}(h:a.length<=n):splice (Ns .i64 (List.replicate n 0)) 0 (Ns .i64 a)=Ns .i64 (a++List.replicate (n-a.length) 0):=by simp[splice,Ns]
def rowOf(h:w.heap[g]?=some (.cells xs.toArray e)):RowV w g e xs:=
 ⟨_,h,bH,λi a=>bH⟩
def set3{a b c:QN}{t:QO}(h:w.heap[g]?=some (.cells #[a,b,c] t)){x y z:QN}:
  (((w.setCell (Qz g 0) x).setCell (Qz g 1) y).setCell (Qz g 2) z).heap[g]?=some (.cells #[x,y,z] t):=by
 rw[Ic _ _ _ _ _ _ (Ic _ _ _ _ _ _ (Ic _ _ _ _ _ _ h))];rfl
def oZ{o:Obj}(h:w.heap[g]?=some o){k i:Nat}{v:QN}(a:g≠k):(w.setCell (Qz k i) v).heap[g]?=some o:=by rwa[heap_setCell_other _ _ _ _ (by simpa using a)]
def lQ(n b k:Nat)(a)(o:List Int)(w)(c:o.length=b)(f:b<=n)(x:n<=1024)(d:Sl w a o):
  Calls prog 101 #[I n,.slice a b k] w λe s=>∃g,e=QJ (.agg #[Vl g n n,I (0:Nat),I b])/\RowV s g 3 (Ns .i64 (o++List.replicate (n-b) 0))/\w.heap.size<=g/\D w s:=by
 let t:=λW=>BF n Z W
 refine(let_mvar%?B:=w.heap.size+1;?_);let⟨u,l,j⟩:=Qe d c (wJ w (.cells #[C,I 0,I 0] 189) (.cells (madeCells #[I 0] n) 3) (.cells #[Vl (?B) n n,I 0,I 0] 189));let⟨c,q,m,d⟩:=ii _ (some ⟨?B,0,none⟩) a n n b k (?B) 0 (Ns .i64 (List.replicate n 0)) (by rw[<-si];exact j.2.1) (Ns .i64 o) (by rw[NM,l];exact(Hz f).symm) (λb=>⟨rfl,(u.below j.2.2.2).src (by rw[NM]at b;exact b)⟩) (by simp only[NM,Gc];rw[l];omega) (jU);rw[NM,l]at q;let⟨i,p,v,r⟩:=Qf (eK d j.1 Z) (eK d j.2.2.1 Z) (below_grown j.2.2.2 d Z) (rowOf m);refine(let_mvar%?C:=w.heap.size+1+1;let_mvar%?D:=some (I 0);?_);let m:c.cell? ⟨?C,2,none⟩=?D:=bJ p;let f2:c.frozen? ⟨?C,2,none⟩=false:=ah p;let d:c.cell? ⟨?C,0,none⟩=some (Vl (?B) n n):=bJ p;let j:c.cell? ⟨?C,1,none⟩=?D:=bJ p;refine(let_mvar%?A:=Qz w.heap.size;?_);let y:c.cell? (?A 0)=some (C):=bJ i;let z:c.cell? (?A 1)=?D:=bJ i;let A:c.cell? (?A 2)=?D:=bJ i;let f0:c.frozen? (?A 0)=false:=ah i;let f1:c.frozen? (?A 1)=false:=ah i;let f3:c.frozen? (?A 2)=false:=ah i;go_wp2;apply GX (Gq dU _ _ w.heap.size 189 _ (0,0) _ dU (set3 (oZ i Z)) underlying189 rfl E) dU;refine⟨?B,rfl,?_,Z,?_⟩
 .rw[<-l.out,<-oP (by rwa[l])];refine(((r.other ?_ _).other ?_ _).other ?_ _).other ?_ _
  all_goals(dsimp only;omega)
 exact(((v.setCell iM _).setCell iM _).setCell iM _).setCell iM _
def iy(g l a b:Nat)(d:l<=a)(f:a<=b):∃c,(∀w:QM,(Instr.slice 25 (Vl g a b) (some (I l)) none none).run prog w=.ok (.slice c (a-l) (b-l)) w)/\(l<a->c=some (Qz g l)):=by
 let h:=λw=>run_slice_l (P:=prog) w 25 (some (Qz g 0)) a b underlying25 .i64 (l:Int) Z Z
 let c:∀w:QM,(sizeOf (prog.elem 25)).run prog w=.ok 1 w:=λw=>E
 refine⟨if b=l then some (Qz g 0)else some (Qz g l),λw=>?_,λh=>?_⟩
 .rw[h w,c];let e:((Qz g 0):Addr).add l=(Qz g l):=by cases l<;>simp[Addr.add]
  simp[sliced,Result.andThen,e]
 rw[GO Z]
def mU{r}{ps:List Int}(b:RowV w r 3 (Ns .i64 ps))(o k:Nat)(c:o+k<=ps.length):∀j v,(Ns .i64 ((ps.drop o).take k))[j]?=some v->w.cell? (((Qz r o):Addr).add j)=some v:=by
 intro j v hv;let a:j<k:=by
  by_cases a:j<k;.exact a
  rw[FJ (by simp[Ns];omega)]at hv;cases hv
 let e:((Qz r o):Addr).add j=(Qz r (o+j)):=by cases j<;>simp[Addr.add]
 rw[e,b.cell _ (by rw[NM];omega)];rw[<-hv];simp[Ns,a]
def yP{α:Type}{a A B:List α}(m:Nat)(b:A.length=m)(d:a.length=m+B.length):splice (splice a 0 A) m B=A++B:=by
 subst b;let c:splice a 0 A=A++a.drop A.length:=by simp[splice]
 rw[c];unfold splice;rw[Iz gi,G9,List.drop_of_length_le bG];simp
def xv(ps:List Int)(n o h m:Nat)(f:ps.length=n)(g:o<=n)(i:h<=n)(d:m<=n-o/\m<=h/\(m=n-o\/m=h)):(ps.drop o).take m++(ps.drop 0).take (h-m)=(ps.drop o++ps.take o).take h:=by
 rw[List.take_append,IE];let e:(ps.drop o).length=n-o:=bG;rw[e];rcases d with⟨a,b,c|c⟩;.subst c;rw[Ge Z,Ge (l:=ps.drop o) Z,List.take_take,Hz Z]
 subst c;rw[Nat.sub_self,show m-(n-o)=0 by omega];simp
def row_in(G r n o h m g:Nat)(ps:List Int)(w:QM)(f:g=w.heap.size)(y:m=Nat.min (n-o) h)(z:QG w G 0 (Vl r n n))(A:QG w G 1 (I o))(c2:QG w G 2 (I h))
  (j:RowV w r 3 (Ns .i64 ps)) (T:ps.length=n) (N:o<=n) (V:h<=n) (X:n<=1024):
  Calls prog 125 #[J G 0] w λe O=>e=QJ (Vl g h h)/\RowV O g 3 (Ns .i64 ((ps.drop o++ps.take o).take h))/\D w O:=by
 have k:m<=n-o/\m<=h/\(m=n-o\/m=h):=by rw[y];refine⟨Nat.min_le_left _ _,Nat.min_le_right _ _,?_⟩;show min (n-o) h=_\/min (n-o) h=_;omega
 have⟨Y,a0,B⟩:=iy r o n n N gi;have⟨dq,a1,F⟩:=iy g m h h k.2.1 gi;have a2:=λW=>BF h Z W
 refine(let_mvar%?A:=w.alloc (.cells (madeCells #[I 0] h) 3);?_);have l:D w (?A).drew:=((Fu _ w).alloc gi _).drew;refine(let_mvar%?B:=Ns .i64 (List.replicate h 0);?_);have P:(?A).drew.heap[g]?=some (.cells (?B).toArray 3):=by rw[<-si,f];exact dD _ _
 refine(let_mvar%?D:=Vl r n n;let_mvar%?E:=some (I o);?_);have K:QG (?A).drew G 0 ?D/\(?A).drew.cell? (Qz G 1)=?E:=⟨NI l z,NI l A⟩;have p:=j.below l j.lt;have rl:=j.lt;refine(let_mvar%?C:=Ns .i64 ((ps.drop o).take m);?_);have⟨q,L,s,t⟩:=ii (?A).drew (some (Qz g 0)) Y h h (n-o) (n-o) g 0 ?B P ?C (by rw[NM];simp;rw[<-y];omega) (λu=>⟨rfl,_,B (by rw[NM]at u;simp at u;omega),mU p o m Z⟩) (by rw[NM,NM];simp;omega) (jU);rw[show (?C).length=m by rw[NM];simp;omega]at L;have a:=below_grown l t Z;have v:QG q.drew G 0 ?D/\q.drew.cell? (Qz G 1)=?E:=⟨NI a.drew z,NI a.drew A⟩;have c:QG q G 0 ?D/\q.cell? (Qz G 1)=?E:=v;have x:=j.below a.drew j.lt;refine(let_mvar%?F:=Ns .i64 ((ps.drop 0).take (h-m));?_);have⟨Q,a3,i,d⟩:=ii q.drew dq (some (Qz r 0)) (h-m) (h-m) n n g m _ s ?F (by rw[NM];simp;show min _ _=min _ _;omega) (λu=>⟨F (by rw[NM]at u;simp at u;omega),_,rfl,mU x 0 (h-m) Z⟩) (by rw[length_splice _ _ _ (by rw[NM,NM];simp;omega),NM,NM];simp;omega) (jU);have b:=below_grown a.drew d Z;have M:QG Q G 0 ?D/\Q.cell? (Qz G 1)=?E:=⟨NI b z,NI b A⟩;have R:splice (splice ?B 0 ?C) m ?F=Ns .i64 ((ps.drop o++ps.take o).take h):=by rw[yP m (by rw[NM];simp;omega) (by rw[NM,NM];simp;omega),<-xv ps n o h m T N V k];simp[Ns]
 rw[R]at i;have⟨HR,HB,HW⟩:=Qe (rowOf i) b f;clear f y;clear p x s i t d l a b P R j;go_wp2;rw[<-HW.out];generalize ?A=d at*;refine rh (S:=λW=>QG W G 0 ?D/\QG W G 1 (I o)) ?_;have a:=K;iterate 10 (refine py a ?_;simp only[f0,f1,Nat.reduceAdd,lz,l0,ls])
 apply cn (r:=10) E;refine dM rfl E (λK' b=>?_);go_simp;refine b _ _ ⟨c,?_⟩;clear a;have a:=c;clear b K';apply PX 11 a;refine bY ?_;go_wp2;refine rh (S:=λW=>QG W G 0 ?D/\QG W G 1 (I o)) ?_;have a:=v;iterate 7 (refine py a ?_;simp only[f0,f1,Nat.reduceAdd,lz,l0,ls])
 apply cn (r:=7) E;refine dM rfl E (λK' b=>?_);go_simp;refine b _ _ ⟨M,?_⟩;clear b K';refine bY ?_;go_wp2;go_ret;exact⟨rfl,HR,HB⟩
def JK{a b c:QM}{r:Option Nat}(h:a.grownBy b r)(k:b.grownBy c r):a.grownBy c r:=
 ⟨k.os.trans h.os,k.tape.trans h.tape,k.output.trans h.output,Fx h.size k.size,λg d e=>(k.block g (FG d h.size) e).trans (h.block g d e)⟩
def grown_of{a b}(h:D a b)(R:Nat):a.grownBy b (some R):=⟨h.os,h.tape,h.output,h.size,λg c _=>h.block g c⟩
def Nv{a:Nat}{b:Nat}{v:QN}(h:W.ownsRow a e b v n xs):∃a b c,v=.slice a b c:=by rcases h.2 with⟨rfl,_⟩|⟨g,c,d,rfl,_⟩<;>exact⟨_,_,_,rfl⟩
end
section
variable {S:TypeId->Prop}{B G M Q c g k n:Nat}{bud:Int}{m:Nat->Option (Bool×List Int)}{W W' w w':World}{xs:List Value}{a:Option Addr}{fifo mix zs:List Int}{e:TypeId}
def fC(m:Nat->Option (Bool×List Int))(p:Nat)(b:Bool):Nat->Bool
 |0=>true
 |k+1=>fC m p b k&&((m (p+k)).isSome==b)
instance (nn:Nat) (p c:Int):Decidable (AB nn p c):=by unfold AB;infer_instance
def kx(n:Nat)(bud:Int)(m:Nat->Option (Bool×List Int))(kd:Int)(p c:Nat):(Nat->Option (Bool×List Int))×Int:=
 if kd=0 then
  if fC m p false c=false then(m,6)else if bud<(bz m n:Int)+c then(m,1)else(aT m p c,0)
 else if fC m p true c=false then(m,6)
 else if kd=1 then(bQ m p c,0)
 else if kd=2 then(gU m p true c,0)else(gU m p false c,0)
def bZ(n:Nat)(bud:Int)(m:Nat->Option (Bool×List Int))(kd p c:Int)(a:Nat)(len:Int)(ys:List Int):(Nat->Option (Bool×List Int))×Int×List Int:=
 if kd=4 then(m,ci m a len,if ci m a len=0 then aH m a len.toNat else[])
 else if kd=5 then(if ci m a (ys.length:Int)=0 then ay m a ys ys.length else m,ci m a (ys.length:Int),[])
 else if kd<0\/5<kd then(m,6,[])
 else if AB n p c then((kx n bud m kd p.toNat c.toNat).1,(kx n bud m kd p.toNat c.toNat).2,[])
 else(m,6,[])
def run_store(S M nn bud f m){m' code}(p c)(a:Nat)(n)(d:QP)(g i:Nat)(w)(h:Im S M 0 nn bud f w)(b:Pg f m w)(l:∀V,Im S M 1 nn bud f V->Pg f m V->Fr S M f f w V->QA 218 #[J S 0,U a,.slice d g i] V λe w'=>e=QJ (I code)/\∃j,Im S M 1 nn bud j w'/\Pg j m' w'/\Fr S M f j V w'):
  QA 171 #[J S 0,kf 5 p c a n d g i] w λe w'=>e=QJ (.agg #[I code,C])/\tg S M nn bud f m' w w':=by
 let⟨k,o,q⟩:=Qe h b l;clear h b l;unfold kf;go_enter_defers func171,ntmps171;go_wp2_with fail;apply (fX ((k.alloc _).alloc _)).mono;rintro e V⟨rfl,r⟩;let b:=H (Dl.first k o #[I 5,I p,I c,U a,I n,.slice d g i]);rw[<-r]at b;clear r;generalize t:w.heap.size+1=y at b⊢;generalize w.heap.size=O at b⊢;let u:V.cell? (Qz O 0)=some (I 5):=by simp[QC,b.o]
 let v:V.cell? (Qz O 3)=some (U a):=by simp[QC,b.o]
 let x:V.cell? (Qz O 5)=some (.slice d g i):=by simp[QC,b.o]
 go_wp2_with fail;apply (q V b.im b.pg b.fr).mono;rintro e z⟨rfl,j,k,o,r⟩;have s:=H (b.move k o r);clear k o r u v x;go_wp2_with (apply eG s.r);let b:=s.done #[I code,C];refine Iy (f:=119) (args:=#[J S 0]) bH (by simp[go_sem]) ?_;apply (Go.MuLone.unlock_deferred jw (Qz S 0) .returning _ b.1 b.2.1).mono;rintro e o k⟨rfl,rfl,rfl⟩;exact⟨_,AV b.2.2.1 underlying284,rfl,b.2.2.2⟩
def Dl.own{S O Rb n f f' V op}(h:Dl w op S M n bud f f' m O Rb V){v:QN}(b:V.ownsRow B 5 1 v k xs)(d:w.heap.size<=B)(c:Array QN):((V.setRow Rb c).setCell (Qz S 0) (.int .i32 0)).ownsRow w.heap.size 5 1 v k xs:=by
 let⟨g,i,l⟩:=h.im.apartT h.pg h.r ar ar;refine dm ?_ d;refine(b.kept (aj V Rb c) (.inr λe=>?_)).kept (au (Q6 _ S) 0 _) (.inr λe=>?_);.let⟨j,a⟩:=mM b e;rw[h.r]at a;simp at a
 let⟨j,a⟩:=mM b e;rw[h.im.box]at a;simp at a
def run_load(S M nn bud f m){code}{xs:List Int}(p c)(a:Nat)(n d dl dc w)(h:Im S M 0 nn bud f w)(b:Pg f m w)(i:∀V,Im S M 1 nn bud f V->Pg f m V->QA 217 #[J S 0,U a,I n] V λe w'=>∃v,e=QJ (.agg #[I code,v])/\w'.ownsRow V.heap.size 5 1 v xs.length (Ns .u8 xs)/\Im S M 1 nn bud f w'/\Pg f m w'/\Fr S M f f V w'):
  QA 171 #[J S 0,kf 4 p c a n d dl dc] w λe w'=>∃v,e=QJ (.agg #[I code,v])/\w'.ownsRow w.heap.size 5 1 v xs.length (Ns .u8 xs)/\tg S M nn bud f m w w':=by
 let⟨g,j,k⟩:=Qe h b i;clear h b i;unfold kf;go_enter_defers func171,ntmps171;go_wp2_with fail;apply (fX ((g.alloc _).alloc _)).mono;rintro e V⟨rfl,l⟩;let b:=H (Dl.first g j #[I 4,I p,I c,U a,I n,.slice d dl dc]);rw[<-l]at b;clear l;generalize s:w.heap.size+1=A at b⊢;generalize t:w.heap.size=O at b⊢;let u:V.cell? (Qz O 0)=some (I 4):=by simp[QC,b.o]
 let x:V.cell? (Qz O 3)=some (U a):=by simp[QC,b.o]
 let y:V.cell? (Qz O 4)=some (I n):=by simp[QC,b.o]
 let z:=H b.fr.size;go_wp2_with fail;apply (k V b.im b.pg).mono;rintro e B⟨v,rfl,j,l,o,q⟩;let⟨g,r⟩:=y7 (b.move l o q) j;clear l o q u x y j;go_wp2_with (refine Gf rfl 284 _ _ rfl _ _ rfl rfl 284 _ g.r E rfl (zp r) ?_);let b:=g.done #[I code,v];let j:=g.own r z #[I code,v];refine Iy (f:=119) (args:=#[J S 0]) bH (by simp[go_sem]) ?_;apply (Go.MuLone.unlock_deferred jw (Qz S 0) .returning _ b.1 b.2.1).mono;rintro e l k⟨rfl,rfl,rfl⟩;exact⟨_,AV b.2.2.1 underlying284,v,rfl,j,b.2.2.2⟩
def iz(S M st nn bud f m)(a:Nat)(n w)(g:Im S M st nn bud f w)(i:Pg f m w)(ha:a<18446744073709551616):
  QA 283 #[J S 0,U a,I n] w λe w'=>e=QJ (I (ci m a n))/\w'=w:=by
 unfold ci;by_cases b:n<0\/4096<n;.rw[GP b];exact pC S a n w b
 rw[GO b];by_cases d:n=0;.subst d;rw[GP rfl];exact rQ S a w
 rw[GO d];by_cases c:4611686018427387904<=(a:Int)+(n-1);.rw[GP c];exact sV S a n w Z Z Z Z c
 rw[GO c];obtain⟨k,rfl⟩:=Ha (show 0<=n by omega);rw[F0,<-sF m a k Z];exact qK S M st nn bud f m a k _ _ w g i Z Z Z rfl rfl
def yX(S M)(g:Nat)(bud f m)(b:Int)(p c a n d dl dc ys w)(h:Im S M 0 g bud f w)(j:Pg f m w)(i:b<0\/5<b):
  QA 171 #[J S 0,kf b p c a n d dl dc] w λe w'=>e=QJ (.agg #[I (bZ g bud m b p c a n ys).2.1,C])/\tg S M g bud f (bZ g bud m b p c a n ys).1 w w':=by
 unfold bZ;rw[GO (show¬b=4 by omega),GO (show¬b=5 by omega),GP i];exact wH S M g bud f m b p c a n d dl dc w h j i
def Rt.lt{v}(h:Rt w g v):g<v.heap.size:=by
 by_cases b:g<v.heap.size;.exact b
 have:v.heap[g]?=none:=Hd Z;let a:=h.blk;rw[this]at a;cases a
def cy(c:Nat):Nat:=[16,32,48,64,96,128,192,256,384,512,768,1024].getD c 0
def dI(c:Nat):Nat:=[1,1,1,1,1,1,1,1,2,2,3,4].getD c 0
def aM(c:Nat):Nat:=[64,32,21,16,10,8,5,4,5,4,4,4].getD c 0
def eV(c:Nat):Nat:=cy c-8
def yJ:Nat->Nat
 |0=>1
 |c+1=>yJ c+6*(dI c+1)
def aD(c s:Nat):Nat:=yJ c+s*(dI c+1)
def bh(c s j:Nat):Nat:=aD c s*1024+j*cy c
def fD(a:Nat):Nat:=((List.range 12).find? λc=>a+8<=cy c).getD 12
def dF:List (Nat×Nat×Nat):=(List.range 12).flatMap λc=>(List.range 6).flatMap λs=>(List.range (aM c)).map λj=>(c,s,j)
structure Cf where
 mix:Nat
 fifo:Nat
 large:Nat
 bud:Nat
 key:Int
 ds:List Int
structure Rg9 where
 first:Nat
 guards:Nat
 pages:Nat
 st:Int
 rq:Int
def Rg9.base(r:Rg9):Nat:=(r.first+r.guards)*1024
def Rg9.ext(r:Rg9):Nat:=r.guards+r.pages+1
structure Hs where
 m:Nat->Option (Bool×List Int)
 st:Nat->Nat->Nat->Int
 rq:Nat->Nat->Nat->Int
 mx:Nat->List Int
 ff:Nat->List Int
 rg:List Rg9
 row:List Nat
 rel:List Nat
 used:Nat
def aP(cf:Cf):Hs:=⟨λ_=>none,λ_ _ _=>0,λ_ _ _=>0,λ_=>List.replicate cf.mix (-1),λ_=>[],[],[],[],0⟩
def aE(f:Nat->Nat->Nat->Int)(c s j:Nat)(v:Int):Nat->Nat->Nat->Int:=λc' i e=>if c'=c/\i=s/\e=j then v else f c' i e
def dB(f:Nat->List Int)(c:Nat)(v:List Int):Nat->List Int:=λc'=>if c'=c then v else f c'
def dr(cf:Cf)(h:Hs)(n:Nat):Nat:=((cf.ds[h.used]?.getD 0)%(n:Int)).toNat
def be(x:Int):Bool:=x==0 || x==3
def freeS(h:Hs)(c s:Nat):List Nat:=(List.range (aM c)).filter λj=>be (h.st c s j)
def dA(h:Hs)(c s:Nat):Bool:=(h.m (aD c s)).isSome
def NW(h:Hs)(c:Nat):Option Nat:=(List.range 6).find? λs=>dA h c s && !(freeS h c s).isEmpty
def qS(h:Hs)(c:Nat):Option Nat:=(List.range 6).find? λs=>!dA h c s
def cJ(cf:Cf)(h:Hs)(c:Nat):Option (Nat×Hs):=
 match NW h c with
 |some s=>some (s,h)
 |none=>match qS h c with
  |none=>none
  |some s=>if cf.bud<bz h.m 283+dI c then none else some (s,{h with m:=aT h.m (aD c s) (dI c)})
def clean(m:Nat->Option (Bool×List Int))(a n:Nat):Bool:=(aH m a n).all (· ==0)
def bN(cf:Cf)(c:Nat):Nat->Hs->Option (Nat×Nat)×Hs
 |0,h=>(none,h)
 | f+1,h=>match cJ cf h c with
  |none=>(none,h)
  |some (s,e)=>
   let j:=(freeS e c s)[dr cf e (freeS e c s).length]?.getD 0
   if clean e.m (bh c s j) (cy c)then(some (s,j),{e with used:=e.used+1})
   else bN cf c f {e with used:=e.used+1,st:=aE e.st c s j 4}
def can(cf:Cf)(a:Nat):List Int:=gI (cx cf.key (a:Int))
def aR(a:Nat):Nat:=a/1024+(if a%1024 > 0 then 1 else 0)
def dV(h:Hs)(n:Nat):Option Nat:=((List.range 97).find? λi=>decide (i+n<=96)&&h.rg.all λr=>decide (187+i+n<=r.first) || decide (r.first+r.ext<=187+i)).map (187 + ·)
def av(cf:Cf)(h:Hs)(a:Nat):Option Nat×Hs:=
 if a<=1016 then
  match bN cf (fD a) 2000 h with
  |(none,e)=>(none,e)
  |(some (s,j),e)=>(some (bh (fD a) s j),{e with st:=aE e.st (fD a) s j 1,rq:=aE e.rq (fD a) s j a,m:=ay e.m (bh (fD a) s j+eV (fD a)) (can cf (bh (fD a) s j)) 8})
 else
  let g:=1+dr cf h 3
  let e:={h with used:=h.used+1}
  let p:=aR a
  if 96<p then(none,e)else
  match dV e (g+p+1)with
  |none=>(none,e)
  |some s=>if cf.bud<bz e.m 283+p then(none,e)
   else(some ((s+g)*1024),{e with m:=aT e.m (s+g) p,rg:=e.rg++[⟨s,g,p,1,a⟩],rel:=e.rel.filter λb=>b/1024<s || s+(g+p+1)<=b/1024})
inductive Fd where
 |slot (c s j:Nat)
 |range (r:Rg9)
 |no (code:Int)
def ce(p:Nat):Option (Nat×Nat×Nat):=dF.find? λt=>bh t.1 t.2.1 t.2.2==p
def aB(h:Hs)(p:Nat):Fd:=
 match ce p with
 |some (c,s,j)=>if h.st c s j=1 then .slot c s j else if h.st c s j=0 then .no 3 else .no 4
 |none=>match h.rg.find? λr=>r.base==p with
  |some r=>if r.st=1 then .range r else .no 4
  |none=>if h.rel.contains p then .no 4 else .no 3
def sound(cf:Cf)(h:Hs)(c s j:Nat):Bool:=aH h.m (bh c s j+eV c) 8==can cf (bh c s j)
def bK(h:Hs)(c s j:Nat):Hs:=
 let e:={h with st:=aE h.st c s j 3}
 if(freeS e c s).length=aM c then {e with m:=bQ e.m (aD c s) (dI c)}else e
def aL(cf:Cf)(h:Hs)(c s j:Nat):Hs:=
 let e:={h with m:=ay h.m (bh c s j) (List.replicate (cy c) 0) (cy c),st:=aE h.st c s j 2,rq:=aE h.rq c s j 0}
 let d:Nat:=if cf.mix=0 then 0 else dr cf e cf.mix
 let h2:=if cf.mix=0 then e else {e with used:=e.used+1}
 let r:=ed cf.fifo (h2.mx c) (h2.ff c) ((s*aM c+j:Nat):Int) (d:Int)
 let i:={h2 with mx:=dB h2.mx c r.1,ff:=dB h2.ff c r.2.1}
 if r.2.2 = -1 then i else bK i c (r.2.2.toNat/aM c) (r.2.2.toNat%aM c)
def aJ(cf:Cf)(h:Hs)(r:Rg9):Hs:=
 let e:={h with m:=bQ h.m (r.first+r.guards) r.pages,rg:=h.rg.map λx=>if x.base=r.base then {x with st:=2,rq:=0}else x,row:=h.row++[r.base]}
 if cf.large<e.row.length then {e with rg:=e.rg.filter λx=>x.base≠e.row[0]?.getD 0,rel:=e.rel++[e.row[0]?.getD 0],row:=e.row.tail}else e
structure An4 where
 code:Int
 addr:Nat
 size:Nat
 data:List Int
def An4.no(c:Int):An4:=⟨c,0,0,[]⟩
def db(cf:Cf)(h:Hs):Fd->Hs
 | .slot c s j=>aL cf h c s j
 | .range r=>aJ cf h r
 | .no _=>h
def aZ(m:Nat->Option (Bool×List Int))(p q n:Nat):Nat->Option (Bool×List Int):=ay m q (aH m p n) n
def a_(cf:Cf)(h:Hs)(p a:Nat):An4×Hs:=
 let i (old:Nat):An4×Hs:=
  match av cf h a with
  |(none,e)=>(.no 1,e)
  |(some q,e)=>let h2:={e with m:=aZ e.m p q (min old a)}
   (⟨0,q,0,[]⟩,db cf h2 (aB h2 p))
 if p=0 then
  match av cf h a with
  |(none,e)=>(.no 1,e)
  |(some q,e)=>(⟨0,q,0,[]⟩,e)
 else match aB h p with
  | .no code=>(.no code,h)
  | .slot c s j=>if sound cf h c s j=false then(.no 5,h)
   else if a<=1016/\fD a=c then(⟨0,p,0,[]⟩,{h with rq:=aE h.rq c s j a})
   else i (h.rq c s j).toNat
  | .range r=>if 1016<a/\aR a=r.pages then(⟨0,p,0,[]⟩,{h with rg:=h.rg.map λx=>if x.base=r.base then {x with rq:=a}else x})
   else i r.rq.toNat
structure fL where
 kd:Int
 ref:Int
 p:Nat
 a:Nat
 b:Nat
 ys:List Int
abbrev Qm(c:Cf)(a:Option Addr)(n:Nat):Obj:=.cells #[I c.mix,I c.fifo,I c.large,I c.bud,U c.key,.slice a c.ds.length n] 30
abbrev Qp(r:Rg9):Obj:=.cells #[U r.base,I r.first,I r.ext,I r.pages,I r.st,I r.rq] 115
abbrev Qo(k:Int)(o:fL)(d:Option Addr)(n:Nat):Obj:=.cells #[I k,I o.ref,U o.p,U o.a,U o.b,.slice d o.ys.length n] 48
def NQ(cf:Cf)(h:Hs)(o:fL)(p:Nat):An4×Hs:=
 let e (n:Nat):An4×Hs:=match av cf h n with
  |(none,i)=>(.no 1,i)
  |(some q,i)=>(⟨0,q,0,[]⟩,i)
 if o.kd=0 then e o.a
 else if o.kd=1 then(if 18446744073709551616<=o.a*o.b then(.no 1,h)else e (o.a*o.b))
 else if o.kd=2 then a_ cf h p o.a
 else if o.kd=3 then
  match aB h p with
  | .no code=>(.no code,h)
  | .slot c s j=>if sound cf h c s j=false then(.no 5,h)else(.no 0,aL cf h c s j)
  | .range r=>(.no 0,aJ cf h r)
 else if o.kd=4 then
  match aB h p with
  | .no code=>(.no code,h)
  | .slot c s j=>(⟨0,0,eV c,[]⟩,h)
  | .range r=>(⟨0,0,r.pages*1024,[]⟩,h)
 else if o.kd=5 then(if 4096<o.a then(.no 6,h)else(⟨ci h.m p (o.a:Int),0,0,if ci h.m p (o.a:Int)=0 then aH h.m p o.a else[]⟩,h))
 else if o.kd=6 then(.no (ci h.m p (o.ys.length:Int)),{h with m:=if ci h.m p (o.ys.length:Int)=0 then ay h.m p o.ys o.ys.length else h.m})
 else(.no 6,h)
def bU(cf:Cf)(h:Hs)(an:List An4)(o:fL):An4×Hs:=
 if o.ref=0 then NQ cf h o o.p
 else if o.ref<0\/(an.length:Int)<o.ref then(.no 6,h)
 else NQ cf h o ((o.p+((an[o.ref.toNat-1]?.map An4.addr).getD 0))%18446744073709551616)
def NJ(cf:Cf):List fL->Hs->List An4->Hs×List An4
 |[],h,an=>(h,an)
 |o::r,h,an=>NJ cf r (bU cf h an o).2 (an++[(bU cf h an o).1])
def C8(h:c<12):c=0\/c=1\/c=2\/c=3\/c=4\/c=5\/c=6\/c=7\/c=8\/c=9\/c=10\/c=11:=Z
def uT(h:c<12):sz (c:Int)=(cy c:Nat):=by rcases C8 h with rfl|rfl|rfl|rfl|rfl|rfl|rfl|rfl|rfl|rfl|rfl|rfl<;>decide
def pU(h:c<12):pg (c:Int)=(dI c:Nat):=by rcases C8 h with rfl|rfl|rfl|rfl|rfl|rfl|rfl|rfl|rfl|rfl|rfl|rfl<;>decide
def vA(h:c<12):sl (c:Int)=(aM c:Nat):=by rcases C8 h with rfl|rfl|rfl|rfl|rfl|rfl|rfl|rfl|rfl|rfl|rfl|rfl<;>decide
def D3(h:c<12):us (c:Int)=(eV c:Nat):=by rcases C8 h with rfl|rfl|rfl|rfl|rfl|rfl|rfl|rfl|rfl|rfl|rfl|rfl<;>decide
def OT(h:c<12):rs (c:Int)=(yJ c:Nat):=by rcases C8 h with rfl|rfl|rfl|rfl|rfl|rfl|rfl|rfl|rfl|rfl|rfl|rfl<;>decide
def aX(h:c<12):16<=cy c/\cy c<=1024/\1<=dI c/\dI c<=4/\4<=aM c/\aM c<=64/\aM c*cy c<=dI c*1024/\eV c+8=cy c/\yJ c+6*(dI c+1)<=187/\1<=yJ c:=by rcases C8 h with rfl|rfl|rfl|rfl|rfl|rfl|rfl|rfl|rfl|rfl|rfl|rfl<;>decide
def cD{s:Nat}(h:c<12)(a:s<6):1<=aD c s/\aD c s+dI c<187:=by have:=aX h;unfold aD;have:s*(dI c+1)<=5*(dI c+1):=Gm _ Z;omega
def ca{s j:Nat}(h:c<12)(a:s<6)(b:j<aM c):1024<=bh c s j/\bh c s j+cy c<=(aD c s+dI c)*1024/\bh c s j+cy c<191488:=by
 let d:=aX h;let e:=cD h a;let f:j*cy c+cy c<=aM c*cy c:=by have:(j+1)*cy c<=aM c*cy c:=Gm _ b;rw[Gy,GF]at this;exact this
 unfold bh;omega
def zO{a:Nat}(h:a<=1016):co (a:Int)=(fD a:Nat)/\fD a<12/\a+8<=cy (fD a):=by
 let b:∀a:Fin 1017,co ((a.val:Nat):Int)=(fD a.val:Nat)/\fD a.val<12/\a.val+8<=cy (fD a.val):=by decide +kernel
 exact b ⟨a,Z⟩
def Mx(w:World)(M r G:Nat)(mix:List Int):Prop:=w.heap[M]?=some (.cells #[Vl r mix.length mix.length,I (0:Nat),I mix.length,.iface 84 (J G 0)] 194)/\RowV w r 3 (Ns .i64 mix)
def Mx.but{S w w' M r G mix}(h:Mx w M r G mix)(a:But S w w')(b:¬S M)(c:¬S r):Mx w' M r G mix:=
 ⟨a.at h.1 b,h.2.but a c⟩
structure Qr(w:QM)(M rm G rq n:Nat)(mix fifo:List Int):Prop where
 mx:Mx w M rm G mix
 qu:Qu w G rq n fifo
 ne:rm≠rq
def Qr.sep{rm rq}(h:Qr w M rm G rq n mix fifo):M≠G/\M≠rq/\M≠rm/\G≠rm/\G≠rq:=by obtain⟨⟨a,b⟩,⟨ps,o,f,c,d,_⟩,e⟩:=h;refine⟨?_,d.ne a ar,b.ne a ar,b.ne c ar,d.ne c ar⟩;rintro rfl;rw[a]at c;simp at c
def Qr.but{S w w' M rm G rq n mix fifo}(h:Qr w M rm G rq n mix fifo)(a:But S w w')(b:¬S M)(c:¬S rm)(d:¬S G)(e:¬S rq):Qr w' M rm G rq n mix fifo:=
 ⟨h.mx.but a b c,h.qu.but a d e,h.ne⟩
def Qs(e G rq:Nat):Nat->Prop:=λk=>k=e\/k=G\/k=rq
def Dg{M rm G rq n mix fifo}(x d w)(h:Qr w M rm G rq n mix fifo)(j:mix≠[])(f:mix.length<=1024)(l:n<=1024):
  QA 336 #[J M 0,I x,I d] w λe w'=>∃z,e=QJ (I z)/\z=(ed n mix fifo x d).2.2/\Qr w' M rm G rq n (ed n mix fifo x d).1 (ed n mix fifo x d).2.1/\But (Qs rm G rq) w w':=by
 let q:=List.length_pos_iff.2 j;let⟨s,t,r,m,A⟩:=h.sep;let a:(mix.set (md d mix.length) x).length=mix.length:=bH;by_cases i:mix[md d mix.length]?.getD 0 = -1;.apply(qk M G rm mix.length _ mix x d w h.mx.1 h.mx.2 rfl q f rfl i).mono;rintro e w'⟨rfl,o,b⟩;unfold ed;rw[GO j,GP i];let c:But (Qs rm G rq) w w':=.ofGrown b (.inl rfl);refine⟨_,rfl,rfl,⟨⟨?_,o⟩,h.qu.but (But.ofGrown (S:=λk=>k=rm) b rfl) m (λe=>h.ne e.symm),h.ne⟩,c⟩;rw[a];exact eK b h.mx.1 r
 refine(ww M G rm mix.length _ mix x d w h.mx.1 h.mx.2 rfl q f rfl _ rfl i (λv w'=>v=I (ed n mix fifo x d).2.2/\Qr w' M rm G rq n (ed n mix fifo x d).1 (ed n mix fifo x d).2.1/\But (Qs rm G rq) w w') (λu o b=>?_)).mono ?_
 .let v:=h.qu.but (But.ofGrown (S:=λk=>k=rm) b rfl) m (λe=>h.ne e.symm);apply(AF G rq n fifo _ d u v l).mono;rintro e w'⟨rfl,y,p⟩;refine⟨_,rfl,?_,?_,?_⟩;.unfold ed;rw[GO j,GO i]
  .unfold ed;rw[GO j,GO i];refine⟨⟨?_,o.but p (λc=>c.elim (λe=>m e.symm) (λe=>h.ne e))⟩,y,h.ne⟩;rw[a];exact p.at (eK b h.mx.1 r) (λc=>c.elim (λe=>s e) (λe=>t e))
  exact(But.ofGrown b (.inl rfl)).trans (p.mono (λg c=>c.elim (λe=>.inr (.inl e)) (λe=>.inr (.inr e))))
 rintro e w'⟨z,rfl,p,c,v⟩;simp at p;exact⟨z,rfl,p,c,v⟩
def qv(M G:Nat)(mix:List Int):Value:=.agg #[J M 0,J G 0,if mix.length=0 then .iface 84 (J G 0)else .iface 83 (J M 0)]
def lF(w:QM)(A B:Obj):(((w.alloc A).alloc B).heap[w.heap.size]?=some A)/\(((w.alloc A).alloc B).heap[w.heap.size+1]?=some B)/\D w ((w.alloc A).alloc B):=by let a:=dD (w.alloc A) B;rw[cS]at a;exact⟨lw (dD w A) B,a,((Fu _ w).alloc gi A).alloc (by rw[cS];omega) B⟩
def ae{o:Obj}(h:w.heap[g]?=some o)(a:D w w'):w'.heap[g]?=some o:=by rwa[a.block g (dO h)]
def xB{A B:Obj}(c:W.heap[g]?=some A)(b:W.heap[k]?=some B)(a:A≠B):g≠k:=by rintro rfl;rw[c]at b;cases b;exact a rfl
def zq(am lm cm af lf cf)(n:Nat)(mix fifo){w}(h:Wt w am lm af lf mix fifo)(hm:lm<=16)(hn:1<=n/\n<=32)(B:lf<=n):
  Calls prog 50 #[wv am lm cm af lf cf (n:Nat)] w λe w'=>∃M a G c,e=QJ (qv M G mix)/\Qr w' M a G c n mix fifo/\(w.heap.size<=M/\w.heap.size<=a/\w.heap.size<=G/\w.heap.size<=c)/\D w w':=by
 unfold wv;let b:=H (lF w (.cells #[.slice am lm cm,.slice af lf cf,I n] 123) (.cells #[.pointer none,.pointer none,.nilIface] 88));let⟨i,x,r,F⟩:=Qf (lQ n lf cf af fifo _ h.fl B Z (h.f.below b.2.2)) (λW(d:D w W)=>lQ lm lm cm am mix W h.ml gi Z (h.m.below d)) h.ml h.fl;clear h;go_in;go_wp2_with fail;refine(i).mono ?_;rintro e j⟨c,rfl,f,l,d⟩;let⟨m,s,y,q⟩:=Qf (az b.2.2 d) (ae b.1 d) (ae b.2.1 d) f;have K:=H (show w.heap.size<=c/\c<j.heap.size from⟨by have:=b.2.2.size;omega,f.lt⟩);clear d f l;have d:=H ((Fu _ j).alloc gi (.cells #[Vl c n n,I 0,I lf] 192));have L:(j.alloc (.cells #[Vl c n n,I 0,I lf] 192)).cell? (Qz w.heap.size 0)=some (.slice am lm cm):=by rw[ac (ae s d)];rfl
 go_wp2_with fail;refine(x _ (az m d)).mono ?_;rintro e b⟨a,rfl,z,t,l⟩;clear L;have L1:=m.size;have⟨N,f,u,O,P⟩:=Qg (ae (dD j (.cells #[Vl c n n,I 0,I lf] 192)) l) ((q.below d q.lt).below l (FG q.lt d.size)) (az (az m d) l) (ae (ae s d) l) (ae (ae y d) l);have o:=H (show a≠c by have:=K.2;rw[cS]at t;omega);have p:=H (show w.heap.size<=a by rw[cS]at t;omega);have v:=H z;have Q:=H (show w.heap.size<=j.heap.size by have:=m.size;omega);generalize j.heap.size=G at*;have i:=H ((Fu _ b).alloc gi (.cells #[Vl a lm lm,I 0,I lm,.iface 84 (J G 0)] 194));clear l z t;have⟨R,d,m,q,s,t,x,S⟩:=Qj (ae O i) (ae P i) (dD b (.cells #[Vl a lm lm,I 0,I lm,.iface 84 (J G 0)] 194)) (ae N i) (f.below i f.lt) (v.below i v.lt) (az u i) u.size;refine(let_mvar%?A:=b.alloc (.cells #[Vl a lm lm,I 0,I lm,.iface 84 (J G 0)] 194);?_);have L:(?A).cell? (Qz w.heap.size 0)=some (.slice am lm cm):=bJ R;refine(let_mvar%?B:=w.heap.size+1;?_);have d0:(?A).cell? ⟨?B,0,none⟩=some (.pointer none):=bJ d;have d1:(?A).cell? ⟨?B,1,none⟩=some (.pointer none):=bJ d;have d2:(?A).cell? ⟨?B,2,none⟩=some .nilIface:=bJ d;have f0:(?A).frozen? ⟨?B,0,none⟩=false:=ah d;have f1:(?A).frozen? ⟨?B,1,none⟩=false:=ah d;have f2:(?A).frozen? ⟨?B,2,none⟩=false:=ah d;have FIN:Hid (∀y z A:QN,∀W',W'=(((?A).setCell ⟨?B,0,none⟩ y).setCell ⟨?B,1,none⟩ z).setCell ⟨?B,2,none⟩ A->Qr W' b.heap.size a G c n mix fifo/\(w.heap.size<=b.heap.size/\w.heap.size<=a/\w.heap.size<=G/\w.heap.size<=c)/\D w W'):=?FIN;case FIN=>
  rintro y z A W' rfl;have T:But (λk=>k=w.heap.size+1) ?A ((((?A).setCell ⟨?B,0,none⟩ y).setCell ⟨?B,1,none⟩ z).setCell ⟨?B,2,none⟩ A):=(((But.refl (λk=>k=w.heap.size+1) ?A).set _ _ _ rfl).set _ _ _ rfl).set _ _ _ rfl;have V:Qr ?A b.heap.size a G c n mix fifo:=by
   refine⟨⟨by rw[r];exact m,?_⟩,⟨_,0,lf,q,s,?_,?_,B,λ_=>rfl,?_⟩,o⟩
   ·have:=t.out;rwa [Nat.sub_self,List.replicate_zero,Gl]at this
   ·rw[FC,Gc,F];omega
   ·omega
   rw[IE,List.take_zero,Gl,<-F.out,Iz gi,G9]
  have l:=d.out;have X:=xB m l bH;have Y:a≠w.heap.size+1:=(t.ne l ar).symm;have n3:=xB q l bH;have n4:c≠w.heap.size+1:=(s.ne l ar).symm;exact⟨V.but T X Y n3 n4,⟨S,p,Q,K.1⟩,x.trans (T.below x.size (λg e=>Z))⟩
 clear R m q s t x S N f p Q v i u O P o;by_cases f:lm=0
 ·have i:qv b.heap.size G mix=.agg #[J b.heap.size 0,J G 0,.iface 84 (J G 0)]:=by unfold qv;rw[r,GP f]
  have l:=H i;have m:((lm:Int)==0)=true:=by simp[f]
  clear i f;go_wp2;refine GX (Gq dU _ _ (?B) 88 _ (0,0) _ dU (set3 d) underlying88 rfl E) dU ?_;exact⟨b.heap.size,a,G,c,by rw[l],FIN _ _ _ _ rfl⟩
 have i:qv b.heap.size G mix=.agg #[J b.heap.size 0,J G 0,.iface 83 (J b.heap.size 0)]:=by unfold qv;rw[r,GO f]
 have l:=H i;have m:((lm:Int)==0)=false:=bG;clear i f;go_wp2;refine GX (Gq dU _ _ (?B) 88 _ (0,0) _ dU (set3 d) underlying88 rfl E) dU ?_;exact⟨b.heap.size,a,G,c,by rw[l],FIN _ _ _ _ rfl⟩
def ic{P:Program}{f:Func}{p q:Tmp}{b:TypeId}(h:f.results=#[.cell p b,.tmp q]){a:Array Value}{w:World}(g)(t:TypeId){c:Array Value}(i:Nat×Nat){d:TypeDesc}(j:a.getD p undef=J g 0)(k:w.heap[g]?=some (.cells c t i))(l:P.underlying b=some d)(m:(match d with | .struct _ | .array _ _=>true|_=>false)=true)(n:(P.info? b).map (·.size)=some c.size):
  (results f a).run P w=.ok (.tuple #[.agg c,a.getD q undef]) w:=by
 have e:a[p]?.getD undef=J g 0:=by simpa using j
 simp[results,h,e,asAddr,run_loadVar_row w g t b c i d k l m n]
def Qr.below{rm rq}(h:Qr w M rm G rq n mix fifo)(a:D w w'):Qr w' M rm G rq n mix fifo:=
 h.but (But.ofBelow (S:=λ_=>False) a) id id id id
def DZ(M rm G rq n fifo x d w)(h:Qr w M rm G rq n [] fifo)(b:n<=1024):
  QA 338 #[J G 0,I x,I d] w λe w'=>∃z,e=QJ (I z)/\z=(ed n [] fifo x d).2.2/\Qr w' M rm G rq n (ed n [] fifo x d).1 (ed n [] fifo x d).2.1/\But (Qs rm G rq) w w':=by
 let⟨f,i,m,j,o⟩:=h.sep;apply(AF G rq n fifo x d w h.qu b).mono;rintro e w'⟨rfl,k,c⟩;let l:ed n [] fifo x d=([],(cu n fifo x).1,(cu n fifo x).2):=by unfold ed;rw[GP rfl]
 rw[l];exact⟨_,rfl,rfl,⟨h.mx.but c (λa=>a.elim (λe=>f e) (λe=>i e)) (λa=>a.elim (λe=>j e.symm) (λe=>h.ne e)),k,h.ne⟩,c.mono (λg a=>a.elim (λe=>.inr (.inl e)) (λe=>.inr (.inr e)))⟩
def ti(h:eN mix fifo (n:Nat)=true):mix.length<=16/\1<=n/\n<=32/\fifo.length<=n:=by unfold eN at h;simp[Gi,Hj]at h;omega
def OU{M rm G rq n mix fifo}(x d w)(h:Qr w M rm G rq n mix fifo)(a:n<=1024)(b:mix.length=0):
  QA 338 #[J G 0,I x,I d] w λe w'=>∃z,e=QJ (I z)/\z=(ed n mix fifo x d).2.2/\Qr w' M rm G rq n (ed n mix fifo x d).1 (ed n mix fifo x d).2.1/\But (Qs rm G rq) w w':=by
 obtain rfl:=List.length_eq_zero_iff.1 b;exact DZ M rm G rq n fifo x d w h a
def Ow(w:World)(base:Nat)(a:Option Addr)(c:Nat)(zs:List Int):Prop:=w.ownsRow base 3 1 (.slice a zs.length c) zs.length (Ns .i64 zs)
def Ow.nil(w base):Ow w base none 0 []:=⟨rfl,.inl ⟨rfl,rfl⟩⟩
def Ow.but{S base}(h:Ow w base a c zs)(i:But S w w')(j:∀g,a=some (Qz g 0)->¬S g):Ow w' base a c zs:=by
 refine⟨h.1,?_⟩;rcases h.2 with k|⟨g,b,d,e,l,f,m⟩;.exact .inl k
 right;let n:a=some (Qz g 0):=by simp at e;exact e.1
 exact⟨g,b,d,e,l,by rwa[i.block g (dO f) (j g n)],m⟩
def Ow.below{base}(h:Ow w base a c zs)(b:D w w'):Ow w' base a c zs:=h.but (But.ofBelow (S:=λ_=>False) b) (λ_ _=>id)
def Ow.base{base}(h:Ow w base a c zs):∀g,a=some (Qz g 0)->base<=g/\g<w.heap.size:=by
 rintro g rfl;rcases h.2 with⟨e,_⟩|⟨j,b,d,e,f,i,k⟩;.simp at e
 simp at e;obtain⟨rfl,_⟩:=e;exact⟨f,dO i⟩
def Ow.sl{base}(h:Ow w base a c zs):Sl w a zs:=by
 rcases h.2 with⟨e,d⟩|⟨g,f,i,e,k,l,m⟩;.simp at e;exact .inl ⟨e.1,List.length_eq_zero_iff.1 d⟩
 have j:a=some (Qz g 0):=by simp at e;exact e.1
 subst j;exact .inr ⟨g,rfl,RowV.ofOwns h⟩
def Ow.cap0{base}(h:Ow w base a c zs):a=none->c=0:=by
 rintro rfl;rcases h.2 with⟨e,f⟩|⟨g,b,d,e,i,j,k⟩;.simp at e;exact e.2
 simp at e
def Ow.capge{base}(h:Ow w base a c zs):zs.length<=c:=by
 rcases h.2 with⟨e,f⟩|⟨g,b,d,e,i,j,k,_⟩;.omega
 simp at e;omega
def kV(w base a c zs)(o:QP)(m q:Nat)(f:List Int)(b:Ow w base a c zs)(z:f.length=m)(K:o=none->q=0)(l:(o=none/\f=[])\/∃p,o=some p/\∀j u,(Ns .i64 f)[j]?=some u->w.cell? (p.add j)=some u)(S:zs.length+m<=1048576)(i:base<=w.heap.size):
  ∃j d w',QI 25 (.slice a zs.length c) (.slice o m q) w (.slice j (zs.length+m) d) w'/\Ow w' base j d (zs++f)/\But (λk=>base<=k) w w':=by
 let⟨A,B,r,s,t⟩:=G0 Tryz.info3In;rcases l with⟨rfl,rfl⟩|⟨p,rfl,L⟩
 .obtain rfl:m=0:=by simpa using z.symm
  obtain rfl:=K rfl;refine⟨a,c,w,?_,by rwa[Gl],But.refl _ _⟩;rw[GK];exact run_append_owned_none (P:=prog) (w:=w) base 25 25 3 A 1 underlying25 B _ _ _ b
 let⟨M,w',N,F,n,_⟩:=Ia (P:=prog) w base 25 25 3 A (I 0) 1 8 underlying25 B r s t rfl Z (.slice a zs.length c) zs.length (Ns .i64 zs) b p m q (Ns .i64 f) (by rw[NM];omega) L (jU) (by unfold maxLen;omega) Z i;let hv:∃j d,M=.slice j (zs.length+m) d:=by
  rcases F.2 with⟨e,x⟩|⟨g,v,y,e,_⟩;.exact⟨none,0,by rwa[x]⟩
  exact⟨_,_,e⟩
 obtain⟨j,d,rfl⟩:=hv;refine⟨j,d,w',N,?_,⟨n.os,n.tape,n.output,n.size,λk O Q=>n.block k O λG=>Q ?_⟩⟩
 .let x:(zs++f).length=zs.length+m:=by simp[z]
  unfold Ow;rw[x];let R:Ns .i64 (zs++f)=Ns .i64 zs++Ns .i64 f:=by simp[Ns]
  rwa[R]
 cases a with
 |none=>simp[Value.ownBlock]at G
 |some x=>
  rcases b.2 with⟨e,_⟩|⟨g,v,y,e,R,_⟩;.simp at e
  simp at e;obtain⟨rfl,_⟩:=e;simp[Value.ownBlock]at G;omega
structure Ky(S:QO->Prop)(W W':QM):Prop where
 os:W'.os=W.os
 tape:W'.tape=W.tape
 output:W'.output=W.output
 size:W.heap.size<=W'.heap.size
 cells:∀(g:Nat)(c:Array QN)(t:QO)(f:Nat×Nat),W.heap[g]?=some (.cells c t f)->¬S t->W'.heap[g]?=some (.cells c t f)
def Ky.below(h:D W W'):Ky S W W':=⟨h.os,h.tape,h.output,h.size,λg c t f a _=>by rwa[h.block g (ag a)]⟩
def Ky.refl(S W):Ky S W W:=Ky.below th
def Ky.trans{S a b c}(h:Ky S a b)(k:Ky S b c):Ky S a c:=⟨k.os.trans h.os,k.tape.trans h.tape,k.output.trans h.output,Fx h.size k.size,λg d t f i e=>k.cells g d t f (h.cells g d t f i e) e⟩
def Ky.XC{S:TypeId->Prop}{W W':World}{g:Nat}{c:Array Value}{t:TypeId}{f:Nat×Nat}(k:Ky S W W')(h:W.heap[g]?=some (.cells c t f))(n:¬S t:=by decide):W'.heap[g]?=some (.cells c t f):=k.cells _ _ _ _ h n
def Ky.more{a:QO->Prop}(h:Ky S W W')(b:∀t,S t->a t):Ky a W W':=⟨h.os,h.tape,h.output,h.size,λg c t f d i=>h.cells g c t f d (λe=>i (b t e))⟩
def Ky.grown{P:Nat}{c:Array QN}{t:QO}{f:Nat×Nat}(d:W.heap[P]?=some (.cells c t f))(i:S t)(b:W.grownBy W' (some P)):Ky S W W':=by
 refine⟨b.os,b.tape,b.output,b.size,λg k l m a j=>?_⟩;rw[b.block g (ag a) (λe=>?_)];.exact a
 simp at e;subst e;rw[d]at a;simp at a;exact j (a.2.1▸i)
def Sx.ky{T}(h:Sx T Q n bud m W)(k:Ky S W W')(e:¬S 303)(f:¬S 305)(j:¬S 5):Sx T Q n bud m W':=by
 let⟨c,o,p,r,a⟩:=h.row;refine⟨k.XC h.box e,⟨c,k.XC o f,p,λi s=>?_,a⟩,h.out⟩;let b:=r i s;cases d:m i with
 |none=>rw[d]at b;exact b
 |some q=>let⟨l,xs⟩:=q;rw[d]at b;let⟨t,u,v,g,w,x⟩:=b;exact⟨t,u,v,g,w,k.XC x j⟩
def ai{sz:Nat}{v:QN}(h:W.ownsRow B e sz v n xs)(k:Ky S W W')(d:¬S e:=by decide):W'.ownsRow B e sz v n xs:=by
 refine⟨h.1,?_⟩;rcases h.2 with a|⟨g,b,c,f,a,i,j⟩;.exact .inl a
 exact .inr ⟨g,b,c,f,a,k.XC i d,j⟩
def cL(h:RowV W g e xs)(k:Ky S W W')(a:¬S e):RowV W' g e xs:=by let⟨c,b,d⟩:=h;exact⟨c,k.XC b a,d⟩
def Sl.ky(h:Sl W a zs)(k:Ky S W W')(b:¬S 3):Sl W' a zs:=by
 rcases h with h|⟨g,e,c⟩;.exact .inl h
 exact .inr ⟨g,e,cL c k b⟩
def Wq(W:World)(v:Value)(zs:List Int):Prop:=∃(a:Option Addr)(cap:Nat),v=.slice a zs.length cap/\(a=none->cap=0)/\Sl W a zs
def Wq.ky{S W W' v zs}(h:Wq W v zs)(k:Ky S W W')(c:¬S 3):Wq W' v zs:=by let⟨a,b,d,e,f⟩:=h;exact⟨a,b,d,e,f.ky k c⟩
structure Sm where
 P:Nat
 T:Nat
 Q:Nat
 G:Nat
 gc:Nat
 da:QP
 dc:Nat
 wv:QN
 rv:QN
 ov:QN
 lv:QN
 mv:Nat->QN
 fv:Nat->QN
def Us(zs:List Nat):List Value:=zs.map λ(n:Nat)=>Value.int .u64 (n:Int)
def ji(h:Hs):List Value:=dF.flatMap λt=>[I t.1,I t.2.1,I t.2.2,U (bh t.1 t.2.1 t.2.2:Nat),I (h.st t.1 t.2.1 t.2.2),I (h.rq t.1 t.2.1 t.2.2)]
def nO(cf:Cf)(x:Sm):List Value:=(List.range 12).flatMap λc=>[x.mv c,x.fv c,I cf.fifo]
def eM(rg:List Rg9):List Value:=rg.flatMap λr=>[U r.base,I r.first,I r.ext,I r.pages,I r.st,I r.rq]
def fN(cf:Cf)(x:Sm)(used:Nat):Array Value:=#[I cf.mix,I cf.fifo,I cf.large,I cf.bud,U cf.key,.slice x.da cf.ds.length x.dc,J x.T 0,Vl x.G 1062 x.gc,x.wv,x.rv,x.ov,x.lv,I used]
structure Sh(B:Nat)(x:Sm)(cf:Cf)(h:Hs)(W:QM):Prop where
 box:W.heap[x.P]?=some (.cells (fN cf x h.used) 240)
 bp:B<=x.P
 bq:B<=x.Q
 bg:∀g,e_ x.Q W g->B<=g
 ds:Sl W x.da cf.ds
 sp:Sx x.T x.Q 283 (cf.bud:Nat) h.m W
 sl:W.ownsRow B 242 6 (Vl x.G 1062 x.gc) 1062 (ji h)
 wt:W.ownsRow B 123 3 x.wv 12 (nO cf x)
 wm:∀c,c<12->Wq W (x.mv c) (h.mx c)/\Wq W (x.fv c) (h.ff c)
 rg:W.ownsRow B 244 6 x.rv h.rg.length (eM h.rg)
 ro:W.ownsRow B 24 1 x.ov h.row.length (Us h.row)
 rl:W.ownsRow B 24 1 x.lv h.rel.length (Us h.rel)
def cV(h:W'.heap[Q]?=W.heap[Q]?)(b:e_ Q W' g):e_ Q W g:=by let⟨k,a⟩:=b;refine⟨k,?_⟩;unfold World.cell? at a⊢;rw[h]at a;exact a
def Sx.qEq{T}(h:Sx T Q n bud m W)(k:Ky S W W')(b:¬S 305):W'.heap[Q]?=W.heap[Q]?:=by let⟨c,a,_⟩:=h.row;rw[k.XC a b,a]
def Sh.boxed{x cf h}(a:Sh B x cf h W)(k:Ky (· =240) W W')(u)(d:W'.heap[x.P]?=some (.cells (fN cf x u) 240)):Sh B x cf {h with used:=u} W':=
 ⟨d,a.bp,a.bq,λg e=>a.bg g (cV (a.sp.qEq k ar) e),a.ds.ky k ar,a.sp.ky k ar ar ar,ai a.sl k,ai a.wt k,λc b=>⟨(a.wm c b).1.ky k ar,(a.wm c b).2.ky k ar⟩,ai a.rg k,ai a.ro k,ai a.rl k⟩
def Sh.below{B x cf h W W'}(a:Sh B x cf h W)(b:D W W'):Sh B x cf h W':=by let k:Ky (λ_=>False) W W':=Ky.below b;exact⟨k.XC a.box (λe=>e),a.bp,a.bq,λg f=>a.bg g (cV (a.sp.qEq k (λe=>e)) f),a.ds.ky k (λe=>e),a.sp.below b,ai a.sl k (λe=>e),ai a.wt k (λe=>e),λc d=>⟨(a.wm c d).1.ky k (λe=>e),(a.wm c d).2.ky k (λe=>e)⟩,ai a.rg k (λe=>e),ai a.ro k (λe=>e),ai a.rl k (λe=>e)⟩
def Sh.cell{B x cf h W}(a:Sh B x cf h W)(i:Nat)(v:QN)(hv:(fN cf x h.used)[i]?=some v):W.cell? (Qz x.P i)=some v:=by simp[QC,a.box,hv]
def eC{α:Type}(f:α->List QN)(n:Nat)(b:∀a,(f a).length=n):∀(l:List α)(i:Nat)(a:α),l[i]?=some a->∀r,r<n->(l.flatMap f)[i*n+r]?=(f a)[r]?
 |[],i,a,h=>by simp at h
 |x::l,0,a,h=>λr c=>by
  simp at h
  subst h
  rw[If,Nat.zero_mul,Oi,Ga (by rwa[b])]
 |x::l,i+1,a,h=>λr c=>by
  simp at h
  let d:(i+1)*n=i*n+n:=by rw[Gy,GF]
  rw[If,Gn (by rw[b];omega),b,show(i+1)*n+r-n=i*n+r by omega]
  exact eC f n b l i a h r c
def bC{sz:Nat}{cap}(h:W.ownsRow B e sz (Vl G n cap) n xs)(i:Nat)(v:QN)(hv:xs[i]?=some v):W.cell? (Qz G i)=some v:=by
 rcases h.2 with⟨e,_⟩|⟨g,a,b,e,j,c,k,l,m,d⟩;.simp at e
 simp at e;obtain⟨rfl,rfl⟩:=e;let f:=(Fz.1 hv).1;rw[<-d,Hf (by rwa[<-h.1]),Gg]at hv;simp[QC,c,hv]
def fG:dF.length=1062:=by decide +kernel
def sA(k:Nat):Nat×Nat×Nat:=(dF[k]?).getD (0,0,0)
def Oz(h:k<1062):dF[k]?=some (sA k):=by unfold sA;rw[Fy (by rwa[fG])];rfl
def dC(h:Hs)(k:Nat):Int:=h.st (sA k).1 (sA k).2.1 (sA k).2.2
def fJ(h:Hs)(k:Nat):Int:=h.rq (sA k).1 (sA k).2.1 (sA k).2.2
def gt(k:Nat):Nat:=bh (sA k).1 (sA k).2.1 (sA k).2.2
abbrev Qx(k:Nat)(h:Hs):Obj:=.cells #[I ((sA k).1:Nat),I ((sA k).2.1:Nat),I ((sA k).2.2:Nat),U (gt k:Nat),I (dC h k),I (fJ h k)] 109
def Sh.slot{x cf h}(b:Sh B x cf h W)(c:k<1062):QG W x.G (k*6) (I ((sA k).1:Nat))/\QG W x.G (k*6+1) (I ((sA k).2.1:Nat))/\QG W x.G (k*6+2) (I ((sA k).2.2:Nat))/\QG W x.G (k*6+3) (U (gt k:Nat))/\QG W x.G (k*6+4) (I (dC h k))/\W.cell? (Qz x.G (k*6+5))=some (I (fJ h k)):=by
 let g:=λr v(d:r<6)hv=>bC b.sl (k*6+r) v (((eC (λt:Nat×Nat×Nat=>[I t.1,I t.2.1,I t.2.2,U (bh t.1 t.2.1 t.2.2:Nat),I (h.st t.1 t.2.1 t.2.2),I (h.rq t.1 t.2.1 t.2.2)]) 6 (λ_=>rfl) dF k (sA k) (Oz c)) r d).trans hv)
 exact⟨g 0 _ Z rfl,g 1 _ Z rfl,g 2 _ Z rfl,g 3 _ Z rfl,g 4 _ Z rfl,g 5 _ Z rfl⟩
def jc(h:Hs)(c s:Nat)(e:List Int)(n:Nat):List Nat:=(List.range n).filter λk=>(sA k).1==c&&((sA k).2.1==s&&e.contains (dC h k))
def xH(h c s sts)(n:Nat):jc h c s sts (n+1)=jc h c s sts n++(if((sA n).1==c&&((sA n).2.1==s&&sts.contains (dC h n)))=true then[n]else[]):=by unfold jc;rw[Gs,Hl];congr 1;simp[List.filter_cons,List.filter_nil]
def zJ(h c s sts n):(jc h c s sts n).length<=n:=by unfold jc;have:=Hb (λk=>(sA k).1==c&&((sA k).2.1==s&&sts.contains (dC h k))) (List.range n);simpa using this
namespace product
def sp_Product_no(x y:Nat)(c:x<18446744073709551616)(d:y<18446744073709551616)(h:18446744073709551616<=x*y)(w:QM):
  Calls prog 184 #[U x,U y] w λe w'=>e=QJ (.tuple #[U 0,.bool false])/\w'=w:=by
 let a:0<x:=by
  rcases Nat.eq_zero_or_pos x with b|b;.subst b;simp at h
  exact b
 let b:(18446744073709551615:Int)/(x:Int)<(y:Int):=by
  have:18446744073709551615/x<y:=by rw[Nat.div_lt_iff_lt_mul a,GL];omega
  show((18446744073709551615:Nat):Int)/(x:Int)<(y:Int);rw[<-Int.natCast_ediv];exact Int.ofNat_lt.2 this
 go_in;go_wp2
 go_ret2
 exact QB
def sp_Product_zero(y:Nat)(a:y<18446744073709551616)(w:QM):
  Calls prog 184 #[U 0,U y] w λe w'=>e=QJ (.tuple #[U 0,.bool true])/\w'=w:=by
 go_in;go_wp2
 go_ret2
 exact QB
def sp_Product_yes(x y:Nat)(a:0<x)(d:x<18446744073709551616)(f:y<18446744073709551616)(h:x*y<18446744073709551616)(w:QM):
  Calls prog 184 #[U x,U y] w λe w'=>e=QJ (.tuple #[U ((x*y:Nat):Int),.bool true])/\w'=w:=by
 have g:(y:Int)<=(18446744073709551615:Int)/(x:Int):=by
  have:y<=18446744073709551615/x:=by rw[Nat.le_div_iff_mul_le a,GL];omega
  show(y:Int)<=((18446744073709551615:Nat):Int)/(x:Int);rw[<-Int.natCast_ediv];exact Int.ofNat_le.2 this
 let b:IntKind.u64.wrap ((x:Int)*(y:Int))=((x*y:Nat):Int):=by rw[Mul64.mulN,Hv _ h]
 have c:=Bm b;clear h b;go_in;go_wp2
 go_ret2
 exact⟨by rw[<-c.out];rfl,rfl⟩
end product
def NY(tk:Nat->Bool):Nat->Nat
 |0=>0
 |k+1=>if tk k then 0 else NY tk k+1
def pe(tk):∀k,NY tk k<=k
 |0=>gi
 |k+1=>by have:=pe tk k;unfold NY;split<;>omega
def jo(tk):∀k n,n<=NY tk k↔n<=k/\∀q,k-n<=q->q<k->tk q=false
 |0,n=>by
  simp only[NY]
  exact⟨λh=>⟨h,λq _ a=>Z⟩,λh=>h.1⟩
 | k+1,n=>by
  have c:=jo tk k
  simp[NY]
  cases d:tk k with
  | true=>
   simp[IM]
   constructor
   .intro h
    exact⟨Z,λq b a=>Z⟩
   intro⟨b,a⟩
   by_cases f:n=0
   .omega
   have:=a k Z Z
   rw[d]at this;cases this
  | false=>
   simp[Bool.false_eq_true,IL]
   constructor
   .intro h
    refine⟨by have:=pe tk k;omega,λq b a=>?_⟩
    by_cases e:q=k
    .subst e;exact d
    exact((c (n-1)).1 Z).2 q Z Z
   intro⟨b,a⟩
   by_cases f:n=0
   .omega
   have:=(c (n-1)).2 ⟨Z,λq g i=>a q Z Z⟩
   omega
def find_range{N:Nat}{p:Nat->Bool}(a:k<N)(b:p k=true)(c:∀i,i<k->p i=false):(List.range N).find? p=some k:=by rw[Iu];exact⟨b,Gh.2 a,λj d=>by rw[c j d];rfl⟩
def gY(rg:List Rg9)(q:Nat):Bool:=rg.any λr=>decide (r.first<=187+q)&&decide (187+q<r.first+r.ext)
def pu(c:List Rg9)(l:∀r∈c,187<=r.first/\1<=r.ext){i:Nat}(o:1<=n):(c.all λr=>decide (187+i+n<=r.first) || decide (r.first+r.ext<=187+i))=true↔∀q,i<=q->q<i+n->gY c q=false:=by
 rw[List.all_eq_true];constructor
 .intro h q j k;unfold gY;cases e:c.any _ with
  |false=>rfl
  |true=>exfalso;let⟨r,f,b⟩:=List.any_eq_true.1 e;have:=h r f;simp at this b;omega
 intro h r f;let p:=l r f;simp;by_cases j:187+i+n<=r.first
 .exact .inl j
 by_cases k:r.first+r.ext<=187+i
 .exact .inr k
 exfalso;let d:∀q,i<=q->q<i+n->¬(r.first<=187+q/\187+q<r.first+r.ext):=λq a b m=>by have:=h q a b;unfold gY at this;let g:(c.any λr=>decide (r.first<=187+q)&&decide (187+q<r.first+r.ext))=true:=List.any_eq_true.2 ⟨r,f,by simp;exact m⟩;rw[g]at this;cases this
 by_cases g:r.first<=187+i
 .exact d i gi Z ⟨g,Z⟩
 exact d (r.first-187) Z Z ⟨Z,Z⟩
def Pd{h:Hs}(c:∀r∈h.rg,187<=r.first/\1<=r.ext)(d:1<=n)(l:k<96)(m:NY (gY h.rg) (k+1)=n)(f:∀j,j<=k->NY (gY h.rg) j<n):dV h n=some (187+(k+1-n)):=by
 let g:=pe (gY h.rg) (k+1);unfold dV;rw[find_range (k:=k+1-n) Z ?_ ?_];.rfl
 .simp only[Gi,Hj];refine⟨Z,(pu h.rg c d).2 (λq a b=>?_)⟩;exact((jo (gY h.rg) (k+1) n).1 Z).2 q a Z
 intro i o;cases e:(decide (i+n<=96)&&h.rg.all λr=>decide (187+i+n<=r.first) || decide (r.first+r.ext<=187+i))with
 |false=>rfl
 |true=>exfalso;simp only[Gi,Hj]at e;let j:=(pu h.rg c d).1 e.2;have:=(jo (gY h.rg) (i+n) n).2 ⟨Z,λq a b=>j q Z b⟩;have:=f (i+n) Z;omega
def sI{h:Hs}(c:∀r∈h.rg,187<=r.first/\1<=r.ext)(d:1<=n)(f:∀j,j<=96->NY (gY h.rg) j<n):dV h n=none:=by
 unfold dV;rw[List.find?_eq_none.2];.rfl
 intro i j e;simp only[Gi,Hj]at e;have:=(jo (gY h.rg) (i+n) n).2 ⟨Z,λq a b=>((pu h.rg c d).1 e.2) q Z b⟩;have:=f (i+n) Z;omega
end
section
variable {m:Nat->Option (Bool×List Int)}{B M S a c cap k n:Nat}{f:Nat->Option Nat}{W W' w:World}{bud nn st:Int}{x:Sm}{e:TypeId}{xs:List Value}{h:Hs}{cf:Cf}
def fu{f:Nat->Option Nat}{m:Nat->Option (Bool×List Int)}(h:∀k,(f k).isSome=(m k).isSome)(p):∀c,bm f p c=c↔fC m p true c=true
 |0=>by simp[bm,fC]
 |k+1=>by
  let b:=ep f p k
  simp[bm,fC,Gi,beq_iff_eq,<-h (p+k),<-(fu h p k)]
  cases(f (p+k)).isSome<;>simp<;>omega
def pM{f:Nat->Option Nat}{m:Nat->Option (Bool×List Int)}(h:∀k,(f k).isSome=(m k).isSome)(p):∀c,bm f p c=0↔fC m p false c=true
 |0=>by simp[bm,fC]
 |k+1=>by
  simp only[bm,fC,Gi,beq_iff_eq,<-h (p+k),<-(pM h p k)]
  cases(f (p+k)).isSome<;>simp
def nS(nn:Nat)(p c):bI nn p c=true↔AB nn p c:=by unfold bI AB;rw[Hj];omega
def Af(S M)(nn:Nat)(bud f m)(s p:Int)(c a n d dl dc ys w)(h:Im S M 0 nn bud f w)(u:Pg f m w)(A:∀k,nn<=k->m k=none)(G:nn<=4096)(v:p<=9223372036854775807)(F:s=0\/s=1\/s=2\/s=3):
  QA 171 #[J S 0,kf s p c a n d dl dc] w λe r=>e=QJ (.agg #[I (bZ nn bud m s p c a n ys).2.1,C])/\tg S M nn bud f (bZ nn bud m s p c a n ys).1 w r:=by
 let g:(0:Int)<=nn:=Z;let j:(nn:Int)<=4096:=Z;let K:¬s=4:=Z;let L:¬s=5:=Z;let N:¬(s<0\/5<s):=Z;let l:=u.none_iff;let x:bm f 0 4096=bz m nn:=by rw[ke l 4096,show 4096=nn+(4096-nn) by omega,mn A]
 unfold bZ;rw[GO K,GO L,GO N];by_cases t:AB nn p c
 .rw[GP t];let b:=(nS nn p c).2 t;let⟨Q,O,R,T⟩:=t;obtain⟨p,rfl⟩:=Ha O;obtain⟨c,rfl⟩:=Ha (show 0<=c by omega);simp[F0];let P:=ep f p c;rcases F with rfl|rfl|rfl|rfl
  .refine lL S M nn bud f m p c a n d dl dc w h u (λV i q=>?_);simp[kx,IM];cases o:fC m p false c with
   | false=>
    simp[IM];refine(qh S M 1 nn bud f p c _ V i g j b rfl (by
     have:=(pM l p c);rw[o]at this;let y:bm f p c≠0:=λe=>by simpa using this.1 e
     omega)).mono ?_
    rintro e r⟨rfl,rfl⟩;exact⟨rfl,f,i,q,Fr.refl _ _ _ _⟩
   |true=>
    let B:=(pM l p c).2 o;by_cases z:bud<(bz m nn:Int)+c;.simp only[GP z,IS,IL];apply(qL S M 1 nn bud f p c _ V i g j b B x z).mono;rintro e r⟨rfl,rfl⟩;exact⟨rfl,f,i.drew,q.drew,(Fr.refl _ _ _ _).drew⟩
    simp[GO z,IS,IL];exact sj S M 1 nn bud f m p c _ V i q g j b B x Z
  .refine jz S M nn bud f m p c a n d dl dc w h u (λV i q=>?_);simp[kx,show¬((1:Int)=0) by omega,IL,IM];cases o:fC m p true c with
   | false=>
    simp[IM];refine(ni S M 1 nn bud f p c _ V i g j b rfl (by
     have:=(fu l p c);rw[o]at this;let y:bm f p c≠c:=λe=>by simpa using this.1 e
     omega)).mono ?_
    rintro e r⟨rfl,rfl⟩;exact⟨rfl,f,i,q,Fr.refl _ _ _ _⟩
   |true=>simp[IS,IL];exact oB S M 1 nn bud f m p c V i q g j b ((fu l p c).2 o)
  .refine ri S M nn bud f m p c a n d dl dc w h u (λV i q=>?_);simp[kx,show¬((2:Int)=0) by omega,show¬((2:Int)=1) by omega,IL,IM];cases o:fC m p true c with
   | false=>
    simp[IM];refine(jl S M 1 nn bud f p c _ true V i g j b rfl (by
     have:=(fu l p c);rw[o]at this;let y:bm f p c≠c:=λe=>by simpa using this.1 e
     omega)).mono ?_
    rintro e r⟨rfl,rfl⟩;exact⟨rfl,f,i,q,Fr.refl _ _ _ _⟩
   |true=>simp[IS,IL];apply(ki S M 1 nn bud f m p c true V i q g j b ((fu l p c).2 o)).mono;rintro e r⟨rfl,z,y,B⟩;exact⟨rfl,f,z,y,B⟩
  refine my S M nn bud f m p c a n d dl dc w h u (λV i q=>?_);simp[kx,show¬((3:Int)=0) by omega,show¬((3:Int)=1) by omega,show¬((3:Int)=2) by omega,IL];cases o:fC m p true c with
  | false=>
   simp[IM];refine(jl S M 1 nn bud f p c _ false V i g j b rfl (by
    have:=(fu l p c);rw[o]at this;let y:bm f p c≠c:=λe=>by simpa using this.1 e
    omega)).mono ?_
   rintro e r⟨rfl,rfl⟩;exact⟨rfl,f,i,q,Fr.refl _ _ _ _⟩
  |true=>simp[IS,IL];apply(ki S M 1 nn bud f m p c false V i q g j b ((fu l p c).2 o)).mono;rintro e r⟨rfl,z,y,B⟩;exact⟨rfl,f,z,y,B⟩
 rw[GO t];let b:bI nn p c=false:=by
  cases o:bI nn p c with
  |false=>rfl
  |true=>exact absurd ((nS nn p c).1 o) t
 rcases F with rfl|rfl|rfl|rfl;.refine lL S M nn bud f m p c a n d dl dc w h u (λV i q=>(uV S M 1 nn bud f p c V i g j v b).mono ?_);rintro e r⟨rfl,rfl⟩;exact⟨rfl,f,i,q,Fr.refl _ _ _ _⟩
 .refine jz S M nn bud f m p c a n d dl dc w h u (λV i q=>(rL S M 1 nn bud f p c V i g j v b).mono ?_);rintro e r⟨rfl,rfl⟩;exact⟨rfl,f,i,q,Fr.refl _ _ _ _⟩
 .refine ri S M nn bud f m p c a n d dl dc w h u (λV i q=>(lX S M 1 nn bud f p c true V i g j v b).mono ?_);rintro e r⟨rfl,rfl⟩;exact⟨rfl,f,i,q,Fr.refl _ _ _ _⟩
 refine my S M nn bud f m p c a n d dl dc w h u (λV i q=>(lX S M 1 nn bud f p c false V i g j v b).mono ?_);rintro e r⟨rfl,rfl⟩;exact⟨rfl,f,i,q,Fr.refl _ _ _ _⟩
def rS{n}(h:ci m a n=0):∃k:Nat,n=k/\k<=4096/\(k=0\/a+k<=4611686018427387904)/\∀d,d<k->isOpen (m ((a+d)/1024))=true:=by
 unfold ci at h;by_cases b:n<0\/4096<n;.rw[GP b]at h;cases h
 rw[GO b]at h;obtain⟨k,rfl⟩:=Ha (show 0<=n by omega);refine⟨k,rfl,Z,?_⟩;by_cases f:(k:Int)=0;.exact⟨.inl Z,λd c=>Z⟩
 rw[GO f]at h;by_cases c:4611686018427387904<=(a:Int)+((k:Int)-1);.rw[GP c]at h;cases h
 rw[GO c]at h;refine⟨.inr Z,?_⟩;cases e:dE m a k with
 |false=>simp[e,jk]at h
 |true=>exact gL e
def jR(c:Pg f m W)(h:isOpen (m k)=true):∃g,f k=some g:=by
 rcases c.at' k with⟨a,d⟩|⟨b,l,xs,a,_⟩;.rw[d]at h;cases h
 exact⟨b,a⟩
def xw(S a n){c:Int}(w:QM)(f:(c !=0)=true)(h:QA 283 #[J S 0,U a,I n] (w.alloc (.cells #[I 0,C] 284)) λe b=>e=QJ (I c)/\b=w.alloc (.cells #[I 0,C] 284)):
  Calls prog 217 #[J S 0,U a,I n] w λe b=>e=QJ (.agg #[I c,C])/\b=w.alloc (.cells #[I c,C] 284):=by
 go_in;go_wp2_with fail;apply (H h).mono;rintro _ _⟨rfl,rfl⟩;go_wp2_with fail;refine GX (v:=.agg #[I c,C]) (by simp[results,Tryz.results217,go_sem]) rfl ⟨rfl,rfl⟩
def uQ(S a){c:Int}(n cap:Nat)(p:QP)(w:QM)(f:(c !=0)=true)(h:QA 283 #[J S 0,U a,I n] (w.alloc (.cells #[.slice p n cap] 22)) λe b=>e=QJ (I c)/\b=w.alloc (.cells #[.slice p n cap] 22)):
  Calls prog 218 #[J S 0,U a,.slice p n cap] w λe b=>e=QJ (I c)/\b=w.alloc (.cells #[.slice p n cap] 22):=by
 go_in;go_wp2_with fail;apply (H h).mono;rintro _ _⟨rfl,rfl⟩;go_wp2_with fail;go_ret;exact QB
def y_(S M)(nn:Nat)(bud f m p c)(a:Nat)(n d dl dc ys w)(h:Im S M 0 nn bud f w)(j:Pg f m w)(ha:a<18446744073709551616):
  QA 171 #[J S 0,kf 4 p c a n d dl dc] w λe g=>∃v,e=QJ (.agg #[I (bZ nn bud m 4 p c a n ys).2.1,v])/\g.ownsRow w.heap.size 5 1 v (bZ nn bud m 4 p c a n ys).2.2.length (Ns .u8 (bZ nn bud m 4 p c a n ys).2.2)/\tg S M nn bud f (bZ nn bud m 4 p c a n ys).1 w g:=by
 let l:bZ nn bud m 4 p c a n ys=(m,ci m a n,if ci m a n=0 then aH m a n.toNat else[]):=by unfold bZ;rw[GP rfl]
 rw[l];refine run_load S M nn bud f m p c a n d dl dc w h j (λV i q=>?_);by_cases b:ci m a n=0
 .rw[b,GP rfl];obtain⟨k,rfl,o,s,t⟩:=rS b
  apply((callsIn_wide (n:=5)).1 (zu S M 1 nn bud f m a k V i q o s (λd j=>jR q (t d j)) (λW d j=>by have:=iz S M 1 nn bud f m a (k:Nat) W d j ha;rwa [b]at this))).mono;rintro e g⟨v,rfl,x,r⟩;refine⟨v,rfl,?_,r⟩;simp[F0];let y:(aH m a k).length=k:=by simp[aH]
  rwa[y]
 rw[GO b];apply(xw S a n V (by simpa using b) (iz S M 1 nn bud f m a n _ (i.alloc _) (q.alloc _) ha)).mono;rintro e g⟨rfl,rfl⟩;exact⟨_,rfl,⟨rfl,.inl ⟨rfl,rfl⟩⟩,i.alloc _,q.alloc _,Fr.ofGrown (GZ _ _ none)⟩
def tp(m k u v):dT (dT m k u) k v=dT m k v:=by funext j;unfold dT;split<;>rfl
def vF{m:Nat->Option (Bool×List Int)}{k:Nat}{v:Option (Bool×List Int)}(h:m k=v):dT m k v=m:=by
 funext j;unfold dT;split;.rename_i e;rw[e,h]
 rfl
def qt{xs b:List Int}{a:Nat}{z:Int}(h:a+b.length<xs.length):(splice xs a b).set (a+b.length) z=splice xs a (b++[z]):=by let c:(xs.take a).length=a:=bG;let d:=List.drop_eq_getElem_cons h;unfold splice;rw[d,List.set_append_right _ _ Z,c,Nat.add_sub_cancel_left,List.set_append_right _ _ gi,Nat.sub_self,FA];simp[H_]
def jd(m a ys)(d:Nat)(lk:Bool)(xs:List Int)(c:xs.length=1024)(f:ay m a ys d ((a+d)/1024)=some (lk,xs)):
  ∀l,(a+d)%1024+l<=1024->d+l<=ys.length->ay m a ys (d+l)=dT (ay m a ys d) ((a+d)/1024) (some (lk,splice xs ((a+d)%1024) ((ys.drop d).take l)))
 |0,_,_=>by
  let e:splice xs ((a+d)%1024) ((ys.drop d).take 0)=xs:=by simp[splice]
  rw[e,GK,vF f]
 | l+1,o,p=>by
  let i:ay m a ys (d+(l+1))=dZ (ay m a ys (d+l)) (a+(d+l)) (ys[d+l]?.getD 0):=rfl
  let j:(a+(d+l))/1024=(a+d)/1024:=Z
  let k:(a+(d+l))%1024=(a+d)%1024+l:=Z
  rw[i,jd m a ys d lk xs c f l Z Z]
  unfold dZ
  rw[j,k,bV,tp]
  simp[Hi]
  let b:((ys.drop d).take l).length=l:=bG
  let n:(ys.drop d).take (l+1)=(ys.drop d).take l++[ys[d+l]?.getD 0]:=by rw[F_,IR,Fy Z];rfl
  rw[n,<-qt (by rw[b,c];omega),b]
def N_{l}{xs b:List Int}{a:Nat}(e:xs.length=1024)(h:a+b.length<=1024):(splice (eh l xs).toList a (Ns .u8 b)).toArray=eh l (splice xs a b):=by
 unfold eh splice;let c:a<=(Ns .u8 xs).length:=by simp[Ns];omega
 let d:a+b.length<=(Ns .u8 xs).length:=by simp[Ns];omega
 rw[Iz c,NM,List.drop_append_of_le_length d];simp[Ns]
attribute [local go_sem] Oper.semAt_some
def pt(m:Nat->Option (Bool×List Int))(p:Nat)(bs:List Int):Nat->Option (Bool×List Int):=dT m (p/1024) ((m (p/1024)).map λq=>(q.1,splice q.2 (p%1024) bs))
def stF(m:Nat->Option (Bool×List Int))(a n:Nat)(ys:List Int)(e:List {d:Nat // d<n}):Nat×(Nat->Option (Bool×List Int)):=
 e.foldl (λs x=>(s.1+min (ct a n x.1) (n-s.1),pt s.2 (a+x.1) ((ys.drop s.1).take (min (ct a n x.1) (n-s.1))))) (0,m)
def pZ(m a)(n:Nat)(ys)(b:List {d:Nat // d<n})(x: {d:Nat // d<n}):
  stF m a n ys (b++[x])=((stF m a n ys b).1+min (ct a n x.1) (n-(stF m a n ys b).1),pt (stF m a n ys b).2 (a+x.1) ((ys.drop (stF m a n ys b).1).take (min (ct a n x.1) (n-(stF m a n ys b).1)))):=by
 simp[stF]
def tZ(a n:Nat)(c:List Int):∀(b:List {d:Nat // d<n})(s:Nat×(Nat->Option (Bool×List Int))),s.1<=n->(b.foldl (λs x=>(s.1+min (ct a n x.1) (n-s.1),pt s.2 (a+x.1) ((c.drop s.1).take (min (ct a n x.1) (n-s.1))))) s).1<=n
 |[],s,h=>h
 |x::b,s,h=>by
  rw[List.foldl_cons]
  exact tZ a n c b _ iM
def Cc(m a)(n:Nat)(ys)(b:List {d:Nat // d<n}):(stF m a n ys b).1<=n:=tZ a n ys b _ aa
def ox(a n d:Nat):(a+d)%1024+ct a n d<=1024:=by unfold ct;omega
def Full(m:Nat->Option (Bool×List Int)):Prop:=∀k q,m k=some q->q.2.length=1024
def lJ{xs b:List Int}{a:Nat}(h:a+b.length<=xs.length):(splice xs a b).length=xs.length:=length_splice _ _ _ h
def Full.lay(h:Full m)(p:Nat)(bs:List Int)(c:p%1024+bs.length<=1024):Full (pt m p bs):=by
 intro k q e;unfold pt at e;by_cases b:k=p/1024
 .subst b;rw[bV]at e;cases a:m (p/1024)with
  |none=>rw[a]at e;cases e
  |some r=>rw[a]at e;simp[Hi,Hk]at e;subst e;rw[lJ (by rwa[h _ _ a])];exact h _ _ a
 rw[aW _ _ _ _ b]at e;exact h k q e
def Full.store{m}(h:Full m)(a ys):∀k,Full (ay m a ys k)
 |0=>h
 | k+1=>by
  intro j q e
  let d:=Full.store h a ys k
  let b:dZ (ay m a ys k) (a+k) (ys[k]?.getD 0) j=some q:=e
  unfold dZ at b
  by_cases f:j=(a+k)/1024
  .subst f
   rw[bV]at b
   cases c:ay m a ys k ((a+k)/1024)with
   |none=>rw[c]at b;cases b
   |some r=>
    rw[c]at b
    simp[Hi,Hk]at b
    subst b
    simp
    exact d _ _ c
  rw[aW _ _ _ _ f]at b
  exact d j q b
def Got.stF{b:List Int}{c:List {d:Nat // d<n}}{d:Nat}(s:b.length=n)(o:Full m)(p:∀d,d<n->(m ((a+d)/1024)).isSome=true)(h:Got a n c d):stF m a n b c=(d,ay m a b d):=by
 induction h with
 |zero=>rfl
 | @next c d h l g=>
  rw[pZ,g];let t:=pF (a:=a) l;let r:min (ct a n d) (n-d)=ct a n d:=Z;dsimp only;rw[r];congr 1;let f:(ay m a b d ((a+d)/1024)).isSome=true:=by
   have:∀k j,(ay m a b k j).isSome=(m j).isSome:=by
    intro k;induction k with
    |zero=>intro j;rfl
    |succ k g=>
     intro j;show(dZ (ay m a b k) (a+k) (b[k]?.getD 0) j).isSome=_;unfold dZ;by_cases e:j=(a+k)/1024;.subst e;rw[bV,Option.isSome_map];exact g _
     rw[aW _ _ _ _ e];exact g j
   rw[this];exact p d l
  let⟨q,i⟩:=Option.isSome_iff_exists.1 f;let⟨lk,xs⟩:=q;let j:=(o.store a b d) _ _ i;rw[jd m a b d lk xs j i (ct a n d) (ox a n d) Z];unfold pt;rw[i];rfl
attribute [local go_sem] Oper.semAt_some
def Sd.keep{mm DB p}{k:Option Nat}(h:Sd S M st nn bud f mm w DB p n cap c W)(d:W.grownBy W' k)(o:∀r,k=some r->w.heap.size<=r/\∀i t z,W.heap[r]?≠some (.cells i t z)):Sd S M st nn bud f mm w DB p n cap c W':=by
 let q:∀(b:Nat)(i:Array QN)(t:QO)(z:Nat×Nat),W.heap[b]?=some (Obj.cells i t z)->W'.heap[b]?=some (Obj.cells i t z):=by intro b i t z m;rwa[d.block b (G_ m) (λe=>(o b e.symm).2 i t z m)]
 let u:=d.block M (FG h.mlt h.fr.size) (λe=>by have:=(o M e.symm).1;have:=h.mlt;omega);refine⟨⟨q _ _ _ _ h.im.box,?_⟩,⟨?_,h.pg.inj⟩,?_,?_,h.mlt,h.dge⟩;.obtain⟨a,⟨j,g,m,l⟩,r⟩:=h.im.map;exact⟨a,⟨j,g,u.trans m,l⟩,r⟩
 .intro j;rcases h.pg.at' j with a|⟨b,l,xs,a,g,s,v⟩;.exact .inl a
  exact .inr ⟨b,l,xs,a,g,s,q _ _ _ _ v⟩
 .exact⟨d.os.trans h.fr.os,d.tape.trans h.fr.tape,d.output.trans h.fr.output,Fx h.fr.size d.size,λj l a g s=>by rw[d.block j (FG l h.fr.size) (λe=>by have:=(o j e.symm).1;omega)];exact h.fr.block j l a g s,h.fr.made⟩
 let⟨l,a,g⟩:=h.box;exact⟨l,q _ _ _ _ a,g⟩
def Sd.piece{mm DB p ys b}{x:Nat}{g:Nat}(h:Sd S M st nn bud f mm w DB p n cap c W)(hc:c<=n)(a7:n<=cap)(T:Da S M f w p n ys)(O:f ((a+x)/1024)=some g)(hx:x<n)(V:Cl S b a n W):
  ∃y,W.heap[DB]?=some (.cells #[.slice y (n-c) (cap-c)] 22)/\∃s r,(Builtin.copy_ #[22,22] 3 #[.slice (some ⟨g,(a+x)%1024,none⟩) (ct a n x) (1024-(a+x)%1024),.slice y (n-c) (cap-c)]).run prog W.drew=.ok (I (min (ct a n x) (n-c):Nat)) s /\
   (∀w:QM,(Instr.slice 22 (.slice y (n-c) (cap-c)) (some (I (min (ct a n x) (n-c):Nat))) none none).run prog w=.ok (.slice r (n-(c+min (ct a n x) (n-c))) (cap-(c+min (ct a n x) (n-c)))) w) /\
   s.cell? (Qz DB 0)=some (.slice y (n-c) (cap-c))/\s.frozen? (Qz DB 0)=false /\
   Sd S M st nn bud f (pt mm (a+x) ((ys.drop c).take (min (ct a n x) (n-c)))) w DB p n cap (c+min (ct a n x) (n-c)) (s.setCell (Qz DB 0) (.slice r (n-(c+min (ct a n x) (n-c))) (cap-(c+min (ct a n x) (n-c))))) /\
   Kp S M b W (s.setCell (Qz DB 0) (.slice r (n-(c+min (ct a n x) (n-c))) (cap-(c+min (ct a n x) (n-c)))))/\KeepsOthers W (s.setCell (Qz DB 0) (.slice r (n-(c+min (ct a n x) (n-c))) (cap-(c+min (ct a n x) (n-c))))):=by
 let⟨y,i,G⟩:=h.box;let⟨k,hk⟩:=Qb (min (ct a n x) (n-c));rw[<-hk];let a8:=ox a n x;let⟨l,xs,hm,A,P⟩:=h.pg.cell O;refine(let_mvar%?A:=(ys.drop c).take k;?_);let m:(?A).length=k:=by rw[Hm,List.length_drop,T.1];omega
 let⟨s,hr,K,u⟩:=sM W.drew (some ⟨g,(a+x)%1024,none⟩) y (ct a n x) (1024-(a+x)%1024) (n-c) (cap-c) g ((a+x)%1024) (eh l xs).toList 220 (by rw[show W.drew.heap=W.heap from rfl];simpa using P) (Ns .u8 ?A) (by rw[NM,m,hk];exact Nat.min_comm _ _) (λo=>by
  rw[NM,m]at o;let⟨Q,X,Y⟩:=G Z;refine⟨rfl,_,Y,λj v hv=>?_⟩;let d:j<k:=by
   by_cases d:j<k;.exact d
   rw[FJ (by rw[NM,m];omega)]at hv;cases hv
  let⟨q,B,e4⟩:=T.cell h.fr (c+j) Z;rw[X]at B;cases B;rw[Addr.add_add];have:W.drew.cell? (Q.add (c+j))=W.cell? (Q.add (c+j)):=rfl;rw[this,e4,<-hv];simp[Ns,d];have:c+j<ys.length:=by rw[T.1];omega
  simp[this]) (by rw[NM,m];simp[eh,Ns,A];omega) (λv hv=>by simp only[Ns,FQ]at hv;obtain⟨z,_,rfl⟩:=hv;rfl)
 rw[NM,m]at hr;rw[N_ A (by rw[m];omega)]at K;let⟨r,a0,L⟩:=xD y k (n-c) (cap-c) Z Z;let⟨a1,a2⟩:=h.pg.apart h.im O;let a3:g≠DB:=λe=>by subst e;rw[P]at i;simp at i
 let d:W.grownBy s (some g):=⟨u.os,u.tape,u.output,u.size,u.block⟩;let o:s.heap[DB]?=some (.cells #[.slice y (n-c) (cap-c)] 22):=by rwa[d.block DB (G_ i) (by simpa using a3.symm)]
 refine(let_mvar%?B:=s.setCell (Qz DB 0) (.slice r (n-(c+k)) (cap-(c+k)));?_);let F:s.grownBy ?B (some DB):=au (Q6 s DB) 0 _;let a4:DB≠S:=λe=>by rw[e,h.im.box]at i;simp at i
 let N:DB≠M:=by have:=h.mlt;have:=h.dge;omega
 let X:n-c-k=n-(c+k):=Z;let Y:cap-c-k=cap-(c+k):=Z;refine⟨y,i,s,r,hr,λW=>by rw[a0 W,X,Y],by simp[QC,o],by simp[QD,o],⟨?_,?_,?_,?_,h.mlt,h.dge⟩,⟨?_,?_⟩,?_⟩;.exact(h.im.grownAt d a1 a2).grownAt F a4 N
 .let q:=h.pg.lay O (l:=l) (xs:=splice xs ((a+x)%1024) ?A) (by rw[lJ (by rw[m,A];omega),A]) K d;let B:pt mm (a+x) ?A=dT mm ((a+x)/1024) (some (l,splice xs ((a+x)%1024) ?A)):=by unfold pt;rw[hm];rfl
  rw[B];refine⟨?_,q.inj⟩;intro j;rcases q.at' j with t|⟨b2,l2,v,t,h2,h3,R⟩;.exact .inl t
  refine .inr ⟨b2,l2,v,t,h2,h3,?_⟩;rwa[F.block b2 (G_ R) (λe=>by cases e;rw[R]at o;simp at o)]
 .exact(h.fr.grownAt d (.inl ⟨_,O⟩)).grownAt F (.inr h.dge)
 .refine⟨r,by rw[bj o];rfl,λv=>?_⟩;let⟨Q,B,e4⟩:=G Z;refine⟨Q,B,?_⟩;rw[L Z,e4];simp[Addr.add_add]
 .exact Fx d.size F.size
 .let q:∀(b:Nat)(cs:Array QN)(t:QO)(z:Nat×Nat),W.heap[b]?=some (Obj.cells cs t z)->t≠220->t≠22->(?B).heap[b]?=W.heap[b]?:=by
   intro R cs t z b a5 a6;let n1:R≠g:=λe=>by subst e;rw[P]at b;cases b;exact a5 rfl
   let n2:R≠DB:=λe=>by subst e;rw[i]at b;cases b;exact a6 rfl
   rw[F.block R (FG (G_ b) d.size) (by simpa using n2),d.block R (G_ b) (by simpa using n1)]
  rintro g'(rfl|rfl|rfl|rfl|rfl);.exact q _ _ _ _ h.im.box ar ar
  .let v:=FG h.mlt h.fr.size;rw[F.block _ (FG v d.size) (by simpa using N.symm),d.block _ v (by simpa using a2.symm)]
  .exact q _ _ _ _ V.s ar ar
  .exact q _ _ _ _ V.a ar ar
  exact q _ _ _ _ V.n ar ar
 exact(KeepsOthers.of_grownBy d (λj o e b=>by cases e;rw[P]at b;cases b;rfl)).trans (KeepsOthers.setCell _ _ _)
attribute [local go_sem] Oper.semAt_some
def Sd.init(g:Im S M st nn bud f w)(i:Pg f m w)(p:QP)(n cap:Nat)(c:0<n->∃x,p=some x):Sd S M st nn bud f m w w.heap.size p n cap 0 (w.alloc (.cells #[.slice p n cap] 22)):=by
 let d:=GZ w (.cells #[.slice p n cap] 22) none;refine⟨g.grown d,i.grown d,Fr.ofGrown d,⟨p,(Hq w _).1,λh=>?_⟩,?_,gi⟩;.let⟨x,e⟩:=c h;exact⟨x,e,by rw[e];simp[Addr.add]⟩
 let⟨a,b,_⟩:=g.map;exact b.lt
def yu(S M st nn bud f m)(a n cap:Nat)(p y w)(s:Im S M st nn bud f w)(o:Pg f m w)(hn:n<=4096)(V:n<=cap)(ha:n=0\/a+n<=4611686018427387904)(r:Da S M f w p n y)(i:∀d,d<n->∃g,f ((a+d)/1024)=some g)(h:∀w,Im S M st nn bud f w->Pg f m w->QA 283 #[J S 0,U a,I n] w λe X=>e=QJ (I 0)/\X=w):
  CallsIn Fence.wide 5 prog 218 #[J S 0,U a,.slice p n cap] w λe X=>e=QJ (I 0)/\Im S M st nn bud f X/\Pg f (ay m a y n) X/\Fr S M f f w X:=by
 have⟨H1,HI,HP,HD⟩:=Qf h (IT s o) i r;have FU:Hid (Full m):=(λk q e=>by
  rcases o.at' k with⟨_,Q⟩|⟨b,l,xs,_,Q,h3,_⟩;·rw[Q]at e;cases e
  rw[Q]at e;cases e;exact h3)
 have SO:Hid (∀d,d<n->(m ((a+d)/1024)).isSome=true):=(λd r=>by have⟨g,G⟩:=i d r;rw[<-o.none_iff,G];rfl)
 have q:0<n->∃x,p=some x:=λh0=>by obtain⟨x,e,_⟩:=r.2 0 h0;exact⟨x,e⟩
 have j:=H (Sd.init s o p n cap q);clear h s o i r q;refine callsIn_of_wp_marks func218 rfl trivial ?_ rfl;simp[ntmps218,FX,FN,F1,Nat.reduceAdd,Nat.reduceSub,FP,FO,FY,Iv,FV,F5]
 gi_wp2_with fail
 refine⟨trivial,?_⟩;apply((callsIn_wide (n:=4)).2 (H1 _ (HI.1.alloc _) (HI.2.alloc _))).mono;rintro _ _⟨rfl,rfl⟩
 gi_wp2_with fail
 refine⟨trivial,?_⟩;have⟨u,i⟩:=Qa (w.alloc (.cells #[.slice p n cap] 22));have⟨R,L⟩:=Qa w.heap.size;have q:u.heap.size=R+1:=by rw[<-i,<-L];simp
 have HZ:=H q;clear q;rw[i,L]at j;rw[i,L];clear i;apply((callsIn_wide (n:=4)).2 (oj)).mono;rintro e w4⟨rfl,rfl⟩;gi_wp2;let Y:=H (Cl.made S a n u);have o:=ej (GZ u (.cells #[J S 0] 79) none) (ej (GZ _ (.cells #[U a] 24) none) (GZ _ (.cells #[I n] 3) none));have S4:=H (j.keep o (λr e=>by cases e));refine(let_mvar%?A:=((u.alloc (.cells #[J S 0] 79)).alloc (.cells #[U a] 24)).alloc (.cells #[I n] 3);?_);have h4:u.heap.size+1+1+1=(?A).heap.size:=bH;let hS:=FG (G_ HI.1.box) j.fr.size;let hM:=FG j.mlt j.fr.size;let⟨T,i⟩:=Qa ?A;rw[i]at Y S4 h4;rw[i];clear o i;have q:=HZ.out;refine wpIn_rangeFunc_ownF rfl Z (gf:=316) (lb:=#[J (u.heap.size+1+1) 0,J (u.heap.size+1) 0,J u.heap.size 0]) rfl trivial (enters_of func316 E rfl)
  (encs:=λx: {d:Nat // d<n}=>vt f a n x.1) (Kp:=Kp S M u.heap.size) (S:=λy=>Got a n y n) (Sp:=λj=>∃d,Got a n j d) (N:=n) (w0:=T)
  (λl d o W i s t t h0=>nW S M st nn bud f a n l u.heap.size 4 Z hn ha HP d o W s t (Y.kp (Kp.below (M:=M) (N:=T.heap.size) i Z Z Z)) (S4.im.kp (Kp.below (N:=T.heap.size) (b:=u.heap.size) i Z Z Z)) h0)
  Kp.trans (λW l o d F h _ _=>wO (S:=S) (M:=M) (b:=u.heap.size) (N:=T.heap.size) Z Z Z W l o d F h) th (λ_=>rfl)
  (λj W=>Sd S M st nn bud f (stF m a n y j).2 w R p n cap (stF m a n y j).1 W/\Cl S u.heap.size a n W)
  (λc j W=>False)
  ?own (λc s A B a0 d G hr=>d) ⟨S4,Y⟩
  (λx=>{tmps:=#[J S 0,U a,.slice p n cap,undef,undef,J R 0,I 0,I 0,.slice (some ⟨(f ((a+x.1)/1024)).getD 0,(a+x.1)%1024,none⟩) (ct a n x.1) (1024-(a+x.1)%1024),J S 0,U a,.slice p n cap,I n,I 0,I 0,.bool false,undef,J S 0,U a,.slice p n cap,I n,.func (.func 316) #[] #[J (u.heap.size+1+1) 0,J (u.heap.size+1) 0,J u.heap.size 0],.slice (some ⟨(f ((a+x.1)/1024)).getD 0,(a+x.1)%1024,none⟩) (ct a n x.1) (1024-(a+x.1)%1024),undef,undef,undef,undef,undef],defers:=[]}) ?assign ?body ?done ?stop
 case own=>
  rintro s A B a0⟨F,v⟩G hr;have P:∀r,a0=some r->w.heap.size<=r/\∀O t z,A.heap[r]?≠some (.cells O t z):=by intro r e;let⟨i,o,Q,h3⟩:=hr r e;refine⟨Z,λO t z h5=>?_⟩;rw[h5]at Q;cases Q;cases h3
  have K:∀(b:Nat)(O:Array QN)(t:QO)(z:Nat×Nat),A.heap[b]?=some (Obj.cells O t z)->B.heap[b]?=A.heap[b]?:=λb O t z i=>G.block b (G_ i) (λe=>(P b e.symm).2 O t z i)
  exact⟨F.keep G P,(K _ _ _ _ v.s).trans v.s,(K _ _ _ _ v.a).trans v.a,(K _ _ _ _ v.n).trans v.n⟩
 case assign=>intro l x W K hK;clear q;unfold vt;gi_wp2;exact hK
 case stop=>intro i c j W _ _ h;exact h.elim
 case body=>
  rintro l j x W⟨F,v⟩a3;have⟨g,G⟩:=HP.out x.1 x.2;have⟨pd,K,W1,a4,a5,a6,a7,a8,a1,P,a2⟩:=F.piece (Cc m a n y j) V HD G x.2 v;have HR:=H (IT a1 (IT P (IT a2 (v.kp P))));have c0:W.cell? (Qz R 0)=some (.slice pd (n-(stF m a n y j).1) (cap-(stF m a n y j).1)):=by simp[QC,K]
  rw[G];simp[Ht];clear F v K a1 P a2 q h4;gi_wp2
  gi_region
  all_goals
   gi_wp2
   refine⟨HR.2.2.1,HR.2.1,?_,HR.2.2.2⟩
   rw[H (pZ m a n y j x)]
   exact HR.1
 case done=>rintro i xs W hD K⟨F,v⟩hK;rw[Got.stF HD.1 FU SO K]at F;have g3:=grownBy_putObj' W i (.deferred none);have P:=F.keep g3 (λr e=>by cases e;exact⟨Z,λO t z h5=>by rw[hK]at h5;cases h5⟩);have HF:=H P;clear F v P g3 q h4;gi_wp2;refine⟨bH,.inl ⟨_,_,rfl,run_takeDeferred hK,?_⟩⟩;refine⟨I 0,?_,rfl,HF.im,HF.pg,HF.fr⟩;simp[results,Tryz.f218,go_sem]
def kJ(c s t)(h:Slot c s t)(w:QM):
  Calls prog 182 #[I c,I s,I t] w λe g=>e=QJ (.tuple #[U ((rs c+s*(pg c+1))*1024+t*sz c),.bool true])/\D w g:=by
 let a:0<=c/\c<12:=⟨h.c0,h.c1⟩;let i:=h.s0;have j:=h.s1;have k:=h.t0;have n:=h.t1;have d:=H (dx c);have o:=H (gM c);have q:=H (jO c s Z Z);have B:=eJ a;have u:(sz c==0)=false:=bG;have F:=fy a;have b:=kh a;have v:4<=sl c/\sl c<=64:=⟨b.1,b.2.1⟩;have G:1<=rs c/\rs c<=361:=by have:=we c;rw[kB a]at this⊢;have:=iU c.toNat;omega
 have K:0<=s*(pg c+1)/\s*(pg c+1)<=25:=by have:pg c=1\/pg c=2\/pg c=3\/pg c=4:=Z;rcases this with e|e|e|e<;>rw[e]<;>omega
 have f:=Od a h.t0 h.t1;have x:0<=t*sz c/\t*sz c<=4096:=⟨f.1,by have:=(kh a).2.2.2;omega⟩;generalize rs c=r at*;generalize L:pg c=p at*;generalize sz c=z at*;generalize sl c=l at*;generalize s*(p+1)=m at*;go_in;go_wp2_with fail;apply (d _).mono;rintro e M⟨rfl,b⟩;go_wp2_with fail;apply (o _).mono;rintro e N⟨rfl,f⟩;go_wp2_with fail;apply (q _).mono;rintro e O⟨rfl,y⟩;go_wp2_with fail;apply (d _).mono;rintro e P⟨rfl,A⟩;go_wp2
 go_ret2
 exact⟨rfl,cv b (cv f (cv y A))⟩
def iZ{P:Nat->Bool}: ∀{n k:Nat},k<n->(∀j,j<k->P j=false)->P k=true->(List.range n).find? P=some k:=by intro n k a b c;rw[Iu];exact⟨c,by simpa using a,λj d=>by simp[b j d]⟩
def jM{P:Nat->Bool}(a:∀j,j<n->P j=false):(List.range n).find? P=none:=by rw[List.find?_range_eq_none];intro j b;simp[a j b]
def rC(r:Rg9):List Value:=[U r.base,I r.first,I r.ext,I r.pages,I r.st,I r.rq]
def aK{b:Nat}{d:Nat}{v:QN}(h:W.ownsRow b e d v n xs):∃a c,v=.slice a n c:=by
 rcases h.2 with⟨rfl,f⟩|⟨g,cap,i,rfl,_⟩;.subst f;exact⟨_,_,rfl⟩
 exact⟨_,_,rfl⟩
def cr{sz:Nat}{a:QP}(h:W.ownsRow B e sz (.slice a n cap) n xs)(d:0<n):∃G,a=some (Qz G 0):=by
 rcases h.2 with⟨_,f⟩|⟨g,b,c,e,_⟩;.omega
 simp at e;exact⟨g,e.1⟩
def Sh.range{B x cf h W}(d:Sh B x cf h W){G cap}(hv:x.rv=Vl G h.rg.length cap){k:Nat}{r:Rg9}(e:h.rg[k]?=some r):QG W G (k*6) (U r.base)/\QG W G (k*6+1) (I r.first)/\QG W G (k*6+2) (I r.ext)/\QG W G (k*6+3) (I r.pages)/\QG W G (k*6+4) (I r.st)/\W.cell? (Qz G (k*6+5))=some (I r.rq):=by
 let c:=d.rg;rw[hv]at c;let g:=λi v(f:i<6)b=>bC c (k*6+i) v (((eC rC 6 (λ_=>rfl) h.rg k r e) i f).trans b)
 exact⟨g 0 _ Z rfl,g 1 _ Z rfl,g 2 _ Z rfl,g 3 _ Z rfl,g 4 _ Z rfl,g 5 _ Z rfl⟩
def fS(p:Nat):Option Nat:=(List.range 1062).find? λk=>gt k==p
def uo(h:Hs)(i:Nat):Rg9:=(h.rg[i]?).getD ⟨0,0,0,0,0⟩
def fR(h:Hs)(p:Nat):Option Nat:=(List.range h.rg.length).find? λi=>(uo h i).base==p
def fE(h:Hs)(p:Nat):Int×Int×Int:=
 match fS p with
 |some k=>if dC h k=1 then((k:Int),-1,0)else if dC h k=0 then(-1,-1,3)else(-1,-1,4)
 |none=>match fR h p with
  |some i=>if(uo h i).st=1 then(-1,(i:Int),0)else(-1,-1,4)
  |none=>if h.rel.contains p then(-1,-1,4)else(-1,-1,3)
def cZ{P:Program}{b:Func}{p q r:Tmp}(h:b.results=#[.tmp p,.tmp q,.tmp r]){a:Array QN}{w:QM}:(results b a).run P w=.ok (.tuple #[a.getD p undef,a.getD q undef,a.getD r undef]) w:=by simp[results,h]
def C4(t:Int×Int×Int):Value:=.tuple #[I t.1,I t.2.1,I t.2.2]
def kZ(B x cf h)(p:Nat)(W)(a:Sh B x cf h W)(hn:h.rg.length<=1000)(hl:h.rel.length<=100000):
  Calls prog 186 #[J x.P 0,U p] W λe W'=>e=QJ (C4 (fE h p))/\D W W':=by
 have c7:W.cell? (Qz x.P 7)=some (Vl x.G 1062 x.gc):=a.cell 7 _ rfl;have g:=H a;clear a;go_wp2;go_loopw [18] (λi wr=>∃k:Nat,k<=1062/\i=I k/\Hid (∀j,j<k->(gt j==p)=false)/\Hid (D W wr)) (λi _=>1062-(intOf i).toNat);exact⟨0,aa,rfl,H (λj y=>Z),H th⟩
 obtain⟨k,hk,rfl,N,u⟩:=hrel;by_cases A:k<1062
 .let⟨T,d1,d2,O,d4,d5⟩:=(g.below u).slot A;have d:=H (u.alloc u.size (.cells #[I ((sA k).1:Nat),I ((sA k).2.1:Nat),I ((sA k).2.2:Nat),U (gt k:Nat),I (dC h k),I (fJ h k)] 242));by_cases ha:gt k=p
  .have q:=H (show fE h p=if dC h k=1 then((k:Int),-1,0)else if dC h k=0 then(-1,-1,3)else(-1,-1,4) by unfold fE fS;rw[iZ A N (by simp[ha])])
   generalize dC h k=z at*;generalize fJ h k=V at*;generalize (sA k).2.2=l at*;generalize (sA k).1=m at*;generalize (sA k).2.1=n at*;rw[ha]at O d;by_cases f:z=1;.let a:=H (q.trans (GP f));subst f;go_wp2;apply GX (cZ dU) dU;rw[a];exact⟨rfl,d⟩
   let P:=(by simpa using f);by_cases b:z=0;.let a:=H (q.trans ((GO f).trans (GP b)));subst b;go_wp2;apply GX (cZ dU) dU;rw[a];exact⟨rfl,d⟩
   have c:(z==0)=false:=(by simpa using b);have a:=H (q.trans ((GO f).trans (GO b)));go_wp2;apply GX (cZ dU) dU;rw[a];exact⟨rfl,d⟩
  have Q:Hid (∀j,j<k+1->(gt j==p)=false):=(λj y=>by
   by_cases e:j=k;·subst e;simpa using ha
   exact N j Z)
  have s:(((gt k:Nat):Int) != (p:Int))=true:=bG;generalize gt k=b at O s d;go_wp2;go_roundw;(exact⟨k+1,Z,aY,Q,d⟩);exact QE
 obtain rfl:k=1062:=Z;let q:Hid (fS p=none):=jM N;let⟨ra,rc,b⟩:=aK g.rg;have L:W.cell? (Qz x.P 9)=some (.slice ra h.rg.length rc):=by rw[<-b];exact g.cell 9 _ rfl
 replace L:=NI u L;have⟨v,c⟩:=Qa h.rg.length;rw[c]at L hn;have l:=H c;have F:=H b;clear c b c7;go_wp2;go_loopw [40] (λi R=>∃k:Nat,k<=v/\i=I k/\Hid (∀j,j<k->((uo h j).base==p)=false)/\Hid (D W R)) (λi _=>v-(intOf i).toNat);exact⟨0,aa,rfl,H (λj y=>Z),u⟩
 case round=>
  obtain⟨k,a0,rfl,S,c⟩:=hrel;clear u L;by_cases o:k<v
  ·obtain⟨r,n⟩:∃r,h.rg[k]?=some r:=⟨_,Fy (by rw[l];exact o)⟩;have b:uo h k=r:=(by unfold uo;rw[n];rfl);obtain⟨G,rfl⟩:=cr (F.out▸g.rg) (by rw[l];omega);let⟨T,d1,d2,O,d4,d5⟩:=(g.below c).range F n;have d:=H (c.alloc c.size (.cells #[U r.base,I r.first,I r.ext,I r.pages,I r.st,I r.rq] 244));by_cases ha:r.base=p
   ·have m:=H (show fE h p=if r.st=1 then(-1,(k:Int),0)else(-1,-1,4) by unfold fE;rw[q];unfold fR;rw[iZ (by rw[l];exact o) S (by rw[b];simp[ha])];dsimp only;rw[b])
    generalize r.st=z at*;generalize r.rq=V at*;generalize r.ext=t at*;generalize r.base=w at*;subst ha;by_cases f:z=1;·have a:=H (m.trans (GP f));subst f;go_wp2;apply GX (cZ dU) dU;rw[a];exact⟨rfl,d⟩
    have a:=H (m.trans (GO f));have P:(z==1)=false:=(by simpa using f);go_wp2;apply GX (cZ dU) dU;rw[a];exact⟨rfl,d⟩
   have Q:Hid (∀j,j<k+1->((uo h j).base==p)=false):=(λj y=>by
    by_cases e:j=k;·subst e;rw[b];simpa using ha
    exact S j Z)
   have s:(((r.base:Nat):Int)==(p:Int))=false:=bG;generalize r.st=z at*;generalize r.rq=V at*;generalize r.ext=t at*;generalize r.base=w at*;go_wp2;go_roundw;(exact⟨k+1,Z,aY,Q,d⟩);exact QE
  obtain rfl:k=v:=Z;let G:=H (show fR h p=none by unfold fR;rw[l];exact jM S);let⟨la,lc,b⟩:=aK g.rl;have m:W.cell? (Qz x.P 11)=some (.slice la h.rel.length lc):=(by rw[<-b];exact g.cell 11 _ rfl);replace m:=NI c m;have X:=H b;clear b;have⟨w,b⟩:=Qa h.rel.length;rw[b]at m hl;have r:=H b;clear b;go_wp2;go_loopw [65] (λi R=>∃k:Nat,k<=w/\i=I k/\Hid (∀j,j<k->h.rel[j]?≠some p)/\Hid (D W R)) (λi _=>w-(intOf i).toNat);(case atStart=>exact⟨0,aa,rfl,H (λj y=>Z),c⟩);case round=>
   obtain⟨k,a1,rfl,Y,n⟩:=hrel;clear c m;by_cases K:k<w
   ·obtain⟨b,M⟩:∃b,h.rel[k]?=some b:=⟨_,Fy (by rw[r];exact K)⟩;obtain⟨G2,rfl⟩:=cr (X.out▸g.rl) (by rw[r];omega);have T:=NI n (bC (X.out▸g.rl) k (U b) (by simp[Us,M]));by_cases ha:b=p
    ·have t:=H (show fE h p=(-1,-1,4) by unfold fE;rw[q];rw[G];rw[GP (by rw[List.contains_eq_mem,Hj];exact ha▸FM M)])
     subst ha;go_wp2;apply GX (cZ dU) dU;rw[t];exact⟨rfl,n⟩
    have s:(((b:Nat):Int)==(p:Int))=false:=bG;have F3:Hid (∀j,j<k+1->h.rel[j]?≠some p):=(λj y=>by
     by_cases e:j=k;·subst e;rw[M];simpa using ha
     exact Y j Z)
    clear M;go_wp2;go_roundw;(exact⟨k+1,Z,aY,F3,n⟩);exact QE
   obtain rfl:k=w:=Z;let t:=H (show fE h p=(-1,-1,3) by unfold fE;rw[q];rw[G];rw[GO (by rw[List.contains_eq_mem,Hj];intro M;let⟨i,b⟩:=He M;exact Y i (by rw[<-r.out];exact(Fz.1 b).1) b)])
   go_wp2;apply GX (cZ dU) dU;rw[t];exact⟨rfl,n⟩
def DD:List (Nat×Nat×Nat)->Bool
 |a::b::r=>decide (bh a.1 a.2.1 a.2.2<bh b.1 b.2.1 b.2.2)&&DD (b::r)
 |_=>true
def zA:DD dF=true:=by decide +kernel
def qZ:∀(l:List (Nat×Nat×Nat))(k:Nat)(a b:Nat×Nat×Nat),DD l=true->l[k]?=some a->l[k+1]?=some b->bh a.1 a.2.1 a.2.2<bh b.1 b.2.1 b.2.2
 |[],k,a,b,_,h,_=>by simp at h
 |[y],k,a,b,_,_,h=>by simp at h
 |y::z::r,0,a,b,c,d,e=>by
  simp[DD]at c d e
  subst d e
  exact c.1
 |y::z::r,k+1,a,b,c,d,e=>by
  simp[DD,Gi]at c
  exact qZ (z::r) k a b c.2 (by simpa using d) (by simpa using e)
def wu(h:k+1<1062):gt k<gt (k+1):=qZ dF k (sA k) (sA (k+1)) zA (Oz Z) (Oz h)
def mS{i:Nat}: ∀{k:Nat},i<k->k<1062->gt i<gt k
 |0,h,_=>by omega
 |k+1,h,a=>by
  let b:=wu a
  by_cases e:i=k
  .subst e;exact b
  have:=mS (i:=i) (k:=k) Z Z
  omega
def v_{i:Nat}(b:i<1062)(c:k<1062)(h:sA i=sA k):i=k:=by
 let e:gt i=gt k:=by unfold gt;rw[h]
 rcases Ie i k with a|a|a;.have:=mS a c;omega
 .exact a
 have:=mS a b;omega
def Oa{s j:Nat}(d:c<12)(e:s<6)(f:j<aM c):∃k,k<1062/\sA k=(c,s,j):=by
 let g:(c,s,j)∈dF:=by unfold dF;simp only[List.mem_flatMap,Gh,FQ];exact⟨c,d,s,e,j,f,rfl⟩
 let⟨k,a⟩:=He g;let b:=(Fz.1 a).1;rw[fG]at b;refine⟨k,b,?_⟩;unfold sA;rw[a];rfl
def mj(b:k<1062):(sA k).1<12/\(sA k).2.1<6/\(sA k).2.2<aM (sA k).1:=by let a:=FM (Oz b);unfold dF at a;simp[List.mem_flatMap,Gh,FQ]at a;let⟨c,d,s,f,j,g,e⟩:=a;rw[<-e];exact⟨d,f,g⟩
def rK{i:Nat}{v:Int}(a:k<1062)(b:i<1062):aE h.st (sA k).1 (sA k).2.1 (sA k).2.2 v (sA i).1 (sA i).2.1 (sA i).2.2=if i=k then v else dC h i:=by
 unfold aE dC;by_cases e:i=k;.subst e;simp
 rw[GO e,GO];rintro⟨h1,h2,h3⟩;exact e (v_ b a (by rw[Prod.ext_iff,Prod.ext_iff];exact⟨h1,h2,h3⟩))
def sC(h:Hs)(t:Nat×Nat×Nat):List Value:=[I t.1,I t.2.1,I t.2.2,U (bh t.1 t.2.1 t.2.2:Nat),I (h.st t.1 t.2.1 t.2.2),I (h.rq t.1 t.2.1 t.2.2)]
def ey(h):(ji h).length=6372:=by
 let b:∀l:List (Nat×Nat×Nat),(l.flatMap (sC h)).length=l.length*6:=λl=>by
  induction l with
  |nil=>rfl
  |cons a r c=>rw[If,FC,c,FN];show 6+_=_;omega
 have:=b dF;rw[fG]at this;exact this
def kg(h){q r:Nat}(a:q<1062)(b:r<6):(ji h)[q*6+r]?=(sC h (sA q))[r]?:=eC (sC h) 6 (λ_=>rfl) dF q (sA q) (Oz a) r b
def nL(b:xs.length=6372)(a:∀q r,q<1062->r<6->xs[q*6+r]?=(sC h (sA q))[r]?):ji h=xs:=by
 apply Ho;intro i;by_cases c:i<6372
 .let e:i=i/6*6+i%6:=Z;rw[e,kg h Z Z,a _ _ Z Z]
 rw[FJ (by rw[ey];omega),FJ Z]
def wI(h:Hs)(c:k<1062)(v:Int):ji {h with st:=aE h.st (sA k).1 (sA k).2.1 (sA k).2.2 v}=(ji h).set (k*6+4) (I v):=by
 refine nL (by rw[Gj,ey]) (λq r b d=>?_);rw[Gr,kg h b d,ey];let a:=rK (h:=h) (v:=v) c b;by_cases e:k*6+4=q*6+r
 .have f:q=k:=Z;have g:r=4:=Z;subst f g;rw[GP rfl,GP Z];rw[GP rfl]at a;simp only[sC];rw[a];rfl
 rw[GO e];by_cases f:r=4;.subst f;rw[GO (show q≠k by omega)]at a;simp[sC];rw[a];rfl
 have:r=0\/r=1\/r=2\/r=3\/r=5:=Z;rcases this with rfl|rfl|rfl|rfl|rfl<;>rfl
def wW(h:Hs)(c:k<1062)(v:Int):ji {h with rq:=aE h.rq (sA k).1 (sA k).2.1 (sA k).2.2 v}=(ji h).set (k*6+5) (I v):=by
 refine nL (by rw[Gj,ey]) (λq r b d=>?_);rw[Gr,kg h b d,ey];let a:=rK (h:={h with st:=h.rq}) (v:=v) c b;by_cases e:k*6+5=q*6+r
 .have f:q=k:=Z;have g:r=5:=Z;subst f g;rw[GP rfl,GP Z];rw[GP rfl]at a;simp only[sC];rw[a];rfl
 rw[GO e];by_cases f:r=5;.subst f;rw[GO (show q≠k by omega)]at a;simp[sC];rw[a];rfl
 have:r=0\/r=1\/r=2\/r=3\/r=4:=Z;rcases this with rfl|rfl|rfl|rfl|rfl<;>rfl
def dP{sz:Nat}{G}(h:W.ownsRow B e sz (Vl G n cap) n xs)(i:Nat)(m:i<xs.length)(v:QN):(W.setCell (Qz G i) v).ownsRow B e sz (Vl G n cap) n (xs.set i v):=by
 refine⟨by rw[Gj];exact h.1,?_⟩;rcases h.2 with⟨e,_⟩|⟨g,b,a,e,c,d,f,j,k,l⟩;.simp at e
 simp at e;obtain⟨rfl,rfl⟩:=e;refine .inr ⟨G,cap,a.setIfInBounds i v,rfl,c,?_,f,j,by simpa using k,?_⟩;.simp[World.setCell,FD,d]
 rw[<-l,Array.toList_setIfInBounds,List.take_set]
def di{sz:Nat}{G}(h:W.ownsRow B e sz (Vl G n cap) n xs):∃c,W.heap[G]?=some (.cells c e):=by
 rcases h.2 with⟨e,_⟩|⟨g,b,a,e,f,d,_⟩;.simp at e
 simp at e;obtain⟨rfl,rfl⟩:=e;exact⟨a,d⟩
def Sh.slots{h'}(a:Sh B x cf h W)(k:Ky (· =242) W W')(b:W'.ownsRow B 242 6 (Vl x.G 1062 x.gc) 1062 (ji h'))(e:h'.m=h.m)(f:h'.mx=h.mx)(i:h'.ff=h.ff)(j:h'.rg=h.rg)(l:h'.row=h.row)(m:h'.rel=h.rel)(n:h'.used=h.used):Sh B x cf h' W':=by
 refine⟨?_,a.bp,a.bq,λg o=>a.bg g (cV (a.sp.qEq k ar) o),a.ds.ky k ar,?_,b,ai a.wt k,λc d=>?_,?_,?_,?_⟩;.rw[n];exact k.XC a.box
 .rw[e];exact a.sp.ky k ar ar ar
 .rw[f,i];exact⟨(a.wm c d).1.ky k ar,(a.wm c d).2.ky k ar⟩
 .rw[j];exact ai a.rg k
 .rw[l];exact ai a.ro k
 rw[m];exact ai a.rl k
def Sh.setSt(a:Sh B x cf h W)(b:k<1062)(v:Int):Sh B x cf {h with st:=aE h.st (sA k).1 (sA k).2.1 (sA k).2.2 v} (W.setCell (Qz x.G (k*6+4)) (I v)):=by let⟨c,d⟩:=di a.sl;refine a.slots (Ky.grown d rfl (au (Q6 W x.G) _ _)) ?_ rfl rfl rfl rfl rfl rfl rfl;rw[wI h b];exact dP a.sl _ (by rw[ey];omega) _
def Sh.setRq(a:Sh B x cf h W)(b:k<1062)(v:Int):Sh B x cf {h with rq:=aE h.rq (sA k).1 (sA k).2.1 (sA k).2.2 v} (W.setCell (Qz x.G (k*6+5)) (I v)):=by let⟨c,d⟩:=di a.sl;refine a.slots (Ky.grown d rfl (au (Q6 W x.G) _ _)) ?_ rfl rfl rfl rfl rfl rfl rfl;rw[wW h b];exact dP a.sl _ (by rw[ey];omega) _
def Sh.slotF(a:Sh B x cf h W)(i:Nat):W.frozen? (Qz x.G i)=false:=by let⟨c,b⟩:=di a.sl;simp[QD,b]
def Sf.ky{T Q}(b:Sf Q W W')(e:Sx T Q n bud m W):Ky (λt=>t=305\/t=5) W W':=by
 refine⟨b.os,b.tape,b.output,b.size,λg c t f d i=>?_⟩;rw[b.block g (ag d) ?_ (λj=>?_)];.exact d
 .rintro rfl;let⟨k,a,_⟩:=e.row;rw[d]at a;simp at a;exact i (.inl a.2.1)
 let⟨k,a⟩:=e.pgT j;rw[d]at a;simp at a;exact i (.inr a.2.1)
def Sh.space(a:Sh B x cf h W)(j:B<=W.heap.size)(m')(f:Sx x.T x.Q 283 (cf.bud:Nat) m' W')(b:Sf x.Q W W'):Sh B x cf {h with m:=m'} W':=by
 let k:=b.ky a.sp;refine⟨k.XC a.box,a.bp,a.bq,λg i=>?_,a.ds.ky k ar,f,ai a.sl k,ai a.wt k,λc d=>⟨(a.wm c d).1.ky k ar,(a.wm c d).2.ky k ar⟩,ai a.rg k,ai a.ro k,ai a.rl k⟩;rcases b.pg g i with e|e;.exact a.bg g e
 omega
