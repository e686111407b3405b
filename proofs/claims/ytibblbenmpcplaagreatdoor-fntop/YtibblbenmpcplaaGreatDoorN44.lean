import Derived.Shelf.SlSortCmp.WholeK
import Derived.Shelf.Slices.In.SortNone
import Derived.Shelf.Sort.Plain
import Derived.Sort.OwnSortedInts
import Derived.Test.YtibblbenmpcplaaGreatDoorN42
set_option linter.unusedVariables false
set_option linter.unusedSimpArgs false
set_option maxRecDepth 20000
set_option maxHeartbeats 8000000
namespace Go.Proofs
shelf_lay Lays.n189 Nm 189 at Tryz as Tryz.lays189
end Go.Proofs
namespace Go.Proofs.YtibblbenmpcplaaGreatDoor
open Go.Proofs.Tryz
variable {S:TypeId->Prop} {cf:Cf} {h:Hs} {vw:Value} {V V' V0 W:World} {G N X Y c i j:Nat} {A:Array Value}
section
open Go.ChangeShapes Go.WideShapes Go.ChangeAt Go.RowKit Go.Maps Go.Shelf
theorem Dh:AE:=by
 intro v a W f h i;rcases h.2 with ⟨rfl,j⟩|⟨g,b,c,rfl,k,d,l,m,o,p⟩;·have n:a=[]:=Ik (by simpa using j);subst n;refine (Any.slices_Sort_int_none Tryz.lays189 none 0 W).mono ?_;rintro e q ⟨rfl,rfl⟩;exact⟨rfl,by simpa [Ns] using h,⟨rfl,rfl,rfl,Fv _,λ_ _ _=>rfl⟩⟩
 have r:c.toList.take a.length=a.map (Value.int .i64):=by simpa [Ns] using p
 refine (Any.slices_Sort_int Tryz.lays189 g 0 b a W (holds_of_blockI d r) (ag d) Z).mono ?_;rintro e q ⟨rfl,n,s,rfl⟩;exact⟨rfl,ownsRow_sortedI (List.length_mergeSort a) k d l m o,grownBy_sortedI _⟩
theorem xi (a:AE) (S M) (nn:Nat) (bud f m w) (h:Im S M 0 nn bud f w) (b:Pg f m w) :
  Calls prog 48 #[J S 0] w λe w'=>∃ v o,e=.returned (.tuple #[I (bm f 0 4096:Nat),v])/\w'.ownsRow w.heap.size 3 1 v o.length (Ns .i64 (o.mergeSort λx y=>decide (x<=y)))/\Met m (λ_=>false) o/\D w w':=by
 obtain⟨i0,a2,a3,a4,a5⟩:=G0 Tryz.info3Op;have HI:=H h;have HP:=H b;have a6:=H a;clear h b a;go_enter_defers func48,ntmps48;go_wp2_with fail;refine (fX HI).mono ?_;rintro e V ⟨rfl,l⟩;have IV:=H (l▸HI.st 1);have PV:=H (show Pg f m V by rw [l];exact HP.other (λk b T=>GQ _ _ _ _ (HP.apart HI T).1));have P:=H (show Fr S M f f w V by rw [l];exact (Fr.refl S M f w).grownS (au (al w S) 0 _));obtain⟨a,d,a7,s,i,g⟩:=IV.only;have HD:=H (IT s (IT i g));have cM:V.cell? ⟨S,4,none⟩=some (.map (some M)):=by simp [World.cell?,IV.box]
 have b4:bm f 0 4096<=4096:=ep f 0 4096;have a8:=H l;clear l s i g;go_wp2_with (at_range;refine wpList_range_own _ rfl _ 137 rfl 3 176 g_ underlying137 ev M 4096 a rfl d ?_;intro w0 i l n)
 go_frame
 have MV:=H (show M<V.heap.size by obtain ⟨p,g,T,_⟩:=d;exact ag T);have B0:=H ((Fu V.heap.size V).grown l (Fv _) bH);have L:=H i;have SZ:=H (show V.heap.size+1<=w0.heap.size by omega);have M0:=H (show Met m (has a) [] from ⟨List.nodup_nil,λz=>by
  constructor;·intro g;cases g
  rintro⟨k,rfl,h1,h2,h3⟩;obtain⟨g,Q⟩:=jR PV h2;rw [HD.2.1 k Z,Q] at h3;cases h3⟩)
 obtain⟨r,p⟩:∃ r,r=V.heap.size:=⟨_,rfl⟩;rw [<-p] at L SZ ⊢;have q:=H p;clear i l n d p;go_loopw [4] (λv wr=>∃ (left:Lit->Bool) (F:Nat) (o:List Int),o.length+F<=bm f 0 4096/\Hid (wr.ranges prog 3 ev M r 4096 a left F)/\Hid (wr.ownsRow (r+1) 3 1 v o.length (Ns .i64 o))/\Hid (Met m left o)/\Hid (D V wr)) (λ_ wr=>wr.rangeLeft M r);case atStart=>exact ⟨_,_,[],by simp [a7],L,H ⟨rfl,.inl ⟨rfl,rfl⟩⟩,M0,B0⟩
 case round =>
  obtain⟨left,F,o,b5,A,d,n,i⟩:=hrel;clear L M0 B0;go_wp2_with (at_next;refine wpList_next_ranges _ rfl _ rfl 3 g_ ev (Value.int .i64) Et (λl kl hk=>by obtain ⟨x,rfl,_⟩:=Maps.keyOf_int_inv underlying3 hk;exact⟨x,rfl⟩) (λv y N=>by exact (hF N).elim (λ⟨b,e,_⟩=>⟨some b,e⟩) (λ⟨e,_⟩=>⟨none,e⟩)) M r 4096 a left F rfl A ?_ ?_)
  ·intro K B;have Y:=H (show Met m (λ_=>false) o from ⟨n.1,λz=>by rw [n.2 z];simp [B]⟩);have G:=a6.out _ o wr (r+1) d Z;obtain⟨vp,vl,vc,rfl⟩:∃ p l c,u4=.slice p l c:=by
    rcases d.2 with ⟨rfl,_⟩|⟨g,a0,a1,rfl,_⟩;·exact⟨_,_,_,rfl⟩
    exact⟨_,_,_,rfl⟩
   have p:=cI d.out;have W:=H G;have X:=H p;clear G p K B A n;go_wp2_with fail;refine (W).mono ?_;rintro e R ⟨rfl,G,K⟩;have B:=H (i.grown K i.size (λg e=>by have:=X.out g e;have:=q.out;omega));have O:=H (IV.grown (W':=R) ⟨B.os,B.tape,B.output,B.size,λk h _=>B.block k h⟩);have H5:=H G;have c4:R.cell? ⟨S,4,none⟩=some (.map (some M)):=(by simp [World.cell?,O.box]);clear G K i d W;go_wp2_with (at_len;refine nj _ rfl _ rfl O rfl ?_);refine Iy (f:=86) (args:=#[J S 0]) bH (by simp [go_sem]) ?_;refine (Go.MuLone.unlock_deferred jw ⟨S,0,none⟩ .returning _ (by simp [World.cell?,O.box]) (by simp [World.frozen?,O.box])).mono ?_;rintro e u' a9 ⟨rfl,rfl,rfl⟩;have b0:S<r+1:=(by have:=q.out;have:=ag IV.box;omega);have G:=au (al R S) 0 (.int .i32 0);have W:=(O.st 0).box;refine⟨_,results_tmp2 (t:=2) (u:=3) dU _ _ _,_,o,rfl,dm (H5.kept G (.inr λe=>by have:=X.out _ e;omega)) ?_,Y,⟨G.os.trans (B.os.trans P.os),G.tape.trans (B.tape.trans P.tape),G.output.trans (B.output.trans P.output),Fx (Fx P.size B.size) G.size,λk hk=>?_⟩⟩;·have:=q.out;have:=P.size;omega
   by_cases e:k=S;·subst e;rw [W,HI.box]
   have K:k<V.heap.size:=FG hk P.size;rw [G.block k (FG K B.size) (by simpa using e),B.block k K,a8.out,GQ _ _ _ _ e]
  intro x c kl yd yp w2 G K W N s B X O Y a0;obtain⟨x',ex,rfl,_⟩:=Maps.keyOf_int_inv underlying3 K;cases ex;obtain⟨k,rfl,a9,a1⟩:=HD.2.2 _ (has_true_of_atKey s);obtain⟨g,Q⟩:=Option.isSome_iff_exists.1 a1;have R:=s .nil;rw [HD.1 k Z,Q] at R;obtain rfl:c=some g:=by
   cases c with
   | none=>simp [Et,ev] at N;rw [<-N.1] at R;simp [sG] at R
   | some b =>
    simp [Et,ev] at N;rw [<-N.1] at R;simp [sG] at R;have:b=g:=Z;rw [this]
  obtain⟨l,xs,hm,b0,T⟩:=PV.cell Q;have B2:=H (i.grown O i.size (λj e=>by cases e;have:=q.out;omega));have cl:w2.cell? ⟨g,1024,none⟩=some (.bool l):=ad B2 (PV.lockCell Q hm).1;have R2:=H (d.kept O (.inr λe=>by have:=cI d _ e;omega));have G2:=H B;have ST:=H (n.step a9 W);have LE:=H (IT B.left_eq A.left_eq);have S2:=H Y;have b6:=A.lt;unfold Et at a0 ⊢;simp only [Hi] at a0 ⊢;have ho:isOpen (m k) = !l:=by rw [hm];rfl
  clear K W N s B O Y a1 Q R T b0 d n i A;cases l with
  | true =>
   go_wp2;go_roundw;(case rel=>exact ⟨_,G,o,Z,G2,R2,ST.2 (by rw [ho];rfl),B2⟩);case measure=>rw [LE.1,LE.2];exact X
  | false =>
   have A:=H (R2.alloc (.cells #[I (k:Int)] 3));have B:=H (B2.alloc B2.size (.cells #[I (k:Int)] 3));go_wp2_with (at_builtin;refine Ib _ rfl _ _ 24 rfl (r+1) 3 i0 (I 0) 1 8 underlying24 a2 a3 a4 a5 rfl Z _ _ _ rfl A _ 1 1 [I (k:Int)] rfl rfl ?hc ?h1c ?b1 ?b2 ?b3 ?_);(case hc=>exact ek _ _ _ _ bH);(case h1c=>intro u K;simp at K;subst K;rfl);(case b1=>unfold maxLen;omega);(case b2=>omega);(case b3=>have:=S2.out;have:=q.out;simp;omega);intro R W i d _;have p:=cI A.out;have O:=H ((G2.alloc (.cells #[I (k:Int)] 3)).kept d (λe=>by have:=p _ e.symm;have:=MV.out;have:=q.out;omega) (λe=>by have:=p _ e.symm;omega));have Y:=H (B.grown d B.size (λj e=>by have:=p _ e;have:=q.out;omega));have O3:=H (show W.ownsRow (r+1) 3 1 R (o++[(k:Int)]).length (Ns .i64 (o++[(k:Int)])) by rw [FC];simpa [Ns] using i);have n:=H O.left_eq;clear i d p;go_wp2;go_roundw;(case rel=>exact ⟨_,G,o++[(k:Int)],by rw [FC];simp;omega,O,O3,ST.1 (by rw [ho];rfl),Y⟩);case measure=>rw [n.out,LE.2];exact X
theorem pK (S M bud f m w) (h:Im S M 0 283 bud f w) (j:Pg f m w) (a:∀ k,283<=k->m k=none) :
  Calls prog 48 #[J S 0] w λe b=>∃ v,e=.returned (.tuple #[I (bm f 0 4096:Nat),v])/\b.ownsRow w.heap.size 3 1 v (bw m 283).length (Ns .i64 (bw m 283))/\D w b:=by
 refine (xi Dh S M 283 bud f m w h j).mono ?_;rintro e b ⟨v,c,rfl,d,g,l⟩;have i:(c.mergeSort λx y=>decide (x<=y))=bw m 283:=rY m 283 c g.1 (λz=>by
  rw [g.2 z];constructor
  ·rintro⟨k,rfl,h1,h2,_⟩;refine⟨k,rfl,?_,h2⟩;by_cases n:k<283;·exact n
   rw [a k Z] at h2;simp [isOpen] at h2
  rintro⟨k,rfl,h1,h2⟩;exact⟨k,rfl,Z,h2,rfl⟩)
 have k:c.length=(bw m 283).length:=by rw [<-i,List.length_mergeSort]
 rw [i,k] at d;exact⟨v,rfl,d,l⟩
end
section
open Go.RowKit Go.Maps
def E_ (cf:Cf) (h:Hs) (c:Nat) (p:Nat×Nat):List Value:=[Vl p.1 (h.mx c).length (h.mx c).length,Vl p.2 (h.ff c).length (h.ff c).length,I cf.fifo]
def mw (cf:Cf) (h:Hs) (ws:List (Nat×Nat)):List Value:=ws.zipIdx.flatMap λx=>E_ cf h x.2 x.1
theorem rD (cf h) (a:List (Nat×Nat)) (p:Nat×Nat):mw cf h (a++[p])=mw cf h a++E_ cf h a.length p:=by
 unfold mw;rw [List.zipIdx_append,Gu];simp
theorem An:(prog.info? 94).map (λi=>(i.zero,i.size,i.bytes))=some (some (.agg #[C,C,I 0]),3,56):=E
theorem tX (W:World) (B:Nat) (v:Value) (n:Nat) (p:List Value) (a b c:Value) (g q:Nat) (d:W.ownsRow B 94 3 v n p) (s:W.heap[g]?=some (.cells #[a,b,c] 94)) (t:a.oneCell'=true) (w:b.oneCell'=true) (x:c.oneCell'=true) (M:n<=1000) (y:B<=W.heap.size) :
  ∃ f e,(Builtin.append_ #[32,32] 32 #[v,Vl g 1 q]).run prog W=.ok f e/\e.ownsRow B 94 3 f (n+1) (p++[a,b,c])/\W.grownBy e v.ownBlock:=by
 obtain⟨z,i,k,l,m⟩:=G0 An;have o:∀ j u,[a,b,c][j]?=some u->W.cell? ((⟨g,0,none⟩:Addr).add j)=some u:=λj u A=>by
  rw [Addr.add_mid,Gb,GT _ _ j _ _ _ s];simpa using A
 have F:∀ u∈[a,b,c],u.oneCell'=true:=λu r=>by
  simp only [F4,Gp,or_false] at r;rcases r with rfl|rfl|rfl;·exact t
  ·exact w
  exact x
 obtain⟨f,e,G,K,L,_⟩:=Ia (P:=prog) W B 32 32 94 z _ 3 56 underlying32 i k l m rfl Z v _ _ d ⟨g,0,none⟩ 1 q [a,b,c] rfl o F (by unfold maxLen;omega) Z y;exact⟨f,e,G,K,L⟩
def tH:Prop:=∀ (X:Nat) (t:Option Addr) (i j:Nat) (l:List Nat) (W:World) (base:Nat),W.heap[X]?=some (.cells #[.slice t i j] 34)->W.ownsRow base 23 1 (.slice t i j) l.length (Us l)->l.length<=1000 ->
 Calls prog 53 #[.func (.func 95) #[] #[J X 0]] W λe W'=>∃ v u,e=.returned v/\W'.ownsRow W.heap.size 23 1 v l.length (Us u)/\D W W'
theorem uS (a:Option Addr) (b c:Nat) (W:World):Calls prog 54 #[.slice a b c] W λe d=>e=.returned (.func (.func 95) #[] #[J W.heap.size 0])/\d=W.alloc (.cells #[.slice a b c] 34):=by
 go_enter func54,ntmps54;go_wp2;go_ret;exact⟨rfl,rfl⟩
structure Wt9 (cf:Cf) (h:Hs) (base:Nat) (vo:Value) (ws:List (Nat×Nat)) (vw:Value) (W:World):Prop where
 row:W.ownsRow base 94 3 vw ws.length (mw cf h ws)
 at_:∀ c p,ws[c]?=some p->RowV W p.1 3 (Ns .i64 (h.mx c))/\RowV W p.2 3 (Ns .i64 (h.ff c))/\base<=p.1/\p.1<p.2
 ord:ws.Pairwise λp q=>p.2<q.1
 vo:∀ g,vo.ownBlock=some g->∀ p∈ws,g<p.1
theorem Wt9.ky {base vo ws W'} (w:Wt9 cf h base vo ws vw W) (k:Ky S W W') (d:¬S 94) (b:¬S 3):Wt9 cf h base vo ws vw W' :=
 ⟨ai w.row k d,λc p a=>⟨cL (w.at_ c p a).1 k b,cL (w.at_ c p a).2.1 k b,(w.at_ c p a).2.2⟩,w.ord,w.vo⟩
theorem Wt9.below {cf h base vo ws vw W W'} (w:Wt9 cf h base vo ws vw W) (b:D W W'):Wt9 cf h base vo ws vw W':=w.ky (Ky.below b:Ky (λ_=>False) W W') (λe=>e) (λe=>e)
theorem Wt9.add {base vo ws U} (w:Wt9 cf h base vo ws vw V) (l:base<=V.heap.size) (o:∀ g,vo.ownBlock=some g->g<V.heap.size) (b:D V U) {g1 g2} (x:RowV U g1 3 (Ns .i64 (h.mx ws.length))) (y:RowV U g2 3 (Ns .i64 (h.ff ws.length))) (r:V.heap.size<=g1) (s:g1<g2) (B:ws.length<=12) :
  ∃ m d,(Builtin.append_ #[32,32] 32 #[vw,Vl U.heap.size 1 1]).run prog (U.alloc (.cells #[Vl g1 (h.mx ws.length).length (h.mx ws.length).length,Vl g2 (h.ff ws.length).length (h.ff ws.length).length,I cf.fifo] 94))=.ok m d/\Wt9 cf h base vo (ws++[(g1,g2)]) m d/\Ky (· = 94) V d/\Below base V d:=by
 have f:D U (U.alloc (.cells #[Vl g1 (h.mx ws.length).length (h.mx ws.length).length,Vl g2 (h.ff ws.length).length (h.ff ws.length).length,I cf.fifo] 94)):=(Fu _ _).alloc (Fv _) _;have n:=(w.below b).below f;have i:base<=(U.alloc (.cells #[Vl g1 (h.mx ws.length).length (h.mx ws.length).length,Vl g2 (h.ff ws.length).length (h.ff ws.length).length,I cf.fifo] 94)).heap.size:=Fx (Fx l b.size) f.size;obtain⟨m,d,z,A,u⟩:=tX _ base vw ws.length (mw cf h ws) _ _ _ U.heap.size 1 n.row (ao U _) rfl rfl rfl Z i;have j:Ky (· = 94) _ d:=Ky.grownO (λP t=>by obtain ⟨_,c,k⟩:=aF n.row t;exact⟨c,94,_,k,rfl⟩) u;refine⟨m,d,z,⟨?_,λc p a=>?_,?_,λg v p a=>?_⟩,((Ky.below b).trans (Ky.below f)).trans j,((b.mono l).trans (f.mono (Fx l b.size))).grown u i (λP t=>(aF n.row t).1)⟩;·rw [rD,FC];exact A
 ·by_cases k:c<ws.length;·rw [Ga k] at a;have:=n.at_ c p a;exact⟨cL this.1 j ar,cL this.2.1 j ar,this.2.2⟩
  have q:c=ws.length:=by have:=(Fz.1 a).1;simp at this;omega
  subst q;simp at a;subst a;exact⟨cL (cL x (Ky.below f:Ky (λ_=>False) _ _) (λe=>e)) j ar,cL (cL y (Ky.below f:Ky (λ_=>False) _ _) (λe=>e)) j ar,Fx l r,s⟩
 ·rw [Is];refine⟨w.ord,List.pairwise_singleton _ _,λp a q e=>?_⟩;have:=List.mem_singleton.1 e;subst this;obtain⟨c,k⟩:=He a;have:=(w.at_ c p k).2.1.lt;show p.2<g1;omega
 rcases F8.1 a with a|a;·exact w.vo g v p a
 have:=List.mem_singleton.1 a;subst this;have:=o g v;show g<g1;omega
def AI (_:Nat) (_:Ly) (_:Cf) (_:Hs) (_:World) (m:Array Value) (_:World):Prop:=∀ v∈m.toList,v.oneCell'=true
theorem EP {g t:Nat} {a b c d e f:Value} (h:V.heap[g]?=some (.cells #[a,b,c,d,e,f] t)):V.cell? ⟨g,0,none⟩=some a/\V.cell? ⟨g,1,none⟩=some b/\V.cell? ⟨g,2,none⟩=some c/\V.cell? ⟨g,3,none⟩=some d/\V.cell? ⟨g,4,none⟩=some e/\V.cell? ⟨g,5,none⟩=some f:=by
 refine⟨?_,?_,?_,?_,?_,?_⟩ <;> (rw [GT _ _ _ _ _ _ h];rfl)
structure Me (W:World) (X Y:Nat) (A:Array Value) (V:World):Prop where
 bel:D W V
 xb:V.heap[X]?=some (.cells #[I 0,C,C,C,C,C,C,I 0] 36)
 yb:V.heap[Y]?=some (.cells A 36)
 bx:W.heap.size<=X
 by_:W.heap.size<=Y
 ne:X≠Y
theorem Me.below (m:Me W X Y A V) (b:D V V'):Me W X Y A V' :=
 ⟨m.bel.trans (b.mono m.bel.size),ae m.xb b,ae m.yb b,m.bx,m.by_,m.ne⟩
theorem Me.ky (m:Me W X Y A V) (k:Ky S V V') (h:¬S 36) (b:Below W.heap.size V V'):Me W X Y A V' :=
 ⟨m.bel.trans b,k.cells _ _ _ _ m.xb h,k.cells _ _ _ _ m.yb h,m.bx,m.by_,m.ne⟩
theorem Me.set (m:Me W X Y A V) (i:Nat) (v:Value):Me W X Y (A.setIfInBounds i v) (V.setCell ⟨Y,i,none⟩ v)/\Ky (· = 36) V (V.setCell ⟨Y,i,none⟩ v):=by
 have g:=au (al V Y) i v;refine⟨⟨m.bel.grown g m.bel.size (λr a=>by simp at a;have:=m.by_;omega),?_,?_,m.bx,m.by_,m.ne⟩,Ky.grown m.yb rfl g⟩;·rw [GQ _ _ _ _ m.ne];exact m.xb
 simp [World.setCell,FD,m.yb]
def E9 (cf:Cf) (p:Value×Value):List Value:=[p.1,p.2,I cf.fifo]
def lE (cf:Cf) (ws:List (Value×Value)):List Value:=ws.flatMap (E9 cf)
theorem rA (cf) (a:List (Value×Value)) (p:Value×Value):lE cf (a++[p])=lE cf a++E9 cf p:=by simp [lE]
structure Wt8 (cf:Cf) (h:Hs) (W:World) (ws:List (Value×Value)) (vw:Value) (V:World):Prop where
 row:V.ownsRow W.heap.size 94 3 vw ws.length (lE cf ws)
 at_:∀ c p,ws[c]?=some p->V.ownsRow W.heap.size 3 1 p.1 (h.mx c).length (Ns .i64 (h.mx c))/\V.ownsRow W.heap.size 3 1 p.2 (h.ff c).length (Ns .i64 (h.ff c))
theorem Wt8.ky {ws} (w:Wt8 cf h W ws vw V) (k:Ky S V V') (d:¬S 94) (a:¬S 3):Wt8 cf h W ws vw V' :=
 ⟨ai w.row k d,λc p b=>⟨ai (w.at_ c p b).1 k a,ai (w.at_ c p b).2 k a⟩⟩
theorem xP:(prog.info? 3).map (λi=>(i.zero,i.size,i.bytes))=some (some (I 0),1,8):=E
theorem zB (W:World) (a:Option Addr) (c:Nat):(Builtin.append_ #[24,24] 24 #[C,.slice a 0 c]).run prog W=.ok (C) W:=by
 obtain⟨g,b,d,e,f⟩:=G0 xP;cases a <;> simp [Builtin.append_,run_underlying underlying24,sizeOf,typeInfo,b,Builtin.lenOf,Builtin.firstCells,loadCells,loadCellsFrom]
theorem tO (W v l) (h:Wq W v l) (z:l.length<=90000) :
  ∃ a n c d e f b,v=.slice a n c/\(Builtin.append_ #[24,24] 24 #[C,.slice a n c]).run prog W=.ok (.slice d e f) b/\b.ownsRow W.heap.size 3 1 (.slice d e f) l.length (Ns .i64 l)/\D W b:=by
 obtain⟨a,c,rfl,_,t⟩:=h;rcases t with ⟨rfl,rfl⟩|⟨g,rfl,i⟩;·exact⟨none,0,c,none,0,0,W,rfl,zB W none c,⟨rfl,.inl ⟨rfl,rfl⟩⟩,Fu _ _⟩
 obtain⟨w,k,m,o,p⟩:=G0 xP;obtain⟨A,b,x,q,y,_⟩:=Ia (P:=prog) W W.heap.size 24 24 3 w _ 1 8 underlying24 k m o p rfl Z (C) 0 [] ⟨rfl,.inl ⟨rfl,rfl⟩⟩ ⟨g,0,none⟩ l.length c (Ns .i64 l) (by simp [Ns]) (λj u s=>by
  have r:j<(Ns .i64 l).length:=(Fz.1 s).1;rw [Addr.add_mid,Gb,i.cell j r];exact s) (λu a=>by
  simp only [Ns,FQ] at a;obtain⟨n,_,rfl⟩:=a;rfl) (by unfold maxLen;omega) Z (Fv _)
 rw [Gb,FV] at q;obtain⟨d,e,f,rfl⟩:=aA q;exact⟨_,_,_,d,e,f,b,rfl,x,q,(Fu _ W).grown y (Fv _) (λr i=>by simp [Value.ownBlock] at i)⟩
theorem Wt8.add {B x ws} (w:Wt8 cf h W ws vw V) (s:D W V) (O:∀ V,D W V->Sh B x cf h V) (r:c<12) (hl:ws.length=c) (a0:(h.mx c).length<=100/\(h.ff c).length<=100) {P Q:Option Addr} {R S:Nat} (K:x.mv c=.slice P (h.mx c).length R) (L:x.fv c=.slice Q (h.ff c).length S) :
  ∃ f g i m j k l b y z A a,(Builtin.append_ #[24,24] 24 #[C,.slice P (h.mx c).length R]).run prog V=.ok (.slice f g i) m/\(Builtin.append_ #[24,24] 24 #[C,.slice Q (h.ff c).length S]).run prog m=.ok (.slice j k l) b/\(Builtin.append_ #[32,32] 32 #[vw,Vl b.heap.size 1 1]).run prog (b.alloc (.cells #[.slice f g i,.slice j k l,I cf.fifo] 94))=.ok (.slice y z A) a/\D V m/\D V b/\D V (b.alloc (.cells #[.slice f g i,.slice j k l,I cf.fifo] 94))/\(b.alloc (.cells #[.slice f g i,.slice j k l,I cf.fifo] 94)).grownBy a vw.ownBlock/\Ky (· = 94) (b.alloc (.cells #[.slice f g i,.slice j k l,I cf.fifo] 94)) a/\Wt8 cf h W (ws++[(.slice f g i,.slice j k l)]) (.slice y z A) a/\D W a:=by
 obtain⟨b1,b2,b3,f,g,i,m,T,e1,o1,F⟩:=tO V (x.mv c) (h.mx c) ((O V s).wm c r).1 Z;rw [K] at T;cases T;have t:D W m:=s.trans (F.mono s.size);obtain⟨b4,b5,b6,j,k,l,b,X,e2,o2,Y⟩:=tO m (x.fv c) (h.ff c) ((O m t).wm c r).2 Z;rw [L] at X;cases X;have n:D V b:=F.trans (Y.mono F.size);have M:D b (b.alloc (.cells #[.slice f g i,.slice j k l,I cf.fifo] 94)):=(Fu _ _).alloc (Fv _) _;have o:=n.trans (M.mono n.size);have G:=w.ky (Ky.below o:Ky (λ_=>False) _ _) (λe=>e) (λe=>e);have q:D W (b.alloc (.cells #[.slice f g i,.slice j k l,I cf.fifo] 94)):=s.trans (o.mono s.size);obtain⟨v',a,f1,f2,f3⟩:=tX _ W.heap.size vw ws.length (lE cf ws) _ _ _ b.heap.size 1 G.row (ao b _) rfl rfl rfl Z q.size;obtain⟨y,z,A,rfl⟩:=aA f2;have u:Ky (· = 94) _ a:=Ky.grownO (λP e=>by obtain ⟨_,c,r⟩:=aF G.row e;exact⟨c,94,_,r,rfl⟩) f3;refine⟨f,g,i,m,j,k,l,b,y,z,A,a,e1,e2,f1,F,n,o,f3,u,⟨?_,λd p v=>?_⟩,q.grown f3 q.size (λr a=>(aF G.row a).1)⟩;·rw [rA,FC];exact f2
 by_cases hd:d<ws.length;·rw [Ga hd] at v;have:=G.at_ d p v;exact⟨ai this.1 u ar,ai this.2 u ar⟩
 have N:d=ws.length:=by have:=(Fz.1 v).1;simp at this;omega
 subst N;simp at v;subst v;rw [hl];exact⟨ai (aN (ax (ax o1 Y) M) s.size) u ar,ai (aN (ax o2 M) t.size) u ar⟩
theorem qj (x:Nat) (W:World):Calls prog 138 #[.int .u64 (x:Nat)] W λe a=>e=.returned (.bool false)/\a=W:=by
 go_enter func138,ntmps138;go_wp2;go_ret;exact⟨rfl,rfl⟩
def aQ (x y:Nat):Bool:=decide (x<y)
structure Au (G N c:Nat) (V0:World) (d:Array Nat) (V:World):Prop where
 sz:d.size=N
 row:V.ownsRow G 23 1 (Vl G N c) N (Us d.toList)
 bel:Below G V0 V
variable {G N c:Nat} {V0 V:World} {d:Array Nat}
theorem Au.lt (h:Au G N c V0 d V):G<V.heap.size:=by
 rcases h.row.2 with ⟨e,_⟩|⟨g,a,b,e,i,f,_⟩;·cases e
 cases e;exact ag f
theorem Au.cell (h:Au G N c V0 d V) {i:Nat} (a:i<N):V.cell? ⟨G,i,none⟩=some (U ((d[i]! : Nat):Int)):=by
 refine bC h.row i _ (ny ?_);have:i<d.size:=by rw [h.sz];exact a
 rw [Gg,Hw this,getElem!_pos d i this]
theorem Au.fz (h:Au G N c V0 d V) (i:Nat):V.frozen? ⟨G,i,none⟩=false:=oG h.row i
theorem Au.set (h:Au G N c V0 d V) (a:i<N) (x:Nat):Au G N c V0 (d.setIfInBounds i x) (V.setCell ⟨G,i,none⟩ (U x)):=by
 refine⟨by rw [Array.size_setIfInBounds,h.sz],?_,h.bel.setCell (Fv _) _⟩;have:=dP h.row i (by rw [fK,Array.length_toList,h.sz];exact a) (U x);rw [sg] at this;rw [Array.toList_setIfInBounds];exact this
theorem Au.swap (h:Au G N c V0 d V) (a:i<N) (b:j<N):Au G N c V0 (Sort.swp d i j) ((V.setCell ⟨G,i,none⟩ (U ((d[j]! : Nat):Int))).setCell ⟨G,j,none⟩ (U ((d[i]! : Nat):Int))):=(h.set a _).set b _
theorem Au.below (h:Au G N c V0 d V) (b:D V V'):Au G N c V0 d V':=⟨h.sz,ax h.row b,h.bel.trans (b.mono (Nat.le_of_lt h.lt))⟩
theorem Au.drew (h:Au G N c V0 d V):Au G N c V0 d V.drew:=h.below (Fu _ _).drew
theorem Au.sw1 (h:Au G N c V0 d V) (a:i<N) (b:j<N):∃ u,(V.setCell ⟨G,i,none⟩ (U ((d[j]! : Nat):Int))).cell? ⟨G,j,none⟩=some (U ((u:Nat):Int)):=⟨_,(h.set a _).cell b⟩
theorem pG (x y:Nat) (W:World):Calls prog 202 #[U x,U y] W λe d=>e=.returned (.bool (aQ x y))/\d=W:=by
 have b:=H qj;unfold aQ;by_cases c:x<y
 ·have a:(x:Int)<(y:Int):=Z;rw [G8 c];go_enter func202,ntmps202;go_wp2_with (refine (b _ _).mono ?_;rintro e f ⟨rfl,rfl⟩);go_ret;exact⟨rfl,rfl⟩
 have a:¬((x:Int)<(y:Int)):=Z;rw [GR c];go_enter func202,ntmps202;go_wp2_with (refine (b _ _).mono ?_;rintro e f ⟨rfl,rfl⟩);go_ret;exact⟨rfl,rfl⟩
theorem Au.drewN (h:Au G N c V0 d V) (n:Nat):Au G N c V0 d (V.drewN n):=by
 exact h.below ⟨rfl,rfl,rfl,Fv _,λ_ _=>rfl⟩
def AnyU (G N c:Nat) (V0 V:World):Prop:=∃ d,Au G N c V0 d V
theorem AnyU.at (h:AnyU G N c V0 V) (a:i<N):∃ x:Nat,V.cell? ⟨G,i,none⟩=some (U x):=by
 obtain⟨d,h⟩:=h;exact⟨_,h.cell a⟩
theorem AnyU.below {G N c V0 V V'} (h:AnyU G N c V0 V) (b:D V V'):AnyU G N c V0 V':=by
 obtain⟨d,h⟩:=h;exact⟨d,h.below b⟩
theorem AnyU.dN (h:AnyU G N c V0 V) (n:Nat):AnyU G N c V0 (V.drewN n):=by
 obtain⟨d,h⟩:=h;exact⟨d,h.drewN n⟩
theorem AnyU.sw (h:AnyU G N c V0 V) (a:i<N) (b:j<N):∃ x y u:Nat,V.cell? ⟨G,i,none⟩=some (U x)/\V.cell? ⟨G,j,none⟩=some (U y)/\V.frozen? ⟨G,i,none⟩=false/\(V.setCell ⟨G,i,none⟩ (U y)).cell? ⟨G,j,none⟩=some (U u)/\(V.setCell ⟨G,i,none⟩ (U y)).frozen? ⟨G,j,none⟩=false/\Hid (AnyU G N c V0 ((V.setCell ⟨G,i,none⟩ (U y)).setCell ⟨G,j,none⟩ (U x)).drew):=by
 obtain⟨d,h⟩:=h;obtain⟨u,e⟩:=h.sw1 a b;exact⟨_,_,u,h.cell a,h.cell b,h.fz i,e,(h.set a _).fz j,H ⟨_,(h.swap a b).drew⟩⟩
theorem cF {x y} {b:Bool} (h:aQ x y=b) (W:World):Calls prog 202 #[U x,U y] W λe a=>e=.returned (.bool b)/\a=W:=h▸pG x y W
theorem Bj (G N c) (a b:Nat) (V0 V) (A:AnyU G N c V0 V) (O:b<=N) (P:N<=100000) (ha:a<=N) :
  Calls prog 196 #[.slice (some ⟨G,0,none⟩) N c,.int .i64 a,.int .i64 b] V λe V'=>e=.returned (.tuple #[])/\AnyU G N c V0 V':=by
 have d:=H A;clear A;go_enter func196,ntmps196;go_wp2_with fail;go_loopw [6] (λg wr=>∃ i:Nat,a+1<=i/\i<=N+1/\g=.int .i64 i/\Hid (AnyU G N c V0 wr)) (λg _=>N+1-(intOf g).toNat);case atStart=>exact ⟨a+1,Fv _,Z,aY,d⟩
 case round =>
  clear d;obtain⟨i,q,r,rfl,d⟩:=hrel;by_cases s:i<b
  ·go_wp2_with fail;go_loopw [7] (λl wr=>∃ j:Nat,a<=j/\j<=i/\l=.int .i64 j/\Hid (AnyU G N c V0 wr)) (λl _=>(intOf l).toNat);(case atStart=>exact ⟨i,Z,Fv _,rfl,d⟩);case round =>
    clear d;obtain⟨j,t,v,rfl,d⟩:=hrel;by_cases w:a<j
    ·obtain⟨k,f⟩:∃ k,j=k+1:=⟨j-1,Z⟩;obtain⟨x,m⟩:=d.at (show j<N by omega);obtain⟨y,n⟩:=d.at (show k<N by omega);have o:(a:Int)<(j:Int):=Z;have z:(j:Int)-1=(k:Int):=Z;have B:(j:Int)<(N:Int):=Z;have F:(k:Int)<(N:Int):=Z;clear f;cases p:aQ x y
     all_goals
      go_upto_region 4 with fail
      go_quiet (first|(go_at_call 202;exact GW (cF p _)))
      have f:=H (d.dN nq)
      clear d m n p
      generalize wr.drewN nq=K at f ⊢
     ·go_wp2;go_roundw;(case rel=>exact ⟨i+1,Z,Z,aY,f⟩);case measure=>simp [intOf];omega
     ·obtain⟨x,y,u,m,n,f1,L,f0,M⟩:=f.sw (show j<N by omega) (show k<N by omega);clear f;(go_upto_region 6 with fail);go_region;clear m n f1 L f0;go_wp2;go_roundw;(case rel=>exact ⟨k,Z,Z,aY,M⟩);case measure=>simp [intOf];omega
    ·have o:decide ((a:Int)<(j:Int))=false:=GR Z;(go_upto_region 4 with fail);go_quiet (fail);have f:=H (d.dN nq);clear d;generalize wr.drewN nq=K at f ⊢;go_wp2;go_roundw;(case rel=>exact ⟨i+1,Z,Z,aY,f⟩);case measure=>simp [intOf];omega
  ·have f:¬((i:Int)<(b:Int)):=Z;go_wp2;go_end0;exact⟨rfl,d⟩
end
section
open Go.RowKit Go.Maps Go.Shelf
attribute [local go_sem] Oper.semAt_some
theorem zI (l X q m:Nat) (V:1<=m) (r:Option Addr) (s g:Nat) (b:List Nat) (a Jx:List Nat->World->Prop) (W:World)
  (t:∀ c (x:Nat) d,a c d->c.length<b.length->YieldAt Fence.wide (m-1) prog l #[U x] d λe f =>
   (e=.returned (.bool true)/\a (c++[x]) f/\Below q d f)\/(e=.returned (.bool false)/\Jx (c++[x]) f))
  (z:W.cell? ⟨X,0,none⟩=some (.slice r b.length s)) (j:W.ownsRow g 23 1 (.slice r b.length s) b.length (Us b)) (d:∀ g,(Value.slice r b.length s).ownBlock=some g->g<q) (P:b.length<=1000) (k:a [] W) :
  CallsIn Fence.wide m prog 95 #[.func (.yield l) #[] #[],J X 0] W λe f=>(∃ v,e=.returned v) /\
   ((∃ g,g=b/\a g f)\/(∃ c,c <+: b/\Jx c f)):=by
 obtain⟨n,c⟩:∃ n,b.length=n:=⟨_,rfl⟩;rw [c] at z j d P t;have Q:=H t;have A:=H j;have R:=H d;have B:=H c;have S:=H k;clear t j d c k;refine callsIn_of_wp func95 rfl trivial ?_ rfl;simp only [ntmps95,FX,FN,F1,Nat.reduceAdd,Nat.reduceSub,FP,FO,FY,Iv,FV,F5];gi_wp2
 gi_loopw [7] (λi wr=>∃ k:Nat,k<=n/\i=I k/\Hid (a (b.take k) wr)/\Hid (Below q W wr)) (λi _=>n-(intOf i).toNat)
 case atStart=>exact ⟨0,FH _,rfl,S,H (Fu _ _)⟩
 case round =>
  clear z;obtain⟨k,Y,rfl,u,F⟩:=hrel;by_cases v:k<n
  ·obtain⟨G,rfl⟩:=cr A Z;obtain⟨x,c⟩:∃ x,b[k]?=some x:=⟨_,Fy (by rw [B.out];exact v)⟩;have ck:wr.cell? ⟨G,k,none⟩=some (U x):=(F.cell (p:=⟨G,k,none⟩) (R G rfl)).trans (bC A k _ (ny c));obtain⟨fn,K,o,L,M,d⟩:=Q.out (b.take k) x wr u (by rw [Hm];omega);have N:=H (show b.take (k+1)=b.take k++[x] by rw [F_,c];rfl);have w:=H d;clear d c u;gi_wp2;refine w.mono ?_;rintro e O (⟨rfl,d,j⟩|⟨rfl,c⟩)
   ·have y:=H (show a (b.take (k+1)) O by rw [N.out];exact d);have T:=H (F.trans j);clear d j M;gi_wp2;go_roundw;(case rel=>exact ⟨k+1,Z,aY,y,T⟩);case measure=>simp [intOf];omega
   have y:=H (show Jx (b.take (k+1)) O by rw [N.out];exact c);clear c M;gi_wp2;refine GX (Ir rfl _ _ _) rfl ?_;exact⟨⟨_,rfl⟩,.inr ⟨_,List.take_prefix _ _,y⟩⟩
  obtain rfl:n=k:=Z;have c:=H (show b.take n=b by rw [<-B.out,G9]);gi_wp2;go_end0;exact⟨⟨_,rfl⟩,.inl ⟨b,rfl,by rw [<-c.out];exact u⟩⟩
theorem kH (X:Nat) (q:Option Addr) (r i:Nat) (f:List Nat) (w:World) (b:w.heap[X]?=some (.cells #[.slice q f.length r] 34)) (a:w.ownsRow i 23 1 (.slice q f.length r) f.length (Us f)) (O:f.length<=1000) :
  CallsIn Fence.wide 5 prog 139 #[C,.func (.func 95) #[] #[J X 0]] w λe G=>∃ v,e=.returned v/\G.ownsRow w.heap.size 23 1 v f.length (Us f)/\D w G:=by
 obtain⟨P,Q,t,u,y⟩:=G0 iY;have L:=H b;have R:=H a;have T:=H (show ∀ g,(Value.slice q f.length r).ownBlock=some g->g<w.heap.size from λg d=>by obtain ⟨_,c,z⟩:=aF a d;exact ag z);clear b a;refine callsIn_of_wp_marks func139 rfl trivial ?_ rfl;simp only [ntmps139,FX,FN,F1,Nat.reduceAdd,Nat.reduceSub,FP,FO,FY,Iv,FV,F5];gi_wp2;have V:=Boxed.new w 34 (C);have g:D w (w.alloc (.cells #[C] 34)):=(Fu _ w).alloc (Fv _) _;refine wpIn_rangeFunc_ownG rfl Z (gf:=95) (lb:=#[J X 0]) rfl trivial (enters_of func95 E rfl)
  (encs:=λx:Nat=>#[U x]) (Kp:=Below w.heap.size) (S:=λM=>M=f) (Sp:=λb=>b <+: f) (N:=f.length) (w0:=w.alloc (.cells #[C] 34))
  (λl a Jx W d e e e j=>zI l X w.heap.size 4 Z q r i f a Jx W e ((d.cell (p:=⟨X,0,none⟩) (by have:=ag L.out;simp;omega)).trans (by rw [GT _ _ _ _ _ _ (ae L.out g)];rfl)) (ax (ax R g) (d)) T O j)
  belowK_t (belowK_b bH) (Fu _ _) (λ_=>rfl)
  (λb W=>(∃ v,Boxed W w.heap.size 34 v/\W.ownsRow w.heap.size 23 1 v b.length (Us b)/\True)/\D w W)
  (λ_ _ _=>False)
  (OwnFrom.and (Own.from (holdsRow_own w.heap.size w.heap.size 34 23 1 (λb:List Nat=>b.length) (λb=>Us b) (λb v=>True)) _) (ownFrom_below (Fv _) bH))
  (λ_ _ _ _ _ a _ _=>a)
  ⟨⟨_,V,World.ownsRow_nil _ _ _ _,trivial⟩,g⟩
  (λx=>{ tmps:=#[C,.func (.func 95) #[] #[J X 0],J w.heap.size 0,undef,C,U x,.func (.func 95) #[] #[J X 0],U x,undef,undef,undef,undef,undef],defers:=[] }) ?assign ?body ?done ?stop
 case assign =>
  intro l x W K k;gi_wp2;exact k
 case body =>
  rintro l b x W ⟨⟨v,s,d,_⟩,m⟩ Y;have z:=s.cell;have a0:=m.size
  gi_wp2_with (gi_at_builtin;refine wpListIn_append_own _ rfl _ _ 34 rfl w.heap.size 23 P (U 0) 1 8 underlying34 Q t u y rfl ar _ _ _ rfl (d.alloc _) ⟨W.heap.size,0,none⟩ 1 1 [U x] rfl rfl (cell_one_new _ _ _) mL (by unfold maxLen;omega) Z bG ?_;intro v' w1 a j _;obtain ⟨g',K,rfl⟩:=ownsRow_succ a;obtain ⟨n,A,B,F,o⟩:=s.appended ar d m.size (Fv _) a j;have a1:=n.cell;have a2:=n.frozen)
  exact⟨F.from _,o,⟨_,A,by simpa [Us] using B,trivial⟩,m.trans o⟩
 case done =>
  rintro a M W j rfl ⟨⟨v,s,d,_⟩,m⟩ k;have z:=s.cell;gi_wp2;refine⟨bH,.inl ⟨_,_,rfl,run_takeDeferred k,?_⟩⟩;exact⟨_,results_tmp rfl _ _ _,v,rfl,ownsRow_putObj d _ k rfl,m.trans (belowK_b (w:=w) (Fv _) W a _ _ (by simp at j;omega) k rfl rfl)⟩
 case stop =>
  rintro a c b W _ _ h _;exact h.elim
end
end Go.Proofs.YtibblbenmpcplaaGreatDoor
