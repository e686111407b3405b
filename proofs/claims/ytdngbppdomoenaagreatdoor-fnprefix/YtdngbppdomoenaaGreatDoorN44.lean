import Derived.Shelf.SlSortCmp.WholeK
import Derived.Shelf.Slices.In.SortNone
import Derived.Shelf.Sort.Plain
import Derived.Sort.OwnSortedInts
import Derived.Test.YtdngbppdomoenaaGreatDoorN42
import Derived.Test.YtdngbppdomoenaaGreatDoorN43
set_option linter.unusedVariables false
set_option linter.unusedSimpArgs false
set_option maxRecDepth 20000
set_option maxHeartbeats 8000000
namespace Go.Proofs
shelf_lay Lays.n189 Nm 189 at Tryz as Tryz.lays189
end Go.Proofs
namespace Go.Proofs.YtdngbppdomoenaaGreatDoor
open Go.Proofs.Tryz
variable {S:TypeId->Prop} {cf:Cf} {h:Hs} {vo vw:Value} {V V' W:World} {X Y i:Nat} {A:Array Value}
section
open Go.ChangeShapes Go.WideShapes Go.ChangeAt Go.RowKit Go.Maps Go.Shelf
theorem Dh:AE:=by
 intro v a W f h i;rcases h.2 with ⟨rfl,j⟩|⟨g,b,c,rfl,k,d,l,m,o,p⟩;·have n:a=[]:=Ik (by simpa using j);subst n;refine (Any.slices_Sort_int_none Tryz.lays189 none 0 W).mono ?_;rintro e q ⟨rfl,rfl⟩;exact⟨rfl,by simpa [Ns] using h,⟨rfl,rfl,rfl,Fv _,λ_ _ _=>rfl⟩⟩
 have r:c.toList.take a.length=a.map (Value.int .i64):=by simpa [Ns] using p
 refine (Any.slices_Sort_int Tryz.lays189 g 0 b a W (holds_of_blockI d r) (ag d) Z).mono ?_;rintro e q ⟨rfl,n,s,rfl⟩;exact⟨rfl,ownsRow_sortedI (List.length_mergeSort a) k d l m o,grownBy_sortedI _⟩
theorem xi (a:AE) (S M) (nn:Nat) (bud f m w) (h:Im S M 0 nn bud f w) (b:Pg f m w) :
  Calls prog 76 #[J S 0] w λe w'=>∃ v o,e=.returned (.tuple #[I (bm f 0 4096:Nat),v])/\w'.ownsRow w.heap.size 3 1 v o.length (Ns .i64 (o.mergeSort λx y=>decide (x<=y)))/\Met m (λ_=>false) o/\D w w':=by
 obtain⟨i0,a2,a3,a4,a5⟩:=G0 Tryz.info3Op;have HI:=H h;have HP:=H b;have a6:=H a;clear h b a;go_enter_defers func76,ntmps76;go_wp2_with fail;refine (fX HI).mono ?_;rintro e V ⟨rfl,j⟩;have IV:=H (j▸HI.st 1);have PV:=H (show Pg f m V by rw [j];exact HP.other (λk b T=>GQ _ _ _ _ (HP.apart HI T).1));have P:=H (show Fr S M f f w V by rw [j];exact (Fr.refl S M f w).grownS (au (al w S) 0 _));obtain⟨a,d,a7,s,i,g⟩:=IV.only;have HD:=H (IT s (IT i g));have cM:V.cell? ⟨S,4,none⟩=some (.map (some M)):=by simp [World.cell?,IV.box]
 have b4:bm f 0 4096<=4096:=ep f 0 4096;have a8:=H j;clear j s i g;go_wp2_with (at_range;refine wpList_range_own _ rfl _ 153 rfl 3 191 g_ underlying153 ev M 4096 a rfl d ?_;intro w0 i j l)
 go_frame
 have MV:=H (show M<V.heap.size by obtain ⟨n,g,T,_⟩:=d;exact ag T);have B0:=H ((Fu V.heap.size V).grown j (Fv _) bH);have L:=H i;have SZ:=H (show V.heap.size+1<=w0.heap.size by omega);have M0:=H (show Met m (has a) [] from ⟨List.nodup_nil,λz=>by
  constructor;·intro g;cases g
  rintro⟨k,rfl,h1,h2,h3⟩;obtain⟨g,Q⟩:=jR PV h2;rw [HD.2.1 k Z,Q] at h3;cases h3⟩)
 obtain⟨r,n⟩:∃ r,r=V.heap.size:=⟨_,rfl⟩;rw [<-n] at L SZ ⊢;have q:=H n;clear i j l d n;go_loopw [4] (λv wr=>∃ (left:Lit->Bool) (F:Nat) (o:List Int),o.length+F<=bm f 0 4096/\Hid (wr.ranges prog 3 ev M r 4096 a left F)/\Hid (wr.ownsRow (r+1) 3 1 v o.length (Ns .i64 o))/\Hid (Met m left o)/\Hid (D V wr)) (λ_ wr=>wr.rangeLeft M r);case atStart=>exact ⟨_,_,[],by simp [a7],L,H ⟨rfl,.inl ⟨rfl,rfl⟩⟩,M0,B0⟩
 case round =>
  obtain⟨left,F,o,b5,A,d,n,i⟩:=hrel;clear L M0 B0;go_wp2_with (at_next;refine wpList_next_ranges _ rfl _ rfl 3 g_ ev (Value.int .i64) Et (λj kl hk=>by obtain ⟨x,rfl,_⟩:=Maps.keyOf_int_inv underlying3 hk;exact⟨x,rfl⟩) (λv y N=>by exact (hF N).elim (λ⟨b,e,_⟩=>⟨some b,e⟩) (λ⟨e,_⟩=>⟨none,e⟩)) M r 4096 a left F rfl A ?_ ?_)
  ·intro G j;have X:=H (show Met m (λ_=>false) o from ⟨n.1,λz=>by rw [n.2 z];simp [j]⟩);have B:=a6.out _ o wr (r+1) d Z;obtain⟨vp,vl,vc,rfl⟩:∃ p l c,u4=.slice p l c:=by
    rcases d.2 with ⟨rfl,_⟩|⟨g,Y,a0,rfl,_⟩;·exact⟨_,_,_,rfl⟩
    exact⟨_,_,_,rfl⟩
   have p:=cI d.out;have R:=H B;have W:=H p;clear B p G j A n;go_wp2_with fail;refine (R).mono ?_;rintro e O ⟨rfl,B,G⟩;have j:=H (i.grown G i.size (λg e=>by have:=W.out g e;have:=q.out;omega));have K:=H (IV.grown (W':=O) ⟨j.os,j.tape,j.output,j.size,λk h _=>j.block k h⟩);have H5:=H B;have c4:O.cell? ⟨S,4,none⟩=some (.map (some M)):=(by simp [World.cell?,K.box]);clear B G i d R;go_wp2_with (at_len;refine nj _ rfl _ rfl K rfl ?_);refine Iy (f:=111) (args:=#[J S 0]) bH (by simp [go_sem]) ?_;refine (Go.MuLone.unlock_deferred jw ⟨S,0,none⟩ .returning _ (by simp [World.cell?,K.box]) (by simp [World.frozen?,K.box])).mono ?_;rintro e u' a1 ⟨rfl,rfl,rfl⟩;have a9:S<r+1:=(by have:=q.out;have:=ag IV.box;omega);have B:=au (al O S) 0 (.int .i32 0);have R:=(K.st 0).box;refine⟨_,results_tmp2 (t:=2) (u:=3) dU _ _ _,_,o,rfl,dm (H5.kept B (.inr λe=>by have:=W.out _ e;omega)) ?_,X,⟨B.os.trans (j.os.trans P.os),B.tape.trans (j.tape.trans P.tape),B.output.trans (j.output.trans P.output),Fx (Fx P.size j.size) B.size,λk hk=>?_⟩⟩;·have:=q.out;have:=P.size;omega
   by_cases e:k=S;·subst e;rw [R,HI.box]
   have G:k<V.heap.size:=FG hk P.size;rw [B.block k (FG G j.size) (by simpa using e),j.block k G,a8.out,GQ _ _ _ _ e]
  intro x c kl yd yp w2 G K W N s B X O Y a0;obtain⟨x',ex,rfl,_⟩:=Maps.keyOf_int_inv underlying3 K;cases ex;obtain⟨k,rfl,a9,a1⟩:=HD.2.2 _ (has_true_of_atKey s);obtain⟨g,Q⟩:=Option.isSome_iff_exists.1 a1;have R:=s .nil;rw [HD.1 k Z,Q] at R;obtain rfl:c=some g:=by
   cases c with
   | none=>simp [Et,ev] at N;rw [<-N.1] at R;simp [sG] at R
   | some b =>
    simp [Et,ev] at N;rw [<-N.1] at R;simp [sG] at R;have:b=g:=Z;rw [this]
  obtain⟨l,xs,hm,b0,T⟩:=PV.cell Q;have B2:=H (i.grown O i.size (λj e=>by cases e;have:=q.out;omega));have cl:w2.cell? ⟨g,1024,none⟩=some (.bool l):=ad B2 (PV.lockCell Q hm).1;have R2:=H (d.kept O (.inr λe=>by have:=cI d _ e;omega));have G2:=H B;have ST:=H (n.step a9 W);have LE:=H (IT B.left_eq A.left_eq);have S2:=H Y;have b6:=A.lt;unfold Et at a0 ⊢;simp only [Hi] at a0 ⊢;have ho:isOpen (m k) = !l:=by rw [hm];rfl
  clear K W N s B O Y a1 Q R T b0 d n i A;cases l with
  | true =>
   go_wp2;go_roundw;(case rel=>exact ⟨_,G,o,Z,G2,R2,ST.2 (by rw [ho];rfl),B2⟩);case measure=>rw [LE.1,LE.2];exact X
  | false =>
   have A:=H (R2.alloc (.cells #[I (k:Int)] 3));have B:=H (B2.alloc B2.size (.cells #[I (k:Int)] 3));go_wp2_with (at_builtin;refine Ib _ rfl _ _ 24 rfl (r+1) 3 i0 (I 0) 1 8 underlying24 a2 a3 a4 a5 rfl Z _ _ _ rfl A _ 1 1 [I (k:Int)] rfl rfl ?hc ?h1c ?b1 ?b2 ?b3 ?_);(case hc=>exact ek _ _ _ _ bH);(case h1c=>intro u K;simp at K;subst K;rfl);(case b1=>unfold maxLen;omega);(case b2=>omega);(case b3=>have:=S2.out;have:=q.out;simp;omega);intro R W i d _;have p:=cI A.out;have O:=H ((G2.alloc (.cells #[I (k:Int)] 3)).kept d (λe=>by have:=p _ e.symm;have:=MV.out;have:=q.out;omega) (λe=>by have:=p _ e.symm;omega));have Y:=H (B.grown d B.size (λj e=>by have:=p _ e;have:=q.out;omega));have O3:=H (show W.ownsRow (r+1) 3 1 R (o++[(k:Int)]).length (Ns .i64 (o++[(k:Int)])) by rw [FC];simpa [Ns] using i);have n:=H O.left_eq;clear i d p;go_wp2;go_roundw;(case rel=>exact ⟨_,G,o++[(k:Int)],by rw [FC];simp;omega,O,O3,ST.1 (by rw [ho];rfl),Y⟩);case measure=>rw [n.out,LE.2];exact X
theorem pK (S M bud f m w) (h:Im S M 0 283 bud f w) (j:Pg f m w) (a:∀ k,283<=k->m k=none) :
  Calls prog 76 #[J S 0] w λe b=>∃ v,e=.returned (.tuple #[I (bm f 0 4096:Nat),v])/\b.ownsRow w.heap.size 3 1 v (bw m 283).length (Ns .i64 (bw m 283))/\D w b:=by
 refine (xi Dh S M 283 bud f m w h j).mono ?_;rintro e b ⟨v,c,rfl,d,g,l⟩;have i:(c.mergeSort λx y=>decide (x<=y))=bw m 283:=rY m 283 c g.1 (λz=>by
  rw [g.2 z];constructor
  ·rintro⟨k,rfl,h1,h2,_⟩;refine⟨k,rfl,?_,h2⟩;by_cases n:k<283;·exact n
   rw [a k Z] at h2;simp [isOpen] at h2
  rintro⟨k,rfl,h1,h2⟩;exact⟨k,rfl,Z,h2,rfl⟩)
 have k:c.length=(bw m 283).length:=by rw [<-i,List.length_mergeSort]
 rw [i,k] at d;exact⟨v,rfl,d,l⟩
end
section
open Go.RowKit Go.Maps
def E_ (cf:Cf) (h:Hs) (c:Nat) (p:Nat×Nat):List Value:=[Vl p.1 (h.mx c).length (h.mx c).length,Vl p.2 (h.ff c).length (h.ff c).length,I cf.fifo]
def mw (cf:Cf) (h:Hs) (ws:List (Nat×Nat)):List Value:=ws.zipIdx.flatMap λx=>E_ cf h x.2 x.1
theorem rD (cf h) (a:List (Nat×Nat)) (p:Nat×Nat):mw cf h (a++[p])=mw cf h a++E_ cf h a.length p:=by
 unfold mw;rw [List.zipIdx_append,Gu];simp
theorem An:(prog.info? 68).map (λi=>(i.zero,i.size,i.bytes))=some (some (.agg #[C,C,I 0]),3,56):=E
theorem tX (W:World) (B:Nat) (v:Value) (n:Nat) (p:List Value) (a b c:Value) (g q:Nat) (d:W.ownsRow B 68 3 v n p) (s:W.heap[g]?=some (.cells #[a,b,c] 68)) (t:a.oneCell'=true) (w:b.oneCell'=true) (x:c.oneCell'=true) (M:n<=1000) (y:B<=W.heap.size) :
  ∃ f e,(Builtin.append_ #[32,32] 32 #[v,Vl g 1 q]).run prog W=.ok f e/\e.ownsRow B 68 3 f (n+1) (p++[a,b,c])/\W.grownBy e v.ownBlock:=by
 obtain⟨z,i,k,l,m⟩:=G0 An;have o:∀ j u,[a,b,c][j]?=some u->W.cell? ((⟨g,0,none⟩:Addr).add j)=some u:=λj u A=>by
  rw [Addr.add_mid,Gb,GT _ _ j _ _ _ s];simpa using A
 have F:∀ u∈[a,b,c],u.oneCell'=true:=λu r=>by
  simp only [F4,Gp,or_false] at r;rcases r with rfl|rfl|rfl;·exact t
  ·exact w
  exact x
 obtain⟨f,e,G,K,L,_⟩:=Ia (P:=prog) W B 32 32 68 z _ 3 56 underlying32 i k l m rfl Z v _ _ d ⟨g,0,none⟩ 1 q [a,b,c] rfl o F (by unfold maxLen;omega) Z y;exact⟨f,e,G,K,L⟩
def tH:Prop:=∀ (X:Nat) (u:Option Addr) (j t:Nat) (l:List Nat) (W:World) (base:Nat),W.heap[X]?=some (.cells #[.slice u j t] 34)->W.ownsRow base 23 1 (.slice u j t) l.length (Us l)->l.length<=1000 ->
 Calls prog 81 #[.func (.func 120) #[] #[J X 0]] W λe W'=>∃ v i,e=.returned v/\i.Perm l/\i.Pairwise (λa b=>a<=b)/\W'.ownsRow W.heap.size 23 1 v l.length (Us i)/\D W W'
theorem uS (a:Option Addr) (b c:Nat) (W:World):Calls prog 82 #[.slice a b c] W λe d=>e=.returned (.func (.func 120) #[] #[J W.heap.size 0])/\d=W.alloc (.cells #[.slice a b c] 34):=by
 go_enter func82,ntmps82;go_wp2;go_ret;exact⟨rfl,rfl⟩
structure Wt9 (cf:Cf) (h:Hs) (base:Nat) (vo:Value) (ws:List (Nat×Nat)) (vw:Value) (W:World):Prop where
 row:W.ownsRow base 68 3 vw ws.length (mw cf h ws)
 at_:∀ c p,ws[c]?=some p->RowV W p.1 3 (Ns .i64 (h.mx c))/\RowV W p.2 3 (Ns .i64 (h.ff c))/\base<=p.1/\p.1<p.2
 ord:ws.Pairwise λp q=>p.2<q.1
 vo:∀ g,vo.ownBlock=some g->∀ p∈ws,g<p.1
theorem Wt9.ky {base ws W'} (w:Wt9 cf h base vo ws vw W) (k:Ky S W W') (d:¬S 68) (b:¬S 3):Wt9 cf h base vo ws vw W' :=
 ⟨ai w.row k d,λc p a=>⟨cL (w.at_ c p a).1 k b,cL (w.at_ c p a).2.1 k b,(w.at_ c p a).2.2⟩,w.ord,w.vo⟩
theorem Wt9.below {cf h base vo ws vw W W'} (w:Wt9 cf h base vo ws vw W) (b:D W W'):Wt9 cf h base vo ws vw W':=w.ky (Ky.below b:Ky (λ_=>False) W W') (λe=>e) (λe=>e)
theorem Wt9.add {base ws U} (w:Wt9 cf h base vo ws vw V) (l:base<=V.heap.size) (o:∀ g,vo.ownBlock=some g->g<V.heap.size) (b:D V U) {g1 g2} (x:RowV U g1 3 (Ns .i64 (h.mx ws.length))) (y:RowV U g2 3 (Ns .i64 (h.ff ws.length))) (r:V.heap.size<=g1) (s:g1<g2) (B:ws.length<=12) :
  ∃ m d,(Builtin.append_ #[32,32] 32 #[vw,Vl U.heap.size 1 1]).run prog (U.alloc (.cells #[Vl g1 (h.mx ws.length).length (h.mx ws.length).length,Vl g2 (h.ff ws.length).length (h.ff ws.length).length,I cf.fifo] 68))=.ok m d/\Wt9 cf h base vo (ws++[(g1,g2)]) m d/\Ky (· = 68) V d/\Below base V d:=by
 have f:D U (U.alloc (.cells #[Vl g1 (h.mx ws.length).length (h.mx ws.length).length,Vl g2 (h.ff ws.length).length (h.ff ws.length).length,I cf.fifo] 68)):=(Fu _ _).alloc (Fv _) _;have n:=(w.below b).below f;have i:base<=(U.alloc (.cells #[Vl g1 (h.mx ws.length).length (h.mx ws.length).length,Vl g2 (h.ff ws.length).length (h.ff ws.length).length,I cf.fifo] 68)).heap.size:=Fx (Fx l b.size) f.size;obtain⟨m,d,z,A,u⟩:=tX _ base vw ws.length (mw cf h ws) _ _ _ U.heap.size 1 n.row (ao U _) rfl rfl rfl Z i;have j:Ky (· = 68) _ d:=Ky.grownO (λP t=>by obtain ⟨_,c,k⟩:=aF n.row t;exact⟨c,68,_,k,rfl⟩) u;refine⟨m,d,z,⟨?_,λc p a=>?_,?_,λg v p a=>?_⟩,((Ky.below b).trans (Ky.below f)).trans j,((b.mono l).trans (f.mono (Fx l b.size))).grown u i (λP t=>(aF n.row t).1)⟩;·rw [rD,FC];exact A
 ·by_cases k:c<ws.length;·rw [Ga k] at a;have:=n.at_ c p a;exact⟨cL this.1 j ar,cL this.2.1 j ar,this.2.2⟩
  have q:c=ws.length:=by have:=(Fz.1 a).1;simp at this;omega
  subst q;simp at a;subst a;exact⟨cL (cL x (Ky.below f:Ky (λ_=>False) _ _) (λe=>e)) j ar,cL (cL y (Ky.below f:Ky (λ_=>False) _ _) (λe=>e)) j ar,Fx l r,s⟩
 ·rw [Is];refine⟨w.ord,List.pairwise_singleton _ _,λp a q e=>?_⟩;have:=List.mem_singleton.1 e;subst this;obtain⟨c,k⟩:=He a;have:=(w.at_ c p k).2.1.lt;show p.2<g1;omega
 rcases F8.1 a with a|a;·exact w.vo g v p a
 have:=List.mem_singleton.1 a;subst this;have:=o g v;show g<g1;omega
def AI (B:Nat) (y:Ly) (cf:Cf) (h:Hs) (V:World) (m:Array Value) (V':World):Prop:=∃ vo vs vw vr vl ve ws rs e,m=#[I (bz h.m 283),vo,vs,vw,vr,vl,ve,I h.used] /\
 V'.ownsRow V.heap.size 3 1 vo (bw h.m 283).length (Ns .i64 (bw h.m 283))/\V'.ownsRow V.heap.size 51 5 vs (I1 h 12).length (fP h (I1 h 12))/\(ws.length=12/\Wt9 cf h V.heap.size vo ws vw V') /\
 (rs.Perm h.rg/\rs.Pairwise (λa b=>a.base<=b.base)/\V'.ownsRow V.heap.size 66 5 vr rs.length (dH rs))/\V'.ownsRow V.heap.size 23 1 vl h.row.length (Us h.row) /\
 (e.Perm h.rel/\e.Pairwise (λa b=>a<=b)/\V'.ownsRow V.heap.size 23 1 ve h.rel.length (Us e))/\∀ g,vl.ownBlock=some g->ve.ownBlock≠some g
theorem CF (h):I1 h 12=dF.filter λx=>decide (h.st x.1 x.2.1 x.2.2≠0):=by
 unfold I1 I2 I3 dF;rw [List.filter_flatMap];congr 1;funext c;rw [List.filter_flatMap];congr 1;funext s;rw [List.filter_map];rfl
def jA (h:Hs) (K:Nat):List (Nat×Nat×Nat):=(dF.take K).filter λx=>decide (h.st x.1 x.2.1 x.2.2≠0)
theorem yq (h):jA h 1062=I1 h 12:=by
 unfold jA;rw [CF,Ge (by rw [fG];exact Fv _)]
theorem vv (h) {K:Nat} (a:K<1062):jA h (K+1)=jA h K++(if h.st (sA K).1 (sA K).2.1 (sA K).2.2≠0 then [sA K] else []):=by
 unfold jA;rw [F_,gR a,Hl];congr 1;by_cases e:h.st (sA K).1 (sA K).2.1 (sA K).2.2=0 <;> simp [e,List.filter]
theorem wU (h K):(jA h K).length<=1062:=by
 unfold jA;refine Fx (Hb _ _) ?_;rw [Hm,fG];omega
theorem EP {g t:Nat} {a b c d e f:Value} (h:V.heap[g]?=some (.cells #[a,b,c,d,e,f] t)):V.cell? ⟨g,0,none⟩=some a/\V.cell? ⟨g,1,none⟩=some b/\V.cell? ⟨g,2,none⟩=some c/\V.cell? ⟨g,3,none⟩=some d/\V.cell? ⟨g,4,none⟩=some e/\V.cell? ⟨g,5,none⟩=some f:=by
 refine⟨?_,?_,?_,?_,?_,?_⟩ <;> (rw [GT _ _ _ _ _ _ h];rfl)
structure Me (W:World) (X Y:Nat) (A:Array Value) (V:World):Prop where
 bel:D W V
 xb:V.heap[X]?=some (.cells #[I 0,C,C,C,C,C,C,I 0] 36)
 yb:V.heap[Y]?=some (.cells A 36)
 bx:W.heap.size<=X
 by_:W.heap.size<=Y
 ne:X≠Y
theorem Me.below (m:Me W X Y A V) (b:D V V'):Me W X Y A V' :=
 ⟨m.bel.trans (b.mono m.bel.size),ae m.xb b,ae m.yb b,m.bx,m.by_,m.ne⟩
theorem Me.ky (m:Me W X Y A V) (k:Ky S V V') (h:¬S 36) (b:Below W.heap.size V V'):Me W X Y A V' :=
 ⟨m.bel.trans b,k.cells _ _ _ _ m.xb h,k.cells _ _ _ _ m.yb h,m.bx,m.by_,m.ne⟩
theorem Me.set (m:Me W X Y A V) (i:Nat) (v:Value):Me W X Y (A.setIfInBounds i v) (V.setCell ⟨Y,i,none⟩ v)/\Ky (· = 36) V (V.setCell ⟨Y,i,none⟩ v):=by
 have g:=au (al V Y) i v;refine⟨⟨m.bel.grown g m.bel.size (λr a=>by simp at a;have:=m.by_;omega),?_,?_,m.bx,m.by_,m.ne⟩,Ky.grown m.yb rfl g⟩;·rw [GQ _ _ _ _ m.ne];exact m.xb
 simp [World.setCell,FD,m.yb]
structure Rw9 (h:Hs) (W:World) (vo vs:Value) (V:World):Prop where
 o:V.ownsRow W.heap.size 3 1 vo (bw h.m 283).length (Ns .i64 (bw h.m 283))
 s:V.ownsRow W.heap.size 51 5 vs (I1 h 12).length (fP h (I1 h 12))
theorem Rw9.ky {vs} (r:Rw9 h W vo vs V) (k:Ky S V V') (a:¬S 3) (b:¬S 51):Rw9 h W vo vs V':=⟨ai r.o k a,ai r.s k b⟩
def E9 (cf:Cf) (p:Value×Value):List Value:=[p.1,p.2,I cf.fifo]
def lE (cf:Cf) (ws:List (Value×Value)):List Value:=ws.flatMap (E9 cf)
theorem rA (cf) (a:List (Value×Value)) (p:Value×Value):lE cf (a++[p])=lE cf a++E9 cf p:=by simp [lE]
structure Wt8 (cf:Cf) (h:Hs) (W:World) (ws:List (Value×Value)) (vw:Value) (V:World):Prop where
 row:V.ownsRow W.heap.size 68 3 vw ws.length (lE cf ws)
 at_:∀ c p,ws[c]?=some p->V.ownsRow W.heap.size 3 1 p.1 (h.mx c).length (Ns .i64 (h.mx c))/\V.ownsRow W.heap.size 3 1 p.2 (h.ff c).length (Ns .i64 (h.ff c))
theorem Wt8.ky {ws} (w:Wt8 cf h W ws vw V) (k:Ky S V V') (d:¬S 68) (a:¬S 3):Wt8 cf h W ws vw V' :=
 ⟨ai w.row k d,λc p b=>⟨ai (w.at_ c p b).1 k a,ai (w.at_ c p b).2 k a⟩⟩
theorem xP:(prog.info? 3).map (λi=>(i.zero,i.size,i.bytes))=some (some (I 0),1,8):=E
theorem zB (W:World) (a:Option Addr) (c:Nat):(Builtin.append_ #[24,24] 24 #[C,.slice a 0 c]).run prog W=.ok (C) W:=by
 obtain⟨g,b,d,e,f⟩:=G0 xP;cases a <;> simp [Builtin.append_,run_underlying underlying24,sizeOf,typeInfo,b,Builtin.lenOf,Builtin.firstCells,loadCells,loadCellsFrom]
theorem tO (W v l) (h:Wq W v l) (z:l.length<=90000) :
  ∃ a n c d e f b,v=.slice a n c/\(Builtin.append_ #[24,24] 24 #[C,.slice a n c]).run prog W=.ok (.slice d e f) b/\b.ownsRow W.heap.size 3 1 (.slice d e f) l.length (Ns .i64 l)/\D W b:=by
 obtain⟨a,c,rfl,_,t⟩:=h;rcases t with ⟨rfl,rfl⟩|⟨g,rfl,i⟩;·exact⟨none,0,c,none,0,0,W,rfl,zB W none c,⟨rfl,.inl ⟨rfl,rfl⟩⟩,Fu _ _⟩
 obtain⟨w,k,m,o,p⟩:=G0 xP;obtain⟨A,b,x,q,y,_⟩:=Ia (P:=prog) W W.heap.size 24 24 3 w _ 1 8 underlying24 k m o p rfl Z (C) 0 [] ⟨rfl,.inl ⟨rfl,rfl⟩⟩ ⟨g,0,none⟩ l.length c (Ns .i64 l) (by simp [Ns]) (λj u s=>by
  have r:j<(Ns .i64 l).length:=(Fz.1 s).1;rw [Addr.add_mid,Gb,i.cell j r];exact s) (λu a=>by
  simp only [Ns,FQ] at a;obtain⟨n,_,rfl⟩:=a;rfl) (by unfold maxLen;omega) Z (Fv _)
 rw [Gb,FV] at q;obtain⟨d,e,f,rfl⟩:=aA q;exact⟨_,_,_,d,e,f,b,rfl,x,q,(Fu _ W).grown y (Fv _) (λr i=>by simp [Value.ownBlock] at i)⟩
theorem Wt8.add {B x ws} {c:Nat} (w:Wt8 cf h W ws vw V) (s:D W V) (O:∀ V,D W V->Sh B x cf h V) (r:c<12) (hl:ws.length=c) (a0:(h.mx c).length<=100/\(h.ff c).length<=100) {P Q:Option Addr} {R S:Nat} (K:x.mv c=.slice P (h.mx c).length R) (L:x.fv c=.slice Q (h.ff c).length S) :
  ∃ f g i m j k l b y z A a,(Builtin.append_ #[24,24] 24 #[C,.slice P (h.mx c).length R]).run prog V=.ok (.slice f g i) m/\(Builtin.append_ #[24,24] 24 #[C,.slice Q (h.ff c).length S]).run prog m=.ok (.slice j k l) b/\(Builtin.append_ #[32,32] 32 #[vw,Vl b.heap.size 1 1]).run prog (b.alloc (.cells #[.slice f g i,.slice j k l,I cf.fifo] 68))=.ok (.slice y z A) a/\D V m/\D V b/\D V (b.alloc (.cells #[.slice f g i,.slice j k l,I cf.fifo] 68))/\(b.alloc (.cells #[.slice f g i,.slice j k l,I cf.fifo] 68)).grownBy a vw.ownBlock/\Ky (· = 68) (b.alloc (.cells #[.slice f g i,.slice j k l,I cf.fifo] 68)) a/\Wt8 cf h W (ws++[(.slice f g i,.slice j k l)]) (.slice y z A) a/\D W a:=by
 obtain⟨b1,b2,b3,f,g,i,m,T,e1,o1,F⟩:=tO V (x.mv c) (h.mx c) ((O V s).wm c r).1 Z;rw [K] at T;cases T;have t:D W m:=s.trans (F.mono s.size);obtain⟨b4,b5,b6,j,k,l,b,X,e2,o2,Y⟩:=tO m (x.fv c) (h.ff c) ((O m t).wm c r).2 Z;rw [L] at X;cases X;have n:D V b:=F.trans (Y.mono F.size);have M:D b (b.alloc (.cells #[.slice f g i,.slice j k l,I cf.fifo] 68)):=(Fu _ _).alloc (Fv _) _;have o:=n.trans (M.mono n.size);have G:=w.ky (Ky.below o:Ky (λ_=>False) _ _) (λe=>e) (λe=>e);have q:D W (b.alloc (.cells #[.slice f g i,.slice j k l,I cf.fifo] 68)):=s.trans (o.mono s.size);obtain⟨v',a,f1,f2,f3⟩:=tX _ W.heap.size vw ws.length (lE cf ws) _ _ _ b.heap.size 1 G.row (ao b _) rfl rfl rfl Z q.size;obtain⟨y,z,A,rfl⟩:=aA f2;have u:Ky (· = 68) _ a:=Ky.grownO (λP e=>by obtain ⟨_,c,r⟩:=aF G.row e;exact⟨c,68,_,r,rfl⟩) f3;refine⟨f,g,i,m,j,k,l,b,y,z,A,a,e1,e2,f1,F,n,o,f3,u,⟨?_,λd p v=>?_⟩,q.grown f3 q.size (λr a=>(aF G.row a).1)⟩;·rw [rA,FC];exact f2
 by_cases hd:d<ws.length;·rw [Ga hd] at v;have:=G.at_ d p v;exact⟨ai this.1 u ar,ai this.2 u ar⟩
 have N:d=ws.length:=by have:=(Fz.1 v).1;simp at this;omega
 subst N;simp at v;subst v;rw [hl];exact⟨ai (aN (ax (ax o1 Y) M) s.size) u ar,ai (aN (ax o2 M) t.size) u ar⟩
def Told8 (cf:Cf) (h:Hs) (V:World) (m:Array Value) (V':World):Prop:=∃ vo vs vw vr vl ve ws rs e,m=#[I (bz h.m 283),vo,vs,vw,vr,vl,ve,I h.used] /\
 V'.ownsRow V.heap.size 3 1 vo (bw h.m 283).length (Ns .i64 (bw h.m 283))/\V'.ownsRow V.heap.size 51 5 vs (I1 h 12).length (fP h (I1 h 12))/\(ws.length=12/\Wt8 cf h V ws vw V') /\
 (rs.Perm h.rg/\rs.Pairwise (λa b=>a.base<=b.base)/\V'.ownsRow V.heap.size 66 5 vr rs.length (dH rs))/\V'.ownsRow V.heap.size 23 1 vl h.row.length (Us h.row) /\
 (e.Perm h.rel/\e.Pairwise (λa b=>a<=b)/\V'.ownsRow V.heap.size 23 1 ve h.rel.length (Us e))
theorem qj (x:Nat) (W:World):Calls prog 155 #[.int .u64 (x:Nat)] W λe a=>e=.returned (.bool false)/\a=W:=by
 go_enter func155,ntmps155;go_wp2;go_ret;exact⟨rfl,rfl⟩
def aQ (x y:Nat):Bool:=decide (x<y)
theorem yt:Sort.SWO aQ where
 irrefl x:=by simp [aQ]
 trans x y z h1 h2:=by simp [aQ] at *;omega
 ntrans x y z h1 h2:=by simp [aQ] at *;omega
structure Au (G N c:Nat) (V0:World) (d:Array Nat) (V:World):Prop where
 sz:d.size=N
 row:V.ownsRow G 23 1 (Vl G N c) N (Us d.toList)
 bel:Below G V0 V
variable {G N c:Nat} {V0 V:World} {d:Array Nat}
theorem Au.lt (h:Au G N c V0 d V):G<V.heap.size:=by
 rcases h.row.2 with ⟨e,_⟩|⟨g,a,b,e,i,f,_⟩;·cases e
 cases e;exact ag f
theorem Au.cell (h:Au G N c V0 d V) {i:Nat} (a:i<N):V.cell? ⟨G,i,none⟩=some (U ((d[i]! : Nat):Int)):=by
 refine bC h.row i _ (ny ?_);have:i<d.size:=by rw [h.sz];exact a
 rw [Gg,Hw this,getElem!_pos d i this]
theorem Au.fz (h:Au G N c V0 d V) (i:Nat):V.frozen? ⟨G,i,none⟩=false:=oG h.row i
theorem Au.set (h:Au G N c V0 d V) (a:i<N) (x:Nat):Au G N c V0 (d.setIfInBounds i x) (V.setCell ⟨G,i,none⟩ (U x)):=by
 refine⟨by rw [Array.size_setIfInBounds,h.sz],?_,h.bel.setCell (Fv _) _⟩;have:=dP h.row i (by rw [fK,Array.length_toList,h.sz];exact a) (U x);rw [sg] at this;rw [Array.toList_setIfInBounds];exact this
theorem Au.swap (h:Au G N c V0 d V) {j:Nat} (a:i<N) (b:j<N):Au G N c V0 (Sort.swp d i j) ((V.setCell ⟨G,i,none⟩ (U ((d[j]! : Nat):Int))).setCell ⟨G,j,none⟩ (U ((d[i]! : Nat):Int))):=(h.set a _).set b _
theorem Au.below (h:Au G N c V0 d V) (b:D V V'):Au G N c V0 d V':=⟨h.sz,ax h.row b,h.bel.trans (b.mono (Nat.le_of_lt h.lt))⟩
theorem Au.drew (h:Au G N c V0 d V):Au G N c V0 d V.drew:=h.below (Fu _ _).drew
theorem Au.sw1 (h:Au G N c V0 d V) {j:Nat} (a:i<N) (b:j<N):∃ u,(V.setCell ⟨G,i,none⟩ (U ((d[j]! : Nat):Int))).cell? ⟨G,j,none⟩=some (U ((u:Nat):Int)):=⟨_,(h.set a _).cell b⟩
theorem pG (x y:Nat) (W:World):Calls prog 216 #[U x,U y] W λe d=>e=.returned (.bool (aQ x y))/\d=W:=by
 have b:=H qj;unfold aQ;by_cases c:x<y
 ·have a:(x:Int)<(y:Int):=Z;rw [G8 c];go_enter func216,ntmps216;go_wp2_with (refine (b _ _).mono ?_;rintro e f ⟨rfl,rfl⟩);go_ret;exact⟨rfl,rfl⟩
 have a:¬((x:Int)<(y:Int)):=Z;rw [GR c];go_enter func216,ntmps216;go_wp2_with (refine (b _ _).mono ?_;rintro e f ⟨rfl,rfl⟩);go_ret;exact⟨rfl,rfl⟩
theorem Au.drewN (h:Au G N c V0 d V) (n:Nat):Au G N c V0 d (V.drewN n):=by
 exact h.below ⟨rfl,rfl,rfl,Fv _,λ_ _=>rfl⟩
theorem cF {x y} (h:aQ x y=true) (W:World):Calls prog 216 #[U x,U y] W λe a=>e=.returned (.bool true)/\a=W:=by
 have:=pG x y W;rw [h] at this;exact this
theorem cE {x y} (h:aQ x y=false) (W:World):Calls prog 216 #[U x,U y] W λe a=>e=.returned (.bool false)/\a=W:=by
 have:=pG x y W;rw [h] at this;exact this
theorem Bj (G N c) (a b:Nat) (d V0 V) (A:Au G N c V0 d V) (X:b<=N) (Y:N<=100000) (ha:a<=N) :
  Calls prog 210 #[.slice (some ⟨G,0,none⟩) N c,.int .i64 a,.int .i64 b] V λe V'=>e=.returned (.tuple #[])/\Au G N c V0 (Sort.insertionSort aQ d a b) V':=by
 have LS:=H pG;obtain⟨o,g⟩:∃ o,Sort.insertionSort aQ d a b=o:=⟨_,rfl⟩;rw [g];have p:=H (show Sort.insOuter aQ a b (a+1) d=o from g);have f:=H A;clear g A;go_enter func210,ntmps210;go_wp2_with fail;go_loopw [6] (λw wr=>∃ (i:Nat) (d:Array Nat),a+1<=i/\i<=N+1/\w=.int .i64 i/\Hid (Sort.insOuter aQ a b i d=o)/\Hid (Au G N c V0 d wr)) (λw _=>N+1-(intOf w).toNat);case atStart=>exact ⟨a+1,d,Fv _,Z,aY,p,f⟩
 case round =>
  clear p f;obtain⟨i,d,L,M,rfl,p,f⟩:=hrel;by_cases r:i<b
  ·have n:=H (show Sort.insOuter aQ a b (i+1) (Sort.insInner aQ a i d)=o by have:=p.out;rw [Sort.insOuter,GP r] at this;exact this);obtain⟨m,g⟩:∃ m,Sort.insInner aQ a i d=m:=⟨_,rfl⟩;rw [g] at n;have s:=H g;clear g p;go_wp2_with fail;go_loopw [7] (λx wr=>∃ (j:Nat) (d:Array Nat),a<=j/\j<=i/\x=.int .i64 j/\Hid (Sort.insInner aQ a j d=m)/\Hid (Au G N c V0 d wr)) (λx _=>(intOf x).toNat);(case atStart=>exact ⟨i,d,Z,Fv _,rfl,s,f⟩);case round =>
    clear s f;obtain⟨j,d,O,P,rfl,s,f⟩:=hrel;by_cases y:a<j
    ·obtain⟨k,g⟩:∃ k,j=k+1:=⟨j-1,Z⟩;have B:=H g;have u:=f.cell (show j<N by omega);have v:=f.cell (show k<N by omega);have z:(a:Int)<(j:Int):=Z;have Q:(j:Int)-1=(k:Int):=Z;have R:(j:Int)<(N:Int):=Z;have S:(k:Int)<(N:Int):=Z;have t:=H (show Sort.insInner aQ a (k+1) d=m by rw [<-g];exact s);clear g;by_cases q : aQ d[j]! d[k]! = true
     ·(go_upto_region 4 with fail);go_quiet (first|(go_at_call 216;exact GW (cF q _)));have l:=H (f.drewN nq);clear f u v;generalize wr.drewN nq=F at l ⊢;have u:=l.cell (show j<N by omega);have v:=l.cell (show k<N by omega);have f1:=l.fz j;obtain⟨u9,T⟩:=l.sw1 (show j<N by omega) (show k<N by omega);have f0:=(l.set (show j<N by omega) d[k]!).fz k;have K:=H (l.swap (show j<N by omega) (show k<N by omega));clear l;(go_upto_region 6 with fail);go_region;have W:=H K.drew;have g:=H (show Sort.insInner aQ a k (Sort.swp d j k)=m by
       have:=t.out;rw [Sort.insInner,<-B.out,GP (by simp only [q,Bool.and_true,Hj];exact y)] at this;exact this)
      clear K u v f1 T f0;go_wp2;go_roundw;(case rel=>exact ⟨k,_,Z,Z,aY,g,W⟩);case measure=>simp [intOf];omega
     ·have q : aQ d[j]! d[k]! = false := (by simpa using q);(go_upto_region 4 with fail);go_quiet (first|(go_at_call 216;exact GW (cE q _)));have l:=H (f.drewN nq);have g:=H (show d=m by
       have:=t.out;rw [Sort.insInner,<-B.out,GO (by simp [q])] at this;exact this)
      clear f u v;generalize wr.drewN nq=F at l ⊢;go_wp2;go_roundw;(case rel=>exact ⟨i+1,m,Z,Z,aY,n,H (by rw [<-g.out];exact l)⟩);case measure=>simp [intOf];omega
    ·have z:decide ((a:Int)<(j:Int))=false:=GR Z;have g:=H (show d=m by
       have:=s.out;cases j with
       | zero=>exact this
       | succ k=>rw [Sort.insInner,GO bG] at this;exact this)
     (go_upto_region 4 with fail);go_quiet (fail);have l:=H (f.drewN nq);clear f;generalize wr.drewN nq=F at l ⊢;go_wp2;go_roundw;(case rel=>exact ⟨i+1,m,Z,Z,aY,n,H (by rw [<-g.out];exact l)⟩);case measure=>simp [intOf];omega
  ·have g:=H (show d=o by have:=p.out;rw [Sort.insOuter,GO r] at this;exact this);have j:¬((i:Int)<(b:Int)):=Z;go_wp2;go_end0;exact⟨rfl,by rw [<-g.out];exact f⟩
end
section
open Go.RowKit Go.Maps Go.Shelf
attribute [local go_sem] Oper.semAt_some
theorem zI (l X q m:Nat) (Y:1<=m) (r:Option Addr) (s g:Nat) (b:List Nat) (a t:List Nat->World->Prop) (W:World)
  (u:∀ c (x:Nat) d,a c d->c.length<b.length->YieldAt Fence.wide (m-1) prog l #[U x] d λe f =>
   (e=.returned (.bool true)/\a (c++[x]) f/\Below q d f)\/(e=.returned (.bool false)/\t (c++[x]) f))
  (A:W.cell? ⟨X,0,none⟩=some (.slice r b.length s)) (j:W.ownsRow g 23 1 (.slice r b.length s) b.length (Us b)) (d:∀ g,(Value.slice r b.length s).ownBlock=some g->g<q) (Q:b.length<=1000) (k:a [] W) :
  CallsIn Fence.wide m prog 120 #[.func (.yield l) #[] #[],J X 0] W λe f=>(∃ v,e=.returned v) /\
   ((∃ g,g=b/\a g f)\/(∃ c,c <+: b/\t c f)):=by
 obtain⟨n,c⟩:∃ n,b.length=n:=⟨_,rfl⟩;rw [c] at A j d Q u;have R:=H u;have B:=H j;have S:=H d;have F:=H c;have T:=H k;clear u j d c k;refine callsIn_of_wp func120 rfl trivial ?_ rfl;simp only [ntmps120,FX,FN,F1,Nat.reduceAdd,Nat.reduceSub,FP,FO,FY,Iv,FV,F5];gi_wp2
 gi_loopw [7] (λi wr=>∃ k:Nat,k<=n/\i=I k/\Hid (a (b.take k) wr)/\Hid (Below q W wr)) (λi _=>n-(intOf i).toNat)
 case atStart=>exact ⟨0,FH _,rfl,T,H (Fu _ _)⟩
 case round =>
  clear A;obtain⟨k,hk,rfl,v,K⟩:=hrel;by_cases w:k<n
  ·obtain⟨G,rfl⟩:=cr B Z;obtain⟨x,c⟩:∃ x,b[k]?=some x:=⟨_,Fy (by rw [F.out];exact w)⟩;have ck:wr.cell? ⟨G,k,none⟩=some (U x):=(K.cell (p:=⟨G,k,none⟩) (S G rfl)).trans (bC B k _ (ny c));obtain⟨fn,L,o,M,N,d⟩:=R.out (b.take k) x wr v (by rw [Hm];omega);have O:=H (show b.take (k+1)=b.take k++[x] by rw [F_,c];rfl);have y:=H d;clear d c v;gi_wp2;refine y.mono ?_;rintro e P (⟨rfl,d,j⟩|⟨rfl,c⟩)
   ·have z:=H (show a (b.take (k+1)) P by rw [O.out];exact d);have V:=H (K.trans j);clear d j N;gi_wp2;go_roundw;(case rel=>exact ⟨k+1,Z,aY,z,V⟩);case measure=>simp [intOf];omega
   have z:=H (show t (b.take (k+1)) P by rw [O.out];exact c);clear c N;gi_wp2;refine GX (Ir rfl _ _ _) rfl ?_;exact⟨⟨_,rfl⟩,.inr ⟨_,List.take_prefix _ _,z⟩⟩
  obtain rfl:n=k:=Z;have c:=H (show b.take n=b by rw [<-F.out,G9]);gi_wp2;go_end0;exact⟨⟨_,rfl⟩,.inl ⟨b,rfl,by rw [<-c.out];exact v⟩⟩
theorem kH (X:Nat) (q:Option Addr) (r i:Nat) (f:List Nat) (w:World) (b:w.heap[X]?=some (.cells #[.slice q f.length r] 34)) (a:w.ownsRow i 23 1 (.slice q f.length r) f.length (Us f)) (O:f.length<=1000) :
  CallsIn Fence.wide 5 prog 156 #[C,.func (.func 120) #[] #[J X 0]] w λe G=>∃ v,e=.returned v/\G.ownsRow w.heap.size 23 1 v f.length (Us f)/\D w G:=by
 obtain⟨P,Q,t,u,y⟩:=G0 iY;have L:=H b;have R:=H a;have T:=H (show ∀ g,(Value.slice q f.length r).ownBlock=some g->g<w.heap.size from λg d=>by obtain ⟨_,c,z⟩:=aF a d;exact ag z);clear b a;refine callsIn_of_wp_marks func156 rfl trivial ?_ rfl;simp only [ntmps156,FX,FN,F1,Nat.reduceAdd,Nat.reduceSub,FP,FO,FY,Iv,FV,F5];gi_wp2;have V:=Boxed.new w 34 (C);have g:D w (w.alloc (.cells #[C] 34)):=(Fu _ w).alloc (Fv _) _;refine wpIn_rangeFunc_ownG rfl Z (gf:=120) (lb:=#[J X 0]) rfl trivial (enters_of func120 E rfl)
  (encs:=λx:Nat=>#[U x]) (Kp:=Below w.heap.size) (S:=λM=>M=f) (Sp:=λb=>b <+: f) (N:=f.length) (w0:=w.alloc (.cells #[C] 34))
  (λl a e W d j j j k=>zI l X w.heap.size 4 Z q r i f a e W j ((d.cell (p:=⟨X,0,none⟩) (by have:=ag L.out;simp;omega)).trans (by rw [GT _ _ _ _ _ _ (ae L.out g)];rfl)) (ax (ax R g) (d)) T O k)
  belowK_t (belowK_b bH) (Fu _ _) (λ_=>rfl)
  (λb W=>(∃ v,Boxed W w.heap.size 34 v/\W.ownsRow w.heap.size 23 1 v b.length (Us b)/\True)/\D w W)
  (λ_ _ _=>False)
  (OwnFrom.and (Own.from (holdsRow_own w.heap.size w.heap.size 34 23 1 (λb:List Nat=>b.length) (λb=>Us b) (λb v=>True)) _) (ownFrom_below (Fv _) bH))
  (λ_ _ _ _ _ a _ _=>a)
  ⟨⟨_,V,World.ownsRow_nil _ _ _ _,trivial⟩,g⟩
  (λx=>{ tmps:=#[C,.func (.func 120) #[] #[J X 0],J w.heap.size 0,undef,C,U x,.func (.func 120) #[] #[J X 0],U x,undef,undef,undef,undef,undef],defers:=[] }) ?assign ?body ?done ?stop
 case assign =>
  intro l x W K k;gi_wp2;exact k
 case body =>
  rintro l b x W ⟨⟨v,s,d,_⟩,m⟩ Y;have z:=s.cell;have a0:=m.size
  gi_wp2_with (gi_at_builtin;refine wpListIn_append_own _ rfl _ _ 34 rfl w.heap.size 23 P (U 0) 1 8 underlying34 Q t u y rfl ar _ _ _ rfl (d.alloc _) ⟨W.heap.size,0,none⟩ 1 1 [U x] rfl rfl (cell_one_new _ _ _) mL (by unfold maxLen;omega) Z bG ?_;intro v' w1 a j _;obtain ⟨g',K,rfl⟩:=ownsRow_succ a;obtain ⟨n,A,B,F,o⟩:=s.appended ar d m.size (Fv _) a j;have a1:=n.cell;have a2:=n.frozen)
  exact⟨F.from _,o,⟨_,A,by simpa [Us] using B,trivial⟩,m.trans o⟩
 case done =>
  rintro a M W j rfl ⟨⟨v,s,d,_⟩,m⟩ k;have z:=s.cell;gi_wp2;refine⟨bH,.inl ⟨_,_,rfl,run_takeDeferred k,?_⟩⟩;exact⟨_,results_tmp rfl _ _ _,v,rfl,ownsRow_putObj d _ k rfl,m.trans (belowK_b (w:=w) (Fv _) W a _ _ (by simp at j;omega) k rfl rfl)⟩
 case stop =>
  rintro a c b W _ _ h _;exact h.elim
end
end Go.Proofs.YtdngbppdomoenaaGreatDoor
