import Derived.Shelf.SlSortCmp.WholeK
import Derived.Shelf.Slices.In.SortNone
import Derived.Shelf.Sort.Plain
import Derived.Sort.OwnSortedInts
import Derived.Test.YtdfodlhkdmkfdaaGreatDoorN38
set_option linter.unusedVariables false
set_option linter.unusedSimpArgs false
set_option maxRecDepth 20000
set_option maxHeartbeats 8000000
namespace Go.Proofs
shelf_lay Lays.n189 Nm 189 at Tryz as Tryz.lays189
end Go.Proofs
namespace Go.Proofs.YtdfodlhkdmkfdaaGreatDoor
open Go.Proofs.Tryz
section
open Go.ChangeShapes Go.WideShapes Go.ChangeAt Go.RowKit Go.Maps Go.Shelf
theorem Hn:Du:=by
 intro v a W f h i;rcases h.2 with ⟨rfl,j⟩|⟨g,b,c,rfl,k,d,l,m,o,p⟩;·have n:a=[]:=KD (by simpa using j);subst n;refine (Any.slices_Sort_int_none Tryz.lays189 none 0 W).mono ?_;rintro e q ⟨rfl,rfl⟩;exact⟨rfl,by simpa [Ns] using h,⟨rfl,rfl,rfl,Jo _,λ_ _ _=>rfl⟩⟩
 have r:c.toList.take a.length=a.map (Value.int .i64):=by simpa [Ns] using p
 refine (Any.slices_Sort_int Tryz.lays189 g 0 b a W (holds_of_blockI d r) (ah d) Z).mono ?_;rintro e q ⟨rfl,n,s,rfl⟩;exact⟨rfl,ownsRow_sortedI (List.length_mergeSort a) k d l m o,grownBy_sortedI _⟩
theorem zD (a:Du) (S M) (nn:Nat) (bud f m w) (h:Im S M 0 nn bud f w) (b:Pg f m w) :
  Calls prog 62 #[J S 0] w λe w'=>∃ v o,e=.returned (.tuple #[I (bz f 0 4096:Nat),v])/\w'.ownsRow w.heap.size 3 1 v o.length (Ns .i64 (o.mergeSort λx y=>decide (x<=y)))/\Met m (λ_=>false) o/\D w w':=by
 obtain⟨i0,a2,a3,a4,a5⟩:=zr Tryz.info3Op;have HI:=H h;have HP:=H b;have a6:=H a;clear h b a;go_enter_defers func62,ntmps62;go_wp2_with fail;refine (gy HI).mono ?_;rintro e V ⟨rfl,j⟩;have IV:=H (j▸HI.st 1);have PV:=H (show Pg f m V by rw [j];exact HP.other (λk b T=>t4 _ _ _ _ (HP.apart HI T).1));have P:=H (show Fr S M f f w V by rw [j];exact (Fr.refl S M f w).grownS (au (ao w S) 0 _));obtain⟨a,d,a7,s,i,g⟩:=IV.only;have HD:=H (LG s (LG i g));have cM:V.cell? ⟨S,4,none⟩=some (.map (some M)):=by simp [World.cell?,IV.box]
 have b4:bz f 0 4096<=4096:=eI f 0 4096;have a8:=H j;clear j s i g;go_wp2_with (at_range;refine wpList_range_own _ rfl _ 165 rfl 3 203 iw underlying165 eN M 4096 a rfl d ?_;intro w0 i j l)
 go_frame
 have MV:=H (show M<V.heap.size by obtain ⟨n,g,T,_⟩:=d;exact ah T);have B0:=H ((Jn V.heap.size V).grown j (Jo _) bh);have L:=H i;have SZ:=H (show V.heap.size+1<=w0.heap.size by omega);have M0:=H (show Met m (has a) [] from ⟨List.nodup_nil,λz=>by
  constructor;·intro g;cases g
  rintro⟨k,rfl,h1,h2,h3⟩;obtain⟨g,Q⟩:=kF PV h2;rw [HD.2.1 k Z,Q] at h3;cases h3⟩)
 obtain⟨r,n⟩:∃ r,r=V.heap.size:=⟨_,rfl⟩;rw [<-n] at L SZ ⊢;have q:=H n;clear i j l d n;go_loopw [4] (λv wr=>∃ (left:Lit->Bool) (F:Nat) (o:List Int),o.length+F<=bz f 0 4096/\Hid (wr.ranges prog 3 eN M r 4096 a left F)/\Hid (wr.ownsRow (r+1) 3 1 v o.length (Ns .i64 o))/\Hid (Met m left o)/\Hid (D V wr)) (λ_ wr=>wr.rangeLeft M r);case atStart=>exact ⟨_,_,[],by simp [a7],L,H ⟨rfl,.inl ⟨rfl,rfl⟩⟩,M0,B0⟩
 case round =>
  obtain⟨left,F,o,b5,A,d,n,i⟩:=hrel;clear L M0 B0;go_wp2_with (at_next;refine wpList_next_ranges _ rfl _ rfl 3 iw eN (Value.int .i64) H_ (λj kl hk=>by obtain ⟨x,rfl,_⟩:=Maps.keyOf_int_inv underlying3 hk;exact⟨x,rfl⟩) (λv y N=>by exact (iJ N).elim (λ⟨b,e,_⟩=>⟨some b,e⟩) (λ⟨e,_⟩=>⟨none,e⟩)) M r 4096 a left F rfl A ?_ ?_)
  ·intro G j;have X:=H (show Met m (λ_=>false) o from ⟨n.1,λz=>by rw [n.2 z];simp [j]⟩);have B:=a6.out _ o wr (r+1) d Z;obtain⟨vp,vl,vc,rfl⟩:∃ p l c,u4=.slice p l c:=by
    rcases d.2 with ⟨rfl,_⟩|⟨g,Y,a0,rfl,_⟩;·exact⟨_,_,_,rfl⟩
    exact⟨_,_,_,rfl⟩
   have p:=db d.out;have R:=H B;have W:=H p;clear B p G j A n;go_wp2_with fail;refine (R).mono ?_;rintro e O ⟨rfl,B,G⟩;have j:=H (i.grown G i.size (λg e=>by have:=W.out g e;have:=q.out;omega));have K:=H (IV.grown (W':=O) ⟨j.os,j.tape,j.output,j.size,λk h _=>j.block k h⟩);have H5:=H B;have c4:O.cell? ⟨S,4,none⟩=some (.map (some M)):=(by simp [World.cell?,K.box]);clear B G i d R;go_wp2_with (at_len;refine oK _ rfl _ rfl K rfl ?_);refine Lb (f:=118) (args:=#[J S 0]) bh (by simp [go_sem]) ?_;refine (Go.MuLone.unlock_deferred jS ⟨S,0,none⟩ .returning _ (by simp [World.cell?,K.box]) (by simp [World.frozen?,K.box])).mono ?_;rintro e u' a1 ⟨rfl,rfl,rfl⟩;have a9:S<r+1:=(by have:=q.out;have:=ah IV.box;omega);have B:=au (ao O S) 0 (.int .i32 0);have R:=(K.st 0).box;refine⟨_,results_tmp2 (t:=2) (u:=3) dC _ _ _,_,o,rfl,cv (H5.kept B (.inr λe=>by have:=W.out _ e;omega)) ?_,X,⟨B.os.trans (j.os.trans P.os),B.tape.trans (j.tape.trans P.tape),B.output.trans (j.output.trans P.output),Jp (Jp P.size j.size) B.size,λk hk=>?_⟩⟩;·have:=q.out;have:=P.size;omega
   by_cases e:k=S;·subst e;rw [R,HI.box]
   have G:k<V.heap.size:=Ju hk P.size;rw [B.block k (Ju G j.size) (by simpa using e),j.block k G,a8.out,t4 _ _ _ _ e]
  intro x c kl yd yp w2 G K W N s B X O Y a0;obtain⟨x',ex,rfl,_⟩:=Maps.keyOf_int_inv underlying3 K;cases ex;obtain⟨k,rfl,a9,a1⟩:=HD.2.2 _ (has_true_of_atKey s);obtain⟨g,Q⟩:=Option.isSome_iff_exists.1 a1;have R:=s .nil;rw [HD.1 k Z,Q] at R;obtain rfl:c=some g:=by
   cases c with
   | none=>simp [H_,eN] at N;rw [<-N.1] at R;simp [tz] at R
   | some b =>
    simp [H_,eN] at N;rw [<-N.1] at R;simp [tz] at R;have:b=g:=Z;rw [this]
  obtain⟨l,xs,hm,b0,T⟩:=PV.cell Q;have B2:=H (i.grown O i.size (λj e=>by cases e;have:=q.out;omega));have cl:w2.cell? ⟨g,1024,none⟩=some (.bool l):=ol B2 (PV.lockCell Q hm).1;have R2:=H (d.kept O (.inr λe=>by have:=db d _ e;omega));have G2:=H B;have ST:=H (n.step a9 W);have LE:=H (LG B.left_eq A.left_eq);have S2:=H Y;have b6:=A.lt;unfold H_ at a0 ⊢;simp only [DC] at a0 ⊢;have ho:isOpen (m k) = !l:=by rw [hm];rfl
  clear K W N s B O Y a1 Q R T b0 d n i A;cases l with
  | true =>
   go_wp2;go_roundw;(case rel=>exact ⟨_,G,o,Z,G2,R2,ST.2 (by rw [ho];rfl),B2⟩);case measure=>rw [LE.1,LE.2];exact X
  | false =>
   have A:=H (R2.alloc (.cells #[I (k:Int)] 3));have B:=H (B2.alloc B2.size (.cells #[I (k:Int)] 3));go_wp2_with (at_builtin;refine Kt _ rfl _ _ 23 rfl (r+1) 3 i0 (I 0) 1 8 underlying23 a2 a3 a4 a5 rfl Z _ _ _ rfl A _ 1 1 [I (k:Int)] rfl rfl ?hc ?h1c ?b1 ?b2 ?b3 ?_);(case hc=>exact fK _ _ _ _ bh);(case h1c=>intro u K;simp at K;subst K;rfl);(case b1=>unfold maxLen;omega);(case b2=>omega);(case b3=>have:=S2.out;have:=q.out;simp;omega);intro R W i d _;have p:=db A.out;have O:=H ((G2.alloc (.cells #[I (k:Int)] 3)).kept d (λe=>by have:=p _ e.symm;have:=MV.out;have:=q.out;omega) (λe=>by have:=p _ e.symm;omega));have Y:=H (B.grown d B.size (λj e=>by have:=p _ e;have:=q.out;omega));have O3:=H (show W.ownsRow (r+1) 3 1 R (o++[(k:Int)]).length (Ns .i64 (o++[(k:Int)])) by rw [Jv];simpa [Ns] using i);have n:=H O.left_eq;clear i d p;go_wp2;go_roundw;(case rel=>exact ⟨_,G,o++[(k:Int)],by rw [Jv];simp;omega,O,O3,ST.1 (by rw [ho];rfl),Y⟩);case measure=>rw [n.out,LE.2];exact X
theorem rb (S M bud f m w) (h:Im S M 0 283 bud f w) (j:Pg f m w) (a:∀ k,283<=k->m k=none) :
  Calls prog 62 #[J S 0] w λe b=>∃ v,e=.returned (.tuple #[I (bz f 0 4096:Nat),v])/\b.ownsRow w.heap.size 3 1 v (aV m 283).length (Ns .i64 (aV m 283))/\D w b:=by
 refine (zD Hn S M 283 bud f m w h j).mono ?_;rintro e b ⟨v,c,rfl,d,g,l⟩;have i:(c.mergeSort λx y=>decide (x<=y))=aV m 283:=ud m 283 c g.1 (λz=>by
  rw [g.2 z];constructor
  ·rintro⟨k,rfl,h1,h2,_⟩;refine⟨k,rfl,?_,h2⟩;by_cases n:k<283;·exact n
   rw [a k Z] at h2;simp [isOpen] at h2
  rintro⟨k,rfl,h1,h2⟩;exact⟨k,rfl,Z,h2,rfl⟩)
 have k:c.length=(aV m 283).length:=by rw [<-i,List.length_mergeSort]
 rw [i,k] at d;exact⟨v,rfl,d,l⟩
end
section
open Go.RowKit Go.Maps
theorem Fu (w:World):(binOp .eql 33 (C) (C)).run prog w=.ok (.bool true) w:=E
theorem E6 (x:Addr) (n c:Nat) (w:World):(binOp .eql 33 (.slice (some x) n c) (C)).run prog w=.ok (.bool false) w:=E
theorem qG (W:World):Calls prog 66 #[C] W λe a=>e=.returned (C)/\a=W:=by
 have b:=Fu;go_enter func66,ntmps66;go_wp2;go_ret;exact⟨rfl,rfl⟩
theorem sq (x:Addr) (c:Nat) (l) (W:World) (f:∀ j u,(Us l)[j]?=some u->W.cell? (x.add j)=some u) (o:l.length<=100000) :
  Calls prog 66 #[.slice (some x) l.length c] W λe g=>∃ v,e=.returned v/\g.ownsRow W.heap.size 22 1 v l.length (Us l)/\D W g:=by
 have b:D W (W.alloc (.cells #[] 22)):=(Jn _ _).alloc (Jo _) _;obtain⟨p,a,d,i,k⟩:=kg (W.alloc (.cells #[] 22)) W.heap.size (Vl W.heap.size 0 0) [] l x c ⟨rfl,.inr ⟨W.heap.size,0,#[],rfl,Jo _,av W _,Jo _,Jt _,rfl,rfl⟩⟩ (λj u a=>ol b (f j u a)) (by simpa using o) b.size;have m:=H (LG i (b.grown k b.size (λr a=>by simp [Value.ownBlock] at a;omega)));clear i k b f;generalize b:l.length=n at *;have f:=E6 x n c;go_enter func66,ntmps66;go_wp2_with (at_builtin;refine dh rfl _ _ rfl rfl rfl rfl d ?_);go_wp2;go_ret;exact⟨_,rfl,by simpa [b] using m.1,m.2⟩
theorem yS (B v l W) (h:Um B W v l) (i:l.length<=100000) :
  Calls prog 66 #[v] W λe b=>∃ a,e=.returned a/\b.ownsRow W.heap.size 22 1 a l.length (Us l)/\D W b:=by
 rcases h with ⟨rfl,rfl⟩|⟨g,o,d,c,rfl,n,k,p,q,m⟩;·refine (qG W).mono ?_;rintro e b ⟨rfl,rfl⟩;exact⟨_,rfl,⟨rfl,.inl ⟨rfl,rfl⟩⟩,Jn _ _⟩
 refine sq ⟨g,o,none⟩ d l W (λj u f=>?_) i;have a:j<l.length:=by have:=(Jr.1 f).1;simpa [gt] using this
 rw [Addr.add_mid,t6 _ _ _ _ _ _ k,m.2.2 j a,<-f];simp [Us,a]
theorem rT (x:Nat) (W:World):Calls prog 180 #[.int .u64 (x:Nat)] W λe a=>e=.returned (.bool false)/\a=W:=by
 go_enter func180,ntmps180;go_wp2;go_ret;exact⟨rfl,rfl⟩
def aQ (x y:Nat):Bool:=decide (x<y)
theorem zq:Sort.SWO aQ where
 irrefl x:=by simp [aQ]
 trans x y z h1 h2:=by simp [aQ] at *;omega
 ntrans x y z h1 h2:=by simp [aQ] at *;omega
structure Au (G N c:Nat) (V0:World) (d:Array Nat) (V:World):Prop where
 sz:d.size=N
 row:V.ownsRow G 22 1 (Vl G N c) N (Us d.toList)
 bel:Below G V0 V
variable {G N c:Nat} {V0 V:World} {d:Array Nat}
theorem Au.lt (h:Au G N c V0 d V):G<V.heap.size:=by
 rcases h.row.2 with ⟨e,_⟩|⟨g,a,b,e,i,f,_⟩;·cases e
 cases e;exact ah f
theorem Au.cell (h:Au G N c V0 d V) {i:Nat} (hi:i<N):V.cell? ⟨G,i,none⟩=some (U ((d[i]! : Nat):Int)):=by
 refine be h.row i _ (oP ?_);have:i<d.size:=by rw [h.sz];exact hi
 rw [J_,IS this,getElem!_pos d i this]
theorem Au.fz (h:Au G N c V0 d V) (i:Nat):V.frozen? ⟨G,i,none⟩=false:=qh h.row i
theorem Au.set (h:Au G N c V0 d V) {i:Nat} (hi:i<N) (x:Nat):Au G N c V0 (d.setIfInBounds i x) (V.setCell ⟨G,i,none⟩ (U x)):=by
 refine⟨by rw [Array.size_setIfInBounds,h.sz],?_,h.bel.setCell (Jo _) _⟩;have:=dZ h.row i (by rw [gt,Array.length_toList,h.sz];exact hi) (U x);rw [tZ] at this;rw [Array.toList_setIfInBounds];exact this
theorem Au.swap (h:Au G N c V0 d V) {i j:Nat} (hi:i<N) (a:j<N):Au G N c V0 (Sort.swp d i j) ((V.setCell ⟨G,i,none⟩ (U ((d[j]! : Nat):Int))).setCell ⟨G,j,none⟩ (U ((d[i]! : Nat):Int))):=(h.set hi _).set a _
theorem Au.below {V'} (h:Au G N c V0 d V) (b:D V V'):Au G N c V0 d V':=⟨h.sz,ay h.row b,h.bel.trans (b.mono (Nat.le_of_lt h.lt))⟩
theorem Au.drew (h:Au G N c V0 d V):Au G N c V0 d V.drew:=h.below (Jn _ _).drew
theorem Au.sw1 (h:Au G N c V0 d V) {i j:Nat} (hi:i<N) (a:j<N):∃ u,(V.setCell ⟨G,i,none⟩ (U ((d[j]! : Nat):Int))).cell? ⟨G,j,none⟩=some (U ((u:Nat):Int)):=⟨_,(h.set hi _).cell a⟩
theorem qf (x y:Nat) (W:World):Calls prog 237 #[U x,U y] W λe d=>e=.returned (.bool (aQ x y))/\d=W:=by
 have b:=H rT;unfold aQ;by_cases c:x<y
 ·have a:(x:Int)<(y:Int):=Z;rw [zB c];go_enter func237,ntmps237;go_wp2_with (refine (b _ _).mono ?_;rintro e f ⟨rfl,rfl⟩);go_ret;exact⟨rfl,rfl⟩
 have a:¬((x:Int)<(y:Int)):=Z;rw [t5 c];go_enter func237,ntmps237;go_wp2_with (refine (b _ _).mono ?_;rintro e f ⟨rfl,rfl⟩);go_ret;exact⟨rfl,rfl⟩
theorem Au.drewN (h:Au G N c V0 d V) (n:Nat):Au G N c V0 d (V.drewN n):=by
 exact h.below ⟨rfl,rfl,rfl,Jo _,λ_ _=>rfl⟩
theorem cJ {x y} (h:aQ x y=true) (W:World):Calls prog 237 #[U x,U y] W λe a=>e=.returned (.bool true)/\a=W:=by
 have:=qf x y W;rw [h] at this;exact this
theorem cO {x y} (h:aQ x y=false) (W:World):Calls prog 237 #[U x,U y] W λe a=>e=.returned (.bool false)/\a=W:=by
 have:=qf x y W;rw [h] at this;exact this
theorem E9 (G N c) (a b:Nat) (d V0 V) (A:Au G N c V0 d V) (X:b<=N) (Y:N<=100000) (ha:a<=N) :
  Calls prog 231 #[.slice (some ⟨G,0,none⟩) N c,.int .i64 a,.int .i64 b] V λe K=>e=.returned (.tuple #[])/\Au G N c V0 (Sort.insertionSort aQ d a b) K:=by
 have LS:=H qf;obtain⟨o,g⟩:∃ o,Sort.insertionSort aQ d a b=o:=⟨_,rfl⟩;rw [g];have p:=H (show Sort.insOuter aQ a b (a+1) d=o from g);have f:=H A;clear g A;go_enter func231,ntmps231;go_wp2_with fail;go_loopw [6] (λw wr=>∃ (i:Nat) (d:Array Nat),a+1<=i/\i<=N+1/\w=.int .i64 i/\Hid (Sort.insOuter aQ a b i d=o)/\Hid (Au G N c V0 d wr)) (λw _=>N+1-(intOf w).toNat);case atStart=>exact ⟨a+1,d,Jo _,Z,aR,p,f⟩
 case round =>
  clear p f;obtain⟨i,d,L,M,rfl,p,f⟩:=hrel;by_cases r:i<b
  ·have n:=H (show Sort.insOuter aQ a b (i+1) (Sort.insInner aQ a i d)=o by have:=p.out;rw [Sort.insOuter,tm r] at this;exact this);obtain⟨m,g⟩:∃ m,Sort.insInner aQ a i d=m:=⟨_,rfl⟩;rw [g] at n;have s:=H g;clear g p;go_wp2_with fail;go_loopw [7] (λx wr=>∃ (j:Nat) (d:Array Nat),a<=j/\j<=i/\x=.int .i64 j/\Hid (Sort.insInner aQ a j d=m)/\Hid (Au G N c V0 d wr)) (λx _=>(intOf x).toNat);(case atStart=>exact ⟨i,d,Z,Jo _,rfl,s,f⟩);case round =>
    clear s f;obtain⟨j,d,O,P,rfl,s,f⟩:=hrel;by_cases y:a<j
    ·obtain⟨k,g⟩:∃ k,j=k+1:=⟨j-1,Z⟩;have A:=H g;have u:=f.cell (show j<N by omega);have v:=f.cell (show k<N by omega);have z:(a:Int)<(j:Int):=Z;have Q:(j:Int)-1=(k:Int):=Z;have R:(j:Int)<(N:Int):=Z;have S:(k:Int)<(N:Int):=Z;have t:=H (show Sort.insInner aQ a (k+1) d=m by rw [<-g];exact s);clear g;by_cases q : aQ d[j]! d[k]! = true
     ·(go_upto_region 4 with fail);go_quiet (first|(go_at_call 237;exact t8 (cJ q _)));have l:=H (f.drewN nq);clear f u v;generalize wr.drewN nq=B at l ⊢;have u:=l.cell (show j<N by omega);have v:=l.cell (show k<N by omega);have f1:=l.fz j;obtain⟨u9,T⟩:=l.sw1 (show j<N by omega) (show k<N by omega);have f0:=(l.set (show j<N by omega) d[k]!).fz k;have F:=H (l.swap (show j<N by omega) (show k<N by omega));clear l;(go_upto_region 6 with fail);go_region;have W:=H F.drew;have g:=H (show Sort.insInner aQ a k (Sort.swp d j k)=m by
       have:=t.out;rw [Sort.insInner,<-A.out,tm (by simp only [q,Bool.and_true,EN];exact y)] at this;exact this)
      clear F u v f1 T f0;go_wp2;go_roundw;(case rel=>exact ⟨k,_,Z,Z,aR,g,W⟩);case measure=>simp [intOf];omega
     ·have q : aQ d[j]! d[k]! = false := (by simpa using q);(go_upto_region 4 with fail);go_quiet (first|(go_at_call 237;exact t8 (cO q _)));have l:=H (f.drewN nq);have g:=H (show d=m by
       have:=t.out;rw [Sort.insInner,<-A.out,tg (by simp [q])] at this;exact this)
      clear f u v;generalize wr.drewN nq=B at l ⊢;go_wp2;go_roundw;(case rel=>exact ⟨i+1,m,Z,Z,aR,n,H (by rw [<-g.out];exact l)⟩);case measure=>simp [intOf];omega
    ·have z:decide ((a:Int)<(j:Int))=false:=t5 Z;have g:=H (show d=m by
       have:=s.out;cases j with
       | zero=>exact this
       | succ k=>rw [Sort.insInner,tg cd] at this;exact this)
     (go_upto_region 4 with fail);go_quiet (fail);have l:=H (f.drewN nq);clear f;generalize wr.drewN nq=B at l ⊢;go_wp2;go_roundw;(case rel=>exact ⟨i+1,m,Z,Z,aR,n,H (by rw [<-g.out];exact l)⟩);case measure=>simp [intOf];omega
  ·have g:=H (show d=o by have:=p.out;rw [Sort.insOuter,tg r] at this;exact this);have j:¬((i:Int)<(b:Int)):=Z;go_wp2;go_end0;exact⟨rfl,by rw [<-g.out];exact f⟩
section
variable {lt : Nat->Nat->Bool} {hi f r : Nat} {d : Array Nat}
theorem yx (h:2*r+1≥hi):Sort.siftDown lt hi f r d=d:=by rw [Sort.siftDown,dif_pos h]
theorem Eh (h : ¬ 2*r+1 ≥ hi) (b : 2*r+2<hi) (c : lt d[f+(2*r+1)]! d[f+(2*r+2)]! = true) (e : lt d[f+r]! d[f+(2*r+2)]! = true) : Sort.siftDown lt hi f r d=Sort.siftDown lt hi f (2*r+2) (Sort.swp d (f+r) (f+(2*r+2))) := by
 have a : lt d[f+(2*r+1)]! d[f+(2*r+1)+1]! = true := c;rw [Sort.siftDown,dif_neg h,tm (by simp [a];omega),tg (by simp [e]),dif_pos b]
theorem BF (h : ¬ 2*r+1 ≥ hi) (e : 2*r+2<hi) (b : lt d[f+(2*r+1)]! d[f+(2*r+2)]! = true) (c : lt d[f+r]! d[f+(2*r+2)]! = false) : Sort.siftDown lt hi f r d=d := by
 have a : lt d[f+(2*r+1)]! d[f+(2*r+1)+1]! = true := b;rw [Sort.siftDown,dif_neg h,tm (by simp [a];omega),tm (by simp [c])]
theorem yA (h : ¬ 2*r+1 ≥ hi) (b : 2*r+2<hi->lt d[f+(2*r+1)]! d[f+(2*r+2)]! = false) (c : lt d[f+r]! d[f+(2*r+1)]! = true) : Sort.siftDown lt hi f r d=Sort.siftDown lt hi f (2*r+1) (Sort.swp d (f+r) (f+(2*r+1))) := by
 have a : 2*r+1+1<hi->lt d[f+(2*r+1)]! d[f+(2*r+1)+1]! = false := b;rw [Sort.siftDown,dif_neg h,tg (by simp only [JY,EN,not_and];intro e;rw [a e];simp),tg (by simp [c])]
theorem wF (h : ¬ 2*r+1 ≥ hi) (b : 2*r+2<hi->lt d[f+(2*r+1)]! d[f+(2*r+2)]! = false) (c : lt d[f+r]! d[f+(2*r+1)]! = false) : Sort.siftDown lt hi f r d=d := by
 have a : 2*r+1+1<hi->lt d[f+(2*r+1)]! d[f+(2*r+1)+1]! = false := b;rw [Sort.siftDown,dif_neg h,tg (by simp only [JY,EN,not_and];intro e;rw [a e];simp),tm (by simp [c])]
end
theorem wx (G N c) (B hi f:Nat) (d V0 V) (A:Au G N c V0 d V) (hb:f+hi<=N) (hN:N<=100000) (S:B<=N) :
  Calls prog 260 #[.slice (some ⟨G,0,none⟩) N c,.int .i64 B,.int .i64 hi,.int .i64 f] V λe Y=>e=.returned (.tuple #[])/\Au G N c V0 (Sort.siftDown aQ hi f B d) Y:=by
 obtain⟨w,a⟩:∃ w,Sort.siftDown aQ hi f B d=w:=⟨_,rfl⟩;rw [a];have n:=H a;have m:=H A;clear a A;go_enter func260,ntmps260;go_wp2_with fail;go_loopw [8] (λT wr=>∃ (r:Nat) (d:Array Nat),r<=N/\T=.int .i64 r/\Hid (Sort.siftDown aQ hi f r d=w)/\Hid (Au G N c V0 d wr)) (λT _=>N+1-(intOf T).toNat);case atStart=>exact ⟨B,d,S,rfl,n,m⟩
 case round =>
  clear n m;obtain⟨r,d,hr,rfl,n,m⟩:=hrel;obtain⟨k,o⟩:∃ k,k=2*r+1:=⟨_,rfl⟩;have W:(2:Int)*(r:Int)+1=(k:Int):=Z;by_cases A:k≥hi
  ·have he:(hi:Int)<=(k:Int):=Z;have a:=H (show d=w by have:=n.out;rw [yx Z] at this;exact this);clear n o A;go_wp2;go_end0;exact⟨rfl,by rw [<-a.out];exact m⟩
  ·have he:¬((hi:Int)<=(k:Int)):=Z;obtain⟨p,P⟩:∃ p,p=f+k:=⟨_,rfl⟩;obtain⟨q,Q⟩:∃ q,q=f+k+1:=⟨_,rfl⟩;obtain⟨s,R⟩:∃ s,s=f+r:=⟨_,rfl⟩;obtain⟨i,l⟩:∃ i,i=k+1:=⟨_,rfl⟩;have a0:(f:Int)+(k:Int)=(p:Int):=Z;have a1:(p:Int)+1=(q:Int):=Z;have a2:(f:Int)+(r:Int)=(s:Int):=Z;have X:(k:Int)+1=(i:Int):=Z;have a3:(f:Int)+(i:Int)=(q:Int):=Z;have a4:(p:Int)<(N:Int):=Z;have a5:(s:Int)<(N:Int):=Z;have j:=m.cell (show s<N by omega);have x:=m.cell (show p<N by omega);have t:=H (LG o (LG P (LG Q (LG R l))));by_cases a6:i<hi
   ·have F:(i:Int)<(hi:Int):=Z;have a7:(q:Int)<(N:Int):=Z;have u:=m.cell (show q<N by omega);by_cases z : aQ d[p]! d[q]! = true
    ·clear o P Q R l;(go_upto_region 3 with fail);go_quiet (first|(go_at_call 237;exact t8 (cJ z _)));have b:=H (m.drewN nq);clear m j x u;generalize wr.drewN nq=y at b ⊢;have j:=b.cell (show s<N by omega);have u:=b.cell (show q<N by omega);by_cases g : aQ d[s]! d[q]! = true
     ·(go_upto_region 5 with fail);go_quiet (first|(go_at_call 237;exact t8 (cJ g _)));have a:=H (b.drewN nq);clear b j u;generalize y.drewN nq=K at a ⊢;have j:=a.cell (show s<N by omega);have u:=a.cell (show q<N by omega);have f1:=a.fz s;obtain⟨u9,L⟩:=a.sw1 (show s<N by omega) (show q<N by omega);have f0:=(a.set (show s<N by omega) d[q]!).fz q;have M:=H (a.swap (show s<N by omega) (show q<N by omega)).drew;have v:=H (show Sort.siftDown aQ hi f i (Sort.swp d s q)=w by
       have:=n.out;obtain⟨rfl,rfl,rfl,rfl,rfl⟩:=t.out;rw [Eh Z Z z g] at this;exact this)
      clear a;(go_upto_region 6 with fail);go_region;clear j u f1 L f0;go_wp2;go_roundw;(case rel=>exact ⟨i,_,Z,aR,v,M⟩);case measure=>have:=t.out;simp [intOf];omega
     ·have g : aQ d[s]! d[q]! = false := (by simpa using g);have v:=H (show d=w by
       have:=n.out;obtain⟨rfl,rfl,rfl,rfl,rfl⟩:=t.out;rw [BF Z Z z g] at this;exact this)
      (go_upto_region 5 with fail);go_quiet (first|(go_at_call 237;exact t8 (cO g _)));have a:=H (b.drewN nq);clear b j u;generalize y.drewN nq=K at a ⊢;go_wp2
      first|go_end0|((try simp only [Exit.inBlock,Exit.then]);refine wA (KQ rfl _ _ _) rfl ?_)
      exact⟨rfl,by rw [<-v.out];exact a⟩
    ·have z : aQ d[p]! d[q]! = false := (by simpa using z);have O := H (show 2*r+2<hi->aQ d[f+(2*r+1)]! d[f+(2*r+2)]! = false from λ_ => by
      obtain⟨rfl,rfl,rfl,_⟩:=t.out;exact z)
     clear o P Q R l;(go_upto_region 3 with fail);go_quiet (first|(go_at_call 237;exact t8 (cO z _)));have b:=H (m.drewN nq);clear m j x u;generalize wr.drewN nq=y at b ⊢;have j:=b.cell (show s<N by omega);have x:=b.cell (show p<N by omega);by_cases g : aQ d[s]! d[p]! = true
     ·(go_upto_region 5 with fail);go_quiet (first|(go_at_call 237;exact t8 (cJ g _)));have a:=H (b.drewN nq);clear b j x;generalize y.drewN nq=K at a ⊢;have j:=a.cell (show s<N by omega);have u:=a.cell (show p<N by omega);have f1:=a.fz s;obtain⟨u9,L⟩:=a.sw1 (show s<N by omega) (show p<N by omega);have f0:=(a.set (show s<N by omega) d[p]!).fz p;have M:=H (a.swap (show s<N by omega) (show p<N by omega)).drew;have v:=H (show Sort.siftDown aQ hi f k (Sort.swp d s p)=w by
       have:=n.out;obtain⟨rfl,rfl,rfl,rfl,rfl⟩:=t.out;rw [yA Z O.out g] at this;exact this)
      clear a;(go_upto_region 6 with fail);go_region;clear j u f1 L f0;go_wp2;go_roundw;(case rel=>exact ⟨k,_,Z,aR,v,M⟩);case measure=>have:=t.out;simp [intOf];omega
     ·have g : aQ d[s]! d[p]! = false := (by simpa using g);have v:=H (show d=w by
       have:=n.out;obtain⟨rfl,rfl,rfl,rfl,rfl⟩:=t.out;rw [wF Z O.out g] at this;exact this)
      (go_upto_region 5 with fail);go_quiet (first|(go_at_call 237;exact t8 (cO g _)));have a:=H (b.drewN nq);clear b j x;generalize y.drewN nq=K at a ⊢;go_wp2
      first|go_end0|((try simp only [Exit.inBlock,Exit.then]);refine wA (KQ rfl _ _ _) rfl ?_)
      exact⟨rfl,by rw [<-v.out];exact a⟩
   ·have F:decide ((i:Int)<(hi:Int))=false:=t5 Z;have O := H (show 2*r+2<hi->aQ d[f+(2*r+1)]! d[f+(2*r+2)]! = false from λe => by
     obtain⟨rfl,rfl,rfl,_,rfl⟩:=t.out;omega)
    clear o P Q R l;(go_upto_region 3 with fail);go_quiet (fail);have b:=H (m.drewN nq);clear m j x;generalize wr.drewN nq=y at b ⊢;have j:=b.cell (show s<N by omega);have x:=b.cell (show p<N by omega);by_cases g : aQ d[s]! d[p]! = true
    ·(go_upto_region 5 with fail);go_quiet (first|(go_at_call 237;exact t8 (cJ g _)));have a:=H (b.drewN nq);clear b j x;generalize y.drewN nq=K at a ⊢;have j:=a.cell (show s<N by omega);have u:=a.cell (show p<N by omega);have f1:=a.fz s;obtain⟨u9,L⟩:=a.sw1 (show s<N by omega) (show p<N by omega);have f0:=(a.set (show s<N by omega) d[p]!).fz p;have M:=H (a.swap (show s<N by omega) (show p<N by omega)).drew;have v:=H (show Sort.siftDown aQ hi f k (Sort.swp d s p)=w by
      have:=n.out;obtain⟨rfl,rfl,rfl,rfl,rfl⟩:=t.out;rw [yA Z O.out g] at this;exact this)
     clear a;(go_upto_region 6 with fail);go_region;clear j u f1 L f0;go_wp2;go_roundw;(case rel=>exact ⟨k,_,Z,aR,v,M⟩);case measure=>have:=t.out;simp [intOf];omega
    ·have g : aQ d[s]! d[p]! = false := (by simpa using g);have v:=H (show d=w by
      have:=n.out;obtain⟨rfl,rfl,rfl,rfl,rfl⟩:=t.out;rw [wF Z O.out g] at this;exact this)
     (go_upto_region 5 with fail);go_quiet (first|(go_at_call 237;exact t8 (cO g _)));have a:=H (b.drewN nq);clear b j x;generalize y.drewN nq=K at a ⊢;go_wp2
     first|go_end0|((try simp only [Exit.inBlock,Exit.then]);refine wA (KQ rfl _ _ _) rfl ?_)
     exact⟨rfl,by rw [<-v.out];exact a⟩
theorem Bg (G N c) (a b:Nat) (d V0 V) (A:Au G N c V0 d V) (B:a<b) (X:b<=N) (y:N<=100000) :
  Calls prog 232 #[Vl G N c,I a,I b] V λe F=>e=.returned (.tuple #[])/\Au G N c V0 (Sort.heapSort aQ d a b) F:=by
 obtain⟨o,l⟩:∃ o,Sort.heapSort aQ d a b=o:=⟨_,rfl⟩;rw [l];obtain⟨hi,r⟩:∃ hi,b-a=hi:=⟨_,rfl⟩;have K:(b:Int)-(a:Int)=(hi:Int):=Z;obtain⟨m,k⟩:∃ m,m=(hi-1)/2:=⟨_,rfl⟩;obtain⟨i,j⟩:∃ i,Sort.heapBuild aQ hi a (m+1) d=i:=⟨_,rfl⟩;have q:=H (show Sort.heapPop aQ a hi i=o by rw [<-l,<-j,<-r,k,<-r];rfl);have g:=H j;have f:=H A;have Y:((hi:Int)-1).tdiv 2=(m:Int):=by
  rw [Kx Z];omega
 have v:m+1<=N:=Z;clear l A j k;go_enter func232,ntmps232;go_wp2_with fail;go_loopw [9] (λw wr=>∃ (k:Nat) (z:Int) (d:Array Nat),k<=N/\z=(k:Int)-1/\w=I z/\Hid (Sort.heapBuild aQ hi a k d=i)/\Hid (Au G N c V0 d wr)) (λw _=>(intOf w+1).toNat);case atStart=>exact ⟨m+1,m,d,v,Z,rfl,g,f⟩
 case round =>
  clear g f;obtain⟨k,z,d,L,s,rfl,g,f⟩:=hrel;cases k with
  | succ k =>
   obtain rfl:z=(k:Int):=Z;have M:(0:Int)<=(k:Int):=Z;have l:=H (show Sort.heapBuild aQ hi a k (Sort.siftDown aQ hi a k d)=i from g);clear g s;go_wp2_with fail;refine (wx G N c k hi a d V0 _ f Z y Z).mono ?_;rintro e O ⟨rfl,j⟩;have t:=H j;clear j f;go_wp2;go_roundw;(case rel=>exact ⟨k,(k:Int)-1,_,Z,rfl,aR,l,t⟩);case measure=>(simp [intOf];try omega)
  | zero =>
   have x:¬((0:Int)<=z):=Z;have u:=H (show d=i from g);have j:=H (show Au G N c V0 i wr by rw [<-u.out];exact f);clear g f u s;go_wp2_with fail;go_loopw [10] (λn wr=>∃ (k:Nat) (z:Int) (d:Array Nat),k<=hi/\z=(k:Int)-1/\n=I z/\Hid (Sort.heapPop aQ a k d=o)/\Hid (Au G N c V0 d wr)) (λn _=>(intOf n+1).toNat);(case atStart=>exact ⟨hi,(hi:Int)-1,i,Z,rfl,aR,q,j⟩);case round =>
    clear q j;obtain⟨k,z,d,L,s,rfl,q,f⟩:=hrel;cases k with
    | succ k =>
     obtain rfl:z=(k:Int):=Z;have M:(0:Int)<=(k:Int):=Z;obtain⟨p,A⟩:∃ p,p=a+k:=⟨_,rfl⟩;have P:(a:Int)+(k:Int)=(p:Int):=Z;have Q:(p:Int)<(N:Int):=Z;have R:(a:Int)<(N:Int):=Z;have l:=H (show Sort.heapPop aQ a k (Sort.siftDown aQ k a 0 (Sort.swp d a p))=o by rw [A];exact q);have S:=f.cell (show a<N by omega);have T:=f.cell (show p<N by omega);have f1:=f.fz a;obtain⟨u9,W⟩:=f.sw1 (show a<N by omega) (show p<N by omega);have f0:=(f.set (show a<N by omega) d[p]!).fz p;have t:=H (f.swap (show a<N by omega) (show p<N by omega)).drew;clear q s f A;(go_upto_region 10 with fail);go_region;clear S T f1 W f0;go_wp2_with fail;refine (wx G N c 0 k a _ V0 _ t Z y Z).mono ?_;rintro e O ⟨rfl,j⟩;have A:=H j;clear j t;go_wp2;go_roundw;(case rel=>exact ⟨k,(k:Int)-1,_,Z,rfl,aR,l,A⟩);case measure=>(simp [intOf];try omega)
    | zero =>
     have x:¬((0:Int)<=z):=Z;clear s;have u:=H (show d=o from q);go_wp2;go_end0;exact⟨rfl,by rw [<-u.out];exact f⟩
end
end Go.Proofs.YtdfodlhkdmkfdaaGreatDoor
