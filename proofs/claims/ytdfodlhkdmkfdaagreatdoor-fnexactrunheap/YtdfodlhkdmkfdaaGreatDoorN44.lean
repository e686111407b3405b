import Derived.Test.YtdfodlhkdmkfdaaGreatDoorN39
set_option linter.unusedVariables false
set_option linter.unusedSimpArgs false
set_option maxRecDepth 20000
set_option maxHeartbeats 8000000
namespace Go.Proofs
open Go.Shelf Go.RowKit Go.Lib Go.Sort
shelf_lay_g SlLaysF0.n6 Slsf 6 at Tryz 121 as Tryz.sortR
end Go.Proofs
namespace Go.Proofs.YtdfodlhkdmkfdaaGreatDoor
open Go.Proofs.Tryz
variable {V w:World} {N g:Nat} {d:Array Nat}
section
open Go.Shelf Go.RowKit Go.Lib Go.Sort
instance : Inhabited Rg9 := ⟨⟨0, 0, 0, 0, 0⟩⟩
def tT (x y : Rg9) : Int := Lib.compareInt (x.base : Nat) (y.base : Nat)
theorem Hz (x y:Rg9):ltOf tT x y=decide (x.base<y.base):=by
 unfold ltOf tT Lib.compareInt;by_cases a:x.base<y.base;·simp [a]
 ·by_cases b:y.base<x.base <;> simp [a,b]
theorem IF:SWO (ltOf tT) where
 irrefl x:=by rw [Hz];simp
 trans x y z h1 h2:=by rw [Hz] at *;simp at *;omega
 ntrans x y z h1 h2:=by rw [Hz] at *;simp at *;omega
set_option maxHeartbeats 1000000 in
set_option maxHeartbeats 1000000 in
theorem ul (x y:Nat) (W:World):Calls prog 123 #[.int .u64 (x:Nat),.int .u64 (y:Nat)] W λe a=>e=.returned (.int .i64 (Lib.compareInt (x:Nat) (y:Nat)))/\a=W:=by
 have b:=H rT;unfold Lib.compareInt;by_cases c:(x:Int)<(y:Int)
 ·rw [tm c];go_enter func123,ntmps123;go_wp2_with fail;refine (b _ _).mono ?_;rintro e a ⟨rfl,rfl⟩;go_wp2_with fail;refine (b _ _).mono ?_;rintro e a ⟨rfl,rfl⟩;go_wp2;go_ret;exact⟨rfl,rfl⟩
 ·rw [tg c];have f:decide ((x:Int)<(y:Int))=false:=t5 c;by_cases d:(y:Int)<(x:Int)
  ·rw [tm d];go_enter func123,ntmps123;go_wp2_with fail;refine (b _ _).mono ?_;rintro e a ⟨rfl,rfl⟩;go_wp2_with fail;refine (b _ _).mono ?_;rintro e a ⟨rfl,rfl⟩;go_wp2;go_ret;exact⟨rfl,rfl⟩
  ·rw [tg d];have g:decide ((y:Int)<(x:Int))=false:=t5 d;go_enter func123,ntmps123;go_wp2_with fail;refine (b _ _).mono ?_;rintro e a ⟨rfl,rfl⟩;go_wp2_with fail;refine (b _ _).mono ?_;rintro e a ⟨rfl,rfl⟩;go_wp2;go_ret;exact⟨rfl,rfl⟩
set_option maxHeartbeats 1000000 in
theorem BH (x y) (W:World):Calls prog 122 #[.agg (tC x).toArray,.agg (tC y).toArray] W λe b=>e=.returned (.int .i64 (tT x y))/\∃ q a,b=grow (W.drewN q) a:=by
 have a:=H (λV=>ul x.base y.base V);unfold tT;generalize Lib.compareInt (x.base:Nat) (y.base:Nat)=r at *;unfold tC;go_enter func122,ntmps122;go_wp2_with fail;refine (a _).mono ?_;rintro e c ⟨rfl,rfl⟩;go_wp2;go_ret;exact⟨rfl,0,_,by rw [alloc_eq_grow,alloc_eq_grow,grow_grow];rfl⟩
theorem zi (b c a:Nat) (w:World):CmpLays prog 122 #[] tC 5 tT b c a w :=
 λ_ _ _ _ x y=>BH x y _
theorem Fz {a:Array Value} {rs:List Rg9} (c:w.heap[g]?=some (.cells a 109)) (i:a.toList.take (rs.length*5)=dB rs):HoldsK tC 5 w g 0 rs.toArray:=by
 intro j k;have b:j<rs.length*5:=by simpa using k
 refine⟨?_,by simp [World.frozen?,c]⟩;have d:j/5<rs.length:=Z;have e:(dB rs)[j/5*5+j%5]?=(tC rs[j/5])[j%5]?:=eY tC 5 (λ_=>rfl) rs (j/5) _ (Jq d) (j%5) Z;rw [show j/5*5+j%5=j by omega,<-i,Ce b,J_] at e;rw [JQ,t6 _ _ _ _ _ _ c,e,id,get_flatK _ _ _ _ (by simpa using b)];have f:j%5<(tC rs[j/5]).length:=by show j%5<5;omega
 rw [Jq f];congr 1;rw [getElem!_pos rs.toArray (j/5) (by simpa using d)];simp [f]
theorem qZ {n:Nat} {f:Array Obj} {a:Array Value} {e:TypeId} {b:Nat×Nat} (d:Array Rg9) (c:w.heap[g]?=some (.cells a e b)) :
  (sortWorldK tC 5 w g 0 n d f).heap[g]?=some (.cells (putCells id 0 (flatK tC 5 d) a) e b):=by
 have i:g<w.heap.size:=(Array.getElem?_eq_some_iff.1 c).1;unfold sortWorldK putRowK;rw [heap_grow_old _ _ (by simpa using i)];simp [putRow,mapBlock,Sort.ahead,Jw,c,onCells]
theorem lO {n:Nat} {b:Array Obj} (d:Array Rg9):w.grownBy (sortWorldK tC 5 w g 0 n d b) (some g):=by
 unfold sortWorldK putRowK;refine⟨rfl,rfl,rfl,bh,λk c a=>?_⟩;rw [heap_grow_old _ _ (by simpa using c)];have:g≠k:=λe=>a (by rw [e])
 simp [putRow,mapBlock,Sort.ahead,Jw,this]
theorem pc:∀ rs:List Rg9,(dB rs).length=rs.length*5
 | []=>rfl
 | r::rs=>by
  have:=pc rs
  unfold dB at this ⊢
  rw [Kw,Jv,this]
  simp [tC]
  omega
theorem xf (a:Array Value) (rs:List Rg9) (h:rs.length*5<=a.size):(putCells id 0 (flatK tC 5 rs.toArray) a).toList.take (rs.length*5)=dB rs:=by
 have g:(dB rs).length=rs.length*5:=pc rs;apply GR;intro j;by_cases b:j<rs.length*5
 ·rw [Ce b,J_];have d:j/5<rs.length:=Z;have e:(dB rs)[j/5*5+j%5]?=(tC rs[j/5])[j%5]?:=eY tC 5 (λ_=>rfl) rs (j/5) _ (Jq d) (j%5) Z;rw [show j/5*5+j%5=j by omega] at e;rw [e];have f:j%5<(tC rs[j/5]).length:=by show j%5<5;omega
  rw [Jq f];have c:=get_flatK tC 5 rs.toArray j (by simpa using b);rw [getElem!_pos rs.toArray (j/5) (by simpa using d)] at c;simp only [List.getElem_toArray] at c;rw [getElem!_pos _ j (by simpa using b),getElem!_pos _ (j%5) f] at c;simp [putCells,b,show j<a.size by omega];exact c
 ·rw [List.getElem?_take_eq_none Z,JB Z]
theorem uM {d b:Array Rg9} (h:PermIn 0 d.size d b):b.toList.Perm d.toList:=by
 have a:=h.2.2;rw [<-h.1] at a;simp only [Array.extract_size] at a;rw [h.1] at a;simpa using a
end
section
open Go.RowKit Go.Maps
theorem Fp (G N c) (a b:Nat) (d V0 V) (A:Au G N c V0 d V) (q:a<b) (B:b<=N) (F:N<=100000) :
  Calls prog 235 #[Vl G N c,I a,I b] V λe r=>e=.returned (.tuple #[])/\Au G N c V0 (Sort.reverseRange d a b) r:=by
 obtain⟨g,i⟩:∃ g,Sort.reverseRange d a b=g:=⟨_,rfl⟩;rw [i];obtain⟨l,n⟩:∃ l,b-1=l:=⟨_,rfl⟩;have s:(b:Int)-1=(l:Int):=Z;have k:=H (show Sort.reverseLoop a l d=g by rw [<-n];exact i);have f:=H A;clear i A;go_enter func235,ntmps235;go_wp2_with fail;go_loopw [6,7] (λo b wr=>∃ (i j:Nat) (d:Array Nat),i<=N/\j<N/\o=I i/\b=I j/\Hid (Sort.reverseLoop i j d=g)/\Hid (Au G N c V0 d wr)) (λo _ _=>N+1-(intOf o).toNat);case atStart=>exact ⟨a,l,d,Z,Z,rfl,rfl,k,f⟩
 case round =>
  clear k f;obtain⟨i,j,d,A,K,rfl,rfl,k,f⟩:=hrel;by_cases m:i<j
  ·have t:(i:Int)<(j:Int):=Z;have u:(i:Int)<(N:Int):=Z;have v:(j:Int)<(N:Int):=Z;have p:=H (show Sort.reverseLoop (i+1) (j-1) (Sort.swp d i j)=g by have:=k.out;rw [Sort.reverseLoop,tm m] at this;exact this);have w:=f.cell (show i<N by omega);have x:=f.cell (show j<N by omega);have f1:=f.fz i;obtain⟨u9,y⟩:=f.sw1 (show i<N by omega) (show j<N by omega);have f0:=(f.set (show i<N by omega) d[j]!).fz j;have z:=H (f.swap (show i<N by omega) (show j<N by omega)).drew;clear k f;(go_upto_region 3 with fail);go_region;clear w x f1 y f0;go_wp2;go_roundw;(case rel=>exact ⟨i+1,j-1,_,Z,Z,aR,by congr 1;omega,p,z⟩);case measure=>(simp [intOf];try omega)
  have t:¬((i:Int)<(j:Int)):=Z;have p:=H (show d=g by have:=k.out;rw [Sort.reverseLoop,tg m] at this;exact this);go_wp2;go_end0;exact⟨rfl,by rw [<-p.out];exact f⟩
theorem Au.ky {G c V0 V' P} (h:Au G N c V0 d V) (k:Ky P V V') (a:¬P 22) (b:Below G V V'):Au G N c V0 d V':=⟨h.sz,ai h.row k a,h.bel.trans b⟩
theorem Au.box {G c} {S:Nat} {V0} (h:Au G N c V0 d V) {t:TypeId} {a:Array Value} (b:V.heap[S]?=some (.cells a t)) (f:t≠22) (i:G<S) (v:Value):Au G N c V0 d (V.setCell ⟨S,0,none⟩ v):=by
 have g:=au (ao V S) 0 v;exact h.ky (Ky.grown (S:=(· = t)) b rfl g) (λe=>f e.symm) ((Jn _ _).setCell (Nat.le_of_lt i) _)
theorem wE {S:Nat} {t:TypeId} {a:Value} (h:V.heap[S]?=some (.cells #[a] t)) (v:Value):(V.setCell ⟨S,0,none⟩ v).heap[S]?=some (.cells #[v] t):=by
 simp [World.setCell,Jw,h]
theorem kq (G N c) (a b S s:Nat) (d V0 V) (A:Au G N c V0 d V) (ha:a<N) (r:b<N) (y:N<=100000) (t:G<S) (l:V.heap[S]?=some (.cells #[.int .i64 (s:Nat)] 3)) (z:s<=100) :
  Calls prog 267 #[.slice (some ⟨G,0,none⟩) N c,.int .i64 a,.int .i64 b,.pointer (some ⟨S,0,none⟩)] V λe o=>e=.returned (.tuple #[.int .i64 ((Sort.order2 aQ d a b s).1:Nat),.int .i64 ((Sort.order2 aQ d a b s).2.1:Nat)])/\o.heap[S]?=some (.cells #[.int .i64 ((Sort.order2 aQ d a b s).2.2:Nat)] 3)/\Au G N c V0 d o:=by
 unfold Sort.order2;have u:(a:Int)<(N:Int):=Z;have v:(b:Int)<(N:Int):=Z;have p:=A.cell ha;have q:=A.cell r;by_cases f : aQ d[b]! d[a]! = true
 ·rw [tm f];simp only [];obtain⟨i,m⟩:∃ i,s+1=i:=⟨_,rfl⟩;rw [m];have j:=H A;have k:=H l;clear A l;go_enter func267,ntmps267;go_upto_region 1 with fail
  go_quiet (first|(go_at_call 237;exact t8 (cJ f _)));have g:=H (j.drewN nq);have S1:=H (show (V.drewN nq).heap[S]?=some (.cells #[.int .i64 (s:Nat)] 3) from k);clear j k p q;generalize V.drewN nq=n at g S1 ⊢;have B:n.cell? ⟨S,0,none⟩=some (.int .i64 (s:Nat)):=aM S1.out;have f1:n.frozen? ⟨S,0,none⟩=false:=by simp [World.frozen?,S1.out]
  have w:=H (g.box S1 al t (.int .i64 (i:Nat)));have S2:=H (wE S1 (.int .i64 (i:Nat)));have x:(s:Int)+1=(i:Int):=Z;clear g S1;go_wp2;refine wA (ad rfl _ _) rfl ?_;exact⟨rfl,S2,w⟩
 ·rw [tg f];have f : aQ d[b]! d[a]! = false := by simpa using f
  have j:=H A;have k:=H l;clear A l;go_enter func267,ntmps267;go_upto_region 1 with fail
  go_quiet (first|(go_at_call 237;exact t8 (cO f _)));have g:=H (j.drewN nq);have S1:=H (show (V.drewN nq).heap[S]?=some (.cells #[.int .i64 (s:Nat)] 3) from k);clear j k p q;generalize V.drewN nq=n at g S1 ⊢;go_wp2;refine wA (ad rfl _ _) rfl ?_;exact⟨rfl,S1,g⟩
theorem order2_lt {a b s:Nat} (ha:a<N) (f:b<N):(Sort.order2 aQ d a b s).1<N/\(Sort.order2 aQ d a b s).2.1<N:=by
 rcases Sort.order2_mem aQ d a b s with ⟨c,e⟩|⟨c,e⟩ <;> (rw [c,e];exact⟨by assumption,by assumption⟩)
theorem kw (G N cp) (a b e S s:Nat) (d V0 V) (A:Au G N cp V0 d V) (ha:a<N) (v:b<N) (w:e<N) (l:N<=100000) (m:G<S) (x:V.heap[S]?=some (.cells #[I s] 3)) (W:s<=90) :
  Calls prog 262 #[Vl G N cp,I a,I b,I e,J S 0] V λr y=>r=.returned (I ((Sort.median aQ d a b e s).1:Nat))/\y.heap[S]?=some (.cells #[I ((Sort.median aQ d a b e s).2:Nat)] 3)/\Au G N cp V0 d y:=by
 have n:=H (kq G N cp a b S s d V0 V A ha v l m x Z);have g:=order2_lt (d:=d) (s:=s) ha v;have z:=Sort.order2_count aQ d a b s;obtain⟨M,o⟩:∃ M,Sort.median aQ d a b e s=M:=⟨_,rfl⟩;rw [o];have c:Hid (((Sort.order2 aQ d (Sort.order2 aQ d a b s).1 (Sort.order2 aQ d (Sort.order2 aQ d a b s).2.1 e (Sort.order2 aQ d a b s).2.2).1 (Sort.order2 aQ d (Sort.order2 aQ d a b s).2.1 e (Sort.order2 aQ d a b s).2.2).2.2).2.1,(Sort.order2 aQ d (Sort.order2 aQ d a b s).1 (Sort.order2 aQ d (Sort.order2 aQ d a b s).2.1 e (Sort.order2 aQ d a b s).2.2).1 (Sort.order2 aQ d (Sort.order2 aQ d a b s).2.1 e (Sort.order2 aQ d a b s).2.2).2.2).2.2)=M):=o;generalize Sort.order2 aQ d a b s=O at n g z c;obtain⟨B,p,i⟩:=O;simp only [] at n g z c;have j:=order2_lt (d:=d) (s:=i) g.2 w;have F:=Sort.order2_count aQ d p e i;have q:=H (λf (t:Au G N cp V0 d f) (S9:f.heap[S]?=some (.cells #[I i] 3))=>kq G N cp p e S i d V0 f t g.2 w l m S9 Z);generalize Sort.order2 aQ d p e i=P at q j F c;obtain⟨K,X,k⟩:=P;simp only [] at q j F c;have L:=order2_lt (d:=d) (s:=k) g.1 j.1;have u:=H (λf (t:Au G N cp V0 d f) (S9:f.heap[S]?=some (.cells #[I k] 3))=>kq G N cp B K S k d V0 f t g.1 j.1 l m S9 Z);generalize Sort.order2 aQ d B K k=Q at u L c;obtain⟨Y,y3,s3⟩:=Q;simp only [] at u L c;obtain rfl:=c.out;clear A x o c;go_enter func262,ntmps262;go_wp2_with fail;refine (n).mono ?_;rintro r R ⟨rfl,S1,c⟩;have o:=H (LG c S1);clear c S1;go_wp2_with fail;refine (q R o.1 o.2).mono ?_;rintro r T ⟨rfl,S2,c⟩;have x:=H (LG c S2);clear c S2;go_wp2_with fail;refine (u T x.1 x.2).mono ?_;rintro r w3 ⟨rfl,S3,c⟩;have A:=H (LG c S3);clear c S3;go_wp2;go_ret;exact⟨rfl,A.2,A.1⟩
theorem kJ (G N cp) (a S s:Nat) (d V0 V) (A:Au G N cp V0 d V) (i:1<=a) (ha:a+1<N) (j:N<=100000) (k:G<S) (c:V.heap[S]?=some (.cells #[I s] 3)) (l:s<=90) :
  Calls prog 261 #[Vl G N cp,I a,J S 0] V λr e=>r=.returned (I ((Sort.medianAdjacent aQ d a s).1:Nat))/\e.heap[S]?=some (.cells #[I ((Sort.medianAdjacent aQ d a s).2:Nat)] 3)/\Au G N cp V0 d e:=by
 unfold Sort.medianAdjacent;have b:=H (kw G N cp (a-1) a (a+1) S s d V0 V A Z Z ha j k c l);generalize Sort.median aQ d (a-1) a (a+1) s=M at b;obtain⟨p,f⟩:∃ p,a-1=p:=⟨_,rfl⟩;obtain⟨q,g⟩:∃ q,a+1=q:=⟨_,rfl⟩;rw [f,g] at b;have m:(a:Int)-1=(p:Int):=Z;have n:(a:Int)+1=(q:Int):=Z;have o:q<=100000:=Z;clear A c f g;go_enter func261,ntmps261;go_wp2_with fail;refine (b).mono ?_;rintro r g ⟨rfl,S1,c⟩;have f:=H (LG c S1);clear c S1;go_wp2;go_ret;exact⟨rfl,f.2,f.1⟩
def Ht:Sort.Hint->Nat
 | .unknown=>0
 | .increasing=>1
 | .decreasing=>2
theorem yt (G N cp) (a b:Nat) (d V0 V) (A:Au G N cp V0 d V) (T:a+12<b) (hb:b<=N) (y:N<=100000) :
  Calls prog 234 #[Vl G N cp,I a,I b] V λr W=>r=.returned (.tuple #[I ((Sort.choosePivot aQ d a b).1:Nat),I ((Ht (Sort.choosePivot aQ d a b).2:Nat):Int)])/\Au G N cp V0 d W:=by
 obtain⟨l,f⟩:∃ l,b-a=l:=⟨_,rfl⟩;obtain⟨m,e⟩:∃ m,l/4=m:=⟨_,rfl⟩;obtain⟨i,n⟩:∃ i,a+m*1=i:=⟨_,rfl⟩;obtain⟨j,o⟩:∃ j,a+m*2=j:=⟨_,rfl⟩;obtain⟨k,t⟩:∃ k,a+m*3=k:=⟨_,rfl⟩;obtain⟨R,g⟩:∃ R:Nat×Nat,(if l≥50 then Sort.median aQ d (Sort.medianAdjacent aQ d i 0).1 (Sort.medianAdjacent aQ d j (Sort.medianAdjacent aQ d i 0).2).1 (Sort.medianAdjacent aQ d k (Sort.medianAdjacent aQ d j (Sort.medianAdjacent aQ d i 0).2).2).1 (Sort.medianAdjacent aQ d k (Sort.medianAdjacent aQ d j (Sort.medianAdjacent aQ d i 0).2).2).2 else Sort.median aQ d i j k 0)=R:=⟨_,rfl⟩;have u:Sort.choosePivot aQ d a b=(R.1,if R.2=0 then .increasing else if R.2=12 then .decreasing else .unknown):=by
  unfold Sort.choosePivot;simp only [f,e,n,o,t];rw [tm (show l≥8 by omega),g]
 rw [u];simp only [];obtain⟨p,c⟩:∃ p,Ht (if R.2=0 then Sort.Hint.increasing else if R.2=12 then .decreasing else .unknown)=p:=⟨_,rfl⟩;rw [c];have w:=H c;clear c;have X:(b:Int)-(a:Int)=(l:Int):=Z;have Y:(l:Int).tdiv 4=(m:Int):=by rw [Kx Z];omega
 have a0:(l:Int)/4=(m:Int):=Z;have a1:(a:Int)+(m:Int)=(i:Int):=Z;have a2:(a:Int)+(m:Int)*2=(j:Int):=Z;have a3:(a:Int)+(m:Int)*3=(k:Int):=Z;have h8:(8:Int)<=(l:Int):=Z;have c:D V (V.alloc (.cells #[I 0] 3)):=(Jn _ _).alloc (Jo _) _;have x:=H (A.below c);have q:=H (show (V.alloc (.cells #[I 0] 3)).heap[V.heap.size]?=some (.cells #[I ((0:Nat):Int)] 3) from av V _);have s:=A.lt;have a4:i+1<N/\j+1<N/\k+1<N/\1<=i/\1<=j/\1<=k/\j<b/\i<b/\k<b:=Z;clear A c u f e n o t;by_cases z:l≥50
 ·rw [tm z] at g;have A:(50:Int)<=(l:Int):=Z;have o:=H (λc (n:Au G N cp V0 d c) S (e:G<S) (S9:c.heap[S]?=some (.cells #[I ((0:Nat):Int)] 3))=>kJ G N cp i S 0 d V0 c n Z Z y e S9 Z);have f:=Sort.medianAdjacent_mem aQ d i 0;have K:=Sort.medianAdjacent_count aQ d i 0;generalize Sort.medianAdjacent aQ d i 0=r1 at o f K g;obtain⟨x1,B⟩:=r1;simp only [] at o f K g;have u:=H (λc (n:Au G N cp V0 d c) S (e:G<S) (S9:c.heap[S]?=some (.cells #[I B] 3))=>kJ G N cp j S B d V0 c n Z Z y e S9 Z);have L:=Sort.medianAdjacent_mem aQ d j B;have M:=Sort.medianAdjacent_count aQ d j B;generalize Sort.medianAdjacent aQ d j B=r2 at u L M g;obtain⟨x2,F⟩:=r2;simp only [] at u L M g;have v:=H (λc (n:Au G N cp V0 d c) S (e:G<S) (S9:c.heap[S]?=some (.cells #[I F] 3))=>kJ G N cp k S F d V0 c n Z Z y e S9 Z);have O:=Sort.medianAdjacent_mem aQ d k F;have P:=Sort.medianAdjacent_count aQ d k F;generalize Sort.medianAdjacent aQ d k F=r3 at v O P g;obtain⟨x3,Q⟩:=r3;simp only [] at v O P g;have t:=H (λc (n:Au G N cp V0 d c) S (e:G<S) (S9:c.heap[S]?=some (.cells #[I Q] 3))=>kw G N cp x1 x2 x3 S Q d V0 c n Z Z Z y e S9 Z);rw [g] at t;clear f L O K M P g;go_enter func234,ntmps234;go_wp2_with fail;generalize V.alloc _=W1 at x q ⊢;obtain⟨S,L⟩:∃ S,V.heap.size=S:=⟨_,rfl⟩;rw [L] at q s ⊢;refine (o _ x _ s q).mono ?_;rintro r w1 ⟨rfl,S1,f⟩;have K:=H (LG f S1);clear f S1 x q o;go_wp2_with fail;refine (u _ K.1 _ s K.2).mono ?_;rintro r w2 ⟨rfl,S1,f⟩;have o:=H (LG f S1);clear f S1 K u;go_wp2_with fail;refine (v _ o.1 _ s o.2).mono ?_;rintro r w3 ⟨rfl,S1,f⟩;have M:=H (LG f S1);clear f S1 o v;go_wp2_with fail;refine (t _ M.1 _ s M.2).mono ?_;rintro r O ⟨rfl,S1,f⟩;have u:=H f;have K:O.cell? ⟨S,0,none⟩=some (I R.2):=aM S1;clear f S1 M t;by_cases o:R.2=0
  ·rw [o] at K;obtain rfl:p=1:=by rw [<-w.out,tm o];rfl
   go_wp2;refine wA (ad rfl _ _) rfl ?_;exact⟨rfl,u⟩
  have M:¬((R.2:Int)=0):=Z;by_cases v:R.2=12
  ·rw [v] at K;obtain rfl:p=2:=by rw [<-w.out,tg o,tm v];rfl
   go_wp2;refine wA (ad rfl _ _) rfl ?_;exact⟨rfl,u⟩
  have P:¬((R.2:Int)=12):=Z;obtain rfl:p=0:=by rw [<-w.out,tg o,tg v];rfl
  go_wp2;refine wA (ad rfl _ _) rfl ?_;exact⟨rfl,u⟩
 rw [tg z] at g;have A:¬((50:Int)<=(l:Int)):=Z;have t:=H (λc (n:Au G N cp V0 d c) S (e:G<S) (S9:c.heap[S]?=some (.cells #[I ((0:Nat):Int)] 3))=>kw G N cp i j k S 0 d V0 c n Z Z Z y e S9 Z);rw [g] at t;clear g;go_enter func234,ntmps234;go_wp2_with fail;generalize V.alloc _=W1 at x q ⊢;obtain⟨S,L⟩:∃ S,V.heap.size=S:=⟨_,rfl⟩;rw [L] at q s ⊢;refine (t _ x _ s q).mono ?_;rintro r O ⟨rfl,S1,f⟩;have u:=H f;have K:O.cell? ⟨S,0,none⟩=some (I R.2):=aM S1;clear f S1 x q t;by_cases o:R.2=0
 ·rw [o] at K;obtain rfl:p=1:=by rw [<-w.out,tm o];rfl
  go_wp2;refine wA (ad rfl _ _) rfl ?_;exact⟨rfl,u⟩
 have M:¬((R.2:Int)=0):=Z;by_cases v:R.2=12
 ·rw [v] at K;obtain rfl:p=2:=by rw [<-w.out,tg o,tm v];rfl
  go_wp2;refine wA (ad rfl _ _) rfl ?_;exact⟨rfl,u⟩
 have P:¬((R.2:Int)=12):=Z;obtain rfl:p=0:=by rw [<-w.out,tg o,tg v];rfl
 go_wp2;refine wA (ad rfl _ _) rfl ?_;exact⟨rfl,u⟩
theorem DV (a X:Nat) (b:X<18446744073709551616) (w:World) (c:w.cell? ⟨a,0,none⟩=some (U X)) (d:w.frozen? ⟨a,0,none⟩=false) :
 Calls prog 253 #[J a 0] w λe f=>e=.returned (U (Sort.xorNextN X:Nat))/\f=(w.setCell ⟨a,0,none⟩ (U (Sort.xorNextN X:Nat))).drewN 3:=AnyF.xorshift_Next { Tryz.sortR with } a 0 X b w c d
theorem Bv (n:Nat) (a:n<4611686018427387904) (w:World) :
 Calls prog 252 #[I n] w λe b=>e=.returned (U ((1 <<< Sort.bitsLen n:Nat):Int))/\b=w:=AnyF.nextPowerOfTwo { Tryz.sortR with } n a w
def GB (a l M:Nat):Nat->Nat->UInt64×Array Nat->UInt64×Array Nat
 | 0,_,st=>st
 | n+1,i,st=>GB a l M n (i+1) (Sort.breakStep a l M st i)
theorem yM (G N cp) (a b:Nat) (d V0 V) (A:Au G N cp V0 d V) (a9:a+12<b) (hb:b<=N) (hN:N<=100000) :
  Calls prog 233 #[Vl G N cp,I a,I b] V λr V'=>r=.returned (.tuple #[])/\Au G N cp V0 (Sort.breakPatterns d a b) V':=by
 obtain⟨l,t⟩:∃ l,b-a=l:=⟨_,rfl⟩;obtain⟨M,k⟩:∃ M,1 <<< Sort.bitsLen l=M:=⟨_,rfl⟩;obtain⟨m,c⟩:∃ m,l/4=m:=⟨_,rfl⟩;obtain⟨i,e⟩:∃ i,a+m*2-1=i:=⟨_,rfl⟩;obtain⟨u,o⟩:∃ u,Sort.breakPatterns d a b=u:=⟨_,rfl⟩;rw [o];have f:(GB a l M 3 i (UInt64.ofNat l,d)).2=u:=by
  rw [<-o];unfold Sort.breakPatterns;simp only [t,k,c,e];rw [tm (show l≥8 by omega)];rfl
 have b0:1<=M/\M<=2*l:=by
  rw [<-k,Nat.one_shiftLeft];exact⟨Nat.one_le_two_pow,Sort.two_pow_bitsLen_le Z⟩
 have NP:=H (λw=>Bv l Z w);rw [k] at NP;obtain⟨n,j⟩:∃ n,M-1=n:=⟨_,rfl⟩;have a0:(M:Int)-1=(n:Int):=Z;have b1:(b:Int)-(a:Int)=(l:Int):=Z;have b2:(l:Int).tdiv 4=(m:Int):=by rw [Kx Z];omega
 have b3:(l:Int)/4=(m:Int):=Z;obtain⟨z,p⟩:∃ z,a+m*2=z:=⟨_,rfl⟩;obtain⟨q,s⟩:∃ q,a+m*2+1=q:=⟨_,rfl⟩;have a1:(a:Int)+(m:Int)*2=(z:Int):=Z;have a2:(z:Int)-1=(i:Int):=Z;have a3:(z:Int)+1=(q:Int):=Z;have h8:(8:Int)<=(l:Int):=Z;have x:D V (V.alloc (.cells #[U l] 299)):=(Jn _ _).alloc (Jo _) _;have v:=H (A.below x);have g:=H (av V (.cells #[U l] 299));have hG:=A.lt;have hr:i+2=q/\q<b/\q<N/\n<200000/\l<=N/\a<=i:=Z;have R:=H j;have B:=H f;have a4:a+l<=N:=Z;clear A x t k c e o f p s j;go_enter func233,ntmps233;go_wp2_with fail;generalize V.alloc _=W1 at v g ⊢;obtain⟨S,hS⟩:∃ S,V.heap.size=S:=⟨_,rfl⟩;rw [hS] at g hG ⊢;refine (NP _).mono ?_;rintro r L ⟨rfl,rfl⟩;go_wp2_with fail;go_loopw [9] (λT wr=>∃ (t:Nat) (c:Nat) (r:UInt64) (d:Array Nat),t<=3/\i+t=c/\T=I c/\Hid ((GB a l M (3-t) c (r,d)).2=u)/\Hid (wr.heap[S]?=some (.cells #[U r.toNat] 299))/\Hid (Au G N cp V0 d wr)) (λT _=>i+4-(intOf T).toNat);case atStart=>exact ⟨0,i,_,d,Z,rfl,rfl,B,H (by rw [UInt64.toNat_ofNat_of_lt' (show l<2 ^ 64 by omega)];exact g),v⟩
 case round =>
  clear B g v;obtain⟨t,c,r,d,ht,a5,rfl,O,g,v⟩:=hrel;by_cases b4:t<3
  ·have W:(c:Int)<=(q:Int):=Z;obtain⟨k,hk⟩:∃ k,3-t=k+1:=⟨2-t,Z⟩;have F:=H (show (GB a l M k (c+1) (Sort.breakStep a l M (r,d) c)).2=u by have:=O.out;rw [hk] at this;exact this);have P:=H (λw b e=>DV S r.toNat r.toNat_lt w b e);rw [<-Sort.xorNext_toNat] at P;obtain⟨j,e⟩:∃ j,Sort.xorNext r=j:=⟨_,rfl⟩;obtain⟨Y,K⟩:∃ Y,j.toNat=Y:=⟨_,rfl⟩;rw [e,K] at P;have X:Y<18446744073709551616:=(by rw [<-K];exact j.toNat_lt);obtain⟨o,Q⟩:∃ o,Y &&& n=o:=⟨_,rfl⟩;have b5:bits .and .u64 (Y:Int) (n:Int)=(o:Int):=(by rw [bits_and_u64_nat _ _ X Z,Q]);have b6:o<=n:=(by rw [<-Q];exact Nat.and_le_right);have c1:wr.cell? ⟨S,0,none⟩=some (U r.toNat):=aM g.out;have f1:wr.frozen? ⟨S,0,none⟩=false:=(by simp [World.frozen?,g.out]);have s:=H ((v.box g al hG (U Y)).drewN 3);have S1:=H (show ((wr.setCell ⟨S,0,none⟩ (U Y)).drewN 3).heap[S]?=some (.cells #[U j.toNat] 299) by rw [K];exact wE g _);obtain⟨x,f⟩:∃ x,(if o≥l then o-l else o)=x:=⟨_,rfl⟩;have y:=H (show (GB a l M k (c+1) (j,Sort.swp d c (a+x))).2=u by
    have:=F.out;unfold Sort.breakStep at this;simp only [e,K,R.out,Q,f] at this;exact this)
   have CX:=H (P wr c1 f1);have a6:(c:Int)<(N:Int):=Z;have a7:x<l/\o<=n:=(by rw [<-f];split <;> omega);obtain⟨p,hp⟩:∃ p,a+x=p:=⟨_,rfl⟩;rw [hp] at y;have b7:(a:Int)+(x:Int)=(p:Int):=Z;have b8:(p:Int)<(N:Int):=Z;clear O F P e K Q v g;go_wp2_with fail;refine (CX).mono ?_;rintro e L ⟨rfl,F⟩;rw [<-F] at s S1;clear CX F c1 f1;have F:∀ (A:Au G N cp V0 d L),True:=λ_=>trivial
   have K:=s.cell (show c<N by omega);have P:=s.cell (show p<N by omega);have f1:=s.fz c;obtain⟨u9,Q⟩:=s.sw1 (show c<N by omega) (show p<N by omega);have f0:=(s.set (show c<N by omega) d[p]!).fz p;have A2:=H (s.swap (show c<N by omega) (show p<N by omega)).drew;have S2:=H (show (((L.setCell ⟨G,c,none⟩ (U ((d[p]! : Nat):Int))).setCell ⟨G,p,none⟩ (U ((d[c]! : Nat):Int))).drew).heap[S]?=some (.cells #[U j.toNat] 299) by
    show ((L.setCell ⟨G,c,none⟩ (U ((d[p]! : Nat):Int))).setCell ⟨G,p,none⟩ (U ((d[c]! : Nat):Int))).heap[S]?=_;rw [t4 _ _ _ _ (show S≠G by omega),t4 _ _ _ _ (show S≠G by omega)];exact S1)
   clear s S1 F;by_cases s:o≥l
   ·rw [tm s] at f;have F:(l:Int)<=(o:Int):=Z;have a8:(o:Int)-(l:Int)=(x:Int):=Z;(go_upto_region 10 with fail);go_region;clear K P f1 Q f0;go_wp2;go_roundw;(case rel=>exact ⟨t+1,c+1,j,_,Z,Z,aR,H (by rw [show 3-(t+1)=k by omega];exact y),S2,A2⟩);case measure=>(simp [intOf];try omega)
   rw [tg s] at f;subst f;have F:¬((l:Int)<=(o:Int)):=Z;(go_upto_region 10 with fail);go_region;clear K P f1 Q f0;go_wp2;go_roundw;(case rel=>exact ⟨t+1,c+1,j,_,Z,Z,aR,H (by rw [show 3-(t+1)=k by omega];exact y),S2,A2⟩);case measure=>(simp [intOf];try omega)
  obtain rfl:t=3:=Z;have W:¬((c:Int)<=(q:Int)):=Z;have e:=H (show d=u from O);clear O;go_wp2;go_end0;exact⟨rfl,by rw [<-e.out];exact v⟩
end
end Go.Proofs.YtdfodlhkdmkfdaaGreatDoor
