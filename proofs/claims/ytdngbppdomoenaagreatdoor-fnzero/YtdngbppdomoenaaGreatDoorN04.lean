import Derived.Conc.MuLone
import Derived.Laws.CopyOwn
import Derived.Test.YtdngbppdomoenaaGreatDoorN02
set_option linter.unusedVariables false
set_option linter.unusedSimpArgs false
set_option maxRecDepth 20000
set_option maxHeartbeats 8000000
namespace Go.Proofs.YtdngbppdomoenaaGreatDoor
open Go.Proofs.Tryz
variable {zs:List Int}
section
open Go.RowKit Go.Shelf
def dE (m:Nat->Option (Bool×List Int)) (a:Nat):Nat->Bool
 | 0=>true
 | k+1=>dE m a k&&isOpen (m ((a+k)/1024))
theorem jb {m:Nat->Option (Bool×List Int)} {a k:Nat} (h:isOpen (m ((a+k)/1024))=false):∀ N,k<N->dE m a N=false
 | 0,hk=>by omega
 | N+1,hk=>by
  simp only [dE]
  by_cases e:k=N
  ·subst e;simp [h]
  rw [jb h N Z];rfl
theorem gJ {m a} : ∀ {N:Nat},dE m a N=true->∀ k,k<N->isOpen (m ((a+k)/1024))=true
 | 0,_,k,b=>by omega
 | N+1,h,k,b=>by
  simp only [dE,FV] at h
  by_cases e:k=N
  ·subst e;exact h.2
  exact gJ h.1 k Z
theorem jT {m:Nat->Option (Bool×List Int)} {a:Nat} : ∀ {N:Nat},(∀ k,k<N->isOpen (m ((a+k)/1024))=true)->dE m a N=true
 | 0,_=>rfl
 | N+1,h=>by
  simp only [dE]
  rw [jT (λk a=>h k Z),h N Z]
  rfl
theorem rj {m:Nat->Option (Bool×List Int)} {p:Nat} : ∀ {N:Nat},(∀ k,k<N->isOpen (m (p+k))=true)->gz m p N=true
 | 0,_=>rfl
 | N+1,h=>by
  simp only [gz]
  rw [rj (λk a=>h k Z),h N Z]
  rfl
theorem sB (m) (a n:Nat) (g:1<=n):gz m (a/1024) ((a+(n-1))/1024+1-a/1024)=dE m a n:=by
 cases c:dE m a n
 ·cases d:gz m (a/1024) ((a+(n-1))/1024+1-a/1024);·rfl
  exfalso;have:dE m a n=true:=jT (λk f=>by
   have b:=nE d ((a+k)/1024-a/1024) Z;rwa [show a/1024+((a+k)/1024-a/1024)=(a+k)/1024 by omega] at b)
  rw [c] at this;cases this
 refine rj (λk f=>?_);by_cases e:k=0;·have b:=gJ c 0 Z;subst e;simpa using b
 have b:=gJ c ((a/1024+k)*1024-a) Z;rwa [show (a+((a/1024+k)*1024-a))/1024=a/1024+k by omega] at b
theorem kK (T a) (n:Int) (w:World) (h:n<0\/4096<n) :
  Calls prog 171 #[J T 0,U a,I n] w λe b=>e=.returned (I 6)/\b=w:=by
 rcases h with h|h;·go_enter func171,ntmps171;go_wp2;go_ret;exact⟨rfl,rfl⟩
 have c:¬n<0:=Z;go_enter func171,ntmps171;go_wp2;go_ret;exact⟨rfl,rfl⟩
theorem mI (T a) (w:World) :
  Calls prog 171 #[J T 0,U a,I 0] w λe b=>e=.returned (I 0)/\b=w:=by
 go_enter func171,ntmps171;go_wp2;go_ret;exact⟨rfl,rfl⟩
theorem nd (T) (a n:Int) (w:World) (ha:0<=a) (b:a<=18446744073709551615) (f:1<=n) (g:n<=4096) (h:4611686018427387904<=a+(n-1)) :
  Calls prog 171 #[J T 0,U a,I n] w λe c=>e=.returned (I 2)/\c=w:=by
 have d:=H (tu a n w ha b (.inr (.inr h)));clear h;go_enter func171,ntmps171;go_wp2_with fail;refine d.mono ?_;rintro _ _ ⟨rfl,rfl⟩;unfold rN;go_wp2_with fail;go_ret;exact⟨rfl,rfl⟩
theorem lF (T Q nn bud m) (a n:Nat) (w) (b:Sx T Q nn bud m w) (k:nn<=4096) (q:1<=n) (r:n<=4096) (h:a+(n-1)<4611686018427387904) :
  Calls prog 171 #[J T 0,U a,I n] w λe l=>e=.returned (I (je (dE m a n)))/\l=w:=by
 have c:=H (qz a n w Z Z Z Z);have o:=H (λ(j:Nat) (p:j<n)=>ut T Q nn bud m (a+j) w b k Z);clear b;go_enter func171,ntmps171;go_wp2_with fail;refine c.mono ?_;rintro _ s ⟨rfl,rfl⟩;go_wp2_with fail;clear c;go_loop [10] (λi=>∃ j:Nat,j<=n/\i=I j/\dE m a j=true) (λi=>n-(intOf i).toNat);case atStart=>exact ⟨0,Fs _,rfl,rfl⟩
 case round =>
  obtain⟨j,p,rfl,b⟩:=hrel;by_cases d:j<n
  ·have f:=H (o.out j d);rw [show ((a+j:Nat):Int)=(a:Int)+(j:Int) by omega] at f;cases c:isOpen (m ((a+j)/1024));·have g:=H (jb c n d);rw [c] at f;clear c b;go_wp2_with fail;refine f.mono ?_;rintro _ _ ⟨rfl,rfl⟩;go_wp2_with fail;go_ret;exact⟨cP (by rw [g.out];rfl),rfl⟩
   have g:=H (show dE m a (j+1)=true by simp only [dE];rw [b,c];rfl);rw [c] at f;clear c b;go_wp2_with fail;refine f.mono ?_;rintro _ _ ⟨rfl,rfl⟩;go_wp2_with fail
   go_round
   (case rel=>exact ⟨j+1,Z,aY,g.out⟩);case measure=>simp [intOf];omega
  have c:j=n:=Z;have g:=H (c▸b);clear b c;go_wp2;go_ret;exact⟨cP (by rw [g.out];rfl),rfl⟩
def bw (m:Nat->Option (Bool×List Int)):Nat->List Int
 | 0=>[]
 | k+1=>if isOpen (m k) then bw m k++[(k:Int)] else bw m k
theorem mZ (m):∀ k,(bw m k).length<=k
 | 0=>Fe _
 | k+1=>by have:=mZ m k;simp only [bw];split <;> simp <;> omega
theorem Tryz.info3Op:(prog.info? 3).map (λi=>(i.zero,i.size,i.bytes))=some (some (I 0),1,8):=E
theorem eG (W:World) (x:Value) (t:TypeId) (b:Nat) (a:W.heap.size=b):∀ j u,[x][j]?=some u->(W.alloc (.cells #[x] t)).cell? ((⟨b,0,none⟩:Addr).add j)=some u:=by
 subst a;intro j u h;cases j with
 | zero =>
  simp at h;subst h;rw [show (⟨W.heap.size,0,none⟩:Addr).add 0=⟨W.heap.size,0,none⟩ from rfl,World.cell?_alloc_at _ _ _ _ rfl];rfl
 | succ j=>simp at h
theorem cN {A:World} {a:Nat} {e:TypeId} {v:Value} {n:Nat} {b:List Value} (h:A.ownsRow a e 1 v n b):∀ r,v.ownBlock=some r->a<=r:=by
 intro r e;rcases h.2 with ⟨rfl,_⟩|⟨g,c,d,rfl,f,i,_⟩;·cases e
 cases e;exact f
theorem rT (T Q n bud m w) (h:Sx T Q n bud m w) (V:n<=4096) :
  Calls prog 86 #[J T 0] w λe F=>∃ v,e=.returned v/\F.ownsRow w.heap.size 3 1 v (bw m n).length (Ns .i64 (bw m n))/\D w F:=by
 obtain⟨P,s,t,x,y⟩:=GI Tryz.info3Op;obtain⟨W,X⟩:=h.c;have R:=H h;clear h;go_enter func86,ntmps86;go_wp2;go_loopw [3,11] (λv i wr=>∃ k:Nat,k<=n/\i=I k/\Hid (wr.ownsRow w.heap.size 3 1 v (bw m k).length (Ns .i64 (bw m k)))/\Hid (D w wr)) (λ_ i _=>n-(intOf i).toNat);case atStart=>exact ⟨0,Fs _,rfl,H ⟨rfl,.inl ⟨rfl,rfl⟩⟩,H (Fc _ _)⟩
 case round =>
  obtain⟨k,Y,rfl,b,a⟩:=hrel;by_cases z:k<n
  ·obtain⟨G,p,l,c,K,L,M,d⟩:=R.three k z;have K:=ad a.out K;have L:=ad a.out L;have M:=ad a.out M;have S:=mZ m k;have q:=H (a.alloc a.size (.cells #[.bool (m k).isSome,.bool G,.slice p l c] 217));have A:=H (b.alloc (.cells #[.bool (m k).isSome,.bool G,.slice p l c] 217));cases f:isOpen (m k)
   ·have r:=H (show bw m (k+1)=bw m k by simp only [bw];rw [f];rfl);rw [f] at d;clear f b a;generalize (m k).isSome=B at *;cases B
    ·go_wp2;go_roundw;(case rel=>exact ⟨k+1,Z,aY,by rw [r.out];exact A,q⟩);case measure=>simp [intOf];omega
    simp only [Bool.true_and] at d;subst d;go_wp2;go_roundw;(case rel=>exact ⟨k+1,Z,aY,by rw [r.out];exact A,q⟩);case measure=>simp [intOf];omega
   have r:=H (show bw m (k+1)=bw m k++[(k:Int)] by simp only [bw];rw [f];rfl);rw [f] at d;clear f b a;generalize (m k).isSome=B at *;cases B;·simp at d
   simp only [Bool.true_and] at d;subst d;have g:=H (A.alloc (.cells #[I k] 3));have f:=H (q.alloc q.size (.cells #[I k] 3));go_wp2_with (at_builtin;refine Hl _ rfl _ _ 24 rfl w.heap.size 3 P (I 0) 1 8 underlying24 s t x y rfl Z _ _ _ rfl g.out _ 1 1 [I k] rfl rfl ?hc ?h1c ?b1 ?b2 ?b3 ?_);(case hc=>exact eG _ _ _ _ bF);(case h1c=>intro u N;simp at N;subst N;rfl);(case b1=>unfold maxLen;omega);(case b2=>omega);(case b3=>exact f.size);intro v1 w1 j o _;have O:=H (IB j (f.grown o f.size (cN g.out)));clear j o;go_wp2;go_roundw;(case rel=>exact ⟨k+1,Z,aY,H (by rw [r.out];simpa [Ns] using O.1),H O.2⟩);case measure=>simp [intOf];omega
  have c:k=n:=Z;subst c;go_wp2;go_ret;exact⟨_,rfl,b.out,a.out⟩
end
section
open Go.ChangeShapes Go.WideShapes Go.ChangeAt Go.RowKit
def Sl (w:World) (a:Option Addr) (zs:List Int):Prop:=(a=none/\zs=[])\/∃ g,a=some ⟨g,0,none⟩/\RowV w g 3 (Ns .i64 zs)
theorem Sl.cells {w a} (h:Sl w a zs):∀ i,i<zs.length->∃ g,a=some ⟨g,0,none⟩/\w.cell? ⟨g,i,none⟩=some (I (zs[i]?.getD 0)):=by
 intro i b;rcases h with ⟨_,rfl⟩|⟨g,rfl,c⟩;·simp at b
 exact⟨g,rfl,iV c i b⟩
theorem Sl.below {w w' a zs} (h:Sl w a zs) (c:D w w'):Sl w' a zs:=by
 rcases h with h|⟨g,e,b⟩;·exact .inl h
 exact .inr ⟨g,e,b.below c b.lt⟩
def nb (l:Int) (zs:List Int):Bool:=zs.all λx=>decide (l<=x)
def md (d:Int) (m:Nat):Nat:=(d%(m:Int)).toNat
theorem ru (d) (m:Nat) (h:0<m):md d m<m:=by
 unfold md;have a:=Ix d (b:=(m:Int)) Z;have c:=Ij d (b:=(m:Int)) Z;omega
theorem oV (d) (m:Nat) (h:0<m):(md d m:Int)=if d.tmod m<0 then d.tmod m+m else d.tmod m:=by
 unfold md;have g:=Ix d (b:=(m:Int)) Z;rw [It g];have c:=Int.tmod_eq_emod (a:=d) (b:=(m:Int));have i:=Ij d (b:=(m:Int)) Z;have e:((Int.natAbs (m:Int):Nat):Int)=m:=Z;by_cases f:0<=d\/(m:Int)∣d;·rw [Gv f] at c;rw [Gu Z];omega
 rw [Gu f] at c;rw [c,e];rw [Gv Z];omega
theorem kc (d:Int) (m:Nat) (h:0<m) : -(m:Int)<=d.tmod m/\d.tmod m<m:=by
 have a:=oV d m h;have b:=ru d m h;split at a <;> rename_i c
 ·omega
 omega
theorem EP (x:Int) (h : -1048576<=x/\x<=2097152):wrap64 x=x:=by
 unfold wrap64;omega
theorem sy (x m:Int) (a:0<=x) (h:x<m):x.tmod m=x:=by
 rw [Gp a,Int.emod_eq_of_lt a h]
theorem uz (x m:Int) (a:0<=x) (h:x<m):(x+m).tmod m=x:=by
 rw [Gp Z,Int.add_emod_right,Int.emod_eq_of_lt a h]
theorem iy (d) (m:Nat) (w:World) (b:0<m) (l:m<=1048576) :
  Calls prog 174 #[I d,I m] w λe g=>e=.returned (I (md d m:Nat))/\g=w:=by
 have n:((m:Int)==0)=false:=bK;have i:=kc d m b;have j:=EP (d.tmod m+m) Z;have c:=oV d m b;have k:=ru d m b;have a:Hid ((d.tmod m+m).tmod m=(md d m:Nat)):=by
  show (d.tmod m+m).tmod m=(md d m:Nat);by_cases f:d.tmod m<0;·rw [Gv f] at c;rw [sy _ _ Z Z];omega
  rw [Gu f] at c;rw [uz _ _ Z Z];omega
 clear c k i;go_enter func174,ntmps174;go_wp2;go_ret;refine⟨cP ?_,rfl⟩
 first|exact a.out|(rw [j];exact a)
theorem lR (d) (m:Nat) (w:World) (c:0<m) (j:m<=1048576) :
  Calls prog 222 #[I d,I m] w λe g=>e=.returned (I (md d m:Nat))/\g=w:=by
 have k:((m:Int)==0)=false:=bK;have b:=oV d m c;have l:=kc d m c;by_cases f:d.tmod m<0
 ·rw [Gv f] at b;have a:=H b;have i:=EP (d.tmod m+m) Z;clear b;go_enter func222,ntmps222;go_wp2;go_ret;refine⟨cP ?_,rfl⟩
  first|exact a.symm|(rw [i];exact a.symm)
 rw [Gu f] at b;have a:=H b;clear b;go_enter func222,ntmps222;go_wp2;go_ret;exact⟨cP a.symm,rfl⟩
theorem lh (G r n b o i k:Nat) (ps:List Int) (x:Int) (w:World) (g:(o+i)%n=k) (l:ps.length=n) (c:0<n) (m:n<=1048576) (s:o<=1048576) (t:i<=1048576)
  (u:w.cell? ⟨G,0,none⟩=some (Vl r n b)) (v:w.cell? ⟨G,1,none⟩=some (I o)) (a:RowV w r 3 (Ns .i64 ps)) :
  Calls prog 271 #[J G 0,I i,I x] w λe j=>e=.returned (I (ps[k]?.getD 0))/\RowV j r 3 (Ns .i64 (ps.set k x))/\w.grownBy j (some r):=by
 have y:((n:Int)==0)=false:=bK;have d:(o+i)%n<n:=Nat.mod_lt _ c;have f:((o:Int)+(i:Int))%(n:Int)=(((o+i)%n:Nat):Int):=bF;rw [g] at d f;have z:=iV a k Z;have A:=a.free k;have p:=H (a.set k (by rw [bo];omega) (I x)).drew;have q:=H (rS (au (ar w r) k (I x)));clear a l g;go_enter func271,ntmps271;go_wp2;go_region;rw [f];clear f;go_wp2;go_ret;exact⟨rfl,by rw [<-sq];exact p,q⟩
def stA (k:Nat):Array Value:=((List.range 13).map λj=>Value.int .i64 (if j<=k then eV j else 0)).toArray
theorem pT (k):(stA k).size=13:=by simp [stA]
theorem lr (k j:Nat) (h:j<13):(stA k)[j]?=some (I (if j<=k then eV j else 0)):=by
 simp [stA,h]
theorem yL (k):(stA k).setIfInBounds (k+1) (I (eV (k+1)))=stA (k+1):=by
 apply Array.ext;·simp [stA]
 intro i c b;have d:i<13:=by simpa [stA] using b
 rw [Array.getElem_setIfInBounds (by simpa [stA] using b)];simp only [stA,List.getElem_toArray,List.getElem_map,List.getElem_range];by_cases a:k+1=i;·subst a;simp
 have e:(i<=k)↔(i<=k+1):=Z;simp [e,a]
theorem DY:stA 0=#[Value.int IntKind.i64 1,Value.int IntKind.i64 0,Value.int IntKind.i64 0,Value.int IntKind.i64 0,Value.int IntKind.i64 0,Value.int IntKind.i64 0,Value.int IntKind.i64 0,Value.int IntKind.i64 0,Value.int IntKind.i64 0,Value.int IntKind.i64 0,Value.int IntKind.i64 0,Value.int IntKind.i64 0,Value.int IntKind.i64 0]:=E
def nI:Array Value:=#[Value.int IntKind.i64 0,Value.int IntKind.i64 0,Value.int IntKind.i64 0,Value.int IntKind.i64 0,Value.int IntKind.i64 0,Value.int IntKind.i64 0,Value.int IntKind.i64 0,Value.int IntKind.i64 0,Value.int IntKind.i64 0,Value.int IntKind.i64 0,Value.int IntKind.i64 0,Value.int IntKind.i64 0,Value.int IntKind.i64 0]
theorem hE (w:World) (o:Obj):(w.alloc o).heap[w.heap.size]?=some o:=(G_ w o).1
theorem zM (w:World) (o:Obj) (k:Nat) (h:k<w.heap.size):(w.alloc o).heap[k]?=w.heap[k]?:=(G_ w o).2 k h
theorem me (w:World) (o:Obj):(w.alloc o).heap.size=w.heap.size+1:=by
 have e:(w.alloc o).heap=w.heap.push o:=rfl;rw [e,Array.size_push]
theorem Below.setRow {B:Nat} {a w:World} (h:Below B a w) {g:Nat} (c:B<=g) (b:Array Value):Below B a (w.setRow g b):=by
 refine h.trans ⟨rfl,rfl,rfl,by simp [World.setRow],λk d=>?_⟩;have:g≠k:=Z;simp [World.setRow,Fp,this]
theorem fq (w) (a:Tb w) :
  Calls prog 49 #[] w λe f=>e=.returned (.agg (stA 12))/\D w f:=by
 have n:Hid (∀ (c:Int) w,Tb w->_):=λc w h=>lL c w h
 have o:=hidR a;clear a;go_enter func49,ntmps49;go_wp2;go_loopw [4] (λi wr=>∃ k:Nat,k<=12/\i=I k/\Hid (wr.heap[w.heap.size]?=some (.cells nI 108)/\wr.heap[w.heap.size+1]?=some (.cells (stA k) 108)/\D w wr)) (λi _=>12-(intOf i).toNat);case atStart =>
  refine⟨0,Z,rfl,?_,?_,?_⟩;·rw [zM _ _ _ (by rw [me];omega)];exact hE _ _
  ·rw [DY,<-me w];exact hE _ _
  exact ((Fc _ _).alloc (Fe _) _).alloc (by rw [me];omega) _
 case round =>
  obtain⟨k,x,rfl,d⟩:=hrel;by_cases q:k<12
  ·have r:=gX k;have s:=tJ (k:Int);have u:wr.cell? ⟨w.heap.size+1,k,none⟩=some (I (eV k)):=by
    simp [World.cell?,d.2.1,lr k k Z]
   have y:wr.cell? ⟨w.heap.size+1,k+1,none⟩=some (I 0):=by
    simp [World.cell?,d.2.1,lr k (k+1) Z];intro h;omega
   have f2:wr.frozen? ⟨w.heap.size+1,k+1,none⟩=false:=by
    simp [World.frozen?,d.2.1]
   have m:Hid (∀ W:World,W.heap=wr.heap->Calls prog 91 #[I (k:Int)] W λe f=>e=.returned (I (rp (k:Int)))/\f=W):=λW v=>n.out _ W (by
    obtain⟨t,a,h⟩:=(o.below d.2.2).row;exact⟨t,a,by rw [v];exact h⟩)
   have j:=hidR (show eV (k+1)=eV k+rp (k:Int) from rfl);generalize eV k=a at r u j;generalize rp (k:Int)=b at s m j;go_wp2
   go_region_with (go_at_call 91;refine (m _ ?_).mono ?_;exact rfl;rintro e f ⟨rfl,rfl⟩)
   all_goals
    go_wp2
    go_roundw
    case rel =>
     refine⟨k+1,Z,aY,?_,?_,?_⟩;·have g:=d.1;simp [World.setCell,Fp,World.drew,g]
     ·have l:=d.2.1;rw [<-yL,j.out];simp [World.setCell,Fp,World.drew,l]
     exact d.2.2.drew.setCell (p:=⟨w.heap.size+1,k+1,none⟩) bF _
    case measure=>simp [intOf];omega
  obtain rfl:k=12:=Z;have g:=hidR d.1;have l:=hidR d.2.1;have b:=hidR (Below.setRow d.2.2 (Fe _) (stA 12));have j:Hid ((wr.setRow w.heap.size (stA 12)).heap[w.heap.size]?=some (.cells (stA 12) 108)):=by
   have:=g.out;exact hidR (by simp [World.setRow,Fp,this])
  have a:=hidR (show (stA 12).all (·.oneCell')=true by kernel_rfl);go_wp2_with (first|refine F8 rfl 108 _ rfl _ rfl _ _ _ _ l underlying108 rfl E ?_|refine FK rfl 108 _ _ rfl _ _ rfl rfl _ _ g E (by rw [pT];rfl) a ?_);refine GF (Ga ef _ _ w.heap.size 108 (stA 12) (0,0) _ ef j underlying108 rfl E) ef ?_;exact⟨rfl,b⟩
theorem ku (w:World) (k:Nat) (a:k<13):(Instr.index 108 (.agg (stA 12)) (I k)).run prog w=.ok (I (eV k)) w:=by
 have h:=lr 12 k a;rw [Gv Z] at h;simp [Instr.index,run_underlying underlying108,asIntOf,a,go_sem,h]
theorem mM (c w) (a:Tb w) :
  Calls prog 177 #[I c] w λe b=>e=.returned (I (rs c))/\D w b:=by
 have d:=hidR (fq w a);by_cases h:0<=c/\c<12
 ·have f:=hidR (dS _ w h);rw [jx h];obtain⟨m,rfl⟩:=GM h.1;have i:m<13:=Z;simp only [FD];have g:=hidR (λW=>ku W m i);clear a h;generalize stA 12=S at d g;go_enter func177,ntmps177;go_wp2_with fail;refine (f).mono ?_;rintro e b ⟨rfl,rfl⟩;go_wp2_with fail;refine (d).mono ?_;rintro e j ⟨rfl,k⟩;have l:=g.out j;go_wp2;go_ret;exact⟨rfl,k⟩
 rw [rY h];have f:=hidR (em _ w h);clear a h d;go_enter func177,ntmps177;go_wp2_with fail;refine (f).mono ?_;rintro e b ⟨rfl,rfl⟩;go_wp2;go_ret;exact⟨rfl,Fc _ _⟩
theorem iF (w) (a:Tb w) :
  Calls prog 24 #[] w λe d=>e=.returned (I 187)/\D w d:=by
 have b:=hidR (fq w a);have c:Hid (∀ W:World,(Instr.index 108 (.agg (stA 12)) (I 12)).run prog W=.ok (I 187) W):=λW=>by
  have:=ku W 12 Z;rw [mW] at this;exact this
 clear a;generalize stA 12=S at b c;go_enter func24,ntmps24;go_wp2_with fail;refine (b).mono ?_;rintro e a ⟨rfl,f⟩;have g:=c.out a;go_wp2;go_ret;exact⟨rfl,f⟩
theorem eZ (w) (a:Tb w) :
  Calls prog 25 #[] w λe b=>e=.returned (I 283)/\D w b:=by
 have c:=hidR (iF w a);clear a;go_enter func25,ntmps25;go_wp2_with fail;refine (c).mono ?_;rintro e d ⟨rfl,a⟩;go_wp2;go_ret;exact⟨rfl,a⟩
def fh (mix fifo:List Int) (e:Int):Bool:=decide (mix.length<=16)&&(decide (1<=e)&&(decide (e<=32)&&(decide ((fifo.length:Int)<=e)&&(nb (-1) mix&&nb 0 fifo))))
def wv (i:Option Addr) (u t:Nat) (l:Option Addr) (j cf:Nat) (e:Int):Value:=.agg #[.slice i u t,.slice l j cf,I e]
structure Wt (w:World) (am:Option Addr) (lm:Nat) (af:Option Addr) (lf:Nat) (mix fifo:List Int):Prop where
 m:Sl w am mix
 ml:mix.length=lm
 f:Sl w af fifo
 fl:fifo.length=lf
theorem Wt.below {w w' am lm af lf mix fifo} (h:Wt w am lm af lf mix fifo) (a:D w w'):Wt w' am lm af lf mix fifo :=
 ⟨h.m.below a,h.ml,h.f.below a,h.fl⟩
theorem tH {l} {k:Nat} (h:nb l (zs.take k)=true) (b:k<zs.length) (a:l<=zs[k]?.getD 0):nb l (zs.take (k+1))=true:=by
 unfold nb at *;rw [FN,List.all_append,h];simp [b] at a ⊢;exact a
theorem yz {l:Int} {k:Nat} (b:k<zs.length) (a:¬l<=zs[k]?.getD 0):nb l zs=false:=by
 unfold nb;rw [List.all_eq_false];simp [b] at a;exact⟨zs[k],bF,by simpa using a⟩
theorem uU (am lm cm af lf cf lim mix fifo w) (h:Wt w am lm af lf mix fifo) :
  Calls prog 223 #[wv am lm cm af lf cf lim] w λe y=>e=.returned (.bool (fh mix fifo lim))/\D w y:=by
 unfold wv;have j:=H ((Fc _ w).alloc (Fe _) (.cells #[.slice am lm cm,.slice af lf cf,I lim] 68));by_cases r:lm<=16;case neg =>
  have d:=H (show fh mix fifo lim=false by unfold fh;rw [h.ml,Gy r];rfl);have z:(16<(lm:Int)):=Z;clear h;go_enter func223,ntmps223;go_wp2;go_ret;exact⟨cZ d.symm,j⟩
 have z:¬(16<(lm:Int)):=Z;by_cases s:1<=lim;case neg =>
  have d:=H (show fh mix fifo lim=false by unfold fh;rw [Gy s];simp);have A:lim<1:=Z;clear h;go_enter func223,ntmps223;go_wp2;go_ret;exact⟨cZ d.symm,j⟩
 have A:¬(lim<1):=Z;by_cases t:lim<=32;case neg =>
  have d:=H (show fh mix fifo lim=false by unfold fh;rw [Gy t];simp);have B:32<lim:=Z;clear h;go_enter func223,ntmps223;go_wp2;go_ret;exact⟨cZ d.symm,j⟩
 have B:¬(32<lim):=Z;by_cases u:(lf:Int)<=lim;case neg =>
  have d:=H (show fh mix fifo lim=false by unfold fh;rw [h.fl,Gy u];simp);have F:lim<(lf:Int):=Z;clear h;go_enter func223,ntmps223;go_wp2;go_ret;exact⟨cZ d.symm,j⟩
 have F:¬(lim<(lf:Int)):=Z;have d:=H (show fh mix fifo lim=(nb (-1) mix&&nb 0 fifo) by
  unfold fh;rw [h.ml,h.fl,GJ r,GJ s,GJ t,GJ u];simp)
 have v:=H (h.m.below j).cells;have G:=H (h.f.below j).cells;have o:=H h.ml;have p:=H h.fl;clear h;go_enter func223,ntmps223;go_wp2;go_loopw [32] (λi wr=>∃ k:Nat,k<=lm/\i=I k/\wr=w.alloc (.cells #[.slice am lm cm,.slice af lf cf,I lim] 68)/\Hid (nb (-1) (mix.take k)=true)) (λi _=>lm-(intOf i).toNat);case atStart=>exact ⟨0,Fs _,rfl,rfl,by show nb _ _=_;rfl⟩
 case round =>
  obtain⟨k,K,rfl,rfl,b⟩:=hrel;by_cases c:k<lm
  ·obtain⟨g,rfl,L⟩:=v.out k (by rw [o.out];exact c);have a:k<mix.length:=(by rw [o.out];exact c);by_cases l : -1<=mix[k]?.getD 0
   ·have m:=H (tH b a l);have n:¬(mix[k]?.getD 0 < -1):=Z;clear l a;generalize mix[k]?.getD 0=x at *;go_wp2;go_roundw;(case rel=>exact ⟨k+1,Z,aY,trivial,m⟩);case measure=>simp [intOf];omega
   have m:=H (yz a l);have n:mix[k]?.getD 0 < -1:=Z;clear l a;generalize mix[k]?.getD 0=x at *;go_wp2;go_ret;exact⟨cZ (by rw [d.out,m.out];rfl),j⟩
  have M:=H (show nb (-1) mix=true by
   have:=b.out;rwa [show k=lm by omega,<-o.out,GK] at this)
  have q:¬((k:Int)<(lm:Int)):=Z;clear b v;go_wp2;go_loopw [42] (λi wr=>∃ k:Nat,k<=lf/\i=I k/\wr=w.alloc (.cells #[.slice am lm cm,.slice af lf cf,I lim] 68)/\Hid (nb 0 (fifo.take k)=true)) (λi _=>lf-(intOf i).toNat);case atStart=>exact ⟨0,Fs _,rfl,rfl,by show nb _ _=_;rfl⟩
  case round =>
   clear c q;obtain⟨f,K,rfl,rfl,b⟩:=hrel;by_cases c:f<lf
   ·obtain⟨g,rfl,L⟩:=G.out f (by rw [p.out];exact c);have a:f<fifo.length:=(by rw [p.out];exact c);by_cases l:0<=fifo[f]?.getD 0
    ·have m:=H (tH b a l);have n:¬(fifo[f]?.getD 0<0):=Z;clear l a;generalize fifo[f]?.getD 0=x at *;go_wp2;go_roundw;(case rel=>exact ⟨f+1,Z,aY,trivial,m⟩);case measure=>simp [intOf];omega
    have m:=H (yz a l);have n:fifo[f]?.getD 0<0:=Z;clear l a;generalize fifo[f]?.getD 0=x at *;go_wp2;go_ret;exact⟨cZ (by rw [d.out,m.out];simp),j⟩
   have N:=H (show nb 0 fifo=true by
    have:=b.out;rwa [show f=lf by omega,<-p.out,GK] at this)
   clear b;go_wp2;go_ret;exact⟨cZ (by rw [d.out,M.out,N.out];rfl),j⟩
end
end Go.Proofs.YtdngbppdomoenaaGreatDoor
