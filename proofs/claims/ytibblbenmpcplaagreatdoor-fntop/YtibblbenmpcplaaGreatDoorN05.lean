import Derived.Test.YtibblbenmpcplaaGreatDoorN03
set_option linter.unusedVariables false
set_option linter.unusedSimpArgs false
set_option maxRecDepth 20000
set_option maxHeartbeats 8000000
namespace Go.Proofs.YtibblbenmpcplaaGreatDoor
open Go.Proofs.Tryz
variable {v w:World} {g:Nat}
section
open Go.RowKit Go.Shelf
def bw (m:Nat->Option (Bool×List Int)):Nat->List Int
 | 0=>[]
 | k+1=>if isOpen (m k) then bw m k++[(k:Int)] else bw m k
theorem mZ (m):∀ k,(bw m k).length<=k
 | 0=>Fv _
 | k+1=>by have:=mZ m k;simp only [bw];split <;> simp <;> omega
theorem Tryz.info3Op:(prog.info? 3).map (λi=>(i.zero,i.size,i.bytes))=some (some (I 0),1,8):=E
theorem ek (W:World) (x:Value) (t:TypeId) (b:Nat) (a:W.heap.size=b):∀ j u,[x][j]?=some u->(W.alloc (.cells #[x] t)).cell? ((⟨b,0,none⟩:Addr).add j)=some u:=by
 subst a;intro j u h;cases j with
 | zero =>
  simp at h;subst h;rw [show (⟨W.heap.size,0,none⟩:Addr).add 0=⟨W.heap.size,0,none⟩ from rfl,World.cell?_alloc_at _ _ _ _ rfl];rfl
 | succ j=>simp at h
theorem cI {A:World} {a:Nat} {e:TypeId} {v:Value} {n:Nat} {b:List Value} (h:A.ownsRow a e 1 v n b):∀ r,v.ownBlock=some r->a<=r:=by
 intro r e;rcases h.2 with ⟨rfl,_⟩|⟨g,c,d,rfl,f,i,_⟩;·cases e
 cases e;exact f
theorem rX (T Q n bud m w) (h:Sx T Q n bud m w) (V:n<=4096) :
  Calls prog 58 #[J T 0] w λe F=>∃ v,e=.returned v/\F.ownsRow w.heap.size 3 1 v (bw m n).length (Ns .i64 (bw m n))/\D w F:=by
 obtain⟨P,s,t,x,y⟩:=G0 Tryz.info3Op;obtain⟨W,X⟩:=h.c;have R:=H h;clear h;go_enter func58,ntmps58;go_wp2;go_loopw [3,11] (λv i wr=>∃ k:Nat,k<=n/\i=I k/\Hid (wr.ownsRow w.heap.size 3 1 v (bw m k).length (Ns .i64 (bw m k)))/\Hid (D w wr)) (λ_ i _=>n-(intOf i).toNat);case atStart=>exact ⟨0,FH _,rfl,H ⟨rfl,.inl ⟨rfl,rfl⟩⟩,H (Fu _ _)⟩
 case round =>
  obtain⟨k,Y,rfl,b,a⟩:=hrel;by_cases z:k<n
  ·obtain⟨G,p,l,c,K,L,M,d⟩:=R.three k z;have K:=ad a.out K;have L:=ad a.out L;have M:=ad a.out M;have S:=mZ m k;have q:=H (a.alloc a.size (.cells #[.bool (m k).isSome,.bool G,.slice p l c] 204));have A:=H (b.alloc (.cells #[.bool (m k).isSome,.bool G,.slice p l c] 204));cases f:isOpen (m k)
   ·have r:=H (show bw m (k+1)=bw m k by simp only [bw];rw [f];rfl);rw [f] at d;clear f b a;generalize (m k).isSome=B at *;cases B
    ·go_wp2;go_roundw;(case rel=>exact ⟨k+1,Z,aY,by rw [r.out];exact A,q⟩);case measure=>simp [intOf];omega
    simp only [Bool.true_and] at d;subst d;go_wp2;go_roundw;(case rel=>exact ⟨k+1,Z,aY,by rw [r.out];exact A,q⟩);case measure=>simp [intOf];omega
   have r:=H (show bw m (k+1)=bw m k++[(k:Int)] by simp only [bw];rw [f];rfl);rw [f] at d;clear f b a;generalize (m k).isSome=B at *;cases B;·simp at d
   simp only [Bool.true_and] at d;subst d;have g:=H (A.alloc (.cells #[I k] 3));have f:=H (q.alloc q.size (.cells #[I k] 3));go_wp2_with (at_builtin;refine Ib _ rfl _ _ 24 rfl w.heap.size 3 P (I 0) 1 8 underlying24 s t x y rfl Z _ _ _ rfl g.out _ 1 1 [I k] rfl rfl ?hc ?h1c ?b1 ?b2 ?b3 ?_);(case hc=>exact ek _ _ _ _ bH);(case h1c=>intro u N;simp at N;subst N;rfl);(case b1=>unfold maxLen;omega);(case b2=>omega);(case b3=>exact f.size);intro v1 w1 j o _;have O:=H (IT j (f.grown o f.size (cI g.out)));clear j o;go_wp2;go_roundw;(case rel=>exact ⟨k+1,Z,aY,H (by rw [r.out];simpa [Ns] using O.1),H O.2⟩);case measure=>simp [intOf];omega
  have c:k=n:=Z;subst c;go_wp2;go_ret;exact⟨_,rfl,b.out,a.out⟩
end
section
open Go.ChangeShapes Go.WideShapes Go.ChangeAt Go.RowKit
def stA (k:Nat):Array Value:=((List.range 13).map λj=>Value.int .i64 (if j<=k then fp j else 0)).toArray
theorem pT (k):(stA k).size=13:=by simp [stA]
theorem lx (k j:Nat) (h:j<13):(stA k)[j]?=some (I (if j<=k then fp j else 0)):=by
 simp [stA,h]
theorem yN (k):(stA k).setIfInBounds (k+1) (I (fp (k+1)))=stA (k+1):=by
 apply Array.ext;·simp [stA]
 intro i c b;have d:i<13:=by simpa [stA] using b
 rw [Array.getElem_setIfInBounds (by simpa [stA] using b)];simp only [stA,List.getElem_toArray,List.getElem_map,List.getElem_range];by_cases a:k+1=i;·subst a;simp
 have e:(i<=k)↔(i<=k+1):=Z;simp [e,a]
theorem Ed:stA 0=#[Value.int IntKind.i64 1,Value.int IntKind.i64 0,Value.int IntKind.i64 0,Value.int IntKind.i64 0,Value.int IntKind.i64 0,Value.int IntKind.i64 0,Value.int IntKind.i64 0,Value.int IntKind.i64 0,Value.int IntKind.i64 0,Value.int IntKind.i64 0,Value.int IntKind.i64 0,Value.int IntKind.i64 0,Value.int IntKind.i64 0]:=E
def nG:Array Value:=#[Value.int IntKind.i64 0,Value.int IntKind.i64 0,Value.int IntKind.i64 0,Value.int IntKind.i64 0,Value.int IntKind.i64 0,Value.int IntKind.i64 0,Value.int IntKind.i64 0,Value.int IntKind.i64 0,Value.int IntKind.i64 0,Value.int IntKind.i64 0,Value.int IntKind.i64 0,Value.int IntKind.i64 0,Value.int IntKind.i64 0]
theorem jh (w:World) (o:Obj):(w.alloc o).heap[w.heap.size]?=some o:=(Hq w o).1
theorem zS (w:World) (o:Obj) (k:Nat) (h:k<w.heap.size):(w.alloc o).heap[k]?=w.heap[k]?:=(Hq w o).2 k h
theorem mg (w:World) (o:Obj):(w.alloc o).heap.size=w.heap.size+1:=by
 have e:(w.alloc o).heap=w.heap.push o:=rfl;rw [e,Array.size_push]
theorem Below.setRow {B:Nat} {a w:World} (h:Below B a w) {g:Nat} (c:B<=g) (b:Array Value):Below B a (w.setRow g b):=by
 refine h.trans ⟨rfl,rfl,rfl,by simp [World.setRow],λk d=>?_⟩;have:g≠k:=Z;simp [World.setRow,FD,this]
theorem eW (w) (a:Tb w) :
  Calls prog 108 #[] w λe f=>e=.returned (.agg (stA 12))/\D w f:=by
 have n:Hid (∀ (c:Int) w,Tb w->_):=λc w h=>lO c w h
 have o:=hidR a;clear a;go_enter func108,ntmps108;go_wp2;go_loopw [4] (λi wr=>∃ k:Nat,k<=12/\i=I k/\Hid (wr.heap[w.heap.size]?=some (.cells nG 205)/\wr.heap[w.heap.size+1]?=some (.cells (stA k) 205)/\D w wr)) (λi _=>12-(intOf i).toNat);case atStart =>
  refine⟨0,Z,rfl,?_,?_,?_⟩;·rw [zS _ _ _ (by rw [mg];omega)];exact jh _ _
  ·rw [Ed,<-mg w];exact jh _ _
  exact ((Fu _ _).alloc (Fv _) _).alloc (by rw [mg];omega) _
 case round =>
  obtain⟨k,x,rfl,d⟩:=hrel;by_cases q:k<12
  ·have r:=iU k;have s:=tM (k:Int);have u:wr.cell? ⟨w.heap.size+1,k,none⟩=some (I (fp k)):=by
    simp [World.cell?,d.2.1,lx k k Z]
   have y:wr.cell? ⟨w.heap.size+1,k+1,none⟩=some (I 0):=by
    simp [World.cell?,d.2.1,lx k (k+1) Z];intro h;omega
   have f2:wr.frozen? ⟨w.heap.size+1,k+1,none⟩=false:=by
    simp [World.frozen?,d.2.1]
   have m:Hid (∀ W:World,W.heap=wr.heap->Calls prog 155 #[I (k:Int)] W λe f=>e=.returned (I (rp (k:Int)))/\f=W):=λW v=>n.out _ W (by
    obtain⟨t,a,h⟩:=(o.below d.2.2).row;exact⟨t,a,by rw [v];exact h⟩)
   have j:=hidR (show fp (k+1)=fp k+rp (k:Int) from rfl);generalize fp k=a at r u j;generalize rp (k:Int)=b at s m j;go_wp2
   go_region_with (go_at_call 155;refine (m _ ?_).mono ?_;exact rfl;rintro e f ⟨rfl,rfl⟩)
   all_goals
    go_wp2
    go_roundw
    case rel =>
     refine⟨k+1,Z,aY,?_,?_,?_⟩;·have g:=d.1;simp [World.setCell,FD,World.drew,g]
     ·have l:=d.2.1;rw [<-yN,j.out];simp [World.setCell,FD,World.drew,l]
     exact d.2.2.drew.setCell (p:=⟨w.heap.size+1,k+1,none⟩) bH _
    case measure=>simp [intOf];omega
  obtain rfl:k=12:=Z;have g:=hidR d.1;have l:=hidR d.2.1;have b:=hidR (Below.setRow d.2.2 (Fv _) (stA 12));have j:Hid ((wr.setRow w.heap.size (stA 12)).heap[w.heap.size]?=some (.cells (stA 12) 205)):=by
   have:=g.out;exact hidR (by simp [World.setRow,FD,this])
  have a:=hidR (show (stA 12).all (·.oneCell')=true by kernel_rfl);go_wp2_with (first|refine Gt rfl 205 _ rfl _ rfl _ _ _ _ l underlying205 rfl E ?_|refine Gf rfl 205 _ _ rfl _ _ rfl rfl _ _ g E (by rw [pT];rfl) a ?_);refine GX (Gq dU _ _ w.heap.size 205 (stA 12) (0,0) _ dU j underlying205 rfl E) dU ?_;exact⟨rfl,b⟩
theorem kz (w:World) (k:Nat) (a:k<13):(Instr.index 205 (.agg (stA 12)) (I k)).run prog w=.ok (I (fp k)) w:=by
 have h:=lx 12 k a;rw [GP Z] at h;simp [Instr.index,run_underlying underlying205,asIntOf,a,go_sem,h]
theorem mO (c w) (a:Tb w) :
  Calls prog 161 #[I c] w λe b=>e=.returned (I (rs c))/\D w b:=by
 have d:=hidR (eW w a);by_cases h:0<=c/\c<12
 ·have f:=hidR (GA _ w h);rw [kB h];obtain⟨m,rfl⟩:=Ha h.1;have i:m<13:=Z;simp only [F0];have g:=hidR (λW=>kz W m i);clear a h;generalize stA 12=S at d g;go_enter func161,ntmps161;go_wp2_with fail;refine (f).mono ?_;rintro e b ⟨rfl,rfl⟩;go_wp2_with fail;refine (d).mono ?_;rintro e j ⟨rfl,k⟩;have l:=g.out j;go_wp2;go_ret;exact⟨rfl,k⟩
 rw [se h];have f:=hidR (dY _ w h);clear a h d;go_enter func161,ntmps161;go_wp2_with fail;refine (f).mono ?_;rintro e b ⟨rfl,rfl⟩;go_wp2;go_ret;exact⟨rfl,Fu _ _⟩
theorem iI (w) (a:Tb w) :
  Calls prog 67 #[] w λe d=>e=.returned (I 187)/\D w d:=by
 have b:=hidR (eW w a);have c:Hid (∀ W:World,(Instr.index 205 (.agg (stA 12)) (I 12)).run prog W=.ok (I 187) W):=λW=>by
  have:=kz W 12 Z;rw [pN] at this;exact this
 clear a;generalize stA 12=S at b c;go_enter func67,ntmps67;go_wp2_with fail;refine (b).mono ?_;rintro e a ⟨rfl,f⟩;have g:=c.out a;go_wp2;go_ret;exact⟨rfl,f⟩
theorem eH (w) (a:Tb w) :
  Calls prog 32 #[] w λe b=>e=.returned (I 283)/\D w b:=by
 have c:=hidR (iI w a);clear a;go_enter func32,ntmps32;go_wp2_with fail;refine (c).mono ?_;rintro e d ⟨rfl,a⟩;go_wp2;go_ret;exact⟨rfl,a⟩
def pl (k c s t p o:Int):Value:=.agg #[I k,I c,I s,I t,I p,I o]
def z6:Array Value:=#[I 0,I 0,I 0,I 0,I 0,I 0]
structure Rt (w:World) (g:Nat) (v:World):Prop where
 blk:v.heap[g]?=some (.cells z6 220)
 bel:D w v
 new:w.heap.size<=g
theorem Rt.first (w):Rt w w.heap.size (w.alloc (.cells z6 220)):=⟨jh _ _,(Fu _ _).alloc (Fv _) _,Fv _⟩
theorem Rt.below {v'} (h:Rt w g v) (b:D v v'):Rt w g v':=by
 have a:g<v.heap.size:=by
  by_cases a:g<v.heap.size;·exact a
  have:v.heap[g]?=none:=Hd Z;have c:=h.blk;rw [this] at c;cases c
 exact⟨by rw [b.block g a];exact h.blk,cv h.bel b,h.new⟩
theorem Rt.drew {w v g} (h:Rt w g v):Rt w g v.drew:=h.below (Fu _ _).drew
theorem Tb.drew {w} (h:Tb w):Tb w.drew:=⟨h.row⟩
theorem Rt.row (h:Rt w g v) (a:Array Value):(v.setRow g a).heap[g]?=some (.cells a 220):=by
 simp [World.setRow,FD,h.blk]
theorem Rt.done (h:Rt w g v) (a:Array Value):D w (v.setRow g a):=Below.setRow h.bel h.new a
theorem Rt.six (h:Rt w g v) (a b c d e f:Value) :
  ((((((v.setCell ⟨g,0,none⟩ a).setCell ⟨g,1,none⟩ b).setCell ⟨g,2,none⟩ c).setCell ⟨g,3,none⟩ d).setCell ⟨g,4,none⟩ e).setCell ⟨g,5,none⟩ f).drew.heap[g]?=some (.cells #[a,b,c,d,e,f] 220) /\
  D w ((((((v.setCell ⟨g,0,none⟩ a).setCell ⟨g,1,none⟩ b).setCell ⟨g,2,none⟩ c).setCell ⟨g,3,none⟩ d).setCell ⟨g,4,none⟩ e).setCell ⟨g,5,none⟩ f).drew:=by
 refine⟨?_,((((((h.bel.setCell h.new _).setCell h.new _).setCell h.new _).setCell h.new _).setCell h.new _).setCell h.new _).drew⟩;simp [World.drew,World.setCell,FD,h.blk,z6]
def zT (c s o:Int):Value :=
 if pg c*1024<=o then pl 1 c s 0 0 0
 else if sl c*sz c<=o then pl 2 c s 0 0 (o-sl c*sz c)
 else pl 3 c s (o/sz c) 0 (o%sz c)
theorem jH (c b:Int) (w) (j:Tb w) (h:0<=c/\c<12) (B:0<=b) (k:b<6*((pg c+1)*1024)) :
  Calls prog 163 #[I c,I b] w λe a=>e=.returned (zT c (b/((pg c+1)*1024)) (b%((pg c+1)*1024)))/\D w a:=by
 have f:=hidR (Rt.first w);have i:=hidR (j.below f.bel);have r:=hidR (gp c);have t:=hidR (eY c);have u:=hidR (dJ c);have x:=hidR (gK c);have F:=eJ h;have G:=fy h;have d:=kh h;have K:0<=b/((pg c+1)*1024)/\b/((pg c+1)*1024)<=6:=by
  have:pg c=1\/pg c=2\/pg c=3\/pg c=4:=Z;rcases this with e|e|e|e <;> rw [e] at k ⊢<;> omega
 have m:0<=b%((pg c+1)*1024)/\b%((pg c+1)*1024)<(pg c+1)*1024:=by
  have:pg c=1\/pg c=2\/pg c=3\/pg c=4:=Z;rcases this with e|e|e|e <;> rw [e] <;> omega
 have L:b<30720:=Z;unfold zT;clear j;have M:0<=sl c*sz c/\sl c*sz c<=pg c*1024:=⟨Int.mul_nonneg Z Z,d.2.2.2⟩;have y:4<=sl c/\sl c<=64:=⟨d.1,d.2.1⟩;clear d k;generalize sz c=s at *;generalize sl c=l at *;generalize pg c=p at *;unfold z6 at *;go_enter func163,ntmps163;go_wp2_with fail;generalize w.alloc (Obj.cells #[Value.int IntKind.i64 0,Value.int IntKind.i64 0,Value.int IntKind.i64 0,Value.int IntKind.i64 0,Value.int IntKind.i64 0,Value.int IntKind.i64 0] 220)=v at f i ⊢;generalize w.heap.size=g at f ⊢;refine (r _ i).mono ?_;rintro e a ⟨rfl,rfl⟩;go_wp2_with fail;go_region;have d:=hidR f.drew;have j:=hidR i.drew;clear f i;generalize a.drew=N at d j ⊢;go_wp2_with fail;refine (t _ j).mono ?_;rintro e a ⟨rfl,rfl⟩;have n:=hidR d.done;have o:=hidR d.row;have k:=hidR d.blk;have q:=hidR d.six;clear d;by_cases O:p*1024<=b%((p+1)*1024);·go_wp2_with (refine Gf rfl 220 _ _ rfl g _ rfl rfl 220 z6 k E rfl mL ?_);refine fM (o _) underlying220 ?_;exact⟨rfl,n _⟩
 have z:b%((p+1)*1024)<p*1024:=Z;go_wp2_with fail;refine (u _ j).mono ?_;rintro e a ⟨rfl,rfl⟩;go_wp2_with fail;refine (x _ j).mono ?_;rintro e a ⟨rfl,rfl⟩;by_cases P:l*s<=b%((p+1)*1024);·go_wp2_with (refine Gf rfl 220 _ _ rfl g _ rfl rfl 220 z6 k E rfl mL ?_);refine fM (o _) underlying220 ?_;exact⟨rfl,n _⟩
 have A:b%((p+1)*1024)<l*s:=Z;have Q:0<=b%((p+1)*1024)/s/\b%((p+1)*1024)/s<=4096:=⟨Int.ediv_nonneg m.1 Z,Int.le_trans (Int.ediv_le_self _ m.1) Z⟩;have R:0<=b%((p+1)*1024)%s/\b%((p+1)*1024)%s<s:=⟨IP _ Z,IB _ Z⟩;have d:∀ i,i<6->a.cell? ⟨g,i,none⟩=some (I 0):=λi S=>by
  have:i=0\/i=1\/i=2\/i=3\/i=4\/i=5:=Z;rcases this with rfl|rfl|rfl|rfl|rfl|rfl <;> simp [World.cell?,k.out,z6]
 have f:∀ i,a.frozen? ⟨g,i,none⟩=false:=λi=>by simp [World.frozen?,k.out]
 have T:=d 0 Z;have V:=d 1 Z;have W:=d 2 Z;have X:=d 3 Z;have Y:=d 4 Z;have c5:=d 5 Z;have f0:=f 0;have f1:=f 1;have f2:=f 2;have f3:=f 3;have f4:=f 4;have f5:=f 5;clear d f;go_wp2;go_region;go_wp2;refine GX (Gq dU _ _ g 220 _ (0,0) _ dU (q _ _ _ _ _ _).1 underlying220 rfl E) dU ?_;exact⟨rfl,(q _ _ _ _ _ _).2⟩
end
end Go.Proofs.YtibblbenmpcplaaGreatDoor
