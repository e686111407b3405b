import Derived.Conc.MuLone
import Derived.Deep.AppendLies
import Derived.Deep.OwnRows
import Derived.Laws.CopyOwn
import Derived.LoopIn
import Derived.LoopNIn
import Derived.OrdersHeld
import Derived.OwnWalkIn
import Derived.RangeFuncBound
import Derived.RangeFuncNested
import Derived.Shelf.RegionOpen
import Derived.Test.YtibblbenmpcplaaGreatDoorN00
set_option linter.unusedVariables false
set_option linter.unusedSimpArgs false
set_option maxRecDepth 20000
set_option maxHeartbeats 8000000
namespace Go.Proofs.YtibblbenmpcplaaGreatDoor
open Go.Proofs.Tryz
variable {f:Nat->Option Nat} {W w:World} {M S:Nat} {zs:List Int}
section
open Go.ChangeShapes Go.WideShapes Go.ChangeAt Go.RowKit
theorem Tryz.info5By:(prog.info? 5).map (λi=>(i.zero,i.size,i.bytes))=some (some (.int .u8 0),1,1):=E
end
section
open Go.RowKit Go.Shelf
attribute [local go_sem] Oper.semAt_some
def bQ (m:Nat->Option (Bool×List Int)) (first:Nat):Nat->(Nat->Option (Bool×List Int))
 | 0=>m
 | k+1=>dT (bQ m first k) (first+k) none
theorem Pg.drop {m} (h:Pg f m W) (k):Pg (upd f k none) (dT m k none) W:=by
 constructor
 ·intro j;by_cases e:j=k;·subst e;exact .inl ⟨upd_same _ _ _,bV _ _ _⟩
  rw [aW m k j _ e,aI f k j _ e];exact h.at' j
 intro i j b a c;by_cases e:i=k;·subst e;rw [upd_same] at a;cases a
 by_cases d:j=k;·subst d;rw [upd_same] at c;cases c
 rw [aI f k i _ e] at a;rw [aI f k j _ d] at c;exact h.inj i j b a c
theorem Pg.without {f m W} (h:Pg f m W) (first):∀ k,Pg (without f first k) (bQ m first k) W
 | 0=>h
 | k+1=>(Pg.without h first k).drop (first+k)
theorem Pg.turned {m} {c:World} (h:Pg f m W) (d:∀ k b,f k=some b->b≠M) (e:W.mapTurned c M):Pg f m c:=by
 refine⟨?_,h.inj⟩;intro j;rcases h.at' j with a|⟨b,l,g,a,i,k,n⟩;·exact .inl a
 exact .inr ⟨b,l,g,a,i,k,by rw [dQ e (d j b a)];exact n⟩
theorem gT {f first} : ∀ {k j b:Nat},without f first k j=some b->f j=some b
 | 0,_,_,h=>h
 | k+1,j,b,h=>by
  simp only [without] at h
  by_cases e:j=first+k
  ·subst e;rw [upd_same] at h;cases h
  rw [aI _ _ _ _ e] at h
  exact gT h
theorem Fr.without {a:World} (first k:Nat) (b:W.mapTurned a M):Fr S M f (without f first k) W a:=by
 have h:=(Fr.refl S M f W).turned b;exact⟨h.os,h.tape,h.output,h.size,h.block,λj g e=>.inl ⟨j,gT e⟩⟩
theorem oB (S M st n bud f m) (first a:Nat) (w) (h:Im S M st n bud f w) (j:Pg f m w) (k:0<=n) (d:n<=4096) (g:bI n first a=true) (b:bm f first a=a) :
  Calls prog 165 #[J S 0,I first,I a] w λe c=>e=.returned (I 0)/\∃ i,Im S M st n bud i c/\Pg i (bQ m first a) c/\Fr S M f i w c:=by
 refine (oJ S M st n bud f first a w h k d g b).mono ?_;rintro e c ⟨rfl,l,i⟩;exact⟨rfl,_,l,(j.without first a).turned (λk b e=>(j.apart h (gT e)).2) i,Fr.without first a i⟩
abbrev Bv:Go.Conc.Locks.MuLink:={ lock:=85,unlock:=86,ilock:=133,iunlock:=134,lockSlow:=173,unlockSlow:=176,disable:=169,enable:=171,acquire:=172,relMerge:=174,cas32:=170,add32:=175,tMutex:=144,tIMutex:=142,tPMutex:=223,tPIMutex:=246,tPI32:=248,tUP:=250,tNoCopy:=139,tU32:=140 }
theorem jw:Go.Conc.Locks.MuLib prog Bv :=
 ⟨func85,func86,func133,func134,func169,func171,func172,func174,func170,func175,underlying142,Tryz.runUnderlying142,Tryz.sizeOf142,Tryz.isAgg142,Tryz.zeroValue142,underlying144,Tryz.runUnderlying144,Tryz.sizeOf144,Tryz.isAgg144,Tryz.zeroValue144,underlying223,Tryz.runUnderlying223,Tryz.sizeOf223,Tryz.isAgg223,Tryz.zeroValue223,underlying246,Tryz.runUnderlying246,Tryz.sizeOf246,Tryz.isAgg246,Tryz.zeroValue246,underlying248,Tryz.runUnderlying248,Tryz.sizeOf248,Tryz.isAgg248,Tryz.zeroValue248,underlying250,Tryz.runUnderlying250,Tryz.sizeOf250,Tryz.isAgg250,Tryz.zeroValue250,underlying139,Tryz.runUnderlying139,Tryz.sizeOf139,Tryz.isAgg139,Tryz.zeroValue139,underlying21,Tryz.runUnderlying21,Tryz.sizeOf21,Tryz.isAgg21,Tryz.zeroValue21,E⟩
theorem fX {n bud} (h:Im S M 0 n bud f w):Calls prog 85 #[J S 0] w λe a=>e=.returned (.tuple #[])/\a=w.setCell ⟨S,0,none⟩ (.int .i32 1) :=
 Go.MuLone.lock_free jw ⟨S,0,none⟩ w (by simp [World.cell?,h.box]) (by simp [World.frozen?,h.box])
theorem Im.st {st n bud} (h:Im S M st n bud f w) (st'):Im S M st' n bud f (w.setCell ⟨S,0,none⟩ (.int .i32 st')):=by
 obtain⟨a,c,g⟩:=h.map;refine⟨bj h.box _,a,c.kept (au (al w S) 0 _) (λe=>?_),g⟩;obtain⟨i,b,d,_⟩:=c;simp at e;subst e;rw [h.box] at d;cases d
def AB (e:Nat) (p c:Int):Prop:=1<=c/\0<=p/\c<=e/\p<=(e:Int)-c
end
section
open Go.ChangeShapes Go.WideShapes Go.ChangeAt Go.RowKit
def Sl (w:World) (a:Option Addr) (zs:List Int):Prop:=(a=none/\zs=[])\/∃ g,a=some ⟨g,0,none⟩/\RowV w g 3 (Ns .i64 zs)
theorem Sl.cells {a} (h:Sl w a zs):∀ i,i<zs.length->∃ g,a=some ⟨g,0,none⟩/\w.cell? ⟨g,i,none⟩=some (I (zs[i]?.getD 0)):=by
 intro i b;rcases h with ⟨_,rfl⟩|⟨g,rfl,c⟩;·simp at b
 exact⟨g,rfl,jZ c i b⟩
theorem Sl.below {w w' a zs} (h:Sl w a zs) (c:D w w'):Sl w' a zs:=by
 rcases h with h|⟨g,e,b⟩;·exact .inl h
 exact .inr ⟨g,e,b.below c b.lt⟩
def nb (l:Int) (zs:List Int):Bool:=zs.all λx=>decide (l<=x)
def md (d:Int) (m:Nat):Nat:=(d%(m:Int)).toNat
theorem oh (d) (m:Nat) (h:0<m):md d m<m:=by
 unfold md;have a:=IP d (b:=(m:Int)) Z;have c:=IB d (b:=(m:Int)) Z;omega
theorem oT (d) (m:Nat) (h:0<m):(md d m:Int)=if d.tmod m<0 then d.tmod m+m else d.tmod m:=by
 unfold md;have g:=IP d (b:=(m:Int)) Z;rw [IK g];have c:=Int.tmod_eq_emod (a:=d) (b:=(m:Int));have i:=IB d (b:=(m:Int)) Z;have e:((Int.natAbs (m:Int):Nat):Int)=m:=Z;by_cases f:0<=d\/(m:Int)∣d;·rw [GP f] at c;rw [GO Z];omega
 rw [GO f] at c;rw [c,e];rw [GP Z];omega
theorem kj (d:Int) (m:Nat) (h:0<m) : -(m:Int)<=d.tmod m/\d.tmod m<m:=by
 have a:=oT d m h;have b:=oh d m h;split at a <;> rename_i c
 ·omega
 omega
theorem Fb (x:Int) (h : -1048576<=x/\x<=2097152):wrap64 x=x:=by
 unfold wrap64;omega
theorem sE (x m:Int) (a:0<=x) (h:x<m):x.tmod m=x:=by
 rw [GH a,Int.emod_eq_of_lt a h]
theorem uG (x m:Int) (a:0<=x) (h:x<m):(x+m).tmod m=x:=by
 rw [GH Z,Int.add_emod_right,Int.emod_eq_of_lt a h]
theorem iA (d) (m:Nat) (w:World) (b:0<m) (l:m<=1048576) :
  Calls prog 158 #[I d,I m] w λe g=>e=.returned (I (md d m:Nat))/\g=w:=by
 have n:((m:Int)==0)=false:=bG;have i:=kj d m b;have j:=Fb (d.tmod m+m) Z;have c:=oT d m b;have k:=oh d m b;have a:Hid ((d.tmod m+m).tmod m=(md d m:Nat)):=by
  show (d.tmod m+m).tmod m=(md d m:Nat);by_cases f:d.tmod m<0;·rw [GP f] at c;rw [sE _ _ Z Z];omega
  rw [GO f] at c;rw [uG _ _ Z Z];omega
 clear c k i;go_enter func158,ntmps158;go_wp2;go_ret;refine⟨cX ?_,rfl⟩
 first|exact a.out|(rw [j];exact a)
theorem lU (d) (m:Nat) (w:World) (c:0<m) (j:m<=1048576) :
  Calls prog 208 #[I d,I m] w λe g=>e=.returned (I (md d m:Nat))/\g=w:=by
 have k:((m:Int)==0)=false:=bG;have b:=oT d m c;have l:=kj d m c;by_cases f:d.tmod m<0
 ·rw [GP f] at b;have a:=H b;have i:=Fb (d.tmod m+m) Z;clear b;go_enter func208,ntmps208;go_wp2;go_ret;refine⟨cX ?_,rfl⟩
  first|exact a.symm|(rw [i];exact a.symm)
 rw [GO f] at b;have a:=H b;clear b;go_enter func208,ntmps208;go_wp2;go_ret;exact⟨cX a.symm,rfl⟩
theorem lu (G r n b o i k:Nat) (ps:List Int) (x:Int) (w:World) (g:(o+i)%n=k) (l:ps.length=n) (c:0<n) (m:n<=1048576) (s:o<=1048576) (t:i<=1048576)
  (u:w.cell? ⟨G,0,none⟩=some (Vl r n b)) (v:w.cell? ⟨G,1,none⟩=some (I o)) (a:RowV w r 3 (Ns .i64 ps)) :
  Calls prog 256 #[J G 0,I i,I x] w λe j=>e=.returned (I (ps[k]?.getD 0))/\RowV j r 3 (Ns .i64 (ps.set k x))/\w.grownBy j (some r):=by
 have y:((n:Int)==0)=false:=bG;have d:(o+i)%n<n:=Nat.mod_lt _ c;have f:((o:Int)+(i:Int))%(n:Int)=(((o+i)%n:Nat):Int):=bH;rw [g] at d f;have z:=jZ a k Z;have A:=a.free k;have p:=H (a.set k (by rw [bv];omega) (I x)).drew;have q:=H (rW (au (al w r) k (I x)));clear a l g;go_enter func256,ntmps256;go_wp2;go_region;rw [f];clear f;go_wp2;go_ret;exact⟨rfl,by rw [<-wQ];exact p,q⟩
def cx (a b:Int):Int:=IntKind.u64.wrap (bits BinOp.xor IntKind.u64 a b*11400714819323198485)
theorem nT (a b):0<=cx a b/\cx a b<18446744073709551616:=by
 unfold cx;simp only [IntKind.wrap,IntKind.signed,IntKind.bits];constructor <;> simp <;> omega
def cb (x:Int) (k:Nat):Int:=if x/2 ^ (8*k)%256<1 then 1 else x/2 ^ (8*k)%256
def gI (x:Int):List Int:=(List.range 8).map λj=>if j=0 then 0 else cb x j
theorem dK (x):(gI x).length=8:=by simp [gI]
theorem qW (x) (k:Nat) (a:1<=k) (h:k<8):(gI x)[k]?=some (cb x k):=by
 simp [gI,h,show k≠0 by omega]
theorem vH (x):(gI x)[0]?=some 0:=by simp [gI]
theorem vh (x) (k:Nat) (a:1<=k) (h:k<8):(gI x).take (k+1)=(gI x).take k++[cb x k]:=by
 rw [F_,qW x k a h];rfl
theorem Dx (x k):1<=cb x k/\cb x k<256:=by
 unfold cb;generalize x/2 ^ (8*k)=y;split <;> omega
theorem rk (a b:Int) (w:World) (O:0<=a) (P:a<18446744073709551616) (Q:0<=b) (R:b<18446744073709551616) :
  Calls prog 80 #[U a,U b] w λe A=>e=.returned (Vl w.heap.size 8 8)/\RowV A w.heap.size 5 (Ns .u8 (gI (cx a b)))/\D w A:=by
 obtain⟨K,L,m,n,o⟩:=G0 Tryz.info5By;obtain⟨q,r⟩:=nT a b;unfold cx at q r ⊢;go_enter func80,ntmps80;go_wp2_with (at_make;refine wpList_make_full _ rfl _ _ 22 rfl w.heap.size 5 K (.int .u8 0) 1 underlying22 L m n .i64 .i64 _ _ 8 rfl rfl rfl rfl ?c1 ?c2 ?c3 ?_);case c1=>rw [o];omega
 case c2=>unfold maxLen;omega
 case c3=>exact Fv _
 intro B d c;have s:RowV B w.heap.size 5 (Ns .u8 (List.replicate 8 0)):=by
  have:=RowV.ofOwns d;simpa [Ns,Ii,Value.cells] using this
 have t:D w B:=(Fu _ w).grown c (Fv _) bH;clear d c;go_wp2;generalize c:IntKind.u64.wrap (bits BinOp.xor IntKind.u64 a b*11400714819323198485)=x at *;have M:=H c;clear c;go_loopw [7] (λi wr=>∃ (k:Nat) (l:List Int),1<=k/\k<=8/\i=I k/\Agree l (gI x) k/\RowV wr w.heap.size 5 (Ns .u8 l)/\D w wr) (λi _=>8-(intOf i).toNat);case atStart=>exact ⟨1,_,Z,Z,rfl,⟨by simp [dK],λj c=>by rw [show j=0 by omega,vH];rfl⟩,s,t⟩
 case round =>
  obtain⟨k,l,u,S,rfl,f,c,d⟩:=hrel;have g:l.length=8:=by rw [f.1,dK]
  by_cases v:k<8
  ·have z:=jZ c k Z;have N:=c.free k;have y:=c.set k (by rw [bv,g];omega) (.int .u8 (cb x k));rw [wQ] at y;have F:=f.succ (by rw [dK];omega) _ (qW x k u v);have G:=d.setCell (p:=⟨w.heap.size,k,none⟩) (Fv _) (.int .u8 (cb x k));have j:=H (IT y (IT F G));clear y F G c d f s t g;generalize l[k]?.getD 0=y at z;unfold cb at j;go_wp2;go_roundw;(case rel=>exact ⟨k+1,_,Z,Z,aY,j.2.1,j.1,j.2.2⟩);case measure=>simp [intOf];omega
  have j:=H (IT (f.all (by rw [dK];omega)▸c) d);clear c d f s t g;go_wp2;go_ret;rw [M.out];exact⟨rfl,j⟩
theorem qU (W:World) (x:Value) (t:TypeId) (b:Nat) (a:W.heap.size=b):∀ j u,[x][j]?=some u->(W.alloc (.cells #[x] t)).cell? ((⟨b,0,none⟩:Addr).add j)=some u:=by
 subst a;intro j u h;cases j with
 | zero =>
  simp at h;subst h;rw [show (⟨W.heap.size,0,none⟩:Addr).add 0=⟨W.heap.size,0,none⟩ from rfl,World.cell?_alloc_at _ _ _ _ rfl];rfl
 | succ j=>simp at h
theorem nH {A:World} {a:Nat} {e:TypeId} {v:Value} {n:Nat} {b:List Value} (h:A.ownsRow a e 1 v n b):∀ r,v.ownBlock=some r->a<=r:=by
 intro r e;rcases h.2 with ⟨rfl,_⟩|⟨g,c,d,rfl,f,i,_⟩;·cases e
 cases e;exact f
theorem wz (w:World) (t:TypeId) (x:Value):(w.alloc (.cells #[x] t)).ownsRow w.heap.size t 1 (Vl w.heap.size 1 1) 1 [x]:=by
 refine⟨rfl,.inr ⟨w.heap.size,1,#[x],rfl,Fv _,?_,?_⟩⟩;·show (w.heap.push (.cells #[x] t))[w.heap.size]?=_;simp
 refine⟨Fv _,by unfold maxLen;omega,rfl,rfl⟩
theorem rO (a b:Int) (w:World) (Q:0<=a) (R:a<18446744073709551616) (S:0<=b) (T:b<18446744073709551616) :
  Calls prog 144 #[U a,U b] w λe B=>∃ v,e=.returned v/\B.ownsRow w.heap.size 5 1 v 8 (Ns .u8 (gI (cx a b)))/\D w B:=by
 obtain⟨F,G,n,o,p⟩:=G0 Tryz.info5By;obtain⟨t,y⟩:=nT a b;unfold cx at t y ⊢;have q:=H (wz w 5 (.int .u8 0));have K:=H ((Fu w.heap.size w).alloc (Fv _) (.cells #[.int .u8 0] 5));go_enter func144,ntmps144;go_wp2;generalize c:IntKind.u64.wrap (bits BinOp.xor IntKind.u64 a b*11400714819323198485)=x at *;have L:=H c;clear c;go_loopw [6,7,8] (λv i _ wr=>∃ k:Nat,1<=k/\k<=8/\i=I k/\Hid (wr.ownsRow w.heap.size 5 1 v k (Ns .u8 ((gI x).take k)))/\Hid (D w wr)) (λ_ i _ _=>8-(intOf i).toNat);case atStart=>exact ⟨1,Z,Z,rfl,q,K⟩
 case round =>
  obtain⟨k,z,V,rfl,f,c⟩:=hrel;clear q K;by_cases A:k<8
  ·have q:=H (vh x k z A);have m:=H (show cb x k=if x/2 ^ (8*k)%256<1 then 1 else x/2 ^ (8*k)%256 from rfl);by_cases W:x/2 ^ (8*k)%256=0
   ·have m:=H (show cb x k=1 by rw [m.out,GP Z]);have g:=H (f.alloc (.cells #[.int .u8 1] 5));have d:=H (c.alloc c.size (.cells #[.int .u8 1] 5));go_wp2_with (at_builtin;refine Ib _ rfl _ _ 22 rfl w.heap.size 5 F (.int .u8 0) 1 1 underlying22 G n o p rfl Z _ _ _ rfl g _ 1 1 [.int .u8 1] rfl rfl ?hc ?h1c ?b1 ?b2 ?b3 ?_);(case hc=>exact qU _ _ _ _ bH);(case h1c=>intro u r;simp at r;subst r;rfl);(case b1=>unfold maxLen;omega);(case b2=>omega);(case b3=>exact d.size);intro M N j l _;have s:=H (IT j (d.grown l d.size (nH g)));clear j l;go_wp2;go_roundw;(case rel=>exact ⟨k+1,Z,Z,aY,H (by rw [q.out,m.out];simpa [Ns] using s.1),H s.2⟩);case measure=>simp [intOf];omega
   have O:0<=x/2 ^ (8*k)%256:=Z;have P:x/2 ^ (8*k)%256<256:=Z;have m:=H (show cb x k=x/2 ^ (8*k)%256 by rw [m.out,GO Z]);have g:=H (f.alloc (.cells #[.int .u8 (x/2 ^ (8*k)%256)] 5));have d:=H (c.alloc c.size (.cells #[.int .u8 (x/2 ^ (8*k)%256)] 5));go_wp2_with (at_builtin;refine Ib _ rfl _ _ 22 rfl w.heap.size 5 F (.int .u8 0) 1 1 underlying22 G n o p rfl Z _ _ _ rfl g _ 1 1 [.int .u8 (x/2 ^ (8*k)%256)] rfl rfl ?hc ?h1c ?b1 ?b2 ?b3 ?_);(case hc=>exact qU _ _ _ _ bH);(case h1c=>intro u r;simp at r;subst r;rfl);(case b1=>unfold maxLen;omega);(case b2=>omega);(case b3=>exact d.size);intro M N j l _;have s:=H (IT j (d.grown l d.size (nH g)));clear j l;go_wp2;go_roundw;(case rel=>exact ⟨k+1,Z,Z,aY,H (by rw [q.out,m.out];simpa [Ns] using s.1),H s.2⟩);case measure=>simp [intOf];omega
  have d:k=8:=Z;subst d;have g:=H (show wr.ownsRow w.heap.size 5 1 u6 8 (Ns .u8 (gI x)) by
   have:=f.out;rwa [Ge (by rw [dK];exact Fv _)] at this)
  clear f;go_wp2;go_ret;rw [L.out];exact⟨_,rfl,g,c⟩
theorem mD (c:Int) (w:World) (h:0<=c/\c<12) :
  Calls prog 63 #[I c] w λe a=>e=.returned (I (sz c))/\D w a:=by
 rcases fh h with rfl|rfl|rfl|rfl|rfl|rfl|rfl|rfl|rfl|rfl|rfl|rfl
 all_goals
  clear h
  go_enter func63,ntmps63
  go_wp2
  go_ret
  exact⟨rfl,by repeat (first|exact Fu _ _|apply Below.drew|(refine Below.alloc ?_ (Fv _) _))⟩
theorem kS (c:Int) (w:World) (b:c<0) :
  Calls prog 63 #[I c] w λe a=>e=.returned (I 0)/\D w a:=by
 go_enter func63,ntmps63;go_wp2;go_ret;exact⟨rfl,by repeat (first|exact Fu _ _|apply Below.drew|(refine Below.alloc ?_ (Fv _) _))⟩
theorem kM (c:Int) (w:World) (b:0<=c) (d:12<=c) :
  Calls prog 63 #[I c] w λe a=>e=.returned (I 0)/\D w a:=by
 go_enter func63,ntmps63;go_wp2;go_ret;exact⟨rfl,by repeat (first|exact Fu _ _|apply Below.drew|(refine Below.alloc ?_ (Fv _) _))⟩
theorem dx (c) (w:World) :
  Calls prog 63 #[I c] w λe a=>e=.returned (I (sz c))/\D w a:=by
 by_cases h:0<=c/\c<12;·exact mD c w h
 rw [gP h];by_cases b:c<0;·exact kS c w b
 exact kM c w Z Z
def eN (mix fifo:List Int) (e:Int):Bool:=decide (mix.length<=16)&&(decide (1<=e)&&(decide (e<=32)&&(decide ((fifo.length:Int)<=e)&&(nb (-1) mix&&nb 0 fifo))))
def wv (i:Option Addr) (v u:Nat) (t:Option Addr) (j cf:Nat) (e:Int):Value:=.agg #[.slice i v u,.slice t j cf,I e]
structure Wt (w:World) (am:Option Addr) (lm:Nat) (af:Option Addr) (lf:Nat) (mix fifo:List Int):Prop where
 m:Sl w am mix
 ml:mix.length=lm
 f:Sl w af fifo
 fl:fifo.length=lf
theorem Wt.below {w w' am lm af lf mix fifo} (h:Wt w am lm af lf mix fifo) (a:D w w'):Wt w' am lm af lf mix fifo :=
 ⟨h.m.below a,h.ml,h.f.below a,h.fl⟩
theorem tL {l} {k:Nat} (h:nb l (zs.take k)=true) (b:k<zs.length) (a:l<=zs[k]?.getD 0):nb l (zs.take (k+1))=true:=by
 unfold nb at *;rw [F_,List.all_append,h];simp [b] at a ⊢;exact a
theorem yA {l:Int} {k:Nat} (b:k<zs.length) (a:¬l<=zs[k]?.getD 0):nb l zs=false:=by
 unfold nb;rw [List.all_eq_false];simp [b] at a;exact⟨zs[k],bH,by simpa using a⟩
theorem u_ (am lm cm af lf cf lim mix fifo w) (h:Wt w am lm af lf mix fifo) :
  Calls prog 209 #[wv am lm cm af lf cf lim] w λe y=>e=.returned (.bool (eN mix fifo lim))/\D w y:=by
 unfold wv;have j:=H ((Fu _ w).alloc (Fv _) (.cells #[.slice am lm cm,.slice af lf cf,I lim] 94));by_cases r:lm<=16;case neg =>
  have d:=H (show eN mix fifo lim=false by unfold eN;rw [h.ml,GR r];rfl);have z:(16<(lm:Int)):=Z;clear h;go_enter func209,ntmps209;go_wp2;go_ret;exact⟨cQ d.symm,j⟩
 have z:¬(16<(lm:Int)):=Z;by_cases s:1<=lim;case neg =>
  have d:=H (show eN mix fifo lim=false by unfold eN;rw [GR s];simp);have A:lim<1:=Z;clear h;go_enter func209,ntmps209;go_wp2;go_ret;exact⟨cQ d.symm,j⟩
 have A:¬(lim<1):=Z;by_cases t:lim<=32;case neg =>
  have d:=H (show eN mix fifo lim=false by unfold eN;rw [GR t];simp);have B:32<lim:=Z;clear h;go_enter func209,ntmps209;go_wp2;go_ret;exact⟨cQ d.symm,j⟩
 have B:¬(32<lim):=Z;by_cases u:(lf:Int)<=lim;case neg =>
  have d:=H (show eN mix fifo lim=false by unfold eN;rw [h.fl,GR u];simp);have F:lim<(lf:Int):=Z;clear h;go_enter func209,ntmps209;go_wp2;go_ret;exact⟨cQ d.symm,j⟩
 have F:¬(lim<(lf:Int)):=Z;have d:=H (show eN mix fifo lim=(nb (-1) mix&&nb 0 fifo) by
  unfold eN;rw [h.ml,h.fl,G8 r,G8 s,G8 t,G8 u];simp)
 have v:=H (h.m.below j).cells;have G:=H (h.f.below j).cells;have o:=H h.ml;have p:=H h.fl;clear h;go_enter func209,ntmps209;go_wp2;go_loopw [32] (λi wr=>∃ k:Nat,k<=lm/\i=I k/\wr=w.alloc (.cells #[.slice am lm cm,.slice af lf cf,I lim] 94)/\Hid (nb (-1) (mix.take k)=true)) (λi _=>lm-(intOf i).toNat);case atStart=>exact ⟨0,FH _,rfl,rfl,by show nb _ _=_;rfl⟩
 case round =>
  obtain⟨k,K,rfl,rfl,b⟩:=hrel;by_cases c:k<lm
  ·obtain⟨g,rfl,L⟩:=v.out k (by rw [o.out];exact c);have a:k<mix.length:=(by rw [o.out];exact c);by_cases l : -1<=mix[k]?.getD 0
   ·have m:=H (tL b a l);have n:¬(mix[k]?.getD 0 < -1):=Z;clear l a;generalize mix[k]?.getD 0=x at *;go_wp2;go_roundw;(case rel=>exact ⟨k+1,Z,aY,trivial,m⟩);case measure=>simp [intOf];omega
   have m:=H (yA a l);have n:mix[k]?.getD 0 < -1:=Z;clear l a;generalize mix[k]?.getD 0=x at *;go_wp2;go_ret;exact⟨cQ (by rw [d.out,m.out];rfl),j⟩
  have M:=H (show nb (-1) mix=true by
   have:=b.out;rwa [show k=lm by omega,<-o.out,G9] at this)
  have q:¬((k:Int)<(lm:Int)):=Z;clear b v;go_wp2;go_loopw [42] (λi wr=>∃ k:Nat,k<=lf/\i=I k/\wr=w.alloc (.cells #[.slice am lm cm,.slice af lf cf,I lim] 94)/\Hid (nb 0 (fifo.take k)=true)) (λi _=>lf-(intOf i).toNat);case atStart=>exact ⟨0,FH _,rfl,rfl,by show nb _ _=_;rfl⟩
  case round =>
   clear c q;obtain⟨f,K,rfl,rfl,b⟩:=hrel;by_cases c:f<lf
   ·obtain⟨g,rfl,L⟩:=G.out f (by rw [p.out];exact c);have a:f<fifo.length:=(by rw [p.out];exact c);by_cases l:0<=fifo[f]?.getD 0
    ·have m:=H (tL b a l);have n:¬(fifo[f]?.getD 0<0):=Z;clear l a;generalize fifo[f]?.getD 0=x at *;go_wp2;go_roundw;(case rel=>exact ⟨f+1,Z,aY,trivial,m⟩);case measure=>simp [intOf];omega
    have m:=H (yA a l);have n:fifo[f]?.getD 0<0:=Z;clear l a;generalize fifo[f]?.getD 0=x at *;go_wp2;go_ret;exact⟨cQ (by rw [d.out,m.out];simp),j⟩
   have N:=H (show nb 0 fifo=true by
    have:=b.out;rwa [show f=lf by omega,<-p.out,G9] at this)
   clear b;go_wp2;go_ret;exact⟨cQ (by rw [d.out,M.out,N.out];rfl),j⟩
end
end Go.Proofs.YtibblbenmpcplaaGreatDoor
