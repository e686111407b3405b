import Derived.Shelf.SlSortCmp.NoneTotal
import Derived.Test.YtibblbenmpcplaaGreatDoorN44
set_option linter.unusedVariables false
set_option linter.unusedSimpArgs false
set_option maxRecDepth 20000
set_option maxHeartbeats 8000000
namespace Go.Proofs.YtibblbenmpcplaaGreatDoor
open Go.Proofs.Tryz
section
open Go.RowKit Go.Maps
theorem A1 (w:World):(binOp .eql 34 (C) (C)).run prog w=.ok (.bool true) w:=E
theorem Cm (x:Addr) (n c:Nat) (w:World):(binOp .eql 34 (.slice (some x) n c) (C)).run prog w=.ok (.bool false) w:=E
theorem oS (W:World):Calls prog 52 #[C] W λe a=>e=.returned (C)/\a=W:=by
 have b:=A1;go_enter func52,ntmps52;go_wp2;go_ret;exact⟨rfl,rfl⟩
theorem p_ (x:Addr) (c:Nat) (l) (W:World) (f:∀ j u,(Us l)[j]?=some u->W.cell? (x.add j)=some u) (o:l.length<=100000) :
  Calls prog 52 #[.slice (some x) l.length c] W λe g=>∃ v,e=.returned v/\g.ownsRow W.heap.size 23 1 v l.length (Us l)/\D W g:=by
 have b:D W (W.alloc (.cells #[] 23)):=(Fu _ _).alloc (Fv _) _;obtain⟨p,a,d,i,k⟩:=jQ (W.alloc (.cells #[] 23)) W.heap.size (Vl W.heap.size 0 0) [] l x c ⟨rfl,.inr ⟨W.heap.size,0,#[],rfl,Fv _,ao W _,Fv _,FH _,rfl,rfl⟩⟩ (λj u a=>ad b (f j u a)) (by simpa using o) b.size;have m:=H (IT i (b.grown k b.size (λr a=>by simp [Value.ownBlock] at a;omega)));clear i k b f;generalize b:l.length=n at *;have f:=Cm x n c;go_enter func52,ntmps52;go_wp2_with (at_builtin;refine cY rfl _ _ rfl rfl rfl rfl d ?_);go_wp2;go_ret;exact⟨_,rfl,by simpa [b] using m.1,m.2⟩
theorem xt (B v l W) (h:Um B W v l) (i:l.length<=100000) :
  Calls prog 52 #[v] W λe b=>∃ a,e=.returned a/\b.ownsRow W.heap.size 23 1 a l.length (Us l)/\D W b:=by
 rcases h with ⟨rfl,rfl⟩|⟨g,o,d,c,rfl,n,k,p,q,m⟩;·refine (oS W).mono ?_;rintro e b ⟨rfl,rfl⟩;exact⟨_,rfl,⟨rfl,.inl ⟨rfl,rfl⟩⟩,Fu _ _⟩
 refine p_ ⟨g,o,none⟩ d l W (λj u f=>?_) i;have a:j<l.length:=by have:=(Fz.1 f).1;simpa [fK] using this
 rw [Addr.add_mid,GT _ _ _ _ _ _ k,m.2.2 j a,<-f];simp [Us,a]
theorem vO {d t:Nat} {V:World} {a b c:Value} (h:V.heap[d]?=some (.cells #[a,b,c] t)):V.cell? ⟨d,0,none⟩=some a/\V.cell? ⟨d,1,none⟩=some b/\V.cell? ⟨d,2,none⟩=some c:=by
 refine⟨?_,?_,?_⟩ <;> (rw [GT _ _ _ _ _ _ h];rfl)
end
end Go.Proofs.YtibblbenmpcplaaGreatDoor
namespace Go.Proofs
open Go.Shelf Go.RowKit Go.Lib Go.Sort
shelf_lay_g SlLaysF0.n6 Slsf 6 at Tryz 89 as Tryz.sortR
end Go.Proofs
namespace Go.Proofs.YtibblbenmpcplaaGreatDoor
open Go.Proofs.Tryz
section
open Go.Shelf Go.RowKit Go.Lib Go.Sort
instance : Inhabited Rg9 := ⟨⟨0, 0, 0, 0, 0⟩⟩
def tq (x y : Rg9) : Int := Lib.compareInt (x.base : Nat) (y.base : Nat)
theorem Er (x y:Rg9):ltOf tq x y=decide (x.base<y.base):=by
 unfold ltOf tq Lib.compareInt;by_cases a:x.base<y.base;·simp [a]
 ·by_cases b:y.base<x.base <;> simp [a,b]
theorem Ev:SWO (ltOf tq) where
 irrefl x:=by rw [Er];simp
 trans x y z h1 h2:=by rw [Er] at *;simp at *;omega
 ntrans x y z h1 h2:=by rw [Er] at *;simp at *;omega
set_option maxHeartbeats 1000000 in
set_option maxHeartbeats 1000000 in
theorem sU (x y:Nat) (W:World):Calls prog 91 #[.int .u64 (x:Nat),.int .u64 (y:Nat)] W λe a=>e=.returned (.int .i64 (Lib.compareInt (x:Nat) (y:Nat)))/\a=W:=by
 have b:=H qj;unfold Lib.compareInt;by_cases c:(x:Int)<(y:Int)
 ·rw [GP c];go_enter func91,ntmps91;go_wp2_with fail;refine (b _ _).mono ?_;rintro e a ⟨rfl,rfl⟩;go_wp2_with fail;refine (b _ _).mono ?_;rintro e a ⟨rfl,rfl⟩;go_wp2;go_ret;exact⟨rfl,rfl⟩
 ·rw [GO c];have f:decide ((x:Int)<(y:Int))=false:=GR c;by_cases d:(y:Int)<(x:Int)
  ·rw [GP d];go_enter func91,ntmps91;go_wp2_with fail;refine (b _ _).mono ?_;rintro e a ⟨rfl,rfl⟩;go_wp2_with fail;refine (b _ _).mono ?_;rintro e a ⟨rfl,rfl⟩;go_wp2;go_ret;exact⟨rfl,rfl⟩
  ·rw [GO d];have g:decide ((y:Int)<(x:Int))=false:=GR d;go_enter func91,ntmps91;go_wp2_with fail;refine (b _ _).mono ?_;rintro e a ⟨rfl,rfl⟩;go_wp2_with fail;refine (b _ _).mono ?_;rintro e a ⟨rfl,rfl⟩;go_wp2;go_ret;exact⟨rfl,rfl⟩
set_option maxHeartbeats 1000000 in
theorem zW (x y) (W:World):Calls prog 90 #[.agg (tC x).toArray,.agg (tC y).toArray] W λe b=>e=.returned (.int .i64 (tq x y))/\∃ q a,b=grow (W.drewN q) a:=by
 have a:=H (λV=>sU x.base y.base V);unfold tq;generalize Lib.compareInt (x.base:Nat) (y.base:Nat)=r at *;unfold tC;go_enter func90,ntmps90;go_wp2_with fail;refine (a _).mono ?_;rintro e c ⟨rfl,rfl⟩;go_wp2;go_ret;exact⟨rfl,0,_,by rw [alloc_eq_grow,alloc_eq_grow,grow_grow];rfl⟩
theorem yF (b c a:Nat) (w:World):CmpLays prog 90 #[] tC 5 tq b c a w :=
 λ_ _ _ _ x y=>zW x y _
theorem Cv {w:World} {g:Nat} {a:Array Value} {rs:List Rg9} (c:w.heap[g]?=some (.cells a 132)) (i:a.toList.take (rs.length*5)=dH rs):HoldsK tC 5 w g 0 rs.toArray:=by
 intro j k;have b:j<rs.length*5:=by simpa using k
 refine⟨?_,by simp [World.frozen?,c]⟩;have d:j/5<rs.length:=Z;have e:(dH rs)[j/5*5+j%5]?=(tC rs[j/5])[j%5]?:=eC tC 5 (λ_=>rfl) rs (j/5) _ (Fy d) (j%5) Z;rw [show j/5*5+j%5=j by omega,<-i,Hf b,Gg] at e;rw [Gb,GT _ _ _ _ _ _ c,e,id,get_flatK _ _ _ _ (by simpa using b)];have f:j%5<(tC rs[j/5]).length:=by show j%5<5;omega
 rw [Fy f];congr 1;rw [getElem!_pos rs.toArray (j/5) (by simpa using d)];simp [f]
theorem pP {w:World} {g n:Nat} {f:Array Obj} {a:Array Value} {e:TypeId} {b:Nat×Nat} (d:Array Rg9) (c:w.heap[g]?=some (.cells a e b)) :
  (sortWorldK tC 5 w g 0 n d f).heap[g]?=some (.cells (putCells id 0 (flatK tC 5 d) a) e b):=by
 have i:g<w.heap.size:=(Array.getElem?_eq_some_iff.1 c).1;unfold sortWorldK putRowK;rw [heap_grow_old _ _ (by simpa using i)];simp [putRow,mapBlock,Sort.ahead,FD,c,onCells]
theorem kN {w:World} {g n:Nat} {b:Array Obj} (d:Array Rg9):w.grownBy (sortWorldK tC 5 w g 0 n d b) (some g):=by
 unfold sortWorldK putRowK;refine⟨rfl,rfl,rfl,bH,λk c a=>?_⟩;rw [heap_grow_old _ _ (by simpa using c)];have:g≠k:=λe=>a (by rw [e])
 simp [putRow,mapBlock,Sort.ahead,FD,this]
theorem jC:∀ rs:List Rg9,(dH rs).length=rs.length*5
 | []=>rfl
 | r::rs=>by
  have:=jC rs
  unfold dH at this ⊢
  rw [If,FC,this]
  simp [tC]
  omega
theorem uA (a:Array Value) (rs:List Rg9) (h:rs.length*5<=a.size):(putCells id 0 (flatK tC 5 rs.toArray) a).toList.take (rs.length*5)=dH rs:=by
 have g:(dH rs).length=rs.length*5:=jC rs;apply Ho;intro j;by_cases b:j<rs.length*5
 ·rw [Hf b,Gg];have d:j/5<rs.length:=Z;have e:(dH rs)[j/5*5+j%5]?=(tC rs[j/5])[j%5]?:=eC tC 5 (λ_=>rfl) rs (j/5) _ (Fy d) (j%5) Z;rw [show j/5*5+j%5=j by omega] at e;rw [e];have f:j%5<(tC rs[j/5]).length:=by show j%5<5;omega
  rw [Fy f];have c:=get_flatK tC 5 rs.toArray j (by simpa using b);rw [getElem!_pos rs.toArray (j/5) (by simpa using d)] at c;simp only [List.getElem_toArray] at c;rw [getElem!_pos _ j (by simpa using b),getElem!_pos _ (j%5) f] at c;simp [putCells,b,show j<a.size by omega];exact c
 ·rw [List.getElem?_take_eq_none Z,FJ Z]
theorem sX {d b:Array Rg9} (h:PermIn 0 d.size d b):b.toList.Perm d.toList:=by
 have a:=h.2.2;rw [<-h.1] at a;simp only [Array.extract_size] at a;rw [h.1] at a;simpa using a
end
section
open Go.RowKit Go.Maps
theorem t4 (G N c) (v j f:Nat) (V0 V) (A:AnyU G N c V0 V) (hb:f+j<=N) (hN:N<=100000) (w:v<=N) :
  Calls prog 232 #[.slice (some ⟨G,0,none⟩) N c,.int .i64 v,.int .i64 j,.int .i64 f] V λe S=>e=.returned (.tuple #[])/\AnyU G N c V0 S:=by
 have i:=H A;clear A;go_enter func232,ntmps232;go_wp2_with fail;go_loopw [8] (λz wr=>∃ r:Nat,r<=N/\z=.int .i64 r/\Hid (AnyU G N c V0 wr)) (λz _=>N+1-(intOf z).toNat);case atStart=>exact ⟨v,w,rfl,i⟩
 case round =>
  clear i;obtain⟨r,hr,rfl,i⟩:=hrel;obtain⟨b,d⟩:∃ b,b=2*r+1:=⟨_,rfl⟩;have K:(2:Int)*(r:Int)+1=(b:Int):=Z;have HR:=H d;by_cases l:b≥j
  ·have T:(j:Int)<=(b:Int):=Z;clear d l;go_wp2;go_end0;exact⟨rfl,i⟩
  ·have T:¬((j:Int)<=(b:Int)):=Z;obtain⟨p,L⟩:∃ p,p=f+b:=⟨_,rfl⟩;obtain⟨q,M⟩:∃ q,q=p+1:=⟨_,rfl⟩;obtain⟨s,O⟩:∃ s,s=f+r:=⟨_,rfl⟩;obtain⟨a,g⟩:∃ a,a=b+1:=⟨_,rfl⟩;have X:(f:Int)+(b:Int)=(p:Int):=Z;have Y:(p:Int)+1=(q:Int):=Z;have a0:(f:Int)+(r:Int)=(s:Int):=Z;have P:(b:Int)+1=(a:Int):=Z;have a1:(f:Int)+(a:Int)=(q:Int):=Z;have a2:(p:Int)<(N:Int):=Z;have a3:(s:Int)<(N:Int):=Z;have o:=H (λW (A:AnyU G N c V0 W)=>A.sw (show s<N by omega) (show p<N by omega));have HQ:=H (IT d g);by_cases a4:a<j
   case' pos =>
    have m:(a:Int)<(j:Int):=Z;have t:(q:Int)<(N:Int):=Z;have B:=H (λW (A:AnyU G N c V0 W)=>A.sw (show s<N by omega) (show q<N by omega));obtain⟨x,F⟩:=i.at (show p<N by omega);obtain⟨y,R⟩:=i.at (show q<N by omega);clear d L M O g;cases n:aQ x y
    case' true =>
     clear o;have o:=B
    all_goals
     go_upto_region 3 with fail
     go_quiet (first|(go_at_call 202;exact GW (cF n _)))
     have k:=H (i.dN nq)
     clear i F R n
     generalize wr.drewN nq=Q at k ⊢
   case' neg =>
    have m:decide ((a:Int)<(j:Int))=false:=GR Z;clear d L M O g;(go_upto_region 3 with fail);go_quiet (fail);have k:=H (i.dN nq);clear i;generalize wr.drewN nq=Q at k ⊢
   all_goals
    obtain⟨x,y,u,B,F,_⟩:=o.out _ k.out
    cases n:aQ x y
    all_goals
     go_upto_region 5 with fail
     go_quiet (first|(go_at_call 202;exact GW (cF n _)))
     have t:=H (k.dN nq)
     clear k B F n
     generalize Q.drewN nq=R at t ⊢
    ·go_wp2
     first|go_end0|((try simp only [Exit.inBlock,Exit.then]);refine GX (Ir rfl _ _ _) rfl ?_)
     exact⟨rfl,t⟩
    ·obtain⟨x,y,u,B,F,f1,y0,f0,R⟩:=o.out _ t.out;clear t;(go_upto_region 6 with fail);go_region;clear B F f1 y0 f0;have a5:=HQ.out;go_wp2;go_roundw;(case rel=>first|exact⟨b,Z,aY,R⟩|exact⟨a,Z,aY,R⟩);case measure=>simp [intOf];omega
theorem zX (G N c) (a b:Nat) (V0 V) (A:AnyU G N c V0 V) (s:a<b) (S:b<=N) (r:N<=100000) :
  Calls prog 197 #[Vl G N c,I a,I b] V λe t=>e=.returned (.tuple #[])/\AnyU G N c V0 t:=by
 obtain⟨f,v⟩:∃ f,b-a=f:=⟨_,rfl⟩;have w:(b:Int)-(a:Int)=(f:Int):=Z;obtain⟨m,g⟩:∃ m,m=(f-1)/2:=⟨_,rfl⟩;have d:=H A;have T:((f:Int)-1).tdiv 2=(m:Int):=by
  rw [Ig Z];omega
 have n:m+1<=N:=Z;clear A g;go_enter func197,ntmps197;go_wp2_with fail;go_loopw [9] (λo wr=>∃ (k:Nat) (z:Int),k<=N/\z=(k:Int)-1/\o=I z/\Hid (AnyU G N c V0 wr)) (λo _=>(intOf o+1).toNat);case atStart=>exact ⟨m+1,m,n,Z,rfl,d⟩
 case round =>
  clear d;obtain⟨k,z,A,i,rfl,d⟩:=hrel;cases k with
  | succ k =>
   obtain rfl:z=(k:Int):=Z;have B:(0:Int)<=(k:Int):=Z;clear i;go_wp2_with fail;refine (t4 G N c k f a V0 _ d Z r Z).mono ?_;rintro e F ⟨rfl,j⟩;have l:=H j;clear j d;go_wp2;go_roundw;(case rel=>exact ⟨k,(k:Int)-1,Z,rfl,aY,l⟩);case measure=>(simp [intOf];try omega)
  | zero =>
   have q:¬((0:Int)<=z):=Z;clear i;go_wp2_with fail;go_loopw [10] (λg wr=>∃ (k:Nat) (z:Int),k<=f/\z=(k:Int)-1/\g=I z/\Hid (AnyU G N c V0 wr)) (λg _=>(intOf g+1).toNat);(case atStart=>exact ⟨f,(f:Int)-1,Z,rfl,aY,d⟩);case round =>
    clear d;obtain⟨k,z,A,i,rfl,d⟩:=hrel;cases k with
    | succ k =>
     obtain rfl:z=(k:Int):=Z;have B:(0:Int)<=(k:Int):=Z;obtain⟨p,K⟩:∃ p,p=a+k:=⟨_,rfl⟩;have L:(a:Int)+(k:Int)=(p:Int):=Z;have M:(p:Int)<(N:Int):=Z;have O:(a:Int)<(N:Int):=Z;obtain⟨x,y,u,P,Q,f1,R,f0,l⟩:=d.sw (show a<N by omega) (show p<N by omega);clear i d K;(go_upto_region 10 with fail);go_region;clear P Q f1 R f0;go_wp2_with fail;refine (t4 G N c 0 k a V0 _ l Z r Z).mono ?_;rintro e F ⟨rfl,j⟩;have K:=H j;clear j l;go_wp2;go_roundw;(case rel=>exact ⟨k,(k:Int)-1,Z,rfl,aY,K⟩);case measure=>(simp [intOf];try omega)
    | zero =>
     have q:¬((0:Int)<=z):=Z;clear i;go_wp2;go_end0;exact⟨rfl,d⟩
theorem Bg (G N c) (a b:Nat) (V0 V) (A:AnyU G N c V0 V) (k:a<b) (z:b<=N) (B:N<=100000) :
  Calls prog 200 #[Vl G N c,I a,I b] V λe l=>e=.returned (.tuple #[])/\AnyU G N c V0 l:=by
 obtain⟨f,m⟩:∃ f,b-1=f:=⟨_,rfl⟩;have n:(b:Int)-1=(f:Int):=Z;have d:=H A;clear A;go_enter func200,ntmps200;go_wp2_with fail;go_loopw [6,7] (λg b wr=>∃ i j:Nat,i<=N/\j<N/\g=I i/\b=I j/\Hid (AnyU G N c V0 wr)) (λg _ _=>N+1-(intOf g).toNat);case atStart=>exact ⟨a,f,Z,Z,rfl,rfl,d⟩
 case round =>
  clear d;obtain⟨i,j,A,F,rfl,rfl,d⟩:=hrel;by_cases o:i<j
  ·have p:(i:Int)<(j:Int):=Z;have q:(i:Int)<(N:Int):=Z;have r:(j:Int)<(N:Int):=Z;obtain⟨x,y,u,s,t,f1,v,f0,w⟩:=d.sw (show i<N by omega) (show j<N by omega);clear d;(go_upto_region 3 with fail);go_region;clear s t f1 v f0;go_wp2;go_roundw;(case rel=>exact ⟨i+1,j-1,Z,Z,aY,by congr 1;omega,w⟩);case measure=>(simp [intOf];try omega)
  have p:¬((i:Int)<(j:Int)):=Z;go_wp2;go_end0;exact⟨rfl,d⟩
def AnyB (G N c:Nat) (e:World) (S k:Nat) (V:World):Prop:=AnyU G N c e V/\G<S/\∃ s:Nat,s<=k/\V.heap[S]?=some (.cells #[I s] 3)
theorem AnyB.inc {G N c V0 S k V} (h:AnyB G N c V0 S k V):∃ s:Nat,s<=k/\V.cell? ⟨S,0,none⟩=some (I s)/\V.frozen? ⟨S,0,none⟩=false/\Hid (AnyB G N c V0 S (k+1) (V.setCell ⟨S,0,none⟩ (I ((s+1:Nat):Int)))):=by
 obtain⟨⟨d,b⟩,e,s,f,a⟩:=h;have g:=au (al V S) 0 (I ((s+1:Nat):Int));refine⟨s,f,by simp [World.cell?,a],by simp [World.frozen?,a],H ⟨⟨d,b.sz,ai b.row (Ky.grown (S:=(· = 3)) a rfl g) ar,b.bel.trans ((Fu _ _).setCell (Nat.le_of_lt e) _)⟩,e,s+1,Z,by simp [World.setCell,FD,a]⟩⟩
theorem AnyB.dN {G N c V0 S k V} (h:AnyB G N c V0 S k V) (n:Nat):AnyB G N c V0 S (k+1) (V.drewN n):=by
 obtain⟨a,b,s,e,d⟩:=h;exact⟨a.dN n,b,s,Z,d⟩
theorem jK (G N c a b S k i f:Nat) (l V:World) (A:AnyB G N c l S k V) (ha:i<=a/\a<f) (d:i<=b/\b<f) (B:f<=N) (F:N<=100000) (K:k<=100) :
  Calls prog 239 #[.slice (some ⟨G,0,none⟩) N c,.int .i64 a,.int .i64 b,.pointer (some ⟨S,0,none⟩)] V λe t=>∃ x y:Nat,e=.returned (.tuple #[.int .i64 (x:Nat),.int .i64 (y:Nat)])/\(i<=x/\x<f)/\(i<=y/\y<f)/\AnyB G N c l S (k+1) t:=by
 have u:(a:Int)<(N:Int):=Z;have v:(b:Int)<(N:Int):=Z;obtain⟨x,n⟩:=A.1.at (show a<N by omega);obtain⟨y,o⟩:=A.1.at (show b<N by omega);have g:=H A;have j:=H (IT ha d);clear A ha d;cases p:aQ y x
 ·go_enter func239,ntmps239;go_upto_region 1 with fail
  go_quiet (first|(go_at_call 202;exact GW (cF p _)));have d:=H (g.dN nq);clear g n o;generalize V.drewN nq=w at d ⊢;go_wp2;refine GX (b_ rfl _ _) rfl ?_;exact⟨a,b,rfl,j.1,j.2,d⟩
 ·go_enter func239,ntmps239;go_upto_region 1 with fail
  go_quiet (first|(go_at_call 202;exact GW (cF p _)));have d:=H (show AnyB G N c l S k (V.drewN nq) from ⟨g.1.dN nq,g.2⟩);clear g n o;generalize V.drewN nq=w at d ⊢;obtain⟨s,z,L,f1,q⟩:=d.inc;obtain⟨m,r⟩:∃ m,s+1=m:=⟨_,rfl⟩;rw [r] at q;have A:(s:Int)+1=(m:Int):=Z;clear d r;go_wp2;refine GX (b_ rfl _ _) rfl ?_;exact⟨b,a,rfl,j.2,j.1,q⟩
theorem kc (G N f a b e S k d c:Nat) (g V:World) (A:AnyB G N f g S k V) (ha:d<=a/\a<c) (s:d<=b/\b<c) (t:d<=e/\e<c) (i:c<=N) (j:N<=100000) (F:k<=90) :
  Calls prog 234 #[Vl G N f,I a,I b,I e,J S 0] V λr u=>∃ x:Nat,r=.returned (I x)/\(d<=x/\x<c)/\AnyB G N f g S (k+3) u:=by
 have n:=H A;clear A;go_enter func234,ntmps234;go_wp2_with fail;refine (jK G N f a b S k d c g _ n ha s i j Z).mono ?_;rintro r K ⟨v,w,rfl,l,m,o⟩;have p:=H o;clear o n;go_wp2_with fail;refine (jK G N f w e S (k+1) d c g _ p m t i j Z).mono ?_;rintro r L ⟨x,M,rfl,n,y,o⟩;have q:=H o;clear o p;go_wp2_with fail;refine (jK G N f v x S (k+2) d c g _ q l n i j Z).mono ?_;rintro r O ⟨P,z,rfl,A,o,p⟩;have B:=H p;clear p q;go_wp2;go_ret;exact⟨z,rfl,o,B⟩
theorem jV (G N b a S k d c:Nat) (e V:World) (A:AnyB G N b e S k V) (j:d+1<=a) (ha:a+1<c) (l:c<=N) (m:N<=100000) (n:k<=90) :
  Calls prog 233 #[Vl G N b,I a,J S 0] V λr o=>∃ x:Nat,r=.returned (I x)/\(d<=x/\x<c)/\AnyB G N b e S (k+3) o:=by
 have f:=H (kc G N b (a-1) a (a+1) S k d c e V A Z Z Z l m n);obtain⟨p,g⟩:∃ p,a-1=p:=⟨_,rfl⟩;obtain⟨q,i⟩:∃ q,a+1=q:=⟨_,rfl⟩;rw [g,i] at f;have s:(a:Int)-1=(p:Int):=Z;have t:(a:Int)+1=(q:Int):=Z;have u:q<=100000:=Z;clear A g i;go_enter func233,ntmps233;go_wp2_with fail;refine (f).mono ?_;rintro r w ⟨x,rfl,i,g⟩;have v:=H g;clear g f;go_wp2;go_ret;exact⟨x,rfl,i,v⟩
theorem yj (G N cp) (a b:Nat) (V0 V) (A:AnyU G N cp V0 V) (t:a+12<b) (f:b<=N) (g:N<=100000) :
  Calls prog 199 #[Vl G N cp,I a,I b] V λr u=>∃ x h:Nat,r=.returned (.tuple #[I x,I h])/\(a<=x/\x<b)/\h<=2/\AnyU G N cp V0 u:=by
 obtain⟨l,o⟩:∃ l,b-a=l:=⟨_,rfl⟩;obtain⟨c,m⟩:∃ c,l/4=c:=⟨_,rfl⟩;obtain⟨i,p⟩:∃ i,a+c*1=i:=⟨_,rfl⟩;obtain⟨j,q⟩:∃ j,a+c*2=j:=⟨_,rfl⟩;obtain⟨k,s⟩:∃ k,a+c*3=k:=⟨_,rfl⟩;have v:(b:Int)-(a:Int)=(l:Int):=Z;have w:(l:Int).tdiv 4=(c:Int):=by rw [Ig Z];omega
 have y:(l:Int)/4=(c:Int):=Z;have z:(a:Int)+(c:Int)=(i:Int):=Z;have B:(a:Int)+(c:Int)*2=(j:Int):=Z;have F:(a:Int)+(c:Int)*3=(k:Int):=Z;have P:(8:Int)<=(l:Int):=Z;have n:D V (V.alloc (.cells #[I 0] 3)):=(Fu _ _).alloc (Fv _) _;have e:=H (show AnyB G N cp V0 V.heap.size 0 (V.alloc (.cells #[I 0] 3)) from ⟨A.below n,by obtain ⟨d,h⟩:=A;exact h.lt,0,Fv _,ao V _⟩);have Q:(a+1<=i/\i+1<b)/\(a+1<=j/\j+1<b)/\(a+1<=k/\k+1<b):=Z;clear A n o m p q s;go_enter func199,ntmps199;by_cases A:l≥50
 case' pos =>
  have m:(50:Int)<=(l:Int):=Z;go_wp2_with fail;generalize V.alloc _=K at e ⊢;generalize V.heap.size=S at e ⊢;refine (jV G N cp i S 0 a b V0 _ e Z Z f g Z).mono ?_;rintro r R ⟨L,rfl,n,d⟩;have p:=H d;clear d e;go_wp2_with fail;refine (jV G N cp j S 3 a b V0 _ p Z Z f g Z).mono ?_;rintro r T ⟨M,rfl,o,d⟩;have q:=H d;clear d p;go_wp2_with fail;refine (jV G N cp k S 6 a b V0 _ q Z Z f g Z).mono ?_;rintro r W ⟨O,rfl,p,d⟩;have s:=H d;clear d q;go_wp2_with fail;refine (kc G N cp L M O S 9 a b V0 _ s n o p f g Z).mono ?_;clear s
 case' neg =>
  have m:¬((50:Int)<=(l:Int)):=Z;go_wp2_with fail;generalize V.alloc _=K at e ⊢;generalize V.heap.size=S at e ⊢;refine (kc G N cp i j k S 0 a b V0 _ e Z Z Z f g Z).mono ?_;clear e
 all_goals
  rintro r q ⟨x,rfl,d,o,_,s,L,p⟩
  have n:=H o
  have M:q.cell? ⟨S,0,none⟩=some (I s):=bJ p
  clear o p
  rcases (show s=0\/(s≠0/\s=12)\/(s≠0/\s≠12) by omega) with rfl|⟨_,rfl⟩|⟨O,R⟩
  all_goals
   try have o:¬((s:Int)=0):=Z
   try have p:¬((s:Int)=12):=Z
   go_wp2
   refine GX (b_ rfl _ _) rfl ?_
   first|exact⟨x,1,rfl,d,Z,n⟩|exact⟨x,2,rfl,d,Z,n⟩|exact⟨x,0,rfl,d,Z,n⟩
theorem Ba (a X:Nat) (b:X<18446744073709551616) (w:World) (c:w.cell? ⟨a,0,none⟩=some (U X)) (d:w.frozen? ⟨a,0,none⟩=false) :
 Calls prog 225 #[J a 0] w λe f=>e=.returned (U (Sort.xorNextN X:Nat))/\f=(w.setCell ⟨a,0,none⟩ (U (Sort.xorNextN X:Nat))).drewN 3:=AnyF.xorshift_Next { Tryz.sortR with } a 0 X b w c d
theorem zC (n:Nat) (a:n<4611686018427387904) (w:World) :
 Calls prog 224 #[I n] w λe b=>e=.returned (U ((1 <<< Sort.bitsLen n:Nat):Int))/\b=w:=AnyF.nextPowerOfTwo { Tryz.sortR with } n a w
theorem yo (G N cp) (a b:Nat) (V0 V) (A:AnyU G N cp V0 V) (a4:a+12<b) (hb:b<=N) (hN:N<=100000) :
  Calls prog 198 #[Vl G N cp,I a,I b] V λr V'=>r=.returned (.tuple #[])/\AnyU G N cp V0 V':=by
 obtain⟨l,v⟩:∃ l,b-a=l:=⟨_,rfl⟩;obtain⟨M,c⟩:∃ M,1 <<< Sort.bitsLen l=M:=⟨_,rfl⟩;obtain⟨i,e⟩:∃ i,l/4=i:=⟨_,rfl⟩;obtain⟨j,g⟩:∃ j,a+i*2-1=j:=⟨_,rfl⟩;have a5:1<=M/\M<=2*l:=by
  rw [<-c,Nat.one_shiftLeft];exact⟨Nat.one_le_two_pow,Sort.two_pow_bitsLen_le Z⟩
 have O:=H (λw=>zC l Z w);rw [c] at O;obtain⟨k,o⟩:∃ k,M-1=k:=⟨_,rfl⟩;have P:(M:Int)-1=(k:Int):=Z;have a6:(b:Int)-(a:Int)=(l:Int):=Z;have a7:(l:Int).tdiv 4=(i:Int):=by rw [Ig Z];omega
 have a8:(l:Int)/4=(i:Int):=Z;obtain⟨s,p⟩:∃ s,a+i*2=s:=⟨_,rfl⟩;obtain⟨m,q⟩:∃ m,a+i*2+1=m:=⟨_,rfl⟩;have Q:(a:Int)+(i:Int)*2=(s:Int):=Z;have R:(s:Int)-1=(j:Int):=Z;have T:(s:Int)+1=(m:Int):=Z;have h8:(8:Int)<=(l:Int):=Z;have t:D V (V.alloc (.cells #[U l] 284)):=(Fu _ _).alloc (Fv _) _;have n:=H (A.below t);have f:=H (ao V (.cells #[U l] 284));have W:G<V.heap.size:=by obtain ⟨d,h⟩:=A;exact h.lt
 have hr:j+2=m/\m<b/\m<N/\k<200000/\l<=N/\a<=j:=Z;have X:a+l<=N:=Z;clear A t v c e g p q o;go_enter func198,ntmps198;go_wp2_with fail;generalize V.alloc _=W1 at n f ⊢;generalize V.heap.size=S at f W ⊢;refine (O _).mono ?_;rintro r A ⟨rfl,rfl⟩;go_wp2_with fail;go_loopw [9] (λB wr=>∃ t c r:Nat,t<=3/\j+t=c/\r<18446744073709551616/\B=I c/\Hid (wr.heap[S]?=some (.cells #[U r] 284))/\Hid (AnyU G N cp V0 wr)) (λB _=>j+4-(intOf B).toNat);case atStart=>exact ⟨0,j,l,Z,rfl,Z,rfl,f,n⟩
 case round =>
  clear f n;obtain⟨t,c,r,ht,a0,F,rfl,f,n⟩:=hrel;by_cases a9:t<3
  ·have K:(c:Int)<=(m:Int):=Z;obtain⟨Y,e⟩:∃ Y,Sort.xorNextN r=Y:=⟨_,rfl⟩;have x:=H (λw b g=>Ba S r F w b g);have v:Y<18446744073709551616:=by
    have:=(Sort.xorNext (UInt64.ofNat r)).toNat_lt;rw [Sort.xorNext_toNat,UInt64.toNat_ofNat_of_lt' (show r<2 ^ 64 by omega),e] at this;exact this
   rw [e] at x;obtain⟨o,y⟩:∃ o,Y &&& k=o:=⟨_,rfl⟩;have b0:bits .and .u64 (Y:Int) (k:Int)=(o:Int):=(by rw [bits_and_u64_nat _ _ v Z,y]);have b1:o<=k:=(by rw [<-y];exact Nat.and_le_right);have c1:wr.cell? ⟨S,0,none⟩=some (U r):=bJ f.out;have f1:wr.frozen? ⟨S,0,none⟩=false:=(by simp [World.frozen?,f.out]);have z:=H (show AnyU G N cp V0 ((wr.setCell ⟨S,0,none⟩ (U Y)).drewN 3) from by
    obtain⟨d,h⟩:=n.out;have g:=au (al wr S) 0 (U Y);exact AnyU.dN ⟨d,h.sz,ai h.row (Ky.grown (S:=(· = 284)) f rfl g) ar,h.bel.trans ((Fu _ _).setCell (Nat.le_of_lt W) _)⟩ 3)
   have L:=H (show ((wr.setCell ⟨S,0,none⟩ (U Y)).drewN 3).heap[S]?=some (.cells #[U Y] 284) from by show (wr.setCell ⟨S,0,none⟩ (U Y)).heap[S]?=_;simp [World.setCell,FD,f.out]);obtain⟨q,g⟩:∃ q,(if o≥l then o-l else o)=q:=⟨_,rfl⟩;have CX:=H (x wr c1 f1);have a1:(c:Int)<(N:Int):=Z;have a2:q<l/\o<=k:=(by rw [<-g];split <;> omega);obtain⟨p,hp⟩:∃ p,a+q=p:=⟨_,rfl⟩;have b2:(a:Int)+(q:Int)=(p:Int):=Z;have b3:(p:Int)<(N:Int):=Z;clear x e y n f;go_wp2_with fail;refine (CX).mono ?_;rintro e A ⟨rfl,x⟩;rw [<-x] at z L;clear CX x c1 f1;obtain⟨x,y,u,y1,y9,f1,y0,f0,A2⟩:=z.sw (show c<N by omega) (show p<N by omega);have S2:=H (show (((A.setCell ⟨G,c,none⟩ (U y)).setCell ⟨G,p,none⟩ (U x)).drew).heap[S]?=some (.cells #[U Y] 284) by
    show ((A.setCell ⟨G,c,none⟩ (U y)).setCell ⟨G,p,none⟩ (U x)).heap[S]?=_;rw [GQ _ _ _ _ (show S≠G by omega),GQ _ _ _ _ (show S≠G by omega)];exact L)
   clear z L;by_cases z:o≥l
   case' pos =>
    rw [GP z] at g;have L:(l:Int)<=(o:Int):=Z;have a3:(o:Int)-(l:Int)=(q:Int):=Z
   case' neg =>
    rw [GO z] at g;subst g;have L:¬((l:Int)<=(o:Int)):=Z
   all_goals
    go_upto_region 10 with fail
    go_region
    clear y1 y9 f1 y0 f0
    go_wp2
    go_roundw
    case rel=>exact ⟨t+1,c+1,Y,Z,Z,v,aY,S2,A2⟩
    case measure=>(simp [intOf];try omega)
  have K:¬((c:Int)<=(m:Int)):=Z;go_wp2;go_end0;exact⟨rfl,n⟩
end
section
open Go.Shelf Go.RowKit Go.Lib Go.Sort
theorem BE:tz:=by
 intro v rs W p h q;rcases h.2 with ⟨rfl,r⟩|⟨g,c,k,rfl,s,l,t,u,y,z⟩;·have b:rs=[]:=Ik r;subst b;have a:=AnyF.slices_SortFunc_none Tryz.sortR none 0 (.func (.func 90) #[] #[]) W;change Calls prog 89 _ _ _ at a;refine a.mono ?_;rintro e A ⟨rfl,rfl⟩;exact⟨rfl,[],List.Perm.refl _,List.Pairwise.nil,h,⟨rfl,rfl,rfl,Fv _,λ_ _ _=>rfl⟩⟩
 have B:∀ b w,(callFunc 90 b).run prog w=.ok (.enter 90 b) w:=enters_of func90 E rfl;have a:=AnyQ.slices_SortFunc Tryz.sortR 5 Tryz.isAgg132 Tryz.sizeOf132 tC (λ_=>rfl) (λx v b=>by simp [tC] at b;rcases b with rfl|rfl|rfl|rfl|rfl <;> rfl) tq Ev 90 #[] g 0 c rs.toArray W B (yF g 0 rs.toArray.size W) (Cv l z) (ag l) bG;change Calls prog 89 _ _ _ at a;simp only [FX] at a;refine a.mono ?_;rintro e A ⟨rfl,b,n,K,w,x,rfl⟩;have f:b.toList.Perm rs:=by have:=sX (d:=rs.toArray) (by simpa using w);simpa using this
 have m:b.toList.length=rs.length:=f.length_eq;refine⟨rfl,b.toList,f,?_,⟨by rw [jC,m],.inr ⟨g,c,_,rfl,s,pP b l,t,u,by simp [putCells,y],?_⟩⟩,kN b⟩;·rw [II];intro i j F G o;have:=x i j (FH _) o Z;rw [Er,getElem!_pos b i (by simpa using F),getElem!_pos b j (by simpa using G)] at this;simp at this;simpa using this
 have:=uA k b.toList (by rw [m];omega);rw [m] at this;simpa using this
end
end Go.Proofs.YtibblbenmpcplaaGreatDoor
