import Derived.Test.YtibblbenmpcplaaGreatDoorN11
set_option linter.unusedVariables false
set_option linter.unusedSimpArgs false
set_option maxRecDepth 20000
set_option maxHeartbeats 8000000
namespace Go.Proofs.YtibblbenmpcplaaGreatDoor
open Go.Proofs.Tryz
section
open Go.RowKit Go.Shelf
theorem Sf.ofRow {Q:Nat} {W a:World} (b:Below 0 W a) (d:∀ g,g≠Q->a.heap[g]?=W.heap[g]?) (e:∀ j g,a.cell? ⟨Q,j*3+2,none⟩=some (Vl g 1024 1024)->W.cell? ⟨Q,j*3+2,none⟩=some (Vl g 1024 1024)):Sf Q W a :=
 ⟨b.os,b.tape,b.output,b.size,λg _ c _=>d g c,λg ⟨j,f⟩=>.inl ⟨j,e j g f⟩⟩
theorem Sx.drop1 {T Q n bud m W} (h:Sx T Q n bud m W) (k:Nat) (f:k<n) :
  Sx T Q n bud (dT m k none) (((W.setCell ⟨Q,k*3,none⟩ (.bool false)).setCell ⟨Q,k*3+1,none⟩ (.bool false)).setCell ⟨Q,k*3+2,none⟩ (C)) /\
  Sf Q W (((W.setCell ⟨Q,k*3,none⟩ (.bool false)).setCell ⟨Q,k*3+1,none⟩ (.bool false)).setCell ⟨Q,k*3+2,none⟩ (C)):=by
 refine⟨h.set3 k f none _ _ _ (λg j _ _ _=>bH) (λc a a b d _=>⟨a,b,d⟩),?_⟩;refine Sf.ofRow ((((Fu 0 W).setCell (FH _) _).setCell (FH _) _).setCell (FH _) _) (λg b=>?_) (λj g a=>?_);·rw [GQ _ _ _ _ b,GQ _ _ _ _ b,GQ _ _ _ _ b]
 obtain⟨c,d,_⟩:=h.row;have l:=bj (bj (bj d (i:=k*3) (.bool false)) (i:=k*3+1) (.bool false)) (i:=k*3+2) (C);simp only [World.cell?,l] at a;simp only [World.cell?,d];by_cases e:j=k;·subst e;rw [FK] at a;simp at a
 have q:(((c.setIfInBounds (k*3) (.bool false)).setIfInBounds (k*3+1) (.bool false)).setIfInBounds (k*3+2) (C))[j*3+2]?=c[j*3+2]?:=by
  rw [FK,GO Z,FK,GO Z,FK,GO Z]
 rw [q] at a;exact a
theorem qJ (T Q n bud m) (first a:Nat) (w) (h:Sx T Q n bud m w) (u:n<=4096) (v:first+a<=n) :
  Calls prog 153 #[J T 0,I first,I a] w λe g=>e=.returned (.tuple #[])/\Sx T Q n bud (bQ m first a) g/\Sf Q w g:=by
 obtain⟨o,q⟩:=h.c;have r:=H h;clear h;go_enter func153,ntmps153;go_wp2;go_loopw [6] (λi wr=>∃ k:Nat,k<=a/\i=I ((first:Int)+(k:Int))/\Sx T Q n bud (bQ m first k) wr/\Sf Q w wr) (λi _=>first+a-(intOf i).toNat);case atStart=>exact ⟨0,FH _,aY,r.out,Sf.refl Q w⟩
 case round =>
  obtain⟨k,x,rfl,b,f⟩:=hrel;by_cases s:k<a
  ·obtain⟨o,q⟩:=b.c;obtain⟨y,p,l,c,z,A,B,_⟩:=b.three (first+k) Z;obtain⟨F,j,t,_⟩:=b.row;have f1:∀ i,wr.frozen? ⟨Q,i,none⟩=false:=λi=>by simp [World.frozen?,j]
   have f2:=f1 ((first+k)*3);have f3:=f1 ((first+k)*3+1);have f4:=f1 ((first+k)*3+2);have d:=H (IT (b.drop1 (first+k) Z) f);clear b f f1 j t;go_wp2;go_roundw;(case rel=>exact ⟨k+1,Z,aY,d.1.1,d.2.trans d.1.2⟩);case measure=>simp [intOf];omega
  have c:k=a:=Z;subst c;have d:=H (IT b f);clear b f;go_wp2;go_end0;exact⟨rfl,d.out⟩
end
section
open Go.RowKit Go.Shelf Go.Maps
def m_ (o : fL) (an : List An4) : Nat := if 0<o.ref/\o.ref<=an.length then (o.p+((an[o.ref.toNat-1]?.map An4.addr).getD 0))%18446744073709551616 else o.p
theorem wB (q:df) (G i x:Nat) (d:List An4) (W:World) (o:d.length=i) (F:i<=400) (K:q.o.p<18446744073709551616)
  (c:∀ j a,d[j]?=some a->W.cell? ⟨G,j*4+1,none⟩=some (.int .u64 (a.addr:Nat))) :
  Calls prog 8 #[.agg (fH q).toArray,.slice (some ⟨G,0,none⟩) i x] W λe p=>e=.returned (.int .u64 (m_ q.o d:Nat))/\Below W.heap.size W p:=by
 unfold fH;have b:=(Fu W.heap.size W).alloc (Fv _) (.cells #[.int .i64 q.o.kd,.int .i64 q.o.ref,.int .u64 (q.o.p:Nat),.int .u64 (q.o.a:Nat),.int .u64 (q.o.b:Nat),.slice q.d q.o.ys.length q.dc] 42);have X:=ao W (.cells #[.int .i64 q.o.kd,.int .i64 q.o.ref,.int .u64 (q.o.p:Nat),.int .u64 (q.o.a:Nat),.int .u64 (q.o.b:Nat),.slice q.d q.o.ys.length q.dc] 42);have f:=H b;have k:(W.alloc (.cells #[.int .i64 q.o.kd,.int .i64 q.o.ref,.int .u64 (q.o.p:Nat),.int .u64 (q.o.a:Nat),.int .u64 (q.o.b:Nat),.slice q.d q.o.ys.length q.dc] 42)).cell? ⟨W.heap.size,1,none⟩=some (.int .i64 q.o.ref):=bJ X;have l:(W.alloc (.cells #[.int .i64 q.o.kd,.int .i64 q.o.ref,.int .u64 (q.o.p:Nat),.int .u64 (q.o.a:Nat),.int .u64 (q.o.b:Nat),.slice q.d q.o.ys.length q.dc] 42)).cell? ⟨W.heap.size,2,none⟩=some (.int .u64 (q.o.p:Nat)):=bJ X;have t:=H (λj a (ha:d[j]?=some a)=>ad b (c j a ha));clear X b c;by_cases g:0<q.o.ref
 ·by_cases m:q.o.ref<=i
  ·obtain⟨r,c⟩:∃ r:Nat,q.o.ref=((r+1:Nat):Int):=⟨q.o.ref.toNat-1,Z⟩;have y:r<i:=Z;obtain⟨z,b⟩:∃ z,d[r]?=some z:=⟨_,Fy Z⟩;have w:=t.out r z b;have s:=H (show m_ q.o d=(q.o.p+z.addr)%18446744073709551616 by
    unfold m_;rw [GP ⟨g,by rw [o];exact m⟩,c,show (((r+1:Nat):Int)).toNat-1=r by omega,b];rfl)
   have n:decide (q.o.ref > 0)=true:=G8 g;have u:decide (q.o.ref<=(i:Int))=true:=G8 m;have A:IntKind.i64.wrap (q.o.ref-1)=(r:Int):=(by rw [Hh];omega);have L:IntKind.u64.wrap ((q.o.p:Int)+(z.addr:Int))=(((q.o.p+z.addr)%18446744073709551616:Nat):Int):=(by rw [IntKind.wrap_u64];omega);clear t b g m o c;generalize q.o.ref=v at k l w f n u A ⊢;go_enter func8,ntmps8;go_wp2_with fail;clear n u;generalize W.alloc _=V at f k l w ⊢;generalize B:W.heap.size=b at f k l ⊢;refine wp_region_held (S:=λp=>p.cell? ⟨b,1,none⟩=some (.int .i64 v)/\p.cell? ⟨b,2,none⟩=some (.int .u64 (q.o.p:Nat))/\p.cell? ⟨G,r*4+1,none⟩=some (.int .u64 (z.addr:Nat))) E ?_;simp only [FX,FN,F1,Nat.reduceAdd,FP,FO,FY,FV,F5];have c:=(show _/\_/\_ from ⟨k,l,w⟩);refine pk 0 (.pointer (some ⟨b,2,none⟩)) c ?_;simp only [lz,l0,ls];refine pz 1 (.int .u64 (q.o.p:Nat)) c ?_;simp only [lz,l0,ls];refine pk 2 (.slice (some ⟨G,0,none⟩) i x) c ?_;simp only [lz,l0,ls];refine pk 3 (.pointer (some ⟨b,1,none⟩)) c ?_;simp only [lz,l0,ls];refine pz 4 (.int .i64 v) c ?_;simp only [lz,l0,ls];refine pz 5 (.int .i64 (r:Nat)) c ?_;simp only [lz,l0,ls];refine pz 6 (.pointer (some ⟨G,r*4,none⟩)) c ?_;simp only [lz,l0,ls];refine pk 7 (.pointer (some ⟨G,r*4+1,none⟩)) c ?_;simp only [lz,l0,ls];refine pz 8 (.int .u64 (z.addr:Nat)) c ?_;simp only [lz,l0,ls];refine pz 9 (.int .u64 ((q.o.p+z.addr)%18446744073709551616:Nat)) c ?_;simp only [lz,l0,ls];refine pk 10 (.int .u64 ((q.o.p+z.addr)%18446744073709551616:Nat)) c ?_;simp only [lz,l0,ls];refine bY ?_;go_wp2;go_ret;rw [s.out];exact⟨rfl,by rw [B];exact f.drew⟩
  ·have s:=H (show m_ q.o d=q.o.p by unfold m_;rw [GO (λh=>m (by rw [o] at h;exact h.2))]);have n:decide (q.o.ref > 0)=true:=G8 g;have u:decide (q.o.ref<=(i:Int))=false:=GR m;clear t g m o;generalize q.o.ref=v at n u k l f ⊢;go_enter func8,ntmps8;go_wp2;go_ret;rw [s.out];exact⟨rfl,f⟩
 ·have s:=H (show m_ q.o d=q.o.p by unfold m_;rw [GO (λh=>g h.1)]);have n:decide (q.o.ref > 0)=false:=GR g;clear t g o;generalize q.o.ref=v at n k l f ⊢;go_enter func8,ntmps8;go_wp2;go_ret;rw [s.out];exact⟨rfl,f⟩
end
end Go.Proofs.YtibblbenmpcplaaGreatDoor
