import Derived.Test.YtdngbppdomoenaaGreatDoorN04
set_option linter.unusedVariables false
set_option linter.unusedSimpArgs false
set_option maxRecDepth 20000
set_option maxHeartbeats 8000000
namespace Go.Proofs.YtdngbppdomoenaaGreatDoor
open Go.Proofs.Tryz
section
open Go.RowKit Go.Shelf
theorem Sf.ofRow {Q:Nat} {W a:World} (b:Below 0 W a) (d:∀ g,g≠Q->a.heap[g]?=W.heap[g]?) (e:∀ j g,a.cell? ⟨Q,j*3+2,none⟩=some (Vl g 1024 1024)->W.cell? ⟨Q,j*3+2,none⟩=some (Vl g 1024 1024)):Sf Q W a :=
 ⟨b.os,b.tape,b.output,b.size,λg _ c _=>d g c,λg ⟨j,f⟩=>.inl ⟨j,e j g f⟩⟩
theorem Sx.drop1 {T Q n bud m W} (h:Sx T Q n bud m W) (k:Nat) (f:k<n) :
  Sx T Q n bud (dT m k none) (((W.setCell ⟨Q,k*3,none⟩ (.bool false)).setCell ⟨Q,k*3+1,none⟩ (.bool false)).setCell ⟨Q,k*3+2,none⟩ (C)) /\
  Sf Q W (((W.setCell ⟨Q,k*3,none⟩ (.bool false)).setCell ⟨Q,k*3+1,none⟩ (.bool false)).setCell ⟨Q,k*3+2,none⟩ (C)):=by
 refine⟨h.set3 k f none _ _ _ (λg j _ _ _=>bH) (λc a a b d _=>⟨a,b,d⟩),?_⟩;refine Sf.ofRow ((((Fu 0 W).setCell (FH _) _).setCell (FH _) _).setCell (FH _) _) (λg b=>?_) (λj g a=>?_);·rw [GQ _ _ _ _ b,GQ _ _ _ _ b,GQ _ _ _ _ b]
 obtain⟨c,d,_⟩:=h.row;have l:=bj (bj (bj d (i:=k*3) (.bool false)) (i:=k*3+1) (.bool false)) (i:=k*3+2) (C);simp only [World.cell?,l] at a;simp only [World.cell?,d];by_cases e:j=k;·subst e;rw [FK] at a;simp at a
 have q:(((c.setIfInBounds (k*3) (.bool false)).setIfInBounds (k*3+1) (.bool false)).setIfInBounds (k*3+2) (C))[j*3+2]?=c[j*3+2]?:=by
  rw [FK,GO Z,FK,GO Z,FK,GO Z]
 rw [q] at a;exact a
theorem qJ (T Q n bud m) (first a:Nat) (w) (h:Sx T Q n bud m w) (u:n<=4096) (v:first+a<=n) :
  Calls prog 170 #[J T 0,I first,I a] w λe g=>e=.returned (.tuple #[])/\Sx T Q n bud (bQ m first a) g/\Sf Q w g:=by
 obtain⟨o,q⟩:=h.c;have r:=H h;clear h;go_enter func170,ntmps170;go_wp2;go_loopw [6] (λi wr=>∃ k:Nat,k<=a/\i=I ((first:Int)+(k:Int))/\Sx T Q n bud (bQ m first k) wr/\Sf Q w wr) (λi _=>first+a-(intOf i).toNat);case atStart=>exact ⟨0,FH _,aY,r.out,Sf.refl Q w⟩
 case round =>
  obtain⟨k,x,rfl,b,f⟩:=hrel;by_cases s:k<a
  ·obtain⟨o,q⟩:=b.c;obtain⟨y,p,l,c,z,A,B,_⟩:=b.three (first+k) Z;obtain⟨F,j,t,_⟩:=b.row;have f1:∀ i,wr.frozen? ⟨Q,i,none⟩=false:=λi=>by simp [World.frozen?,j]
   have f2:=f1 ((first+k)*3);have f3:=f1 ((first+k)*3+1);have f4:=f1 ((first+k)*3+2);have d:=H (IT (b.drop1 (first+k) Z) f);clear b f f1 j t;go_wp2;go_roundw;(case rel=>exact ⟨k+1,Z,aY,d.1.1,d.2.trans d.1.2⟩);case measure=>simp [intOf];omega
  have c:k=a:=Z;subst c;have d:=H (IT b f);clear b f;go_wp2;go_end0;exact⟨rfl,d.out⟩
end
end Go.Proofs.YtdngbppdomoenaaGreatDoor
