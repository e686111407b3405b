import Derived.Test.YtibblbenmpcplaaGreatDoorN36
set_option linter.unusedVariables false
set_option linter.unusedSimpArgs false
set_option maxRecDepth 20000
set_option maxHeartbeats 8000000
namespace Go.Proofs.YtibblbenmpcplaaGreatDoor
open Go.Proofs.Tryz
section
open Go.RowKit
def fw (code:Int):List PanicEntry:=[{ v:=.iface 98 (.agg #[I code]),recovered:=false }]
structure Rn9 (P X2 X3 X4:Nat) (kd ref:Int) (p a b:Nat) (d:Option Addr) (dl dc:Nat) (Q:World->Prop) (N:Int->World->Prop) (post:Ending->World->Prop):Prop where
 x2:∀ V,Q V->V.cell? ⟨X2,0,none⟩=some (J P 0)
 x3:∀ V,Q V->V.heap[X3]?=some (.cells #[I kd,I ref,U p,U a,U b,.slice d dl dc] 42)
 x4:∀ V,Q V->V.heap[X4]?=some (.cells #[I 0,U 0,I 0,C] 44)
 qd:∀ V,Q V->Q V.drew
 id:∀ V,CallsD prog 37 #[J X2 0,J X4 0] .returning V λe u' W'=>e=.returned (.tuple #[])/\u'=.returning/\W'=V
 no:∀ code V,N code V->CallsD prog 37 #[J X2 0,J X4 0] (.panicking (fw code)) V λe u W'=>e=.returned (.tuple #[])/\u=.panicking [{ v:=.iface 98 (.agg #[I code]),recovered:=true }]/\∃ r1 r2 r3 r4,W'.heap[X4]?=some (.cells #[r1,r2,r3,r4] 44)/\post (.returned (.agg #[r1,r2,r3,r4])) W'
theorem Rn9.cell {P X2 X3 X4 kd ref p a b d dl dc Q N post} (r:Rn9 P X2 X3 X4 kd ref p a b d dl dc Q N post) {V:World} (h:Q V) :
  V.cell? ⟨X2,0,none⟩=some (J P 0)/\V.cell? ⟨X3,0,none⟩=some (I kd)/\V.cell? ⟨X3,1,none⟩=some (I ref)/\V.cell? ⟨X3,2,none⟩=some (U p)/\V.cell? ⟨X3,3,none⟩=some (U a)/\V.cell? ⟨X3,4,none⟩=some (U b)/\V.cell? ⟨X3,5,none⟩=some (.slice d dl dc):=by
 have c:=r.x3 V h;refine⟨r.x2 V h,?_,?_,?_,?_,?_,?_⟩ <;> (rw [GT _ _ _ _ _ _ c];rfl)
theorem eT {P:Program} {e:Func} {t j:Array Value} {R:Ending->World->Prop} (g:results e t=results e j):∀ (a:List Deferred) (u:FrameMode) (w:World),Leaves P e t R a u w->Leaves P e j R a u w
 | [],.returning,w,⟨v,b,f⟩=>⟨v,by rw [<-g];exact b,f⟩
 | [],.panicking c,w,h=>h
 | [],.run,w,h=>h
 | d::a,u,w,⟨k,l,i,f,b,m,n,h⟩=>⟨k,l,i,f,b,m,n,h.mono (λe b b b=>by
   cases e with
   | returned v=>exact eT g a _ _ b
   | panicked v=>exact eT g a _ _ b
   | outgrown=>exact b)⟩
theorem xr (t:Array Value) (d:Nat) (v:Value) (a:d≠4):results Tryz.f14 (t.setIfInBounds d v)=results Tryz.f14 t:=by
 unfold results;simp only [Tryz.results14];simp [a]
theorem fc {P X2 X3 X4 kd ref p a b d dl dc Q N post} (r:Rn9 P X2 X3 X4 kd ref p a b d dl dc Q N post) {V:World} (c:Int) (h:N c V) (g:Array Value) (i:g.getD 4 undef=J X4 0) :
  Leaves prog Tryz.f14 g post [{ target:=.fn (.func 37) #[J X2 0,J X4 0],args:=#[] }] (.panicking (fw c)) V:=by
 refine Iy (f:=37) (args:=#[J X2 0,J X4 0]) bH (by simp [go_sem]) ?_;refine (r.no c V h).mono ?_;rintro e u l ⟨rfl,rfl,m,n,o,q,j,k⟩;exact⟨_,Gq dU _ _ X4 44 _ (0,0) _ i j underlying44 rfl E,k⟩
theorem eo {P X2 X3 X4 kd ref p a b d dl dc Q N post} (r:Rn9 P X2 X3 X4 kd ref p a b d dl dc Q N post) {V:World} (g i j k:Value) (l:V.heap[X4]?=some (.cells #[g,i,j,k] 44)) (m:post (.returned (.agg #[g,i,j,k])) V) (c:Array Value) (n:c.getD 4 undef=J X4 0) :
  Leaves prog Tryz.f14 c post [{ target:=.fn (.func 37) #[J X2 0,J X4 0],args:=#[] }] .returning V:=by
 refine Iy (f:=37) (args:=#[J X2 0,J X4 0]) bH (by simp [go_sem]) ?_;refine (r.id V).mono ?_;rintro e u o ⟨rfl,rfl,rfl⟩;exact⟨_,Gq dU _ _ X4 44 _ (0,0) _ n l underlying44 rfl E,m⟩
def three (W:World) (P:Nat) (e:Array Value):World:=((W.alloc (.cells #[J P 0] 56)).alloc (.cells e 42)).alloc (.cells #[I 0,U 0,I 0,C] 44)
theorem zv (P X2 X3 X4 kd ref p a b d dl dc) (W:World) (Q N post) (i:Rn9 P X2 X3 X4 kd ref p a b d dl dc Q N post) (c:X2=W.heap.size) (f:X3=W.heap.size+1) (g:X4=W.heap.size+1+1) (j:Q (three W P #[I kd,I ref,U p,U a,U b,.slice d dl dc])) (k:∀ V,Q V->Calls prog 39 #[J P 0,.agg #[I kd,I ref,U p,U a,U b,.slice d dl dc]] V λe l=>e=.panicked (fw 6)/\N 6 l) :
  Calls prog 14 #[J P 0,.agg #[I kd,I ref,U p,U a,U b,.slice d dl dc]] W post:=by
 have m:=H i;have l:=H j;clear i j;have i:=H k;clear k;unfold three at l;go_enter_defers func14,ntmps14;go_wp2_with fail;rw [<-g,<-f,<-c];refine (i _ l).mono ?_;rintro e V ⟨rfl,j⟩;exact fc m 6 j _ rfl
theorem zh (P X2 X3 X4 kd ref p a b d dl dc) (q:Nat) (z:Nat) (u:Nat->Nat->Nat->World->Prop) (v:World->Prop) (W:World) (Q N post) (f:Rn9 P X2 X3 X4 kd ref p a b d dl dc Q N post) (i:X2=W.heap.size) (l:X3=W.heap.size+1) (m:X4=W.heap.size+1+1) (o:Q (three W P #[I kd,I ref,U p,U a,U b,.slice d dl dc])) (F:kd=0) (x:∀ V,Q V->Calls prog 39 #[J P 0,.agg #[I kd,I ref,U p,U a,U b,.slice d dl dc]] V λe k=>e=.returned (U q)/\Q k) (y:∀ V,Q V->Calls prog 40 #[J P 0,U a] V λe k=>(∃ c,e=.panicked (fw c)/\N c k)\/∃ t g j,e=.returned (.iface t (J g 0))/\(t=158/\j=81\/t=168/\j=120)/\u t g j k) (A:∀ t g j V,u t g j V->Calls prog j #[J g 0] V λe k=>e=.returned (U z)/\v k) (f9:∀ V,v V->V.heap[X4]?=some (.cells #[I 0,U 0,I 0,C] 44)/\post (.returned (.agg #[I 0,U z,I 0,C])) (V.setRow X4 #[I 0,U z,I 0,C])) :
  Calls prog 14 #[J P 0,.agg #[I kd,I ref,U p,U a,U b,.slice d dl dc]] W post:=by
 have n:=H f;have r:=H o;clear f o;have s:=H x;clear x;have w:=H y;clear y;have B9:=H A;clear A;have o:=H f9;clear f9;subst F;unfold three at r;go_enter_defers func14,ntmps14;go_wp2_with fail;rw [<-m,<-l,<-i];refine (s _ r).mono ?_;rintro e V ⟨rfl,f⟩;have B:=H f;obtain⟨G,K,L,M,O,R,S⟩:=n.cell f;clear f r s i l m;generalize W.heap.size=Y at *;go_wp2_with fail;refine (w _ B).mono ?_;rintro e V2 (⟨c,rfl,T⟩|⟨t,g,j,rfl,X,f⟩);·exact fc n c T _ rfl
 have r:=H f;clear f w B G K L M O R S;rcases X with ⟨rfl,rfl⟩|⟨rfl,rfl⟩
 ·have B:=λw=>nX g w
  go_wp2_with fail;refine (B9 _ g _ _ r).mono ?_;rintro e G ⟨rfl,f⟩;obtain⟨l,m⟩:=o.out _ f;have i:=H l;have s:=H m;clear f m r B9 o l;go_wp2_with (refine eG i ?_);exact eo n (I 0) (U z) (I 0) (C) (aw i _) s _ rfl
 have B:=λw=>oy g w
 go_wp2_with fail;refine (B9 _ g _ _ r).mono ?_;rintro e G ⟨rfl,f⟩;obtain⟨l,m⟩:=o.out _ f;have i:=H l;have s:=H m;clear f m r B9 o l;go_wp2_with (refine eG i ?_);exact eo n (I 0) (U z) (I 0) (C) (aw i _) s _ rfl
theorem zn (P X2 X3 X4 kd ref p a b d dl dc) (q:Nat) (z:Nat) (u:Nat->Nat->Nat->World->Prop) (v:World->Prop) (W:World) (Q N post) (f:Rn9 P X2 X3 X4 kd ref p a b d dl dc Q N post) (i:X2=W.heap.size) (l:X3=W.heap.size+1) (m:X4=W.heap.size+1+1) (o:Q (three W P #[I kd,I ref,U p,U a,U b,.slice d dl dc])) (F:kd=1) (x:∀ V,Q V->Calls prog 39 #[J P 0,.agg #[I kd,I ref,U p,U a,U b,.slice d dl dc]] V λe k=>e=.returned (U q)/\Q k) (y:∀ V,Q V->Calls prog 41 #[J P 0,U a,U b] V λe k=>(∃ c,e=.panicked (fw c)/\N c k)\/∃ t g j,e=.returned (.iface t (J g 0))/\(t=158/\j=81\/t=168/\j=120)/\u t g j k) (A:∀ t g j V,u t g j V->Calls prog j #[J g 0] V λe k=>e=.returned (U z)/\v k) (f9:∀ V,v V->V.heap[X4]?=some (.cells #[I 0,U 0,I 0,C] 44)/\post (.returned (.agg #[I 0,U z,I 0,C])) (V.setRow X4 #[I 0,U z,I 0,C])) :
  Calls prog 14 #[J P 0,.agg #[I kd,I ref,U p,U a,U b,.slice d dl dc]] W post:=by
 have n:=H f;have r:=H o;clear f o;have s:=H x;clear x;have w:=H y;clear y;have B9:=H A;clear A;have o:=H f9;clear f9;subst F;unfold three at r;go_enter_defers func14,ntmps14;go_wp2_with fail;rw [<-m,<-l,<-i];refine (s _ r).mono ?_;rintro e V ⟨rfl,f⟩;have B:=H f;obtain⟨G,K,L,M,O,R,S⟩:=n.cell f;clear f r s i l m;generalize W.heap.size=Y at *;go_wp2_with fail;refine (w _ B).mono ?_;rintro e V2 (⟨c,rfl,T⟩|⟨t,g,j,rfl,X,f⟩);·exact fc n c T _ rfl
 have r:=H f;clear f w B G K L M O R S;rcases X with ⟨rfl,rfl⟩|⟨rfl,rfl⟩
 ·have B:=λw=>nX g w
  go_wp2_with fail;refine (B9 _ g _ _ r).mono ?_;rintro e G ⟨rfl,f⟩;obtain⟨l,m⟩:=o.out _ f;have i:=H l;have s:=H m;clear f m r B9 o l;go_wp2_with (refine eG i ?_);exact eo n (I 0) (U z) (I 0) (C) (aw i _) s _ rfl
 have B:=λw=>oy g w
 go_wp2_with fail;refine (B9 _ g _ _ r).mono ?_;rintro e G ⟨rfl,f⟩;obtain⟨l,m⟩:=o.out _ f;have i:=H l;have s:=H m;clear f m r B9 o l;go_wp2_with (refine eG i ?_);exact eo n (I 0) (U z) (I 0) (C) (aw i _) s _ rfl
theorem yS (P X2 X3 X4 kd ref p a b d dl dc) (q:Nat) (z:Nat) (u:Nat->Nat->Nat->World->Prop) (v:World->Prop) (W:World) (Q N post) (f:Rn9 P X2 X3 X4 kd ref p a b d dl dc Q N post) (i:X2=W.heap.size) (l:X3=W.heap.size+1) (m:X4=W.heap.size+1+1) (o:Q (three W P #[I kd,I ref,U p,U a,U b,.slice d dl dc])) (F:kd=2) (x:∀ V,Q V->Calls prog 39 #[J P 0,.agg #[I kd,I ref,U p,U a,U b,.slice d dl dc]] V λe k=>e=.returned (U q)/\Q k) (y:∀ V,Q V->Calls prog 42 #[J P 0,U q,U a] V λe k=>(∃ c,e=.panicked (fw c)/\N c k)\/∃ t g j,e=.returned (.iface t (J g 0))/\(t=158/\j=81\/t=168/\j=120)/\u t g j k) (A:∀ t g j V,u t g j V->Calls prog j #[J g 0] V λe k=>e=.returned (U z)/\v k) (f9:∀ V,v V->V.heap[X4]?=some (.cells #[I 0,U 0,I 0,C] 44)/\post (.returned (.agg #[I 0,U z,I 0,C])) (V.setRow X4 #[I 0,U z,I 0,C])) :
  Calls prog 14 #[J P 0,.agg #[I kd,I ref,U p,U a,U b,.slice d dl dc]] W post:=by
 have n:=H f;have r:=H o;clear f o;have s:=H x;clear x;have w:=H y;clear y;have B9:=H A;clear A;have o:=H f9;clear f9;subst F;unfold three at r;go_enter_defers func14,ntmps14;go_wp2_with fail;rw [<-m,<-l,<-i];refine (s _ r).mono ?_;rintro e V ⟨rfl,f⟩;have B:=H f;obtain⟨G,K,L,M,O,R,S⟩:=n.cell f;clear f r s i l m;generalize W.heap.size=Y at *;go_wp2_with fail;refine (w _ B).mono ?_;rintro e V2 (⟨c,rfl,T⟩|⟨t,g,j,rfl,X,f⟩);·exact fc n c T _ rfl
 have r:=H f;clear f w B G K L M O R S;rcases X with ⟨rfl,rfl⟩|⟨rfl,rfl⟩
 ·have B:=λw=>nX g w
  go_wp2_with fail;refine (B9 _ g _ _ r).mono ?_;rintro e G ⟨rfl,f⟩;obtain⟨l,m⟩:=o.out _ f;have i:=H l;have s:=H m;clear f m r B9 o l;go_wp2_with (refine eG i ?_);exact eo n (I 0) (U z) (I 0) (C) (aw i _) s _ rfl
 have B:=λw=>oy g w
 go_wp2_with fail;refine (B9 _ g _ _ r).mono ?_;rintro e G ⟨rfl,f⟩;obtain⟨l,m⟩:=o.out _ f;have i:=H l;have s:=H m;clear f m r B9 o l;go_wp2_with (refine eG i ?_);exact eo n (I 0) (U z) (I 0) (C) (aw i _) s _ rfl
theorem Ab (P X2 X3 X4 kd ref p a b d dl dc) (q:Nat) (z:Nat) (u:Nat->Nat->Nat->World->Prop) (v:World->Prop) (W:World) (Q N post) (f:Rn9 P X2 X3 X4 kd ref p a b d dl dc Q N post) (i:X2=W.heap.size) (l:X3=W.heap.size+1) (m:X4=W.heap.size+1+1) (o:Q (three W P #[I kd,I ref,U p,U a,U b,.slice d dl dc])) (F:kd=4) (x:∀ V,Q V->Calls prog 39 #[J P 0,.agg #[I kd,I ref,U p,U a,U b,.slice d dl dc]] V λe k=>e=.returned (U q)/\Q k) (y:∀ V,Q V->Calls prog 45 #[J P 0,U q] V λe k=>(∃ c,e=.panicked (fw c)/\N c k)\/∃ t g j,e=.returned (.iface t (J g 0))/\(t=158/\j=128\/t=168/\j=260)/\u t g j k) (A:∀ t g j V,u t g j V->Calls prog j #[J g 0] V λe k=>e=.returned (I z)/\v k) (f9:∀ V,v V->V.heap[X4]?=some (.cells #[I 0,U 0,I 0,C] 44)/\post (.returned (.agg #[I 0,U 0,I z,C])) (V.setRow X4 #[I 0,U 0,I z,C])) :
  Calls prog 14 #[J P 0,.agg #[I kd,I ref,U p,U a,U b,.slice d dl dc]] W post:=by
 have n:=H f;have r:=H o;clear f o;have s:=H x;clear x;have w:=H y;clear y;have B9:=H A;clear A;have o:=H f9;clear f9;subst F;unfold three at r;go_enter_defers func14,ntmps14;go_wp2_with fail;rw [<-m,<-l,<-i];refine (s _ r).mono ?_;rintro e V ⟨rfl,f⟩;have B:=H f;obtain⟨G,K,L,M,O,R,S⟩:=n.cell f;clear f r s i l m;generalize W.heap.size=Y at *;go_wp2_with fail;refine (w _ B).mono ?_;rintro e V2 (⟨c,rfl,T⟩|⟨t,g,j,rfl,X,f⟩);·exact fc n c T _ rfl
 have r:=H f;clear f w B G K L M O R S;rcases X with ⟨rfl,rfl⟩|⟨rfl,rfl⟩
 ·have B:=λw=>DW g w
  go_wp2_with fail;refine (B9 _ g _ _ r).mono ?_;rintro e G ⟨rfl,f⟩;obtain⟨l,m⟩:=o.out _ f;have i:=H l;have s:=H m;clear f m r B9 o l;go_wp2_with (refine eG i ?_);exact eo n (I 0) (U 0) (I z) (C) (aw i _) s _ rfl
 have B:=λw=>DN g w
 go_wp2_with fail;refine (B9 _ g _ _ r).mono ?_;rintro e G ⟨rfl,f⟩;obtain⟨l,m⟩:=o.out _ f;have i:=H l;have s:=H m;clear f m r B9 o l;go_wp2_with (refine eG i ?_);exact eo n (I 0) (U 0) (I z) (C) (aw i _) s _ rfl
theorem zM (P X2 X3 X4 kd ref p a b d dl dc) (q:Nat) (s:Value->World->Prop) (W:World) (Q N post) (f:Rn9 P X2 X3 X4 kd ref p a b d dl dc Q N post) (g:X2=W.heap.size) (i:X3=W.heap.size+1) (j:X4=W.heap.size+1+1) (t:Q (three W P #[I kd,I ref,U p,U a,U b,.slice d dl dc])) (z:kd=5) (u:∀ V,Q V->Calls prog 39 #[J P 0,.agg #[I kd,I ref,U p,U a,U b,.slice d dl dc]] V λe k=>e=.returned (U q)/\Q k) (w:∀ V,Q V->Calls prog 46 #[J P 0,U q,U a] V λe k=>(∃ c,e=.panicked (fw c)/\N c k)\/∃ l m n,e=.returned (.slice l m n)/\s (.slice l m n) k) (f9:∀ v V,s v V->V.heap[X4]?=some (.cells #[I 0,U 0,I 0,C] 44)/\post (.returned (.agg #[I 0,U 0,I 0,v])) (V.setRow X4 #[I 0,U 0,I 0,v])) :
  Calls prog 14 #[J P 0,.agg #[I kd,I ref,U p,U a,U b,.slice d dl dc]] W post:=by
 have o:=H f;have r:=H t;clear f t;have t:=H u;clear u;have v:=H w;clear w;have x:=H f9;clear f9;subst z;unfold three at r;go_enter_defers func14,ntmps14;go_wp2_with fail;rw [<-j,<-i,<-g];refine (t _ r).mono ?_;rintro e V ⟨rfl,f⟩;have y:=H f;obtain⟨A,B,F,G,K,L,M⟩:=o.cell f;clear f r t g i j;generalize W.heap.size=O at *;go_wp2_with fail;refine (v _ y).mono ?_;rintro e R (⟨c,rfl,r⟩|⟨l,m,n,rfl,f⟩);·exact fc o c r _ rfl
 obtain⟨i,j⟩:=x.out _ _ f;have g:=H i;have t:=H j;clear f j x v y i A B F G K L M;go_wp2_with (refine eG g ?_);exact eo o (I 0) (U 0) (I 0) (.slice l m n) (aw g _) t _ rfl
theorem zt (P X2 X3 X4 kd ref p a b d dl dc) (q:Nat) (n:World->Prop) (W:World) (Q N post) (f:Rn9 P X2 X3 X4 kd ref p a b d dl dc Q N post) (g:X2=W.heap.size) (i:X3=W.heap.size+1) (j:X4=W.heap.size+1+1) (o:Q (three W P #[I kd,I ref,U p,U a,U b,.slice d dl dc])) (w:kd=6) (r:∀ V,Q V->Calls prog 39 #[J P 0,.agg #[I kd,I ref,U p,U a,U b,.slice d dl dc]] V λe k=>e=.returned (U q)/\Q k) (s:∀ V,Q V->Calls prog 47 #[J P 0,U q,.slice d dl dc] V λe k=>(∃ c,e=.panicked (fw c)/\N c k)\/e=.returned (.tuple #[])/\n k) (f9:∀ V,n V->V.heap[X4]?=some (.cells #[I 0,U 0,I 0,C] 44)/\post (.returned (.agg #[I 0,U 0,I 0,C])) (V.setRow X4 #[I 0,U 0,I 0,C])) :
  Calls prog 14 #[J P 0,.agg #[I kd,I ref,U p,U a,U b,.slice d dl dc]] W post:=by
 have l:=H f;have m:=H o;clear f o;have o:=H r;clear r;have t:=H s;clear s;have u:=H f9;clear f9;subst w;unfold three at m;go_enter_defers func14,ntmps14;go_wp2_with fail;rw [<-j,<-i,<-g];refine (o _ m).mono ?_;rintro e V ⟨rfl,f⟩;have v:=H f;obtain⟨x,y,z,A,B,F,G⟩:=l.cell f;clear f m o g i j;generalize W.heap.size=K at *;go_wp2_with fail;refine (t _ v).mono ?_;rintro e L (⟨c,rfl,m⟩|⟨rfl,f⟩);·exact fc l c m _ rfl
 obtain⟨i,j⟩:=u.out _ f;have g:=H i;have o:=H j;clear f j u t v i x y z A B F G;go_wp2_with (refine eG g ?_);exact eo l (I 0) (U 0) (I 0) (C) (aw g _) o _ rfl
theorem yM (P X2 X3 X4 kd ref p a b d dl dc) (q:Nat) (W:World) (Q N post) (j:Rn9 P X2 X3 X4 kd ref p a b d dl dc Q N post) (c:X2=W.heap.size) (f:X3=W.heap.size+1) (g:X4=W.heap.size+1+1) (k:Q (three W P #[I kd,I ref,U p,U a,U b,.slice d dl dc])) (l:∀ V,Q V->Calls prog 39 #[J P 0,.agg #[I kd,I ref,U p,U a,U b,.slice d dl dc]] V λe i=>e=.returned (U q)/\Q i) (r:kd<0\/6<kd) (m:∀ V,Q V->N 6 V) :
  Calls prog 14 #[J P 0,.agg #[I kd,I ref,U p,U a,U b,.slice d dl dc]] W post:=by
 have n:=H j;have i:=H k;clear j k;have k:=H l;clear l;have o:=H m;clear m;unfold three at i;go_enter_defers func14,ntmps14;go_wp2_with fail;rw [<-g,<-f,<-c];refine (k _ i).mono ?_;rintro e V ⟨rfl,j⟩;have m:=H j;obtain⟨s,t,u,v,w,x,y⟩:=n.cell j;clear j i k c f g;generalize W.heap.size=f at *;have g:(kd==0)=false:=bG;have i:(kd==1)=false:=bG;have j:(kd==2)=false:=bG;have k:(kd==3)=false:=bG;have z:(kd==4)=false:=bG;have A:(kd==5)=false:=bG;have z6:(kd==6)=false:=bG;have c:=H (o _ m);clear r o m;go_wp2;exact fc n 6 c _ rfl
theorem yU (P X2 X3 X4 kd ref p a b d dl dc) (q:Nat) (r:Value->World->Prop) (s:World->Prop) (W:World) (Q N post) (n:Rn9 P X2 X3 X4 kd ref p a b d dl dc Q N post) (f:X2=W.heap.size) (g:X3=W.heap.size+1) (j:X4=W.heap.size+1+1) (o:Q (three W P #[I kd,I ref,U p,U a,U b,.slice d dl dc])) (F:kd=3) (t:∀ V,Q V->Calls prog 39 #[J P 0,.agg #[I kd,I ref,U p,U a,U b,.slice d dl dc]] V λe k=>e=.returned (U q)/\Q k) (u:∀ V,Q V->Calls prog 44 #[J P 0,U q] V λe k=>(∃ c,e=.panicked (fw c)/\N c k)\/∃ v,e=.returned v/\k.cell? ⟨X2,0,none⟩=some (J P 0)/\r v k) (w:∀ v V,r v V->Calls prog 43 #[J P 0,v] V λe k=>e=.returned (.tuple #[])/\k.cell? ⟨X2,0,none⟩=some (J P 0)/\s k) (f9:∀ V,s V->V.heap[X4]?=some (.cells #[I 0,U 0,I 0,C] 44)/\post (.returned (.agg #[I 0,U 0,I 0,C])) (V.setRow X4 #[I 0,U 0,I 0,C])) :
  Calls prog 14 #[J P 0,.agg #[I kd,I ref,U p,U a,U b,.slice d dl dc]] W post:=by
 have l:=H n;have m:=H o;clear n o;have x:=H t;clear t;have y:=H u;clear u;have z:=H w;clear w;have A:=H f9;clear f9;subst F;unfold three at m;go_enter_defers func14,ntmps14;go_wp2_with fail;rw [<-j,<-g,<-f];refine (x _ m).mono ?_;rintro e V ⟨rfl,n⟩;have o:=H n;obtain⟨B,G,K,L,M,O,R⟩:=l.cell n;clear n m x f g j;generalize W.heap.size=X at *;go_upto_region 11 with fail
 have T:=l.qd _ o.out;clear B G K L M O R;refine rh (S:=λf=>f.cell? ⟨X2,0,none⟩=some (J P 0)) ?_;have g:=l.x2 _ (l.qd _ o);refine aG (i:=0) (d:=41) (v:=J P 0) rfl E E E E (λ_ _ _ h=>eT (xr _ 41 _ ar) _ _ _ h) (Or.inl ⟨E,λW g=>by obtain G:=g;first|(go_simp;done)|(go_simp;omega)⟩) g ?_;simp only [lz,l0,ls];refine aG (i:=1) (d:=42) (v:=J P 0) rfl E E E E (λ_ _ _ h=>eT (xr _ 42 _ ar) _ _ _ h) (Or.inl ⟨E,λW g=>by obtain G:=g;first|(go_simp;done)|(go_simp;omega)⟩) g ?_;simp only [lz,l0,ls];refine aG (i:=2) (d:=43) (v:=U q) rfl E E E E (λ_ _ _ h=>eT (xr _ 43 _ ar) _ _ _ h) (Or.inl ⟨E,λ_ _=>E⟩) g ?_;simp only [lz,l0,ls];refine po 3 λK' m=>?_;go_simp;refine (y _ T).mono ?_;rintro e R (⟨c,rfl,K⟩|⟨v,rfl,L⟩)
 ·exact fc l c K _ rfl
 obtain⟨f,j⟩:=L;refine m _ _ ⟨f,?_⟩;clear g;have g:=f;have M:=H j;clear f j;clear m K';refine po 4 λK' m=>?_;go_simp;refine (z _ _ M).mono ?_;rintro e Y ⟨rfl,f,j⟩;refine m _ _ ⟨f,?_⟩;have n:=H j;clear g;clear m K';refine bY ?_;have m:=n;obtain⟨x,B⟩:=A.out _ m.out;have g:=H x;have O:=H B;clear B A y z o x m n;go_wp2_with (refine eG g ?_);exact eo l (I 0) (U 0) (I 0) (C) (aw g _) O _ rfl
end
end Go.Proofs.YtibblbenmpcplaaGreatDoor
