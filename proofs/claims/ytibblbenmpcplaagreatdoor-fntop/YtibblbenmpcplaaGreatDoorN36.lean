import Derived.Test.YtibblbenmpcplaaGreatDoorN11
import Derived.Test.YtibblbenmpcplaaGreatDoorN13
set_option linter.unusedVariables false
set_option linter.unusedSimpArgs false
set_option maxRecDepth 20000
set_option maxHeartbeats 8000000
namespace Go.Proofs.YtibblbenmpcplaaGreatDoor
open Go.Proofs.Tryz
section
open Go.RowKit
theorem Ax (g : Nat) (w : World) : (method 660 158 (.pointer (some ⟨g, 0, none⟩)) "loop.example/s01868/impl.kept").run prog w=.ok (259, .pointer (some ⟨g, 0, none⟩)) w := E
theorem AM (g : Nat) (w : World) : (method 660 168 (.pointer (some ⟨g, 0, none⟩)) "loop.example/s01868/impl.kept").run prog w=.ok (259, .pointer (some ⟨g, 0, none⟩)) w := E
theorem nX (g : Nat) (w : World) : (method 660 158 (.pointer (some ⟨g, 0, none⟩)) "loop.example/s01868/impl.base").run prog w=.ok (81, .pointer (some ⟨g, 0, none⟩)) w := E
theorem oy (g : Nat) (w : World) : (method 660 168 (.pointer (some ⟨g, 0, none⟩)) "loop.example/s01868/impl.base").run prog w=.ok (120, .pointer (some ⟨g, 0, none⟩)) w := E
theorem DW (g : Nat) (w : World) : (method 660 158 (.pointer (some ⟨g, 0, none⟩)) "loop.example/s01868/impl.usable").run prog w=.ok (128, .pointer (some ⟨g, 0, none⟩)) w := E
theorem DN (g : Nat) (w : World) : (method 660 168 (.pointer (some ⟨g, 0, none⟩)) "loop.example/s01868/impl.usable").run prog w=.ok (260, .pointer (some ⟨g, 0, none⟩)) w := E
theorem BB (P a:Nat) (W:World) (b:Ending->World->Prop)
  (c:Calls prog 40 #[J P 0,U a] W λe V=>(∃ v,e=.panicked v/\b (.panicked v) V)\/∃ v,e=.returned v/\b (.returned v) V) :
  Calls prog 42 #[J P 0,U (0:Nat),U a] W b:=by
 have f:=H c;clear c;go_enter func42,ntmps42;go_wp2_with fail;refine (f).mono ?_;rintro e V (⟨v,rfl,d⟩|⟨v,rfl,d⟩);·exact⟨rfl,d⟩
 have g:=H d;clear d f;go_wp2;exact g.out
theorem ye (P) (p a:Nat) (code) (W:World) (iF:p≠0) (R:World->Prop) (b:Calls prog 44 #[J P 0,U p] W λe V=>e=.panicked [{ v:=.iface 98 (.agg #[I code]),recovered:=false }]/\R V) :
  Calls prog 42 #[J P 0,U p,U a] W λe V=>e=.panicked [{ v:=.iface 98 (.agg #[I code]),recovered:=false }]/\R V:=by
 have c:((p:Int)==0)=false:=bG;have d:=H b;clear b;clear iF;go_enter func42,ntmps42;go_wp2_with fail;refine (d).mono ?_;rintro e V ⟨rfl,f⟩;exact⟨rfl,rfl,f⟩
theorem ot (P) (p a t:Nat) (g) (W:World) (iF:p≠0) (r:t=158\/t=168) (Q:World->Prop) (c:Ending->World->Prop) (f:Calls prog 44 #[J P 0,U p] W λe V=>e=.returned (.iface t (J g 0))/\Q V) (i:∀ V,Q V->Calls prog 74 #[.iface t (J g 0),U a] V λe b=>e=.returned (.bool true)/\Q b) (b:∀ V,Q V->∃ o,V.cell? ⟨g,1,none⟩=some (I o)/\V.frozen? ⟨g,1,none⟩=false) (z:IntKind.i64.wrap (a:Int)=(a:Int)) (yO:∀ V,Q V->c (.returned (.iface t (J g 0))) (V.setCell ⟨g,1,none⟩ (I a))) :
  Calls prog 42 #[J P 0,U p,U a] W c:=by
 have s:((p:Int)==0)=false:=bG;have k:=H f;clear f;have l:=H i;clear i;have m:=H yO;clear yO;have n:=H b;clear iF b;rcases r with rfl|rfl
 ·have u:=λw=>Ax g w
  go_enter func42,ntmps42;go_wp2_with fail;refine (k).mono ?_;rintro e V ⟨rfl,b⟩;have j:=H b;clear b k;go_wp2_with fail;refine (l _ j).mono ?_;rintro e v ⟨rfl,b⟩;have d:=H b;clear b l j;obtain⟨o,x,f1⟩:=n.out _ d.out;have q:=H (m _ d);clear m d n;go_wp2_with fail;refine (fx ⟨g,0,none⟩ _).mono ?_;rintro e y ⟨rfl,rfl⟩;go_wp2;exact q.out
 have u:=λw=>AM g w
 go_enter func42,ntmps42;go_wp2_with fail;refine (k).mono ?_;rintro e V ⟨rfl,b⟩;have j:=H b;clear b k;go_wp2_with fail;refine (l _ j).mono ?_;rintro e v ⟨rfl,b⟩;have d:=H b;clear b l j;obtain⟨o,x,f1⟩:=n.out _ d.out;have q:=H (m _ d);clear m d n;go_wp2_with fail;refine (fx ⟨g,0,none⟩ _).mono ?_;rintro e y ⟨rfl,rfl⟩;go_wp2;exact q.out
theorem lK (P) (p a t:Nat) (g) (fb q f:Nat) (W:World) (iF:p≠0) (ht:t=158/\fb=81\/t=168/\fb=120) (a7:f<9223372036854775808) (ha:a<18446744073709551616) (Q:World->Prop) (O:Nat->Nat->Nat->World->Prop) (Q3:Nat->Nat->World->Prop) (z:Ending->World->Prop) (a0:Calls prog 44 #[J P 0,U p] W λe V=>e=.returned (.iface t (J g 0))/\Q V) (a1:∀ V,Q V->Calls prog 74 #[.iface t (J g 0),U a] V λe r=>e=.returned (.bool false)/\Q r) (a2:∀ V,Q V->Calls prog 40 #[J P 0,U a] V λe r=>(∃ v,e=.panicked v/\z (.panicked v) r)\/∃ m j i,e=.returned (.iface m (J j 0))/\(m=158/\i=81\/m=168/\i=120)/\O m j i r) (b:∀ m j i V r,O m j i V->D V r->O m j i r) (a3:∀ m j i V,O m j i V->Calls prog fb #[J g 0] V λe r=>e=.returned (U p)/\D V r) (a4:∀ m j i V,O m j i V->Calls prog i #[J j 0] V λe r=>e=.returned (U q)/\D V r) (c:∀ m j i V,O m j i V->V.cell? ⟨g,1,none⟩=some (I f)) (a5:∀ m j i V,O m j i V->Calls prog 75 #[J P 0,U p,U q,U (min f a:Nat)] V λe r=>e=.returned (.tuple #[])/\Q3 m j r) (a6:∀ m j V,Q3 m j V->Calls prog 43 #[J P 0,.iface t (J g 0)] V λe r=>e=.returned (.tuple #[])/\z (.returned (.iface m (J j 0))) r) :
  Calls prog 42 #[J P 0,U p,U a] W z:=by
 have a8:((p:Int)==0)=false:=bG;have IN:=H a0;clear a0;have FT:=H a1;clear a1;have TK:=H a2;clear a2;have l:=H b;have K:=H a3;clear a3;have L:=H a4;clear a4;have M:=H c;have G:=H a5;clear a5;have o:=H a6;clear a6;clear iF b c;obtain⟨n,b⟩:∃ n:Nat,min f a=n:=⟨_,rfl⟩;rw [b] at G;have N:=H b;clear b;have a9:IntKind.u64.wrap (f:Int)=(f:Int):=dX _ Z Z;rcases ht with ⟨rfl,rfl⟩|⟨rfl,rfl⟩
 ·have mk:=λw=>Ax g w
  have mb:=λw=>nX g w
  go_enter func42,ntmps42;go_wp2_with fail;refine (IN).mono ?_;rintro e V ⟨rfl,b⟩;have HV:=H b;clear b IN;go_wp2_with fail;refine (FT _ HV).mono ?_;rintro e V1 ⟨rfl,b⟩;have H1:=H b;clear b FT HV;go_wp2_with fail;refine (TK _ H1).mono ?_;rintro e V2 (⟨v,rfl,hv⟩|⟨m,j,i,rfl,R,b⟩);·exact⟨rfl,hv⟩
  have y:=H b;clear b TK H1;rcases R with ⟨rfl,rfl⟩|⟨rfl,rfl⟩
  ·have S:=λw=>nX j w
   go_wp2_with fail;refine (K _ j _ _ y).mono ?_;rintro e V3 ⟨rfl,A⟩;have c:=H (l _ _ _ _ _ y A);clear A y;go_wp2_with fail;refine (L _ j _ _ c).mono ?_;rintro e V4 ⟨rfl,B⟩;have s:=H (l _ _ _ _ _ c B);clear B c;go_wp2_with fail;refine (fx ⟨g,0,none⟩ _).mono ?_;rintro e V5 ⟨rfl,rfl⟩;have F:=M.out _ _ _ _ s.out;have d:=H (G _ _ _ _ s);clear G M K L l s;by_cases T:f<=a
   ·have k:n=f:=(by have:=N.out;omega);subst k;have u:(n:Int)<=(a:Int):=Z;go_wp2_with fail;refine (d).mono ?_;rintro e X ⟨rfl,b⟩;have c:=H b;clear b d F;go_wp2_with fail;refine (o _ _ _ c).mono ?_;rintro e Y ⟨rfl,b⟩;have x:=H b;clear b o c;go_wp2;exact x.out
   have k:n=a:=(by have:=N.out;omega);subst k;have u:¬((f:Int)<=(n:Int)):=Z;go_wp2_with fail;refine (d).mono ?_;rintro e X ⟨rfl,b⟩;have c:=H b;clear b d F;go_wp2_with fail;refine (o _ _ _ c).mono ?_;rintro e Y ⟨rfl,b⟩;have x:=H b;clear b o c;go_wp2;exact x.out
  have S:=λw=>oy j w
  go_wp2_with fail;refine (K _ j _ _ y).mono ?_;rintro e V3 ⟨rfl,A⟩;have c:=H (l _ _ _ _ _ y A);clear A y;go_wp2_with fail;refine (L _ j _ _ c).mono ?_;rintro e V4 ⟨rfl,B⟩;have s:=H (l _ _ _ _ _ c B);clear B c;go_wp2_with fail;refine (fx ⟨g,0,none⟩ _).mono ?_;rintro e V5 ⟨rfl,rfl⟩;have F:=M.out _ _ _ _ s.out;have d:=H (G _ _ _ _ s);clear G M K L l s;by_cases T:f<=a
  ·have k:n=f:=(by have:=N.out;omega);subst k;have u:(n:Int)<=(a:Int):=Z;go_wp2_with fail;refine (d).mono ?_;rintro e X ⟨rfl,b⟩;have c:=H b;clear b d F;go_wp2_with fail;refine (o _ _ _ c).mono ?_;rintro e Y ⟨rfl,b⟩;have x:=H b;clear b o c;go_wp2;exact x.out
  have k:n=a:=by have:=N.out;omega
  subst k;have u:¬((f:Int)<=(n:Int)):=Z;go_wp2_with fail;refine (d).mono ?_;rintro e X ⟨rfl,b⟩;have c:=H b;clear b d F;go_wp2_with fail;refine (o _ _ _ c).mono ?_;rintro e Y ⟨rfl,b⟩;have x:=H b;clear b o c;go_wp2;exact x.out
 have mk:=λw=>AM g w
 have mb:=λw=>oy g w
 go_enter func42,ntmps42;go_wp2_with fail;refine (IN).mono ?_;rintro e V ⟨rfl,b⟩;have HV:=H b;clear b IN;go_wp2_with fail;refine (FT _ HV).mono ?_;rintro e V1 ⟨rfl,b⟩;have H1:=H b;clear b FT HV;go_wp2_with fail;refine (TK _ H1).mono ?_;rintro e V2 (⟨v,rfl,hv⟩|⟨m,j,i,rfl,R,b⟩);·exact⟨rfl,hv⟩
 have y:=H b;clear b TK H1;rcases R with ⟨rfl,rfl⟩|⟨rfl,rfl⟩
 ·have S:=λw=>nX j w
  go_wp2_with fail;refine (K _ j _ _ y).mono ?_;rintro e V3 ⟨rfl,A⟩;have c:=H (l _ _ _ _ _ y A);clear A y;go_wp2_with fail;refine (L _ j _ _ c).mono ?_;rintro e V4 ⟨rfl,B⟩;have s:=H (l _ _ _ _ _ c B);clear B c;go_wp2_with fail;refine (fx ⟨g,0,none⟩ _).mono ?_;rintro e V5 ⟨rfl,rfl⟩;have F:=M.out _ _ _ _ s.out;have d:=H (G _ _ _ _ s);clear G M K L l s;by_cases T:f<=a
  ·have k:n=f:=(by have:=N.out;omega);subst k;have u:(n:Int)<=(a:Int):=Z;go_wp2_with fail;refine (d).mono ?_;rintro e X ⟨rfl,b⟩;have c:=H b;clear b d F;go_wp2_with fail;refine (o _ _ _ c).mono ?_;rintro e Y ⟨rfl,b⟩;have x:=H b;clear b o c;go_wp2;exact x.out
  have k:n=a:=by have:=N.out;omega
  subst k;have u:¬((f:Int)<=(n:Int)):=Z;go_wp2_with fail;refine (d).mono ?_;rintro e X ⟨rfl,b⟩;have c:=H b;clear b d F;go_wp2_with fail;refine (o _ _ _ c).mono ?_;rintro e Y ⟨rfl,b⟩;have x:=H b;clear b o c;go_wp2;exact x.out
 have S:=λw=>oy j w
 go_wp2_with fail;refine (K _ j _ _ y).mono ?_;rintro e V3 ⟨rfl,A⟩;have c:=H (l _ _ _ _ _ y A);clear A y;go_wp2_with fail;refine (L _ j _ _ c).mono ?_;rintro e V4 ⟨rfl,B⟩;have s:=H (l _ _ _ _ _ c B);clear B c;go_wp2_with fail;refine (fx ⟨g,0,none⟩ _).mono ?_;rintro e V5 ⟨rfl,rfl⟩;have F:=M.out _ _ _ _ s.out;have d:=H (G _ _ _ _ s);clear G M K L l s;by_cases T:f<=a
 ·have k:n=f:=by have:=N.out;omega
  subst k;have u:(n:Int)<=(a:Int):=Z;go_wp2_with fail;refine (d).mono ?_;rintro e X ⟨rfl,b⟩;have c:=H b;clear b d F;go_wp2_with fail;refine (o _ _ _ c).mono ?_;rintro e Y ⟨rfl,b⟩;have x:=H b;clear b o c;go_wp2;exact x.out
 have k:n=a:=by have:=N.out;omega
 subst k;have u:¬((f:Int)<=(n:Int)):=Z;go_wp2_with fail;refine (d).mono ?_;rintro e X ⟨rfl,b⟩;have c:=H b;clear b d F;go_wp2_with fail;refine (o _ _ _ c).mono ?_;rintro e Y ⟨rfl,b⟩;have x:=H b;clear b o c;go_wp2;exact x.out
end
end Go.Proofs.YtibblbenmpcplaaGreatDoor
