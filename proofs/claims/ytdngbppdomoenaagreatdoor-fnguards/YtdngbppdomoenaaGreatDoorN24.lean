import Derived.Test.YtdngbppdomoenaaGreatDoorN12
import Derived.Test.YtdngbppdomoenaaGreatDoorN21
set_option linter.unusedVariables false
set_option linter.unusedSimpArgs false
set_option maxRecDepth 20000
set_option maxHeartbeats 8000000
namespace Go.Proofs.YtdngbppdomoenaaGreatDoor
open Go.Proofs.Tryz
section
open Go.RowKit Go.Shelf Go.Maps
theorem ED (t:World) (a:Option Addr) (b c:Nat) (z:List Int) (A:IsRow .u8 t a b c z) (j:b<=1048576) (R gv tt W X Y k):B0 t a b c R gv tt W X Y k (λm=>m=0\/m=1\/m=2\/m=3):=by
  intro m K Q q w;intros;rename_i L i l;have B:=H (λV (M:Rd t a b c R V V)=>fY t a b c z A j R V V M);have F:=H u64_in;clear A;have G:=H l;clear l
  conv=>arg 2;whnf
  rcases L with rfl|rfl|rfl|rfl <;>
  (cases tt
   · go_wp2_with fail
     refine (B _ i.rd.at).mono ?_
     rintro e u ⟨⟨v,n,o,rfl⟩,r⟩
     have d:=H (i.next r)
     clear r i
     go_wp2_with (refine eG d.x ?_;have f:=H (d.row 0 v 0 n o Z Z);generalize u.setRow X _=N at f ⊢;clear d)
     apply G.out
     exact f
   · go_wp2_with fail
     refine (B _ i.rd.at).mono ?_
     rintro e x ⟨⟨y,p,s,rfl⟩,r⟩
     have g:=H (i.next r)
     clear r i
     go_wp2_with (refine eG g.x ?_;have f:=H (g.row 0 y 0 p s Z Z);generalize x.setRow X _=N at f ⊢;clear g;obtain ⟨O,P,S,T,z4,z5⟩:=f.cells;have zf:=f.fr 3)
     apply G.out
     exact H (f.setA _ (by first|omega|exact (F _).1|(simp;done)) (by first|omega|exact (F _).2|(simp;done))))
theorem EI (f:World) (a:Option Addr) (b c:Nat) (z:List Int) (A:IsRow .u8 f a b c z) (d:b<=1048576) (R gv tt W X Y k):B0 f a b c R gv tt W X Y k (λm=>m=4):=by
 intro m K Q q w;intros;rename_i hm p s;have N:=H (λV (t:Rd f a b c R V V)=>d_ f a b c z A d R V V t);have WD:=H (λV (t:Rd f a b c R V V)=>ij f a b c z A d R V V t);have P:=H (λV (t:Rd f a b c R V V)=>fY f a b c z A d R V V t);have S:=H u64_in;clear A;have T:=H s;clear s
 conv=>arg 2;whnf
 obtain rfl:=hm;by_cases a0:240<=k
 ·go_wp2_with fail;refine (P _ p.rd.at).mono ?_;rintro e a5 ⟨⟨B,u,v,rfl⟩,r⟩;have g:=H (p.next r);clear r p;go_wp2_with fail;refine (N _ g.rd.at).mono ?_;rintro e F ⟨⟨G,a1,rfl⟩,r⟩;have i:=H (g.next r);clear r g;go_wp2_with (refine eG i.x ?_;have j:=H (i.row 1 B ((G:Int)%4) u v Z Z);generalize F.setRow X _=Vx at j ⊢;clear i);refine (WD _ j.rd.at).mono ?_;rintro e a6 ⟨⟨a7,a2,a3,rfl⟩,r⟩;have l:=H (j.next r);clear r j;obtain⟨z0,z1,z2,z3,z4,z5⟩:=l.cells;have zf:=l.fr 4;go_wp2;apply T.out;exact H (l.setB _ (by first|omega|exact (S _).1|(simp;done)) (by first|omega|exact (S _).2|(simp;done)))
 ·go_wp2_with fail;refine (P _ p.rd.at).mono ?_;rintro e a8 ⟨⟨L,x,y,rfl⟩,r⟩;have n:=H (p.next r);clear r p;go_wp2_with fail;refine (N _ n.rd.at).mono ?_;rintro e M ⟨⟨O,a4,rfl⟩,r⟩;have o:=H (n.next r);clear r n;go_wp2_with (refine eG o.x ?_;have j:=H (o.row 1 L ((O:Int)%4) x y Z Z);generalize M.setRow X _=Vx at j ⊢;clear o);apply T.out;exact j
theorem Ex (r:World) (a:Option Addr) (c d:Nat) (t:List Int) (u:IsRow .u8 r a c d t) (s:c<=1048576) (R gv tt W X Y k):B0 r a c d R gv tt W X Y k (λm=>m=7\/m=8\/m=9\/m=10\/m=11):=by
 intro m K Q q w;intros;rename_i v b e;clear u;have f:=H e;clear e
 conv=>arg 2;whnf
 rcases v with rfl|rfl|rfl|rfl|rfl
 ·skip
  obtain⟨g,i,j,l,n,o⟩:=b.cells;have p:=b.fr 0;go_wp2;apply f.out;exact H (b.setKd 3)
 ·skip
  obtain⟨g,i,j,l,n,o⟩:=b.cells;have p:=b.fr 0;go_wp2;apply f.out;exact H (b.setKd 3)
 ·skip
  obtain⟨g,i,j,l,n,o⟩:=b.cells;have p:=b.fr 0;go_wp2;apply f.out;exact H (b.setKd 3)
 ·skip
  obtain⟨g,i,j,l,n,o⟩:=b.cells;have p:=b.fr 0;go_wp2;apply f.out;exact H (b.setKd 3)
 ·skip
  obtain⟨g,i,j,l,n,o⟩:=b.cells;have p:=b.fr 0;go_wp2;apply f.out;exact H (b.setKd 4)
theorem sD (z:Int) : -9223372036854775808<=wrap64 z:=by unfold wrap64;omega
theorem AX (i:World) (a:Option Addr) (c d:Nat) (o:List Int) (L:IsRow .u8 i a c d o) (f:c<=1048576) (R) (l:Nat) (a1:l<=400) (F:Bool) (W) (hR:Rd i a c d R W W) :
  Calls prog 29 #[.pointer (some ⟨R,0,none⟩),.int .i64 l,.bool F] W λe W'=>∃ q:df,e=.returned (.agg (fH q).toArray)/\Od6 W.heap.size q W'/\Rd i a c d R W W':=by
 have N:=H (λV (p:Rd i a c d R V V)=>d_ i a c d o L f R V V p);have WD:=H (λV (p:Rd i a c d R V V)=>ij i a c d o L f R V V p);have RQ:=H (λV (p:Rd i a c d R V V)=>fY i a c d o L f R V V p);have AD:=H (λV (p:Rd i a c d R V V)=>pV i a c d o L f R V V p);have BY:=H (λn (hn:n<=10000) V (p:Rd i a c d R V V)=>nF i a c d o L f R n hn V V p);have US:=H gD;have P:=H u64_in;have RN:=H hR.lt;have R1:=H (hR.below ((Fu _ _).alloc (Fv _) (.cells #[.int .i64 0,.int .i64 0,.int .u64 0,.int .u64 0,.int .u64 0,.slice none 0 0] 42)));have Y1:=H (ao W (.cells #[.int .i64 0,.int .i64 0,.int .u64 0,.int .u64 0,.int .u64 0,.slice none 0 0] 42));have S:=H L;clear L hR;go_enter func29,ntmps29;go_wp2_with fail;generalize W.alloc (.cells #[.int .i64 0,.int .i64 0,.int .u64 0,.int .u64 0,.int .u64 0,.slice none 0 0] 42)=V1 at R1 Y1 ⊢;refine (N _ R1.at).mono ?_;rintro e M ⟨⟨k,hk,rfl⟩,r2⟩;have R2:=H (R1.of r2);have Y2:=H ((r2.g.block _ (ag Y1) (λe=>by cases e;have:=RN.out;omega)).trans Y1);clear r2 R1 Y1;have G:=H (show Ob6 i a c d R W M.heap.size W.heap.size ⟨⟨0,0,0,0,0,[]⟩,none,0⟩ (M.alloc (.cells #[.int .i64 0,.int .i64 0,.int .u64 0,.int .u64 0,.int .u64 0,.slice none 0 0] 42)) from by
  have b:=(Fu M.heap.size M).alloc (Fv _) (.cells #[.int .i64 0,.int .i64 0,.int .u64 0,.int .u64 0,.int .u64 0,.slice none 0 0] 42);have hl:=ag Y2.out;exact⟨R2.below b,RN,ao M _,R2.g.size,by rw [b.block _ hl];exact Y2,Fv _,Z,⟨ar,ar,ar,⟨rfl,.inl ⟨rfl,rfl⟩⟩,ar,λy hy=>by cases hy⟩⟩)
 clear R2 Y2;go_upto_if 13 with fail
 generalize (M.alloc (.cells #[.int .i64 0,.int .i64 0,.int .u64 0,.int .u64 0,.int .u64 0,.slice none 0 0] 42))=V3 at G ⊢;generalize M.heap.size=X at G ⊢;generalize a2:W.heap.size=Y at G ⊢;go_cut [13] (λ_ w'=>∃ q,Hid (Ob6 i a c d R W X Y q w'));case first =>
  by_cases hg:0<l
  ·have a3:((l:Int)==0)=false:=bG;go_wp2_with fail;refine (N _ G.rd.at).mono ?_;rintro e V3 ⟨⟨c3,a4,rfl⟩,r⟩;have T:=H (G.next r);clear r G;have Ox:=H (T.setRef (wrap64 ((l:Int)-(c3:Int)%(l:Int))) (sD _));obtain⟨s,t,u,v,x,z⟩:=T.cells;have A:=T.fr 1;cases h3:((k:Int)%3==0)
   ·go_wp2;go_meet;case rel=>exact ⟨_,Ox⟩
   ·go_wp2_with fail;clear s t u v x z A;refine (N _ Ox.rd.at).mono ?_;rintro e V4 ⟨⟨c4,a5,rfl⟩,r⟩;have O4:=H (Ox.next r);clear r Ox;obtain⟨s,t,u,v,x,z⟩:=O4.cells;have A:=O4.fr 1;go_wp2;go_meet;case rel=>exact ⟨_,H (O4.setRef _ (by first|omega|exact sD _|(rw [Hh];omega)|(simp;done)))⟩
  ·go_wp2;go_meet;case rel=>exact ⟨_,G⟩
 case rest =>
  obtain⟨q,T⟩:=hcut;clear G;go_upto_block 0 with fail
  generalize a0:(k:Int)%16=m;have hb:B0 i a c d R l F W X Y k (λm=>0<=m/\m<16):=by
   intro m K Q q w;intros;rename_i hm O9 a6;have O:(m=0\/m=1\/m=2\/m=3)\/(m=4)\/(m=5\/m=6)\/(m=7\/m=8\/m=9\/m=10\/m=11)\/(m=12)\/(m=13\/m=14\/m=15):=Z;rcases O with O|O|O|O|O|O;·apply ED i a c d o S f R l F W X Y k m K Q q w <;> assumption
   ·apply EI i a c d o S f R l F W X Y k m K Q q w <;> assumption
   ·apply EH i a c d o S f R l F W X Y k m K Q q w <;> assumption
   ·apply Ex i a c d o S f R l F W X Y k m K Q q w <;> assumption
   ·apply EG i a c d o S f R l F W X Y k m K Q q w <;> assumption
   ·apply EV i a c d o S f R l F W X Y k m K Q q w <;> assumption
  have H0:(0:Int)<=m/\m<16:=Z;clear a0;apply hb m _ _ q;·exact H0
  ·exact T
  clear hb;intros;rename_i q2 w2 j;clear T;go_upto_block 1 with fail
  go_cut [116] (λ_ w'=>∃ q,Hid (Ob6 i a c d R W X Y q w'));case first =>
   have hm:k=255\/k=254\/k=253\/k=252\/k=251\/k<251:=Z;rcases hm with rfl|rfl|rfl|rfl|rfl|a7
   ·skip
    obtain⟨s,t,u,v,x,z⟩:=j.cells;have A:=j.fr 2;go_wp2_with fail
    go_region_with (first|(go_at_call 28;refine (N _ j.drew.rd.at).mono ?_;rintro e Vq ⟨⟨cq,a8,rfl⟩,r⟩;have Oq:=H (j.drew.next r);obtain ⟨y0,y1,y2,y3,y4,y5⟩:=Oq.cells;have yf:=Oq.fr 2;clear r))
    all_goals (go_wp2;go_meet;case rel=>exact ⟨_,H (Oq.setP _ (by first|omega|exact (P _).1|(simp;done)) (by first|omega|exact (P _).2|(simp;done)))⟩)
   ·skip
    obtain⟨s,t,u,v,x,z⟩:=j.cells;have A:=j.fr 1;go_wp2_with fail;have O5:=H (j.setRef 0 ar);clear j s t u v x z A;refine (AD _ O5.rd.at).mono ?_;rintro e V6 ⟨⟨c6,a9,b0,rfl⟩,r⟩;have O6:=H (O5.next r);clear r O5;obtain⟨s,t,u,v,x,z⟩:=O6.cells;have A:=O6.fr 2;go_wp2;go_meet;case rel=>exact ⟨_,H (O6.setP _ (by first|omega|exact (P _).1|(simp;done)) (by first|omega|exact (P _).2|(simp;done)))⟩
   ·skip
    obtain⟨s,t,u,v,x,z⟩:=j.cells;have A:=j.fr 0;go_wp2;go_meet;case rel=>exact ⟨_,H (j.setKd 7)⟩
   ·skip
    obtain⟨s,t,u,v,x,z⟩:=j.cells;have A:=j.fr 1;go_wp2;go_meet;case rel=>exact ⟨_,H (j.setRef _ (by first|omega|exact sD _|(rw [Hh];omega)|(simp;done)))⟩
   ·go_wp2_with fail;refine (N _ j.rd.at).mono ?_;rintro e V7 ⟨⟨c7,b1,rfl⟩,r⟩;have O7:=H (j.next r);clear r j;obtain⟨s,t,u,v,x,z⟩:=O7.cells;have A:=O7.fr 3;go_wp2;go_meet;case rel=>exact ⟨_,H (O7.setA _ (by first|omega|exact (P _).1|(simp;done)) (by first|omega|exact (P _).2|(simp;done)))⟩
   ·have g1:((k:Int)==255)=false:=bG;have g2:((k:Int)==254)=false:=bG;have g3:((k:Int)==253)=false:=bG;have g4:((k:Int)==252)=false:=bG;have g5:((k:Int)==251)=false:=bG;go_wp2;go_meet;case rel=>exact ⟨_,j⟩
  case rest =>
   obtain⟨q3,B⟩:=hcut;clear j;go_wp2_with (first|(refine Gt rfl 42 _ rfl _ rfl _ _ _ _ B.x underlying42 rfl E ?_)|(refine Gf rfl 42 _ _ rfl _ _ rfl rfl 42 _ B.y E rfl (by simp [fH,Value.oneCell']) ?_));refine fM (aw B.y _) underlying42 ?_;have g:=aj wc Y (fH q3).toArray;have hy:=B.yn;have hr:=B.rn;have od:=B.od.kept g (eD B.od.d B.y ar);exact⟨q3,rfl,od,B.rd.app g (λr e=>by cases e;omega)⟩
end
end Go.Proofs.YtdngbppdomoenaaGreatDoor
