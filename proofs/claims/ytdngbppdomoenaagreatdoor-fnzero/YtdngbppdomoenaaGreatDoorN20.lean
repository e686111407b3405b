import Derived.Test.YtdngbppdomoenaaGreatDoorN11
import Derived.Test.YtdngbppdomoenaaGreatDoorN14
import Derived.Test.YtdngbppdomoenaaGreatDoorN17
set_option linter.unusedVariables false
set_option linter.unusedSimpArgs false
set_option maxRecDepth 20000
set_option maxHeartbeats 8000000
namespace Go.Proofs.YtdngbppdomoenaaGreatDoor
open Go.Proofs.Tryz
section
open Go.RowKit Go.Shelf Go.Maps
theorem Et (f:World) (a:Option Addr) (b c:Nat) (o:List Int) (e:IsRow .u8 f a b c o) (d:b<=1048576) (R gv tt W X Y k):B0 f a b c R gv tt W X Y k (λm=>m=0):=by
 intro m K Q q w u9 u10 u11 u12 u13 u14 u15 u16 u17 u18 u19 u20 u21 u22 u23 u24 u25 u26 u27 u28 u29 u32 u33 u34 u35 u36 u37 u38 u39 u40 u41 u42 u43 u44 u45 u46 u47 u48 u49 u50 u51 u52 u53 u54 u55 u56 u57 u58 u59 u60 u61 u62 u63 u64 u65 u66 u67 u68 u69 u70 u71 u72 u73 u74 u75 u76 u77 u78 u79 u80 u81 u82 u83 u84 u85 u86 u87 u88 u89 u90 u91 u92 u93 u94 u95 u96 u97 u98 u99 u100 u101 u102 u103 u104 u105 u106 u107 u108 u109 u110 u111 u112 u113 u114 u115 u116 u117 u118 u119 u120 u121 u122 u123 u124 u125 u126 u127 u128 u129 u130 u131 u132 u133 u134 u135 u136 u137 u138 u139 u140 u141 u142 u143 u144 u145 u146 u147 u148 y l i;have N:=H (λV (g:Rd f a b c R V V)=>ca f a b c o e d R V V g);have A:=H (λV (g:Rd f a b c R V V)=>cO f a b c o e d R V V g);have u:=H (λV (g:Rd f a b c R V V)=>bZ f a b c o e d R V V g);have B:=H (λn (j:n<=10000) V (g:Rd f a b c R V V)=>cW f a b c o e d R n j V V g);have F:=H cd;have v:=H u64_in;clear e;have x:=H i;clear i
 conv=>arg 2;whnf
 obtain rfl:=y;cases tt
 ·go_wp2_with fail;refine (u _ l.rd.at).mono ?_;rintro e s ⟨⟨t,n,p,rfl⟩,r⟩;have i:=H (l.next r);clear r l;go_wp2_with (refine eF i.x ?_;have j:=H (i.row 0 t 0 n p Z Z);generalize s.setRow X _=z at j ⊢;clear i);apply x.out;exact j
 ·go_wp2_with fail;refine (u _ l.rd.at).mono ?_;rintro e s ⟨⟨t,n,p,rfl⟩,r⟩;have i:=H (l.next r);clear r l;go_wp2_with (refine eF i.x ?_;have j:=H (i.row 0 t 0 n p Z Z);generalize s.setRow X _=z at j ⊢;clear i;obtain ⟨i,G,L,M,O,P⟩:=j.cells;have S:=j.fr 3);apply x.out;exact H (j.setA _ (by first|omega|exact (v _).1|(simp;done)) (by first|omega|exact (v _).2|(simp;done)))
theorem Ey (f:World) (a:Option Addr) (b c:Nat) (p:List Int) (e:IsRow .u8 f a b c p) (d:b<=1048576) (R gv tt W X Y k):B0 f a b c R gv tt W X Y k (λm=>m=4):=by
 intro m K Q q w u9 u10 u11 u12 u13 u14 u15 u16 u17 u18 u19 u20 u21 u22 u23 u24 u25 u26 u27 u28 u29 u32 u33 u34 u35 u36 u37 u38 u39 u40 u41 u42 u43 u44 u45 u46 u47 u48 u49 u50 u51 u52 u53 u54 u55 u56 u57 u58 u59 u60 u61 u62 u63 u64 u65 u66 u67 u68 u69 u70 u71 u72 u73 u74 u75 u76 u77 u78 u79 u80 u81 u82 u83 u84 u85 u86 u87 u88 u89 u90 u91 u92 u93 u94 u95 u96 u97 u98 u99 u100 u101 u102 u103 u104 u105 u106 u107 u108 u109 u110 u111 u112 u113 u114 u115 u116 u117 u118 u119 u120 u121 u122 u123 u124 u125 u126 u127 u128 u129 u130 u131 u132 u133 u134 u135 u136 u137 u138 u139 u140 u141 u142 u143 u144 u145 u146 u147 u148 G o i;have N:=H (λV (g:Rd f a b c R V V)=>ca f a b c p e d R V V g);have L:=H (λV (g:Rd f a b c R V V)=>cO f a b c p e d R V V g);have x:=H (λV (g:Rd f a b c R V V)=>bZ f a b c p e d R V V g);have T:=H (λn (j:n<=10000) V (g:Rd f a b c R V V)=>cW f a b c p e d R n j V V g);have US:=H cd;have y:=H u64_in;clear e;have z:=H i;clear i
 conv=>arg 2;whnf
 obtain rfl:=G;by_cases A:240<=k
 ·go_wp2_with fail;refine (x _ o.rd.at).mono ?_;rintro e M ⟨⟨s,l,n,rfl⟩,r⟩;have i:=H (o.next r);clear r o;go_wp2_with fail;refine (N _ i.rd.at).mono ?_;rintro e t ⟨⟨u,v,rfl⟩,r⟩;have j:=H (i.next r);clear r i;go_wp2_with (refine eF j.x ?_;have i:=H (j.row 1 s ((u:Int)%4) l n Z Z);generalize t.setRow X _=O at i ⊢;clear j);refine (L _ i.rd.at).mono ?_;rintro e P ⟨⟨S,B,F,rfl⟩,r⟩;have j:=H (i.next r);clear r i;obtain⟨z0,z1,z2,z3,z4,z5⟩:=j.cells;have zf:=j.fr 4;go_wp2;apply z.out;exact H (j.setB _ (by first|omega|exact (y _).1|(simp;done)) (by first|omega|exact (y _).2|(simp;done)))
 ·go_wp2_with fail;refine (x _ o.rd.at).mono ?_;rintro e F ⟨⟨t,n,s,rfl⟩,r⟩;have j:=H (o.next r);clear r o;go_wp2_with fail;refine (N _ j.rd.at).mono ?_;rintro e u ⟨⟨v,B,rfl⟩,r⟩;have l:=H (j.next r);clear r j;go_wp2_with (refine eF l.x ?_;have i:=H (l.row 1 t ((v:Int)%4) n s Z Z);generalize u.setRow X _=O at i ⊢;clear l);apply z.out;exact i
theorem Em (f:World) (a:Option Addr) (b c:Nat) (i:List Int) (j:IsRow .u8 f a b c i) (e:b<=1048576) (R gv tt W X Y k):B0 f a b c R gv tt W X Y k (λm=>m=7\/m=8\/m=9\/m=10\/m=11):=by
 intro m K Q q w u9 u10 u11 u12 u13 u14 u15 u16 u17 u18 u19 u20 u21 u22 u23 u24 u25 u26 u27 u28 u29 u32 u33 u34 u35 u36 u37 u38 u39 u40 u41 u42 u43 u44 u45 u46 u47 u48 u49 u50 u51 u52 u53 u54 u55 u56 u57 u58 u59 u60 u61 u62 u63 u64 u65 u66 u67 u68 u69 u70 u71 u72 u73 u74 u75 u76 u77 u78 u79 u80 u81 u82 u83 u84 u85 u86 u87 u88 u89 u90 u91 u92 u93 u94 u95 u96 u97 u98 u99 u100 u101 u102 u103 u104 u105 u106 u107 u108 u109 u110 u111 u112 u113 u114 u115 u116 u117 u118 u119 u120 u121 u122 u123 u124 u125 u126 u127 u128 u129 u130 u131 u132 u133 u134 u135 u136 u137 u138 u139 u140 u141 u142 u143 u144 u145 u146 u147 u148 u d l;have N:=H (λV (g:Rd f a b c R V V)=>ca f a b c i j e R V V g);have v:=H (λV (g:Rd f a b c R V V)=>cO f a b c i j e R V V g);have x:=H (λV (g:Rd f a b c R V V)=>bZ f a b c i j e R V V g);have y:=H (λn (m:n<=10000) V (g:Rd f a b c R V V)=>cW f a b c i j e R n m V V g);have z:=H cd;have A:=H u64_in;clear j;have j:=H l;clear l
 conv=>arg 2;whnf
 rcases u with rfl|rfl|rfl|rfl|rfl
 ·skip
  obtain⟨l,n,o,p,r,s⟩:=d.cells;have t:=d.fr 0;go_wp2;apply j.out;exact H (d.setKd 3)
 ·skip
  obtain⟨l,n,o,p,r,s⟩:=d.cells;have t:=d.fr 0;go_wp2;apply j.out;exact H (d.setKd 3)
 ·skip
  obtain⟨l,n,o,p,r,s⟩:=d.cells;have t:=d.fr 0;go_wp2;apply j.out;exact H (d.setKd 3)
 ·skip
  obtain⟨l,n,o,p,r,s⟩:=d.cells;have t:=d.fr 0;go_wp2;apply j.out;exact H (d.setKd 3)
 ·skip
  obtain⟨l,n,o,p,r,s⟩:=d.cells;have t:=d.fr 0;go_wp2;apply j.out;exact H (d.setKd 4)
theorem sx (z:Int) : -9223372036854775808<=wrap64 z:=by unfold wrap64;omega
theorem AQ (i:World) (a:Option Addr) (c d:Nat) (l:List Int) (b:IsRow .u8 i a c d l) (f:c<=1048576) (R) (j:Nat) (g8:j<=400) (o:Bool) (W) (k:Rd i a c d R W W) :
  Calls prog 29 #[.pointer (some ⟨R,0,none⟩),.int .i64 j,.bool o] W λe O=>∃ q:dh,e=.returned (.agg (ee q).toArray)/\Od6 W.heap.size q O/\Rd i a c d R W O:=by
 have N:=H (λV (p:Rd i a c d R V V)=>ca i a c d l b f R V V p);have WD:=H (λV (p:Rd i a c d R V V)=>cO i a c d l b f R V V p);have RQ:=H (λV (p:Rd i a c d R V V)=>bZ i a c d l b f R V V p);have AD:=H (λV (p:Rd i a c d R V V)=>pV i a c d l b f R V V p);have BY:=H (λn (g:n<=10000) V (p:Rd i a c d R V V)=>cW i a c d l b f R n g V V p);have US:=H cd;have G:=H u64_in;have P:=H k.lt;have g:=H (k.below ((Fc _ _).alloc (Fe _) (.cells #[.int .i64 0,.int .i64 0,.int .u64 0,.int .u64 0,.int .u64 0,.slice none 0 0] 42)));have m:=H (ao W (.cells #[.int .i64 0,.int .i64 0,.int .u64 0,.int .u64 0,.int .u64 0,.slice none 0 0] 42));have n:=H b;clear b k;go_enter func29,ntmps29;go_wp2_with fail;generalize W.alloc (.cells #[.int .i64 0,.int .i64 0,.int .u64 0,.int .u64 0,.int .u64 0,.slice none 0 0] 42)=V1 at g m ⊢;refine (N _ g.at).mono ?_;rintro e F ⟨⟨k,hk,rfl⟩,b⟩;have r:=H (g.of b);have s:=H ((b.g.block _ (ai m) (λe=>by cases e;have:=P.out;omega)).trans m);clear b g m;have B:=H (show Ob6 i a c d R W F.heap.size W.heap.size ⟨⟨0,0,0,0,0,[]⟩,none,0⟩ (F.alloc (.cells #[.int .i64 0,.int .i64 0,.int .u64 0,.int .u64 0,.int .u64 0,.slice none 0 0] 42)) from by
  have b:=(Fc F.heap.size F).alloc (Fe _) (.cells #[.int .i64 0,.int .i64 0,.int .u64 0,.int .u64 0,.int .u64 0,.slice none 0 0] 42);have g:=ai s.out;exact⟨r.below b,P,ao F _,r.g.size,by rw [b.block _ g];exact s,Fe _,Z,⟨av,av,av,⟨rfl,.inl ⟨rfl,rfl⟩⟩,av,λy S=>by cases S⟩⟩)
 clear r s;go_upto_if 13 with fail
 generalize (F.alloc (.cells #[.int .i64 0,.int .i64 0,.int .u64 0,.int .u64 0,.int .u64 0,.slice none 0 0] 42))=V3 at B ⊢;generalize F.heap.size=X at B ⊢;generalize g9:W.heap.size=Y at B ⊢;go_cut [13] (λ_ M=>∃ q,Hid (Ob6 i a c d R W X Y q M));case first =>
  by_cases Q:0<j
  ·have m:((j:Int)==0)=false:=bK;go_wp2_with fail;refine (N _ B.rd.at).mono ?_;rintro e V3 ⟨⟨w,A,rfl⟩,r⟩;have L:=H (B.next r);clear r B;have b:=H (L.setRef (wrap64 ((j:Int)-(w:Int)%(j:Int))) (sx _));obtain⟨s,t,u,v,x,y⟩:=L.cells;have z:=L.fr 1;cases T:((k:Int)%3==0)
   ·go_wp2;go_meet;case rel=>exact ⟨_,b⟩
   ·go_wp2_with fail;clear s t u v x y z;refine (N _ b.rd.at).mono ?_;rintro e V4 ⟨⟨c4,K,rfl⟩,r⟩;have g:=H (b.next r);clear r b;obtain⟨s,t,u,v,x,y⟩:=g.cells;have z:=g.fr 1;go_wp2;go_meet;case rel=>exact ⟨_,H (g.setRef _ (by first|omega|exact sx _|(rw [GT];omega)|(simp;done)))⟩
  ·go_wp2;go_meet;case rel=>exact ⟨_,B⟩
 case rest =>
  obtain⟨q,L⟩:=hcut;clear B;go_upto_block 0 with fail
  generalize g:(k:Int)%16=m;have A:B0 i a c d R j o W X Y k (λm=>0<=m/\m<16):=λm K Q q w=>by
   intro u9 u10 u11 u12 u13 u14 u15 u16 u17 u18 u19 u20 u21 u22 u23 u24 u25 u26 u27 u28 u29 u32 u33 u34 u35 u36 u37 u38 u39 u40 u41 u42 u43 u44 u45 u46 u47 u48 u49 u50 u51 u52 u53 u54 u55 u56 u57 u58 u59 u60 u61 u62 u63 u64 u65 u66 u67 u68 u69 u70 u71 u72 u73 u74 u75 u76 u77 u78 u79 u80 u81 u82 u83 u84 u85 u86 u87 u88 u89 u90 u91 u92 u93 u94 u95 u96 u97 u98 u99 u100 u101 u102 u103 u104 u105 u106 u107 u108 u109 u110 u111 u112 u113 u114 u115 u116 u117 u118 u119 u120 u121 u122 u123 u124 u125 u126 u127 u128 u129 u130 u131 u132 u133 u134 u135 u136 u137 u138 u139 u140 u141 u142 u143 u144 u145 u146 u147 u148 T;have b:(m=0)\/(m=1)\/(m=2)\/(m=3)\/(m=4)\/(m=5\/m=6)\/(m=7\/m=8\/m=9\/m=10\/m=11)\/(m=12)\/(m=13)\/(m=14)\/(m=15):=Z;rcases b with b|b|b|b|b|b|b|b|b|b|b;·exact Et i a c d l n f R j o W X Y k m K Q q w _ _ _ _ _ _ _ _ _ _ _ _ _ _ _ _ _ _ _ _ _ _ _ _ _ _ _ _ _ _ _ _ _ _ _ _ _ _ _ _ _ _ _ _ _ _ _ _ _ _ _ _ _ _ _ _ _ _ _ _ _ _ _ _ _ _ _ _ _ _ _ _ _ _ _ _ _ _ _ _ _ _ _ _ _ _ _ _ _ _ _ _ _ _ _ _ _ _ _ _ _ _ _ _ _ _ _ _ _ _ _ _ _ _ _ _ _ _ _ _ _ _ _ _ _ _ _ _ _ _ _ _ _ _ _ _ _ _ b
   ·exact Eo i a c d l n f R j o W X Y k m K Q q w _ _ _ _ _ _ _ _ _ _ _ _ _ _ _ _ _ _ _ _ _ _ _ _ _ _ _ _ _ _ _ _ _ _ _ _ _ _ _ _ _ _ _ _ _ _ _ _ _ _ _ _ _ _ _ _ _ _ _ _ _ _ _ _ _ _ _ _ _ _ _ _ _ _ _ _ _ _ _ _ _ _ _ _ _ _ _ _ _ _ _ _ _ _ _ _ _ _ _ _ _ _ _ _ _ _ _ _ _ _ _ _ _ _ _ _ _ _ _ _ _ _ _ _ _ _ _ _ _ _ _ _ _ _ _ _ _ _ b
   ·exact ED i a c d l n f R j o W X Y k m K Q q w _ _ _ _ _ _ _ _ _ _ _ _ _ _ _ _ _ _ _ _ _ _ _ _ _ _ _ _ _ _ _ _ _ _ _ _ _ _ _ _ _ _ _ _ _ _ _ _ _ _ _ _ _ _ _ _ _ _ _ _ _ _ _ _ _ _ _ _ _ _ _ _ _ _ _ _ _ _ _ _ _ _ _ _ _ _ _ _ _ _ _ _ _ _ _ _ _ _ _ _ _ _ _ _ _ _ _ _ _ _ _ _ _ _ _ _ _ _ _ _ _ _ _ _ _ _ _ _ _ _ _ _ _ _ _ _ _ _ b
   ·exact El i a c d l n f R j o W X Y k m K Q q w _ _ _ _ _ _ _ _ _ _ _ _ _ _ _ _ _ _ _ _ _ _ _ _ _ _ _ _ _ _ _ _ _ _ _ _ _ _ _ _ _ _ _ _ _ _ _ _ _ _ _ _ _ _ _ _ _ _ _ _ _ _ _ _ _ _ _ _ _ _ _ _ _ _ _ _ _ _ _ _ _ _ _ _ _ _ _ _ _ _ _ _ _ _ _ _ _ _ _ _ _ _ _ _ _ _ _ _ _ _ _ _ _ _ _ _ _ _ _ _ _ _ _ _ _ _ _ _ _ _ _ _ _ _ _ _ _ _ b
   ·exact Ey i a c d l n f R j o W X Y k m K Q q w _ _ _ _ _ _ _ _ _ _ _ _ _ _ _ _ _ _ _ _ _ _ _ _ _ _ _ _ _ _ _ _ _ _ _ _ _ _ _ _ _ _ _ _ _ _ _ _ _ _ _ _ _ _ _ _ _ _ _ _ _ _ _ _ _ _ _ _ _ _ _ _ _ _ _ _ _ _ _ _ _ _ _ _ _ _ _ _ _ _ _ _ _ _ _ _ _ _ _ _ _ _ _ _ _ _ _ _ _ _ _ _ _ _ _ _ _ _ _ _ _ _ _ _ _ _ _ _ _ _ _ _ _ _ _ _ _ _ b
   ·exact Ex i a c d l n f R j o W X Y k m K Q q w _ _ _ _ _ _ _ _ _ _ _ _ _ _ _ _ _ _ _ _ _ _ _ _ _ _ _ _ _ _ _ _ _ _ _ _ _ _ _ _ _ _ _ _ _ _ _ _ _ _ _ _ _ _ _ _ _ _ _ _ _ _ _ _ _ _ _ _ _ _ _ _ _ _ _ _ _ _ _ _ _ _ _ _ _ _ _ _ _ _ _ _ _ _ _ _ _ _ _ _ _ _ _ _ _ _ _ _ _ _ _ _ _ _ _ _ _ _ _ _ _ _ _ _ _ _ _ _ _ _ _ _ _ _ _ _ _ _ b
   ·exact Em i a c d l n f R j o W X Y k m K Q q w _ _ _ _ _ _ _ _ _ _ _ _ _ _ _ _ _ _ _ _ _ _ _ _ _ _ _ _ _ _ _ _ _ _ _ _ _ _ _ _ _ _ _ _ _ _ _ _ _ _ _ _ _ _ _ _ _ _ _ _ _ _ _ _ _ _ _ _ _ _ _ _ _ _ _ _ _ _ _ _ _ _ _ _ _ _ _ _ _ _ _ _ _ _ _ _ _ _ _ _ _ _ _ _ _ _ _ _ _ _ _ _ _ _ _ _ _ _ _ _ _ _ _ _ _ _ _ _ _ _ _ _ _ _ _ _ _ _ b
   ·exact Ew i a c d l n f R j o W X Y k m K Q q w _ _ _ _ _ _ _ _ _ _ _ _ _ _ _ _ _ _ _ _ _ _ _ _ _ _ _ _ _ _ _ _ _ _ _ _ _ _ _ _ _ _ _ _ _ _ _ _ _ _ _ _ _ _ _ _ _ _ _ _ _ _ _ _ _ _ _ _ _ _ _ _ _ _ _ _ _ _ _ _ _ _ _ _ _ _ _ _ _ _ _ _ _ _ _ _ _ _ _ _ _ _ _ _ _ _ _ _ _ _ _ _ _ _ _ _ _ _ _ _ _ _ _ _ _ _ _ _ _ _ _ _ _ _ _ _ _ _ b
   ·exact EH i a c d l n f R j o W X Y k m K Q q w _ _ _ _ _ _ _ _ _ _ _ _ _ _ _ _ _ _ _ _ _ _ _ _ _ _ _ _ _ _ _ _ _ _ _ _ _ _ _ _ _ _ _ _ _ _ _ _ _ _ _ _ _ _ _ _ _ _ _ _ _ _ _ _ _ _ _ _ _ _ _ _ _ _ _ _ _ _ _ _ _ _ _ _ _ _ _ _ _ _ _ _ _ _ _ _ _ _ _ _ _ _ _ _ _ _ _ _ _ _ _ _ _ _ _ _ _ _ _ _ _ _ _ _ _ _ _ _ _ _ _ _ _ _ _ _ _ _ b
   ·exact EG i a c d l n f R j o W X Y k m K Q q w _ _ _ _ _ _ _ _ _ _ _ _ _ _ _ _ _ _ _ _ _ _ _ _ _ _ _ _ _ _ _ _ _ _ _ _ _ _ _ _ _ _ _ _ _ _ _ _ _ _ _ _ _ _ _ _ _ _ _ _ _ _ _ _ _ _ _ _ _ _ _ _ _ _ _ _ _ _ _ _ _ _ _ _ _ _ _ _ _ _ _ _ _ _ _ _ _ _ _ _ _ _ _ _ _ _ _ _ _ _ _ _ _ _ _ _ _ _ _ _ _ _ _ _ _ _ _ _ _ _ _ _ _ _ _ _ _ _ b
   ·exact DC i a c d l n f R j o W X Y k m K Q q w _ _ _ _ _ _ _ _ _ _ _ _ _ _ _ _ _ _ _ _ _ _ _ _ _ _ _ _ _ _ _ _ _ _ _ _ _ _ _ _ _ _ _ _ _ _ _ _ _ _ _ _ _ _ _ _ _ _ _ _ _ _ _ _ _ _ _ _ _ _ _ _ _ _ _ _ _ _ _ _ _ _ _ _ _ _ _ _ _ _ _ _ _ _ _ _ _ _ _ _ _ _ _ _ _ _ _ _ _ _ _ _ _ _ _ _ _ _ _ _ _ _ _ _ _ _ _ _ _ _ _ _ _ _ _ _ _ _ b
  have H0:(0:Int)<=m/\m<16:=Z;clear g;refine A m _ _ q _ _ _ _ _ _ _ _ _ _ _ _ _ _ _ _ _ _ _ _ _ _ _ _ _ _ _ _ _ _ _ _ _ _ _ _ _ _ _ _ _ _ _ _ _ _ _ _ _ _ _ _ _ _ _ _ _ _ _ _ _ _ _ _ _ _ _ _ _ _ _ _ _ _ _ _ _ _ _ _ _ _ _ _ _ _ _ _ _ _ _ _ _ _ _ _ _ _ _ _ _ _ _ _ _ _ _ _ _ _ _ _ _ _ _ _ _ _ _ _ _ _ _ _ _ _ _ _ _ _ _ _ _ _ _ _ _ _ _ H0 L ?_;clear A;intro v9 h1 h2 h4 h5 h6 h7 h8 h9 i0 i1 i2 i3 i4 i5 i6 i7 i8 i9 j0 j1 j2 j3 j4 j5 j6 j7 j8 j9 k0 k1 k2 k3 k4 k5 k6 k7 k8 k9 l1 l2 l3 l4 l5 l6 l7 l8 l9 m0 m1 m2 m3 m4 m5 m6 m7 m8 m9 n0 n1 n2 n3 n4 n5 n6 n7 n8 n9 o0 o1 o2 o3 o4 o5 o6 o7 o8 o9 p0 p1 p2 p3 p4 p5 p6 p7 p8 p9 q0 a0 a1 a2 a3 a4 a5 a6 a7 a8 a9 b0 b1 b2 b3 b4 b5 b6 b7 b8 b9 c0 c1 c2 c5 c8 c9 d0 d1 d2 d3 d4 d5 d6 d7 d8 d9 e0 e1 e2 e3 e4 e5 e6 e7 e8 e9 g0 g6 g7 q2 w2 b;clear L;go_upto_block 1 with fail
  go_cut [116] (λ_ M=>∃ q,Hid (Ob6 i a c d R W X Y q M));case first =>
   have T:k=255\/k=254\/k=253\/k=252\/k=251\/k<251:=Z;rcases T with rfl|rfl|rfl|rfl|rfl|q1
   ·skip
    obtain⟨s,t,u,v,x,y⟩:=b.cells;have z:=b.fr 2;go_wp2_with fail
    go_region_with (first|(go_at_call 28;refine (N _ b.drew.rd.at).mono ?_;rintro e Vq ⟨⟨cq,A,rfl⟩,r⟩;have g:=H (b.drew.next r);obtain ⟨y0,y1,y2,y3,y4,y5⟩:=g.cells;have yf:=g.fr 2;clear r))
    all_goals (go_wp2;go_meet;case rel=>exact ⟨_,H (g.setP _ (by first|omega|exact (G _).1|(simp;done)) (by first|omega|exact (G _).2|(simp;done)))⟩)
   ·skip
    obtain⟨s,t,u,v,x,y⟩:=b.cells;have z:=b.fr 1;go_wp2_with fail;have g:=H (b.setRef 0 av);clear b s t u v x y z;refine (AD _ g.rd.at).mono ?_;rintro e V6 ⟨⟨c6,q4,q5,rfl⟩,r⟩;have A:=H (g.next r);clear r g;obtain⟨s,t,u,v,x,y⟩:=A.cells;have z:=A.fr 2;go_wp2;go_meet;case rel=>exact ⟨_,H (A.setP _ (by first|omega|exact (G _).1|(simp;done)) (by first|omega|exact (G _).2|(simp;done)))⟩
   ·skip
    obtain⟨s,t,u,v,x,y⟩:=b.cells;have z:=b.fr 0;go_wp2;go_meet;case rel=>exact ⟨_,H (b.setKd 7)⟩
   ·skip
    obtain⟨s,t,u,v,x,y⟩:=b.cells;have z:=b.fr 1;go_wp2;go_meet;case rel=>exact ⟨_,H (b.setRef _ (by first|omega|exact sx _|(rw [GT];omega)|(simp;done)))⟩
   ·go_wp2_with fail;refine (N _ b.rd.at).mono ?_;rintro e V7 ⟨⟨c7,A,rfl⟩,r⟩;have g:=H (b.next r);clear r b;obtain⟨s,t,u,v,x,y⟩:=g.cells;have z:=g.fr 3;go_wp2;go_meet;case rel=>exact ⟨_,H (g.setA _ (by first|omega|exact (G _).1|(simp;done)) (by first|omega|exact (G _).2|(simp;done)))⟩
   ·have g:((k:Int)==255)=false:=bK;have A:((k:Int)==254)=false:=bK;have g3:((k:Int)==253)=false:=bK;have g4:((k:Int)==252)=false:=bK;have g5:((k:Int)==251)=false:=bK;go_wp2;go_meet;case rel=>exact ⟨_,b⟩
  case rest =>
   obtain⟨q3,A⟩:=hcut;clear b;go_wp2_with (first|(refine F8 rfl 42 _ rfl _ rfl _ _ _ _ A.x underlying42 rfl E ?_)|(refine FK rfl 42 _ _ rfl _ _ rfl rfl 42 _ A.y E rfl (by simp [ee,Value.oneCell']) ?_));refine fp (aw A.y _) underlying42 ?_;have g:=al wc Y (ee q3).toArray;have S:=A.yn;have hr:=A.rn;have od:=A.od.kept g (dZ A.od.d A.y av);exact⟨q3,rfl,od,A.rd.app g (λr e=>by cases e;omega)⟩
end
end Go.Proofs.YtdngbppdomoenaaGreatDoor
