import Derived.Test.YtdngbppdomoenaaGreatDoorZ00
import Derived.Test.YtdngbppdomoenaaGreatDoorN45
set_option linter.unusedVariables false
set_option linter.unusedSimpArgs false
set_option maxRecDepth 20000
set_option maxHeartbeats 8000000
namespace Go.Proofs.YtdngbppdomoenaaGreatDoor
open Go.Proofs.Tryz
variable {Uq9 W w:World} {B e k n x:Nat} {cf:Cf} {h:Hs} {m0 m1 m2 m3 m4 m5 m6 m7 v:Value} {L:List Nat}
section
open Go.RowKit Go.Shelf Go.Maps
theorem y8 {k} {u:Value} {zs} (h:w.ownsRow B e 1 u n (Ns k zs)):Rd1 k w u zs:=by
 have b:zs.length=n:=by have:=h.1;rw [bv] at this;omega
 rcases h.2 with ⟨rfl,d⟩|⟨g,a,f,rfl,_⟩;·exact⟨none,0,by rw [b,d],λi c=>Z⟩
 refine⟨some ⟨g,0,none⟩,a,by rw [b],λi c=>⟨g,rfl,bC h i _ ?_⟩⟩;simp [Ns,c]
theorem wX {u:Value} {l} (h:w.ownsRow B e 1 u n (Us l)):Rd1 .u64 w u (l.map (λx:Nat=>(x:Int))):=by
 refine y8 (B:=B) (e:=e) (n:=n) ?_;have a:Ns .u64 (l.map (λx:Nat=>(x:Int)))=Us l:=by simp [Ns,Us]
 rw [a];exact h
theorem tJ {k g zs} (h:RowV w g e (Ns k zs)) (c):Rd1 k w (Vl g zs.length c) zs:=⟨_,_,rfl,λi a=>⟨g,rfl,jZ h i a⟩⟩
theorem pq {α:Type} (f:α->List Value) (sz:Nat) (a:∀ x,(f x).length=sz):∀ (l:List α) (k:Nat) (x:α),l[k]?=some x->((l.flatMap f).drop (k*sz)).take sz=f x
 | [],k,x,h=>by simp at h
 | y::r,0,x,h=>by
  simp at h
  subst h
  rw [If,Nat.zero_mul,IE,<-a y,List.take_left]
 | y::r,k+1,x,h=>by
  rw [If,show (k+1)*sz=(f y).length+k*sz by rw [a,Gy];omega,List.drop_append]
  simp only [Nat.add_sub_cancel_left,List.drop_eq_nil_of_le (Nat.le_add_right (f y).length (k*sz)),FV]
  exact pq f sz a r k x (by simpa using h)
theorem Cp {V vo} {a:List (Nat×Nat)} {vw} (c:a.length=12) (w:Wt9 cf h B vo a vw V) :
  ∃ b,Re V vw 12 3 b/\∀ k,k<12->∃ u1 u2,b k=[u1,u2,I cf.fifo]/\Rd1 .i64 V u1 (h.mx k)/\Rd1 .i64 V u2 (h.ff k):=by
 have b:=w.row;rw [c] at b;refine⟨_,tu b,λk f=>?_⟩;have e:a[k]?=some a[k]:=Fy Z;have d:a.zipIdx[k]?=some (a[k],k):=by rw [List.getElem?_zipIdx,e];simp
 exact⟨_,_,pq (λx:(Nat×Nat)×Nat=>E_ cf h x.2 x.1) 3 (λ_=>rfl) a.zipIdx k _ d,tJ (w.at_ k _ e).1 _,tJ (w.at_ k _ e).2.1 _⟩
theorem sP {α:Type} (f:α->Nat):∀ (c l2:List α),c.Perm l2->c.Pairwise (λa b=>f a<=f b)->l2.Pairwise (λa b=>f a<=f b)->(∀ a∈c,∀ b∈c,f a=f b->a=b)->c=l2
 | [],l2,h,_,_,_=>by rw [List.nil_perm] at h;exact h.symm
 | a::r,[],h,_,_,_=>by have:=h.length_eq;simp at this
 | a::r,b::s,h,j,k,d=>by
  have c:b∈a::r:=h.symm.subset (List.mem_cons_self ..)
  have ha:a∈b::s:=h.subset (List.mem_cons_self ..)
  have g:=List.pairwise_cons.1 j
  have i:=List.pairwise_cons.1 k
  have l:f a<=f b:=by
   rcases F4.1 c with rfl|c
   ·exact Fv _
   exact g.1 b c
  have m:f b<=f a:=by
   rcases F4.1 ha with rfl|ha
   ·exact Fv _
   exact i.1 a ha
  have e:a=b:=d a (List.mem_cons_self ..) b c (Nat.le_antisymm l m);subst e;rw [sP f r s (List.Perm.cons_inv h) g.2 i.2 (λx b y c=>d x (Ij _ b) y (Ij _ c))]
theorem wj {α:Type} (f:α->Nat):∀ (l:List α),(l.map f).Nodup->∀ a∈l,∀ b∈l,f a=f b->a=b
 | [],_,a,ha,_,_,_=>by cases ha
 | x::r,g,a,ha,b,i,e=>by
  rw [It,GI] at g
  rcases F4.1 ha with d|d
  ·rcases F4.1 i with c|c
   ·rw [d,c]
   exact absurd (FQ.2 ⟨b,c,by rw [<-e,d]⟩) g.1
  rcases F4.1 i with c|c
  ·exact absurd (FQ.2 ⟨a,d,by rw [e,c]⟩) g.1
  exact wj f r g.2 a d b c e
theorem Dp (i:Inv cf h) {rs c:List Rg9} (p:rs.Perm h.rg) (s:rs.Pairwise (λa b=>a.base<=b.base)) (d:c.Perm h.rg) (f:c.Pairwise (λa b=>a.base<=b.base)):rs=c :=
 sP Rg9.base rs c (p.trans d.symm) s f (λa ha b c e=>wj Rg9.base h.rg (xA i) a (p.subset ha) b (p.subset c) e)
theorem F9 {l d c:List Nat} (p:d.Perm l) (s:d.Pairwise (λa b=>a<=b)) (f:c.Perm l) (g:c.Pairwise (λa b=>a<=b)):d=c :=
 sP id d c (p.trans f.symm) s g (λa _ b _ e=>e)
def Mt (cf:Cf) (h:Hs) (W:World) (m0 m1 m2 m3 m4 m5 m6 m7:Value):Prop:=∃ (rs:List Rg9) (e:List Nat) (Cq:Nat->List Value),m0=I (bz h.m 283:Nat)/\m7=I h.used/\(rs.Perm h.rg/\rs.Pairwise (λa b=>a.base<=b.base))/\(e.Perm h.rel/\e.Pairwise (λa b=>a<=b))/\Rd1 .i64 W m1 (bw h.m 283)/\Re W m2 (I1 h 12).length 5 (λk=>((fP h (I1 h 12)).drop (k*5)).take 5)/\Re W m3 12 3 Cq/\(∀ k,k<12->∃ u1 u2,Cq k=[u1,u2,I cf.fifo]/\Rd1 .i64 W u1 (h.mx k)/\Rd1 .i64 W u2 (h.ff k))/\Re W m4 rs.length 5 (λk=>((dH rs).drop (k*5)).take 5)/\Rd1 .u64 W m5 (h.row.map (λx:Nat=>(x:Int)))/\Rd1 .u64 W m6 (e.map (λx:Nat=>(x:Int)))
theorem Mt.low {W'} (t:Mt cf h W m0 m1 m2 m3 m4 m5 m6 m7) (b:D W W'):Mt cf h W' m0 m1 m2 m3 m4 m5 m6 m7:=by
 obtain⟨rs,a,Cq,c,d,f,g,o,s,q,i,r,l,e⟩:=t;exact⟨rs,a,Cq,c,d,f,g,o.below b,s.below b,q.below b,λk j=>by obtain ⟨u1,u2,m,n,p⟩:=i k j;exact⟨u1,u2,m,n.below b,p.below b⟩,r.below b,l.below b,e.below b⟩
theorem vL {n0 n1 n2 n3 n4 n5 n6 n7} (t:Mt cf h W m0 m1 m2 m3 m4 m5 m6 m7) (w:Mt cf h W n0 n1 n2 n3 n4 n5 n6 n7) (a:Inv cf h) (b:Few k h) (g:k<=302) (p:mE cf) :
  Calls prog 17 #[.agg #[m0,m1,m2,m3,m4,m5,m6,m7],.agg #[n0,n1,n2,n3,n4,n5,n6,n7]] W λe x=>e=.returned (.bool true)/\D W x:=by
 obtain⟨rs,N,Cq,rfl,rfl,i,j,o,s,q,y,r,l,e⟩:=t;obtain⟨z,A,m,rfl,rfl,d,f,B,F,G,n,K,L,M⟩:=w;obtain rfl:=Dp a i.1 i.2 d.1 d.2;obtain rfl:=F9 j.1 j.2 f.1 f.2;have hI:=Cr h 12 (Fv _);have u:=b.row;have O:=mZ h.m 283;have f1:=b.rg;have f2:=b.rel;have P:=i.1.length_eq;have Q:=j.1.length_eq;refine uE W _ _ (cf.fifo:Nat) _ _ _ _ _ _ _ Cq m h.mx h.ff _ _ _ _ _ _ _ _ _ _ _ _ o B l L e M s F (λk g=>?_) r K (λk g=>?_) q G y n Z (by rw [Gz];omega) (by rw [Gz];omega) Z Z (λc v=>?_);·exact⟨_,_,_,_,_,pq (yx h) 5 (λ_=>rfl) (I1 h 12) k _ (Fy g)⟩
 ·exact⟨_,_,_,_,_,pq tC 5 (λ_=>rfl) rs k _ (Fy g)⟩
 have R:=a.mxl c v;have S:=a.ffl c v;have T:=p.mix;have V:=p.fifo;omega
def C5:Prop:=∀ (cf:Cf) (da:Option Addr) (dc:Nat) (A:Option Addr) (cap:Nat) (i:List df) (w:World),mE cf->1<=cf.large->Tb w->Sl w da cf.ds->(∀ a,da=some a->a.block<w.heap.size)->0<w.heap.size->Ois w A i->(∀ q∈i,q.o.ys.length<=q.dc /\ -9223372036854775808<=q.o.ref/\∀ y∈q.o.ys,0<=y/\y<=255)->i.length<=300 ->
 Calls prog 11 #[gZ cf da dc,.slice A i.length cap] w λe W'=>∃ (l:List Aw) (j m0 m1 m2 m3 m4 m5 m6 m7:Value),e=.returned (.agg #[.bool true,j,m0,m1,m2,m3,m4,m5,m6,m7])/\(∀ v∈[j,m0,m1,m2,m3,m4,m5,m6,m7],v.oneCell'=true)/\l.map (·.1)=(bd cf (i.map df.o) (aP cf) []).2/\W'.ownsRow w.heap.size 44 4 j l.length (fZ l)/\(∀ z∈l,W'.ownsRow w.heap.size 5 1 z.2 z.1.data.length (Ns .u8 z.1.data))/\D w W'/\Mt cf (bd cf (i.map df.o) (aP cf) []).1 W' m0 m1 m2 m3 m4 m5 m6 m7
structure Fwq9 (Uq9:World) (L:List Nat) (v:Value) (W:World):Prop where
 bel:D Uq9 W
 row:W.ownsRow Uq9.heap.size 23 1 v L.length (Us L)
theorem Fwq9.low {W'} (h:Fwq9 Uq9 L v W) (b:D W W'):Fwq9 Uq9 L v W':=⟨az h.bel b,ax h.row b⟩
theorem Fwq9.form (h:Fwq9 Uq9 L v W):∃ a c,v=.slice a L.length c:=by
 obtain⟨a,b,c,rfl⟩:=fW h.row;obtain rfl:=ik h.row;exact⟨a,c,rfl⟩
theorem Fwq9.at {a:Option Addr} {c:Nat} (h:Fwq9 Uq9 L (.slice a n c) W) (b:L[k]?=some x):∃ g,a=some ⟨g,0,none⟩/\W.cell? ⟨g,k,none⟩=some (U x):=by
 obtain⟨l,m,e,r⟩:=wX h.row;injection e with d o p;subst d;have f:=(Fz.1 b).1;obtain⟨g,i,j⟩:=r k (by rw [Gz];exact f);refine⟨g,i,?_⟩;rw [j,Gv,b];rfl
theorem Fwq9.app (h:Fwq9 Uq9 L v W) (n:L.length<=400) (p:Nat) :
  ∃ (a:Option Addr) (c:Nat) (b:World),(Builtin.append_ #[34,34] 34 #[v,Vl W.heap.size 1 1]).run prog (W.alloc (.cells #[U p] 23))=.ok (.slice a (L.length+1) c) b/\Fwq9 Uq9 (L++[p]) (.slice a (L.length+1) c) b/\Ky (· = 23) W b:=by
 have g:=(Fu W.heap.size W).alloc (Fv _) (.cells #[U p] 23);have d:=h.low g;obtain⟨k,b,i,l,j,_⟩:=nK (W.alloc (.cells #[U p] 23)) Uq9.heap.size v L p W.heap.size 1 d.row (by rw [GT _ _ _ _ _ _ (ao W _)];rfl) Z d.bel.size;have m:Ky (· = 23) _ b:=Ky.grownO (λP e=>by obtain ⟨_,c,f⟩:=aF d.row e;exact⟨c,23,_,f,rfl⟩) j;have e:=d.bel.grown j d.bel.size (λr f=>(aF d.row f).1);have f:Fwq9 Uq9 (L++[p]) k b:=⟨e,l⟩;obtain⟨a,c,rfl⟩:=f.form;rw [FC] at i f;exact⟨a,c,b,i,f,(Ky.below g).trans m⟩
def kI (y:Nat) (L:List Nat):List Nat:=L.filter λx=>decide (x≠y)
theorem Bh {y} (a:L[k]?=some x):kI y (L.take (k+1))=if x≠y then kI y (L.take k)++[x] else kI y (L.take k):=by
 unfold kI;rw [F_,a,Hl];by_cases e:x=y;·simp [e]
 simp [e]
theorem EJ (Uq9 w) (L:List Nat) (y N:Nat) (A:L.length=N) (z:N<=300) (t:Option Addr) (u a:Nat) (B:Fwq9 Uq9 L (.slice t N u) w) (F:w.cell? ⟨a,1,none⟩=some (U y)) (K:Act->World->Prop) (Q:Exit->Act->World->Prop) (u0 u1 u2 u3 u4 u5 u6 u7 u8 u9 u11 u13 u14 u15 u16 u17 u18 u19 u20 u21 u22 u23 u24 u25 u26 u27 u28 u29 u30 u31 u32 u33 u34 u35 u36 u37 u38 u39 u40 u41 u42 u43 u44 u45 u46 u47 u48 u49 u50 u51 u52 u53 u54 u55 u56 u57 u58 u59 u60 u61 u62 u63 u64 u65 u66 u67 u68 u69 u70 u71 u72 u73 u74 u75 u76 u77 u78 u79 u80 u81 u82 u83 u84 u85 u86 u87 u88 u89 u90 u91 u92 u93 u94 u95 u96 u97 u98 u99 u100 u101 u102 u103 u104 u105 u106 u107 u108 u109 u110 u111 u115 u116 u117 u118 u119 u120 u121 u122 u123 u124 u125 u126 u127 u128 u129 u130 u131 u132 u133 u134 u135 u136 u137 u138 u139 u140 u141 u142 u143 u144 u145 u146 u147 u148 u149 u150 u151 u152 u153 u154 u155 u156 u157 u158 u159 u160 u161 u162 u163 u164 u165 u166 u167 u168 u169 u170 u171 u172 u173 u174 u175 u176 u177 u178 u179 u180 u181 u182 u183 u184 u185 u186 u187 u188 u189 u190 u191 u192 u193:Value) (b:∀ (c z d f g i j l m n o p q r s:Value) (G:World),Hid (Fwq9 w (kI y L) c G)->K ⟨#[u0,u1,u2,u3,u4,u5,u6,u7,u8,u9,J a 0,u11,c,u13,z,u15,u16,u17,u18,u19,u20,u21,u22,u23,u24,u25,u26,u27,u28,u29,u30,u31,u32,u33,u34,u35,u36,u37,u38,u39,u40,u41,u42,u43,u44,u45,u46,u47,u48,u49,u50,u51,u52,u53,u54,u55,u56,u57,u58,u59,u60,u61,u62,u63,u64,u65,u66,u67,u68,u69,u70,u71,u72,u73,u74,u75,u76,u77,u78,u79,u80,u81,u82,u83,u84,u85,u86,u87,u88,u89,u90,u91,u92,u93,u94,u95,u96,u97,u98,u99,u100,u101,u102,u103,u104,u105,u106,u107,u108,u109,u110,u111,.slice t N u,I N,d,f,g,i,j,l,m,n,o,p,q,r,s,u127,u128,u129,u130,u131,u132,u133,u134,u135,u136,u137,u138,u139,u140,u141,u142,u143,u144,u145,u146,u147,u148,u149,u150,u151,u152,u153,u154,u155,u156,u157,u158,u159,u160,u161,u162,u163,u164,u165,u166,u167,u168,u169,u170,u171,u172,u173,u174,u175,u176,u177,u178,u179,u180,u181,u182,u183,u184,u185,u186,u187,u188,u189,u190,u191,u192,u193],[]⟩ G) :
  Code.wp prog ((Tryz.f5.body.bind (iN 2)).getD .skip) (Exit.then K Q) ⟨#[u0,u1,u2,u3,u4,u5,u6,u7,u8,u9,J a 0,u11,C,u13,u14,u15,u16,u17,u18,u19,u20,u21,u22,u23,u24,u25,u26,u27,u28,u29,u30,u31,u32,u33,u34,u35,u36,u37,u38,u39,u40,u41,u42,u43,u44,u45,u46,u47,u48,u49,u50,u51,u52,u53,u54,u55,u56,u57,u58,u59,u60,u61,u62,u63,u64,u65,u66,u67,u68,u69,u70,u71,u72,u73,u74,u75,u76,u77,u78,u79,u80,u81,u82,u83,u84,u85,u86,u87,u88,u89,u90,u91,u92,u93,u94,u95,u96,u97,u98,u99,u100,u101,u102,u103,u104,u105,u106,u107,u108,u109,u110,u111,.slice t N u,I N,I 0,u115,u116,u117,u118,u119,u120,u121,u122,u123,u124,u125,u126,u127,u128,u129,u130,u131,u132,u133,u134,u135,u136,u137,u138,u139,u140,u141,u142,u143,u144,u145,u146,u147,u148,u149,u150,u151,u152,u153,u154,u155,u156,u157,u158,u159,u160,u161,u162,u163,u164,u165,u166,u167,u168,u169,u170,u171,u172,u173,u174,u175,u176,u177,u178,u179,u180,u181,u182,u183,u184,u185,u186,u187,u188,u189,u190,u191,u192,u193],[]⟩ w:=by
 have G:=H b;have r:=H A;have l:=H B;have O:=H F;clear b A B F
 conv=>arg 2;whnf
 go_wp2_with fail;go_loopw [12,114] (λv i wr=>∃ k:Nat,k<=N/\i=I k/\Hid (Fwq9 w (kI y (L.take k)) v wr)) (λ_ i _=>N-(intOf i).toNat);case atStart=>exact ⟨0,FH _,rfl,H ⟨Fu _ _,⟨rfl,.inl ⟨rfl,rfl⟩⟩⟩⟩
 case round =>
  obtain⟨k,A,rfl,b⟩:=hrel;obtain⟨F,P,rfl⟩:=b.form;by_cases B:k<N
  ·obtain⟨x,o⟩:∃ x,L[k]?=some x:=⟨_,Fy (by have:=r.out;omega)⟩;obtain⟨g,rfl,s⟩:=l.at o;have R:wr.cell? ⟨g,k,none⟩=some (U x):=ad b.bel s;have S:wr.cell? ⟨a,1,none⟩=some (U y):=ad b.bel O.out;have p:=H (Bh (y:=y) o);have m:(kI y (L.take k)).length<=300:=Fx (Hb _ _) (by rw [Hm];omega);generalize kI y (L.take k)=M at b p m ⊢;obtain⟨T,V,W,c,d,_⟩:=b.app Z x;have q:=H c;have j:=H d;obtain⟨f,n⟩:∃ f,M.length=f:=⟨_,rfl⟩;rw [n] at q j b m ⊢;clear s o c d n;by_cases e:x=y
   ·have d:(((x:Nat):Int) != ((y:Nat):Int))=false:=(by rw [e];simp);have c:=H (show kI y (L.take (k+1))=M from by rw [p.out,GO (by simp [e])]);clear e q j;go_wp2;go_roundw;(case rel=>exact ⟨k+1,Z,aY,by rw [c.out];exact b⟩);case measure=>simp [intOf];omega
   have d:(((x:Nat):Int) != ((y:Nat):Int))=true:=bG;have c:=H (show kI y (L.take (k+1))=M++[x] from by rw [p.out,GP e]);clear e;go_wp2_with (at_builtin;refine ga 34 rfl (.tmp 122) (.tmp 124) (by with_reducible rfl) rfl rfl rfl q ?_);go_roundw;(case rel=>exact ⟨k+1,Z,aY,by rw [c.out];exact j⟩);case measure=>simp [intOf];omega
  obtain rfl:k=N:=Z;have c:L.take k=L:=Ge (by rw [r.out];exact Fv _);rw [c] at b ⊢;clear A c;go_wp2_with fail;apply G.out;exact b
theorem CJ (Uq9 w:World) (q:df) (f:An4) (an:List An4) (t n:Nat) (n1:t<n) (n2:n<=300) (g4:an.length=n) (E5 E6 GA cA G5 c5 r B:Nat) (n3:n<=B) (n4:n<=c5) (x6:Option Addr) (y6 z6:Nat)
  (rg:w.rangeAt GA (t*6) [I q.o.kd,I q.o.ref,U q.o.p,U q.o.a,U q.o.b,.slice q.d q.o.ys.length q.dc]) (e5:w.cell? ⟨E5,1,none⟩=some (Vl G5 n c5)) (e6:w.cell? ⟨E6,1,none⟩=some (Vl r n B)) (ra:w.rangeAt r (t*4) [I f.code,U f.addr,I f.size,.slice x6 y6 z6]) (k5:w.cell? ⟨G5,t*4,none⟩=some (I f.code))
  (R:∀ j b,an[j]?=some b->w.cell? ⟨r,j*4+1,none⟩=some (U b.addr)) (hp:q.o.p<18446744073709551616) (L:List Nat) (N:Nat) (hN:L.length=N) (n5:N<=t) (a7:Option Addr) (c7:Nat) (fd:Fwq9 Uq9 L (.slice a7 N c7) w)
  (K:Act->World->Prop) (Q:Exit->Act->World->Prop) (hQ:∀ c (a:Act) (d:Option Tmp) v w,Q (.panic c) (a.put d v) w->Q (.panic c) a w) (u0 u1 u2 u3 u4 u8 u9 u10 u11 u12 u13 u14 u15 u16 u17 u18 u19 u20 u21 u22 u23 u24 u25 u26 u27 u28 u29 u30 u31 u32 u33 u34 u35 u36 u37 u38 u39 u40 u41 u42 u43 u44 u45 u46 u47 u48 u49 u50 u51 u53 u55 u56 u57 u58 u59 u60 u61 u62 u63 u64 u65 u66 u67 u68 u69 u70 u71 u72 u73 u74 u75 u76 u77 u78 u79 u80 u81 u82 u83 u84 u85 u86 u87 u88 u89 u90 u91 u92 u93 u94 u95 u96 u97 u98 u99 u100 u101 u102 u103 u104 u105 u106 u107 u108 u109 u110 u111 u112 u113 u114 u115 u116 u117 u118 u119 u120 u121 u122 u123 u124 u125 u126 u127 u128 u129 u130 u131 u132 u133 u134 u135 u136 u137 u138 u139 u140 u141 u142 u143 u144 u145 u146 u147 u148 u149 u150 u151 u152 u153 u154 u155 u156 u157 u158 u159 u160 u161 u162 u163 u164 u165 u166 u167 u168 u169 u170 u171 u172 u173 u174 u175 u176 u177 u178 u179 u180 u181 u182 u183 u184 u185 u186 u187 u188 u189 u190 u191 u192 u193:Value) (a9:∀ (v2 v7 v8 v9 g5 g6 g7 g8 g9 h0 h2 h4 h5 h6 h7 h8 i0 i1 i2 i3 i4 i5 i6 i7 i8 i9 j0 j1 j2 j3 j4 j5 j6 j7 j8 j9 k0 k1 k2 k3 k4 k6 k7 k8 k9 l1 l2 l3 l4 l5 l6 l7 b0 b1 b2 b3 b4 b5 b6 b7 b8 b9 c0 c1 c2 c3 c4 c9 d0 d1 d2 d4 d5 d6 d7 d8 d9 e4 e7 e8:Value) (p:World),Hid (Fwq9 Uq9 (jx L q.o (m_ q.o (an.take t)) f) v7 p)->K ⟨#[u0,u1,v2,u3,u4,J E5 0,J E6 0,v7,v8,v9,g5,g6,g7,u13,g8,u15,u16,u17,u18,u19,u20,u21,u22,u23,u24,u25,u26,u27,u28,u29,u30,u31,u32,u33,u34,u35,u36,u37,u38,u39,u40,u41,u42,u43,u44,u45,u46,u47,u48,u49,u50,u51,Vl GA n cA,u53,I t,u55,g9,h0,h2,h4,h5,h6,h7,h8,i0,i1,i2,i3,i4,i5,i6,i7,i8,i9,j0,j1,j2,j3,j4,j5,j6,j7,j8,j9,k0,k1,k2,k3,k4,k6,k7,k8,k9,l1,l2,l3,l4,l5,l6,l7,b0,b1,b2,b3,b4,b5,b6,b7,b8,b9,c0,c1,c2,c3,c4,c9,d0,d1,d2,d4,d5,d6,d7,d8,d9,e4,e7,e8,u128,u129,u130,u131,u132,u133,u134,u135,u136,u137,u138,u139,u140,u141,u142,u143,u144,u145,u146,u147,u148,u149,u150,u151,u152,u153,u154,u155,u156,u157,u158,u159,u160,u161,u162,u163,u164,u165,u166,u167,u168,u169,u170,u171,u172,u173,u174,u175,u176,u177,u178,u179,u180,u181,u182,u183,u184,u185,u186,u187,u188,u189,u190,u191,u192,u193],[]⟩ p) :
  Code.wp prog ((Tryz.f5.body.bind (iN 1)).getD .skip) (Exit.then K Q) ⟨#[u0,u1,u2,u3,u4,J E5 0,J E6 0,.slice a7 N c7,u8,u9,u10,u11,u12,u13,u14,u15,u16,u17,u18,u19,u20,u21,u22,u23,u24,u25,u26,u27,u28,u29,u30,u31,u32,u33,u34,u35,u36,u37,u38,u39,u40,u41,u42,u43,u44,u45,u46,u47,u48,u49,u50,u51,Vl GA n cA,u53,I t,u55,u56,u57,u58,u59,u60,u61,u62,u63,u64,u65,u66,u67,u68,u69,u70,u71,u72,u73,u74,u75,u76,u77,u78,u79,u80,u81,u82,u83,u84,u85,u86,u87,u88,u89,u90,u91,u92,u93,u94,u95,u96,u97,u98,u99,u100,u101,u102,u103,u104,u105,u106,u107,u108,u109,u110,u111,u112,u113,u114,u115,u116,u117,u118,u119,u120,u121,u122,u123,u124,u125,u126,u127,u128,u129,u130,u131,u132,u133,u134,u135,u136,u137,u138,u139,u140,u141,u142,u143,u144,u145,u146,u147,u148,u149,u150,u151,u152,u153,u154,u155,u156,u157,u158,u159,u160,u161,u162,u163,u164,u165,u166,u167,u168,u169,u170,u171,u172,u173,u174,u175,u176,u177,u178,u179,u180,u181,u182,u183,u184,u185,u186,u187,u188,u189,u190,u191,u192,u193],[]⟩ w:=by
 have HK:=H a9;have HQ:=H hQ;have HN:=H hN;have T:=H fd;have AD:=H R;have RG:=H rg;have RA:=H ra;have e9:=H e5;have g0:=H e6;have K5:=H k5;obtain⟨P,hP⟩:∃ P,m_ q.o (an.take t)=P:=⟨_,rfl⟩;rw [hP] at HK;have PL:=H (λW' (bW:D w W')=>(show Calls prog 14 #[.agg #[I q.o.kd,I q.o.ref,U q.o.p,U q.o.a,U q.o.b,.slice q.d q.o.ys.length q.dc],Vl r t B] W' λe l8=>e=.returned (U P)/\D W' l8 from by
  have h9:=wB q r t B (an.take t) W' (by rw [Hm];omega) Z hp (λj b i=>by
   rw [Gx] at i;split at i;·exact ad bW (AD j b i)
   cases i)
  rw [hP] at h9;exact h9))
 clear a9 hQ hN fd R rg ra e5 e6 k5 hP hp g4
 conv=>arg 2;whnf
 have NS:=H (ao w (.cells #[I q.o.kd,I q.o.ref,U q.o.p,U q.o.a,U q.o.b,.slice q.d q.o.ys.length q.dc] 42));have bA:D w _:=(Fu w.heap.size w).alloc (Fv _) (.cells #[I q.o.kd,I q.o.ref,U q.o.p,U q.o.a,U q.o.b,.slice q.d q.o.ys.length q.dc] 42);have BA:=H bA;clear bA;go_upto_region 14 with (refine wpList_load_mid rfl 42 _ rfl _ _ rfl _ _ RG underlying42 rfl E ?_)
 generalize w.alloc (.cells #[I q.o.kd,I q.o.ref,U q.o.p,U q.o.a,U q.o.b,.slice q.d q.o.ys.length q.dc] 42)=Y at NS BA ⊢;generalize w.heap.size=k at NS ⊢;have l9:Y.cell? ⟨E6,1,none⟩=some (Vl r n B):=ad BA g0.out;have g1:=H (show Y.rangeAt r (t*4) [I f.code,U f.addr,I f.size,.slice x6 y6 z6] from λj u hu=>ad BA (RA j u hu));have NT:=H (ao Y (.cells #[I f.code,U f.addr,I f.size,.slice x6 y6 z6] 44));have bB:D Y _:=(Fu Y.heap.size Y).alloc (Fv _) (.cells #[I f.code,U f.addr,I f.size,.slice x6 y6 z6] 44);have l:=H (az BA bB);have a1:=H (IU bB NS);clear NS bB RG RA BA;go_upto_region 15 with (refine wpList_load_mid rfl 44 _ rfl _ _ rfl _ _ g1 underlying44 rfl E ?_)
 generalize Y.alloc (.cells #[I f.code,U f.addr,I f.size,.slice x6 y6 z6] 44)=Y2 at a1 l NT ⊢;generalize Y.heap.size=Z2 at NT ⊢;clear g1 l9;clear Y;go_cut [72] from 56 to 127 (λs p=>s=.bool false/\Hid (D Y2 p))
 case first=>as_aux_lemma =>
  have z0:Y2.cell? ⟨Z2,0,none⟩=some (I f.code):=bJ NT.out;have n6:=ad l e9.out;have n7:=ad l K5.out;go_quiet (fail);go_wp2_with fail;go_meet;case rel=>exact ⟨bH,H (ER _ _)⟩
 case rest =>
  obtain⟨rfl,m⟩:=hcut;have x:=H (az l m);have a2:=H (T.low x);have a3:=H (IU m a1);have a4:=H (IU m NT);have C6:=H (ad x g0);clear a1 NT m l T K5 e9;go_upto_region 17 with fail
  go_cut [80] from 56 to 127 (λs p=>s=.bool (decide (f.code≠0) || decide (3<q.o.kd))/\p=wc)
  case first=>as_aux_lemma =>
   have x0:wc.cell? ⟨k,0,none⟩=some (I q.o.kd):=bJ a3.out;have z0:wc.cell? ⟨Z2,0,none⟩=some (I f.code):=bJ a4.out;cases e1:(f.code != 0) <;> cases e2:decide (q.o.kd > 3) <;>
   (go_wp2;go_meet;(case rel=>exact ⟨congrArg Value.bool (by simp at e1 e2;simp [e1,e2]),rfl⟩))
  case rest =>
   obtain⟨rfl,rfl⟩:=hcut;cases i:(decide (f.code≠0) || decide (3<q.o.kd)) with
   | true =>
    have HE:=H (show jx L q.o P f=L from by
     unfold jx;rw [GP];simpa using i)
    clear i;go_wp2;apply HK.out;rw [HE.out];exact a2
   | false =>
    simp only [Bool.or_eq_false_iff,decide_eq_false_iff_not,Classical.not_not] at i;have g2:=H i;clear i;have BY:=H (Fu wc.heap.size wc);have n8:t<=B:=Z;(go_upto_region 18 with fail);refine rh (S:=λW9=>D wc W9/\W9.heap[k]?=some (.cells #[I q.o.kd,I q.o.ref,U q.o.p,U q.o.a,U q.o.b,.slice q.d q.o.ys.length q.dc] 42)/\W9.cell? ⟨E6,1,none⟩=some (Vl r n B)) ?_;have F:=(show _/\_/\_ from ⟨BY.drew,a3,C6⟩);refine pf 0 (.agg #[I q.o.kd,I q.o.ref,U q.o.p,U q.o.a,U q.o.b,.slice q.d q.o.ys.length q.dc]) rfl F (λW h=>zR 42 _ rfl k rfl (run_loadVar_row _ k 42 42 _ (0,0) _ h.2.1 underlying42 rfl E)) ?_ (hQ:=λ_ _ _ h=>HQ.out _ _ _ _ _ h);simp only [lz,l0,ls];refine pk 1 (J E6 1) F ?_ (hQ:=λ_ _ _ h=>HQ.out _ _ _ _ _ h);simp only [lz,l0,ls];refine pz 2 (Vl r n B) F ?_ (hQ:=λ_ _ _ h=>HQ.out _ _ _ _ _ h);simp only [lz,l0,ls];refine pk 3 (I t) F ?_ (hQ:=λ_ _ _ h=>HQ.out _ _ _ _ _ h);simp only [lz,l0,ls];refine pz 4 (Vl r t B) F ?_ (hQ:=λ_ _ _ h=>HQ.out _ _ _ _ _ h);simp only [lz,l0,ls];refine po 5 λK' hK=>?_;go_simp;refine (PL _ (az x F.1)).mono ?_;rintro e V ⟨rfl,o⟩;have hU:=(show D wc V/\V.heap[k]?=some (.cells #[I q.o.kd,I q.o.ref,U q.o.p,U q.o.a,U q.o.b,.slice q.d q.o.ys.length q.dc] 42)/\V.cell? ⟨E6,1,none⟩=some (Vl r n B) from ⟨az F.1 o,IU o F.2.1,ad o F.2.2⟩);refine hK _ _ ⟨hU,?_⟩;refine pk 6 (U P) hU ?_ (hQ:=λ_ _ _ h=>HQ.out _ _ _ _ _ h);simp only [lz,l0,ls];refine bY ?_;have a5:=H (a2.low hU.1);have G:=H hU.2.1;have O:=H (IU hU.1 a4);clear F o hU PL BY a2 a3 a4 C6 hK K';(go_upto_region 19 with fail);go_cut [104] from 56 to 127 (λs p=>s=.bool (decide (q.o.kd=3) || decide (q.o.kd=2/\P≠0/\P≠f.addr))/\p=V)
    case first=>as_aux_lemma =>
     have x0:V.cell? ⟨k,0,none⟩=some (I q.o.kd):=bJ G.out;have z1:V.cell? ⟨Z2,1,none⟩=some (U f.addr):=bJ O.out;cases e0:(q.o.kd==3) <;> cases e1:(q.o.kd==2) <;> cases e2:(((P:Nat):Int) != 0) <;> cases e3:(((P:Nat):Int) != ((f.addr:Nat):Int)) <;>
     (go_wp2;go_meet;(case rel=>exact ⟨congrArg Value.bool (by simp at e0 e1 e2 e3;simp [e0,e1,e2,e3];try omega),rfl⟩))
    case rest =>
     obtain⟨rfl,rfl⟩:=hcut;obtain⟨b,i⟩:∃ b,(decide (q.o.kd=3) || decide (q.o.kd=2/\P≠0/\P≠f.addr))=b:=⟨_,rfl⟩;rw [i];have HB:=H i;clear i;obtain⟨WB,rfl⟩:∃ WB,WB=wc:=⟨_,rfl⟩;refine (by assumption:∀ (a:Act) (w:World),Code.wp prog (Code.cond (Operand.tmp 104) _ _) _ a w->_) _ _ ?_;go_cut [7] from 56 to 127 (λs p=>∃ M:List Nat,Hid (M=if b=true then L++[P] else L)/\Hid (Fwq9 Uq9 M s p)/\Hid (p.heap[k]?=some (.cells #[I q.o.kd,I q.o.ref,U q.o.p,U q.o.a,U q.o.b,.slice q.d q.o.ys.length q.dc] 42))/\Hid (p.heap[Z2]?=some (.cells #[I f.code,U f.addr,I f.size,.slice x6 y6 z6] 44)))
     case first=>as_aux_lemma =>
      cases b with
      | false =>
       go_wp2;go_meet;case rel=>exact ⟨L,H rfl,a5,G,O⟩
      | true =>
       obtain⟨a8,c8,w2,y,z,ky⟩:=a5.app (by have:=HN.out;omega) P;rw [HN.out] at y z;have H1:=H y;have H2:=H z;have H3:=H (IT (ky.cells _ _ _ _ G ar) (ky.cells _ _ _ _ O ar));clear y z ky;go_wp2_with (at_builtin;refine ga 34 rfl (.tmp 105) (.tmp 107) (by with_reducible rfl) rfl rfl rfl H1 ?_);go_meet;case rel=>exact ⟨_,H rfl,H2,H3.1,H3.2⟩
     case rest =>
      obtain⟨M,HM,g,m8,m9⟩:=hcut;obtain⟨a8,c8,rfl⟩:=g.form;have g3:M.length<=300:=by
       have h1:=HN.out;rw [HM.out];split;·rw [FC,List.length_singleton];omega
       omega
      obtain⟨A,a6⟩:∃ A,M.length=A:=⟨_,rfl⟩;rw [a6] at g g3 ⊢;have n0:=H a6;clear a6 a5 G O;have x0:wc.cell? ⟨k,0,none⟩=some (I q.o.kd):=bJ m8.out;by_cases X:q.o.kd=3
      ·have HE:=H (show jx L q.o P f=M from by
        have i:=HB.out;rw [HM.out,<-i];unfold jx;rw [GO (by have:=g2.out;omega),GP X];simp [X])
       rw [X] at x0;clear X;go_wp2;apply HK.out;rw [HE.out];exact g
      have HE:=H (show jx L q.o P f=kI f.addr M from by
       have i:=HB.out;rw [HM.out,<-i];unfold jx kI;rw [GO (by have:=g2.out;omega),GO X];simp [X])
      have d3:(q.o.kd != 3)=true:=(by simp [X]);have Z1:=H (show wc.cell? ⟨Z2,1,none⟩=some (U f.addr) from bJ m9.out);clear X;(go_upto_block 2 with fail);refine EJ Uq9 wc M f.addr A n0 g3 _ _ Z2 g Z1 _ _ _ _ _ _ _ _ _ _ _ _ _ _ _ _ _ _ _ _ _ _ _ _ _ _ _ _ _ _ _ _ _ _ _ _ _ _ _ _ _ _ _ _ _ _ _ _ _ _ _ _ _ _ _ _ _ _ _ _ _ _ _ _ _ _ _ _ _ _ _ _ _ _ _ _ _ _ _ _ _ _ _ _ _ _ _ _ _ _ _ _ _ _ _ _ _ _ _ _ _ _ _ _ _ _ _ _ _ _ _ _ _ _ _ _ _ _ _ _ _ _ _ _ _ _ _ _ _ _ _ _ _ _ _ _ _ _ _ _ _ _ _ _ _ _ _ _ _ _ _ _ _ _ _ _ _ _ _ _ _ _ _ _ _ _ _ _ _ _ _ _ _ _ _ _ _ _ _ _ _ _ _ _ _ _ _ _ _ _ _ ?_;intros;rename_i w5 a0;go_wp2;apply HK.out;rw [HE.out];exact H ⟨az g.bel a0.bel,gz g.bel.size a0.row⟩
def DJ (x:Nat):List fL:=[⟨3,0,x,0,0,[]⟩,⟨3,0,(x+1)%18446744073709551616,0,0,[]⟩,⟨3,0,(x+18446744073709142016)%18446744073709551616,0,0,[]⟩]
theorem oK (x:Nat):∀ (l:List Nat) (n:Nat),de n (l++[x])=de n l++(if n+(de n l).length+3<=300 then DJ x else [])
 | [],n=>by
  show de n [x]=_
  unfold de
  split
  ·rw [GP (by simpa [de] using ‹n+3<=300›)];simp [de,DJ]
  rw [GO (by simpa [de] using ‹¬n+3<=300›)];simp [de]
 | y::r,n=>by
  rw [F5]
  unfold de
  split
  ·rw [oK x r (n+3)]
   simp only [F5,FN]
   congr 5
   apply propext
   omega
  exact oK x r n
theorem mX:∀ (l:List Nat) (n:Nat),n<=300->n+(de n l).length<=300
 | [],n,h=>by simpa [de] using h
 | y::r,n,h=>by
  unfold de
  split
  ·have:=mX r (n+3) Z
   simp only [FN]
   omega
  exact mX r n h
theorem qI (ops an):∀ i,(gJ ops an i).length<=i
 | 0=>Fv _
 | i+1=>by
  have a:=qI ops an i
  unfold gJ
  split
  ·unfold jx
   split
   ·omega
   split
   ·rw [FC,List.length_singleton];omega
   refine Fx (Hb _ _) ?_
   split
   ·rw [FC,List.length_singleton];omega
   omega
  omega
def qP (o:fL):df:=⟨o,none,0⟩
structure Or7 (Uq9:World) (xs:List df) (v:Value) (W:World):Prop where
 bel:D Uq9 W
 row:W.ownsRow Uq9.heap.size 42 6 v xs.length (iT xs)
theorem Or7.form {xs} (h:Or7 Uq9 xs v W):∃ a c,v=.slice a xs.length c:=by
 obtain⟨a,b,c,rfl⟩:=fW h.row;obtain rfl:=ik h.row;exact⟨a,c,rfl⟩
theorem Or7.app3 {xs} (h:Or7 Uq9 xs v W) (b:xs.length<=300) (x y z:Nat) :
  ∃ (a:Option Addr) (c:Nat) (d:World),(Builtin.append_ #[27,27] 27 #[v,Vl W.heap.size 3 3]).run prog (W.alloc (.cells #[I 3,I 0,U x,U 0,U 0,C,I 3,I 0,U y,U 0,U 0,C,I 3,I 0,U z,U 0,U 0,C] 42))=.ok (.slice a (xs.length+3) c) d/\Or7 Uq9 (xs++[qP ⟨3,0,x,0,0,[]⟩,qP ⟨3,0,y,0,0,[]⟩,qP ⟨3,0,z,0,0,[]⟩]) (.slice a (xs.length+3) c) d:=by
 have e:=(Fu W.heap.size W).alloc (Fv _) (.cells #[I 3,I 0,U x,U 0,U 0,C,I 3,I 0,U y,U 0,U 0,C,I 3,I 0,U z,U 0,U 0,C] 42);obtain⟨i,d,g,l,m⟩:=tQ (ax h.row e) [qP ⟨3,0,x,0,0,[]⟩,qP ⟨3,0,y,0,0,[]⟩,qP ⟨3,0,z,0,0,[]⟩] W.heap.size 3 (λk q hq j u b=>by
  rw [GT _ _ _ _ _ _ (ao W _)]
  match k,hq with
  | 0,hq=>simp at hq;subst hq;(match j,b with|0,b=>exact b|1,b=>exact b|2,b=>exact b|3,b=>exact b|4,b=>exact b|5,b=>exact b|j+6,b=>simp [fH] at b)
  | 1,hq=>simp at hq;subst hq;(match j,b with|0,b=>exact b|1,b=>exact b|2,b=>exact b|3,b=>exact b|4,b=>exact b|5,b=>exact b|j+6,b=>simp [fH] at b)
  | 2,hq=>simp at hq;subst hq;(match j,b with|0,b=>exact b|1,b=>exact b|2,b=>exact b|3,b=>exact b|4,b=>exact b|5,b=>exact b|j+6,b=>simp [fH] at b)
  | k+3,hq=>simp at hq) bG (az h.bel e).size
 have f:Or7 Uq9 (xs++[qP ⟨3,0,x,0,0,[]⟩,qP ⟨3,0,y,0,0,[]⟩,qP ⟨3,0,z,0,0,[]⟩]) i d:=⟨(az h.bel e).grown m (az h.bel e).size (λr b=>(aF (ax h.row e) b).1),l⟩;obtain⟨a,c,rfl⟩:=f.form;rw [FC] at g f;exact⟨a,c,d,g,f⟩
theorem jN {f:Array Oper} {e:List Oper} {g:Oper} {a:Act} {Q:Exit->Act->World->Prop} (j:Region.wanted g (yielded f a.tmps)=true) (c:TypeId) (x:Operand) (k:g.op=.load c x) (b o) (l:a.eval x=J b o) (i:List Value) (d:TypeDesc) (m:w.rangeAt b o i) (n:prog.underlying c=some d) (p:d.isRow=true) (q:(prog.info? c).map (·.size)=some i.length) (h:wpList prog f Q e (a.put g.dst (.agg i.toArray)) w):wpList prog f Q (g::e) a w :=
 wpList_step λK r=>by simp only [j,IM];exact wp_load_mid c x k b o l i d m n p q (r _ _ h)
theorem EO {c:Nat} {a b:Value} {t:TypeId} {f:Nat×Nat} (h:W.heap[c]?=some (.cells #[a,b,m0,m1,m2,m3,m4,m5,m6,m7] t f)):W.rangeAt c 2 [m0,m1,m2,m3,m4,m5,m6,m7]:=λj u hu=>by
 rw [GT _ _ _ _ _ _ h]
 match j,hu with
 | 0,hu=>exact hu
 | 1,hu=>exact hu
 | 2,hu=>exact hu
 | 3,hu=>exact hu
 | 4,hu=>exact hu
 | 5,hu=>exact hu
 | 6,hu=>exact hu
 | 7,hu=>exact hu
 | j+8,hu=>simp at hu
theorem wh (W:World):(Builtin.append_ #[27,27] 27 #[C,C]).run prog W=.ok (C) W:=by
 kernel_rfl
theorem BR {V:World} {A:Option Addr} {d:List df} (o:V.ownsRow B 42 6 (.slice A d.length n) d.length (iT d)) (b:D V W) (K:d.length<=300) :
  ∃ (a:Option Addr) (c:Nat) (i:World),(Builtin.append_ #[27,27] 27 #[C,.slice A d.length n]).run prog W=.ok (.slice a d.length c) i/\Or7 W d (.slice a d.length c) i:=by
 have w:=ax o b;have t:W.ownsRow W.heap.size 42 6 (C) ([]:List df).length (iT []):=⟨rfl,.inl ⟨rfl,rfl⟩⟩;rcases w.2 with ⟨p,x⟩|⟨g,L,y,p,M,z,N,O,P,F⟩
 ·injection p with l s m;obtain rfl:d=[]:=List.length_eq_zero_iff.1 x;subst l m;exact⟨none,0,W,wh W,Fu _ _,t⟩
 injection p with l s m;subst l m;obtain⟨G,i,l,s,m⟩:=tQ t d g n (λk q v j u r=>by
  rw [GT _ _ _ _ _ _ z];have e:=flat_get fH 6 (λ_=>rfl) d k j q v (by have:=(Fz.1 r).1;simpa [fH] using this);have Q:=(Fz.1 v).1;have R:=(Fz.1 r).1;have f:(iT d)[k*6+j]?=some u:=by rw [<-r];exact e
  rw [<-F,Gx] at f;split at f;·simpa using f
  cases f) bG (Fv _)
 have f:Or7 W d G i:=⟨(Fu W.heap.size W).grown m (Fv _) (λr b=>by cases b),by simpa using s⟩;obtain⟨a,c,rfl⟩:=f.form;exact⟨a,c,i,l,f⟩
theorem IX (B) (p:Nat) (W) (a:p<18446744073709551616):Od6 B (qP ⟨3,0,p,0,0,[]⟩) W:=⟨a,show (0:Nat)<18446744073709551616 by decide,show (0:Nat)<18446744073709551616 by decide,⟨rfl,.inl ⟨rfl,rfl⟩⟩,show (-9223372036854775808:Int)<=0 by decide,λy b=>by cases b⟩
theorem r8:∀ (l:List Nat) (n:Nat),(∀ x∈l,x<18446744073709551616)->∀ o∈de n l,∃ p,p<18446744073709551616/\o=⟨3,0,p,0,0,[]⟩
 | [],n,_,o,a=>by cases a
 | y::r,n,h,o,a=>by
  have b:=λn=>r8 r n (λx c=>h x (Ij _ c)) o
  unfold de at a
  split at a
  ·rcases F4.1 a with e|a
   ·exact⟨_,h y (List.mem_cons_self ..),e⟩
   rcases F4.1 a with e|a
   ·exact⟨_,Nat.mod_lt _ ar,e⟩
   rcases F4.1 a with e|a
   ·exact⟨_,Nat.mod_lt _ ar,e⟩
   exact b _ a
  exact b _ a
def gH (n:Nat) (L:List Nat):List df:=(de n L).map qP
theorem Bt (a:L[k]?=some x) (n):gH n (L.take (k+1))=gH n (L.take k)++(if n+(gH n (L.take k)).length+3<=300 then (DJ x).map qP else []):=by
 unfold gH;rw [F_,a];show (de n (L.take k++[x])).map qP=_;rw [oK,Hr,Gz];split <;> rfl
theorem Eb (Uq9 w V) (c:List df) (b:Nat) (a:c.length=b) (O:b<=300) (L:List Nat) (N:Nat) (T:L.length=N) (a0:N<=300) (W:∀ x∈L,x<18446744073709551616) (P:Option Addr) (R:Nat) (X:Option Addr) (Y:Nat) (fd:Fwq9 Uq9 L (.slice P N R) V) (or:Or7 V c (.slice X b Y) w) (K:Act->World->Prop) (Q:Exit->Act->World->Prop) (u0 u1 u2 u3 u4 u5 u6 u7 u8 u9 u10 u11 u12 u13 u14 u16 u17 u18 u19 u20 u21 u22 u23 u24 u25 u26 u27 u28 u29 u30 u31 u32 u33 u34 u35 u36 u37 u38 u39 u40 u41 u42 u43 u44 u45 u46 u47 u48 u49 u50 u51 u52 u53 u54 u55 u56 u57 u58 u59 u60 u61 u62 u63 u64 u65 u66 u67 u68 u69 u70 u71 u72 u73 u74 u75 u76 u77 u78 u79 u80 u81 u82 u83 u84 u85 u86 u87 u88 u89 u90 u91 u92 u93 u94 u95 u96 u97 u98 u99 u100 u101 u102 u103 u104 u105 u106 u107 u108 u109 u110 u111 u112 u113 u114 u115 u116 u117 u118 u119 u120 u121 u122 u123 u124 u125 u126 u127 u128 u129 u130 u134 u135 u136 u137 u138 u139 u140 u141 u142 u143 u144 u145 u146 u147 u148 u149 u150 u151 u152 u153 u154 u155 u156 u157 u158 u159 u160 u161 u162 u163 u164 u165 u166 u167 u168 u169 u170 u171 u172 u173 u174 u175 u176 u177 u178 u179 u180 u181 u182 u183 u184 u185 u186 u187 u188 u189 u190 u191 u192 u193:Value) (d:∀ (f S g i j l m n o p q r s t u y z A B F G M:Value) (w':World),Hid (Or7 V (c++gH b L) f w')->K ⟨#[u0,u1,u2,u3,u4,u5,u6,u7,u8,u9,u10,u11,u12,u13,u14,f,u16,S,u18,u19,u20,u21,u22,u23,u24,u25,u26,u27,u28,u29,u30,u31,u32,u33,u34,u35,u36,u37,u38,u39,u40,u41,u42,u43,u44,u45,u46,u47,u48,u49,u50,u51,u52,u53,u54,u55,u56,u57,u58,u59,u60,u61,u62,u63,u64,u65,u66,u67,u68,u69,u70,u71,u72,u73,u74,u75,u76,u77,u78,u79,u80,u81,u82,u83,u84,u85,u86,u87,u88,u89,u90,u91,u92,u93,u94,u95,u96,u97,u98,u99,u100,u101,u102,u103,u104,u105,u106,u107,u108,u109,u110,u111,u112,u113,u114,u115,u116,u117,u118,u119,u120,u121,u122,u123,u124,u125,u126,u127,u128,u129,u130,.slice P N R,I N,g,i,j,l,m,n,o,p,q,r,s,t,u,y,z,A,B,F,G,M,u153,u154,u155,u156,u157,u158,u159,u160,u161,u162,u163,u164,u165,u166,u167,u168,u169,u170,u171,u172,u173,u174,u175,u176,u177,u178,u179,u180,u181,u182,u183,u184,u185,u186,u187,u188,u189,u190,u191,u192,u193],[]⟩ w') :
  Code.wp prog ((Tryz.f5.body.bind (iN 4)).getD .skip) (Exit.then K Q) ⟨#[u0,u1,u2,u3,u4,u5,u6,u7,u8,u9,u10,u11,u12,u13,u14,.slice X b Y,u16,u17,u18,u19,u20,u21,u22,u23,u24,u25,u26,u27,u28,u29,u30,u31,u32,u33,u34,u35,u36,u37,u38,u39,u40,u41,u42,u43,u44,u45,u46,u47,u48,u49,u50,u51,u52,u53,u54,u55,u56,u57,u58,u59,u60,u61,u62,u63,u64,u65,u66,u67,u68,u69,u70,u71,u72,u73,u74,u75,u76,u77,u78,u79,u80,u81,u82,u83,u84,u85,u86,u87,u88,u89,u90,u91,u92,u93,u94,u95,u96,u97,u98,u99,u100,u101,u102,u103,u104,u105,u106,u107,u108,u109,u110,u111,u112,u113,u114,u115,u116,u117,u118,u119,u120,u121,u122,u123,u124,u125,u126,u127,u128,u129,u130,.slice P N R,I N,I 0,u134,u135,u136,u137,u138,u139,u140,u141,u142,u143,u144,u145,u146,u147,u148,u149,u150,u151,u152,u153,u154,u155,u156,u157,u158,u159,u160,u161,u162,u163,u164,u165,u166,u167,u168,u169,u170,u171,u172,u173,u174,u175,u176,u177,u178,u179,u180,u181,u182,u183,u184,u185,u186,u187,u188,u189,u190,u191,u192,u193],[]⟩ w:=by
 have HK:=H d;have G:=H T;have s:=H a;have n:=H fd;have OR:=H or;have t:=H W;clear d T a fd or W
 conv=>arg 2;whnf
 go_wp2_with fail;go_loopw [15,133] (λv i wr=>∃ k:Nat,k<=N/\i=I k/\Hid (Or7 V (c++gH b (L.take k)) v wr)) (λ_ i _=>N-(intOf i).toNat);case atStart=>exact ⟨0,FH _,rfl,by rw [show c++gH b (L.take 0)=c from by simp [gH,de]];exact OR⟩
 case round =>
  obtain⟨k,hk,rfl,f⟩:=hrel;obtain⟨a8,c8,rfl⟩:=f.form;by_cases a1:k<N
  ·obtain⟨x,r⟩:∃ x,L[k]?=some x:=⟨_,Fy (by have:=G.out;omega)⟩;have u:=t.out x (FM r);obtain⟨g,rfl,S⟩:=n.at r;have x7:wr.cell? ⟨g,k,none⟩=some (U x):=ad f.bel S;have A:=H (Bt r b);have o:b+(gH b (L.take k)).length<=300:=(by unfold gH;rw [Gz];exact mX _ _ O);have d:(c++gH b (L.take k)).length=b+(gH b (L.take k)).length:=(by rw [FC,s.out]);generalize gH b (L.take k)=M at f A o d ⊢;obtain⟨y,T⟩:∃ y,(x+1)%18446744073709551616=y:=⟨_,rfl⟩;obtain⟨z,W⟩:∃ z,(x+18446744073709142016)%18446744073709551616=z:=⟨_,rfl⟩;have w1:IntKind.u64.wrap ((x:Int)+1)=(y:Int):=(by rw [IntKind.wrap_u64];omega);have w2:IntKind.u64.wrap ((x:Int)-409600)=(z:Int):=(by rw [IntKind.wrap_u64];omega);obtain⟨a9,c9,wq,j,l⟩:=f.app3 Z x y z;have B:=H j;have m:=H l;have F:=H (show (DJ x).map qP=[qP ⟨3,0,x,0,0,[]⟩,qP ⟨3,0,y,0,0,[]⟩,qP ⟨3,0,z,0,0,[]⟩] from by unfold DJ;rw [T,W];rfl);obtain⟨a,p⟩:∃ a,(c++M).length=a:=⟨_,rfl⟩;rw [p] at B m f d ⊢;have q:=H d;have a2:a<=300:=Z;clear S r j l p T W u o d;by_cases e:a+3<=300
   ·have d:=H (show c++gH b (L.take (k+1))=c++M++[qP ⟨3,0,x,0,0,[]⟩,qP ⟨3,0,y,0,0,[]⟩,qP ⟨3,0,z,0,0,[]⟩] from by rw [A.out,GP (by have:=q.out;omega),F.out,GJ]);have j:decide ((a:Int)+3<=300)=true:=G8 Z;clear e;go_wp2_with (at_builtin;refine ga 27 rfl (.tmp 141) (.tmp 150) (by with_reducible rfl) rfl rfl rfl B ?_);go_roundw;(case rel=>exact ⟨k+1,Z,aY,by rw [d.out];exact m⟩);case measure=>simp [intOf];omega
   have d:=H (show c++gH b (L.take (k+1))=c++M from by rw [A.out,GO (by have:=q.out;omega),Gl]);have j:decide ((a:Int)+3<=300)=false:=GR Z;clear e B m;go_wp2;go_roundw;(case rel=>exact ⟨k+1,Z,aY,by rw [d.out];exact f⟩);case measure=>simp [intOf];omega
  obtain rfl:k=N:=Z;have a:L.take k=L:=Ge (by rw [G.out];exact Fv _);rw [a] at f ⊢;clear hk a;go_wp2_with fail;apply HK.out;exact f
theorem BK (w:World) (c:Option Addr) (m F:Nat) (z:m<=300) (L:∀ j,j<m->∃ (G s:Nat) (d a e:Int) (cx:Option Addr) (b f:Nat),c=some ⟨G,s,none⟩/\w.rangeAt G (s+j*4) [I d,U a,I e,.slice cx b f]/\(d=3\/d=4)) (K:Act->World->Prop) (Q:Exit->Act->World->Prop) (u0 u1 u2 u3 u4 u5 u6 u7 u8 u9 u10 u11 u12 u13 u14 u15 u16 u17 u18 u19 u20 u21 u22 u23 u24 u25 u26 u27 u28 u29 u30 u31 u32 u33 u34 u35 u36 u37 u38 u39 u40 u41 u42 u43 u44 u45 u46 u47 u48 u49 u50 u51 u52 u53 u54 u55 u56 u57 u58 u59 u60 u61 u62 u63 u64 u65 u66 u67 u68 u69 u70 u71 u72 u73 u74 u75 u76 u77 u78 u79 u80 u81 u82 u83 u84 u85 u86 u87 u88 u89 u90 u91 u92 u93 u94 u95 u96 u97 u98 u99 u100 u101 u102 u103 u104 u105 u106 u107 u108 u109 u110 u111 u112 u113 u114 u115 u116 u117 u118 u119 u120 u121 u122 u123 u124 u125 u126 u127 u128 u129 u130 u131 u132 u133 u134 u135 u136 u137 u138 u139 u140 u141 u142 u143 u144 u145 u146 u147 u148 u149 u150 u151 u152 u153 u154 u155 u156 u157 u158 u159 u160 u161 u162 u163 u164 u165 u166 u167 u168 u169 u170 u171 u172 u173 u174 u175 u176 u177 u178 u182 u183 u184 u185 u186 u187 u188 u189 u190 u191 u192 u193:Value) (g:∀ (N B i l n o p q r t v x y z A:Value) (M:World),Hid (D w M)->K ⟨#[u0,u1,N,u3,u4,u5,u6,u7,u8,u9,u10,u11,u12,u13,u14,u15,u16,u17,u18,u19,B,u21,u22,u23,u24,u25,u26,u27,u28,u29,u30,u31,u32,u33,u34,u35,u36,u37,u38,u39,u40,u41,u42,u43,u44,u45,u46,u47,u48,u49,u50,u51,u52,u53,u54,u55,u56,u57,u58,u59,u60,u61,u62,u63,u64,u65,u66,u67,u68,u69,u70,u71,u72,u73,u74,u75,u76,u77,u78,u79,u80,u81,u82,u83,u84,u85,u86,u87,u88,u89,u90,u91,u92,u93,u94,u95,u96,u97,u98,u99,u100,u101,u102,u103,u104,u105,u106,u107,u108,u109,u110,u111,u112,u113,u114,u115,u116,u117,u118,u119,u120,u121,u122,u123,u124,u125,u126,u127,u128,u129,u130,u131,u132,u133,u134,u135,u136,u137,u138,u139,u140,u141,u142,u143,u144,u145,u146,u147,u148,u149,u150,u151,u152,u153,u154,u155,u156,u157,u158,u159,u160,u161,u162,u163,u164,u165,u166,u167,u168,u169,u170,u171,u172,u173,u174,u175,u176,u177,u178,.slice c m F,I m,i,l,n,o,p,q,r,t,v,x,y,z,A],[]⟩ M) :
  Code.wp prog ((Tryz.f5.body.bind (iN 6)).getD .skip) (Exit.then K Q) ⟨#[u0,u1,u2,u3,u4,u5,u6,u7,u8,u9,u10,u11,u12,u13,u14,u15,u16,u17,u18,u19,u20,u21,u22,u23,u24,u25,u26,u27,u28,u29,u30,u31,u32,u33,u34,u35,u36,u37,u38,u39,u40,u41,u42,u43,u44,u45,u46,u47,u48,u49,u50,u51,u52,u53,u54,u55,u56,u57,u58,u59,u60,u61,u62,u63,u64,u65,u66,u67,u68,u69,u70,u71,u72,u73,u74,u75,u76,u77,u78,u79,u80,u81,u82,u83,u84,u85,u86,u87,u88,u89,u90,u91,u92,u93,u94,u95,u96,u97,u98,u99,u100,u101,u102,u103,u104,u105,u106,u107,u108,u109,u110,u111,u112,u113,u114,u115,u116,u117,u118,u119,u120,u121,u122,u123,u124,u125,u126,u127,u128,u129,u130,u131,u132,u133,u134,u135,u136,u137,u138,u139,u140,u141,u142,u143,u144,u145,u146,u147,u148,u149,u150,u151,u152,u153,u154,u155,u156,u157,u158,u159,u160,u161,u162,u163,u164,u165,u166,u167,u168,u169,u170,u171,u172,u173,u174,u175,u176,u177,u178,.slice c m F,I m,I 0,u182,u183,u184,u185,u186,u187,u188,u189,u190,u191,u192,u193],[]⟩ w:=by
 have x:=H g;have y:=H L;clear g L
 conv=>arg 2;whnf
 go_wp2_with fail;go_loopw [181] (λi wr=>∃ k:Nat,k<=m/\i=I k/\Hid (D w wr)) (λi _=>m-(intOf i).toNat);case atStart=>exact ⟨0,FH _,rfl,H (Fu _ _)⟩
 case round =>
  obtain⟨k,A,rfl,g⟩:=hrel;by_cases n:k<m
  ·obtain⟨G,s,d,a,e,cx,b,f,rfl,o,p⟩:=y.out k n;have q:=H (show wr.rangeAt G (s+k*4) [I d,U a,I e,.slice cx b f] from λj u c=>ad g (o j u c));have r:D w _:=g.alloc g.size (.cells #[I d,U a,I e,.slice cx b f] 44);have t:=H r;have l:=H (ao wr (.cells #[I d,U a,I e,.slice cx b f] 44));have v:=H p;clear o r p g;go_upto_region 44 with (refine wpList_load_mid rfl 44 _ rfl _ _ rfl _ _ q underlying44 rfl E ?_)
   generalize wr.alloc (.cells #[I d,U a,I e,.slice cx b f] 44)=Y at t l ⊢;generalize wr.heap.size=o at l ⊢;have p:Y.cell? ⟨o,0,none⟩=some (I d):=bJ l.out;rcases v.out with h|h <;>
   (rw [h] at p;clear h v l q;go_wp2;go_roundw;(case rel=>exact ⟨k+1,Z,aY,t⟩);(case measure=>simp [intOf];omega))
  go_wp2_with fail;apply x.out;exact g
end
end Go.Proofs.YtdngbppdomoenaaGreatDoor
