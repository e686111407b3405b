import Derived.Shelf.Lay
import Derived.Shelf.Slices.In.SortNone
import Derived.Shelf.Sort.Plain
import Derived.Sort.OwnSortedInts
import Derived.Test.YtdngbppdomoenaaGreatDoorN42
import Derived.Test.YtdngbppdomoenaaGreatDoorN43
set_option linter.unusedVariables false
set_option linter.unusedSimpArgs false
set_option maxRecDepth 20000
set_option maxHeartbeats 8000000
namespace Go.Proofs.YtdngbppdomoenaaGreatDoor
open Go.Proofs.Tryz
variable {W:World} {zs:List Int} {h:Hs} {c k:Nat} {cf:Cf}
section
open Go.RowKit Go.Shelf Go.Maps
def Rd1 (k:IntKind) (w:World) (u:Value) (zs:List Int):Prop:=∃ a c,u=.slice a zs.length c/\∀ i,i<zs.length->∃ g,a=some ⟨g,0,none⟩/\w.cell? ⟨g,i,none⟩=some (.int k (zs[i]?.getD 0))
theorem Rd1.below {k w u} (h:Rd1 k w u zs) (b:D w W):Rd1 k W u zs:=by
 obtain⟨a,c,e,h⟩:=h;exact⟨a,c,e,λi d=>by obtain ⟨g,f,j⟩:=h i d;exact⟨g,f,ad b j⟩⟩
theorem Rd1.sl {k w u} (h:Rd1 k w u zs):∃ a b c,u=.slice a b c:=by obtain ⟨a,c,e,_⟩:=h;exact⟨_,_,_,e⟩
theorem qF (u1 u2:Value) (zs:List Int) (w:World) (f:Rd1 .i64 w u1 zs) (g:Rd1 .i64 w u2 zs) (k:zs.length<=1048576):Calls prog 22 #[u1,u2] w λe l=>e=.returned (.bool true)/\∃ m,l=w.drewN m:=by
 obtain⟨q,r,rfl,b⟩:=f;obtain⟨s,t,rfl,c⟩:=g;have o:=H b;have p:=H c;obtain⟨n,a⟩:∃ n,zs.length=n:=⟨_,rfl⟩;rw [a] at k ⊢;have d:=H a;clear b c a;go_enter func22,ntmps22;go_wp2_with fail;go_loopw [13] (λi wr=>∃ j m:Nat,j<=n/\i=I j/\Hid (wr=w.drewN m)) (λi _=>n-(intOf i).toNat);case atStart=>exact ⟨0,0,FH _,rfl,H (World.drewN_zero w).symm⟩
 case round =>
  obtain⟨j,m,u,rfl,a⟩:=hrel;obtain rfl:=a.out;clear a;by_cases a:j<n
  ·obtain⟨v,rfl,b⟩:=o.out j (by rw [d.out];exact a);obtain⟨x,rfl,c⟩:=p.out j (by rw [d.out];exact a);generalize zs[j]?.getD 0=z at b c;(go_upto_region 6 with fail);go_quiet (fail);go_wp2;go_roundw;(case rel=>exact ⟨j+1,m+nq,Z,aY,H rfl⟩);case measure=>simp [intOf];omega
  go_wp2;go_ret;exact⟨rfl,m,rfl⟩
def o6 (c:Nat) (x:Nat×Nat×Nat):Int:=((x.2.1*aM c+x.2.2:Nat):Int)
theorem pY {s j} {x:Nat×Nat×Nat} : x∈I3 h c s j↔∃ k,k<j/\h.st c s k≠0/\x=(c,s,k):=by
 unfold I3;simp only [FQ,Gk,Gh,Hj];constructor;·rintro⟨k,⟨h1,h2⟩,rfl⟩;exact⟨k,h1,h2,rfl⟩
 rintro⟨k,h1,h2,rfl⟩;exact⟨k,⟨h1,h2⟩,rfl⟩
theorem mX {n} {x:Nat×Nat×Nat} : x∈I2 h c n↔∃ s j,s<n/\j<aM c/\h.st c s j≠0/\x=(c,s,j):=by
 unfold I2;simp only [List.mem_flatMap,Gh];constructor;·rintro⟨s,hs,hx⟩;obtain⟨j,a,b,rfl⟩:=pY.1 hx;exact⟨s,j,hs,a,b,rfl⟩
 rintro⟨s,j,hs,a,b,rfl⟩;exact⟨s,hs,pY.2 ⟨j,a,b,rfl⟩⟩
theorem tJ (h c):∀ n,((I2 h c n).map (o6 c)).Pairwise (· < ·)
 | 0=>by simp [I2]
 | n+1=>by
  have e:I2 h c (n+1)=I2 h c n++I3 h c n (aM c):=by unfold I2;rw [Gs,Gu];simp
  rw [e,Hr,Is]
  refine⟨tJ h c n,?_,?_⟩
  ·unfold I3
   rw [List.map_map,List.pairwise_map]
   refine List.Pairwise.imp ?_ (List.Pairwise.filter _ (List.pairwise_lt_range (n:=aM c)))
   intro a b d
   show o6 c (c,n,a)<o6 c (c,n,b)
   unfold o6
   dsimp only
   omega
  intro a ha b d
  obtain⟨x,f,rfl⟩:=FQ.1 ha
  obtain⟨y,g,rfl⟩:=FQ.1 d
  obtain⟨s,j,i,m,_,rfl⟩:=mX.1 f
  obtain⟨k,o,_,rfl⟩:=pY.1 g
  unfold o6
  dsimp only
  have l:(s+1)*aM c<=n*aM c:=Gm _ i
  rw [Gy] at l
  omega
def p8 (h:Hs) (x:Nat×Nat×Nat):Bool:=decide (h.st x.1 x.2.1 x.2.2=2)
theorem wG (a:Inv cf h) (d:c<12):((I2 h c 6).filter (p8 h)).length=(nM h c).length:=by
 have g:(((I2 h c 6).filter (p8 h)).map (o6 c)).Perm (nM h c):=by
  refine (List.perm_ext_iff_of_nodup ?_ (a.wnd c d)).2 λz=>?_;·have b:(((I2 h c 6).filter (p8 h)).map (o6 c)).Pairwise (· < ·):=(tJ h c 6).sublist (List.filter_sublist.map _);exact b.imp λh=>Z
  simp only [FQ,Gk];constructor;·rintro⟨x,⟨hx,f⟩,rfl⟩;obtain⟨s,j,i,k,_,rfl⟩:=mX.1 hx;unfold p8 at f;exact (a.wait c s j d i k).1 (of_decide_eq_true f)
  intro j;have l:=a.wlt c d z j;have m:0<=z:=by
   unfold nM at j;obtain⟨b,e⟩:=Gk.1 j;have n:=of_decide_eq_true e;rcases F8.1 b with b|b;·have:=a.mxn c d z b;omega
   exact a.ffn c d z b
  obtain⟨n,rfl⟩:∃ n:Nat,z=(n:Int):=⟨z.toNat,Z⟩;have g:0<aM c:=by
   rcases Nat.eq_zero_or_pos (aM c) with e|e;·rw [e] at l;omega
   exact e
  have i:n/aM c<6:=by rw [Nat.div_lt_iff_lt_mul g];omega
  have k:n%aM c<aM c:=Nat.mod_lt _ g;have e:n/aM c*aM c+n%aM c=n:=by rw [GL];exact Nat.div_add_mod n (aM c)
  have f:=(a.wait c (n/aM c) (n%aM c) d i k).2 (by rw [e];exact j);exact⟨(c,n/aM c,n%aM c),⟨mX.2 ⟨_,_,i,k,by rw [f];decide,rfl⟩,G8 f⟩,by unfold o6;dsimp only;rw [e]⟩
 have:=g.length_eq;rwa [Gz] at this
def qN (h:Hs):Nat->Nat
 | 0=>0
 | c+1=>qN h c+(nM h c).length
theorem kI {cf h} (a:Inv cf h):∀ n,n<=12->((I1 h n).filter (p8 h)).length=qN h n
 | 0,_=>by simp [I1,qN]
 | n+1,b=>by
  rw [ua,Hl,FC,kI a n Z,wG a Z]
  rfl
theorem ql (b:Inv cf h) {s j:Nat} (e:c<12) (g:s<6) (i:j<aM c) (k:h.st c s j=2):(h.mx c++h.ff c).count ((s*aM c+j:Nat):Int)=1:=by
 have f:=(b.wait c s j e g i).1 k;generalize s*aM c+j=n at f ⊢;have d:=(b.wnd c e).count (a:=(n:Int));rw [GP f] at d;unfold nM at d;have m:=List.count_filter (p:=λv:Int=>decide (v ≠ -1)) (a:=(n:Int)) (l:=h.mx c++h.ff c) (G8 Z);rw [m] at d;exact d
theorem p9 (c:Inv cf h) {rs:List Rg9} (p:rs.Perm h.rg) (s:rs.Pairwise (λa b=>a.base<=b.base)):rs.Pairwise (λa b=>a.first+a.ext<=b.first):=by
 have e:rs.Pairwise (λa b=>a.first+a.ext<=b.first\/b.first+b.ext<=a.first):=(p.pairwise_iff (λ{a b} h=>h.symm)).2 c.apart;refine (s.and e).imp_of_mem ?_;rintro a b ha f ⟨g,i⟩;have j:=c.rgs a (p.subset ha);have d:=c.rgs b (p.subset f);unfold Rg9.base at g;unfold Rg9.ext at i j d ⊢;omega
theorem tR {α:Type} {R:α->α->Prop} (d:∀ a b,R a b->R b a):∀ {l:List α},l.Pairwise R->∀ {a b:α},a∈l->b∈l->a≠b->R a b
 | [],_,a,b,ha,_,_=>by cases ha
 | x::l,h,a,b,ha,c,g=>by
  rw [List.pairwise_cons] at h
  rcases F4.1 ha with e|ha
  ·rcases F4.1 c with f|c
   ·exact absurd (e.trans f.symm) g
   rw [e];exact h.1 b c
  rcases F4.1 c with f|c
  ·rw [f];exact d _ _ (h.1 a ha)
  exact tR d h.2 ha c g
theorem sP (c:Inv cf h) {r:Rg9} (j:r∈h.rg) (o:r.first<=k) (p:k<r.first+r.ext):isOpen (h.m k)=(decide (r.st=1)&&decide (r.base/1024<=k)&&decide (k<r.first+r.ext-1)):=by
 have q:=c.rgs r j;have a:isOpen (h.m k)=(h.m k).isSome:=by
  cases e:h.m k with
  | none=>rfl
  | some x =>
   have:=(c.fine k x e).1;obtain⟨b,l⟩:=x;simp at this;subst this;rfl
 have n:r.base/1024=r.first+r.guards:=by unfold Rg9.base;omega
 rw [a,n];have g:=c.big k Z;have only:∀ f∈h.rg,f.first<=k->k<f.first+f.ext->f=r:=λf d i m=>by
  apply Classical.byContradiction;intro l;have:=tR (λa b h=>h.symm) c.apart d j l;omega
 rw [Bool.eq_iff_iff];simp only [Gi,Hj];rw [g];constructor;·rintro⟨f,d,s1,i,m⟩;have l:=c.rgs f d;have e:=only f d Z (by unfold Rg9.ext at *;omega);subst e;exact⟨⟨s1,i⟩,by unfold Rg9.ext at *;omega⟩
 rintro⟨⟨s1,i⟩,m⟩;exact⟨r,j,s1,i,by unfold Rg9.ext at *;omega⟩
def gH (zs:List Int):Nat:=(zs.filter λz=>decide (0<=z)).length
theorem wh {z:Int} (a:zs[k]?=some z):gH (zs.take (k+1))=gH (zs.take k)+(if 0<=z then 1 else 0):=by
 unfold gH;rw [F_,a,Hl,FC];by_cases e:0<=z <;> simp [e]
theorem r7 (zs:List Int) (k:Nat):gH (zs.take k)<=k:=Fx (Hb _ _) (by rw [Hm];omega)
theorem vL (w:World) (zs:List Int) (a:Option Addr) (n c q:Nat) (s:zs.length=n) (m:n<=1000) (x:q<=1000000) (r:Rd1 .i64 w (.slice a n c) zs) (K:Act->World->Prop) (Q:Exit->Act->World->Prop) (u0 u1 u2 u3 u4 u5 u6 u7 u8 u9 u10 u11 u12 u13 u14 u15 u16 u17 u18 u19 u20 u21 u22 u23 u25 u26 u27 u28 u29 u30 u31 u32 u33 u34 u35 u36 u37 u38 u39 u40 u41 u42 u43 u44 u45 u46 u47 u48 u49 u50 u51 u52 u53 u54 u55 u56 u57 u58 u59 u60 u61 u62 u63 u64 u65 u66 u67 u68 u69 u70 u71 u72 u73 u74 u75 u76 u77 u78 u79 u80 u81 u82 u83 u84 u85 u86 u87 u88 u89 u90 u91 u92 u93 u94 u95 u96 u97 u98 u99 u100 u101 u102 u103 u104 u105 u106 u107 u108 u109 u110 u111 u112 u113 u114 u115 u116 u117 u118 u119 u120 u121 u122 u123 u124 u125 u126 u127 u128 u129 u130 u131 u132 u133 u134 u135 u136 u137 u138 u139 u140 u141 u142 u143 u144 u145 u146 u147 u148 u149 u150 u151 u152 u153 u154 u155 u156 u157 u158 u159 u160 u161 u162 u163 u164 u165 u166 u167 u168 u169 u170 u171 u172 u173 u174 u175 u176 u177 u178 u179 u180 u181 u182 u183 u184 u185 u186 u187 u188 u189 u190 u191 u192 u193 u194 u195 u196 u197 u198 u199 u200 u201 u202 u203 u204 u205 u206 u207 u208 u209 u210 u211 u212 u213 u214 u215 u216 u217 u218 u219 u220 u221 u222 u223 u224 u225 u226 u227 u228 u229 u230 u231 u232 u233 u234 u235 u236 u237 u238 u239 u240 u241 u242 u243 u244 u245 u249 u250 u251 u252 u253 u254 u255 u256 u257 u258 u259 u260:Value) (b:∀ (p d e f g i j l m o:Value) (t:World),t=w->K ⟨#[u0,u1,u2,u3,u4,u5,u6,u7,u8,u9,u10,u11,u12,u13,u14,u15,u16,u17,u18,u19,u20,u21,u22,u23,I ((q+gH zs:Nat):Int),u25,u26,u27,p,u29,u30,u31,u32,u33,u34,u35,u36,u37,u38,u39,u40,u41,u42,u43,u44,u45,u46,u47,u48,u49,u50,u51,u52,u53,u54,u55,u56,u57,u58,u59,u60,u61,u62,u63,u64,u65,u66,u67,u68,u69,u70,u71,u72,u73,u74,u75,u76,u77,u78,u79,u80,u81,u82,u83,u84,u85,u86,u87,u88,u89,u90,u91,u92,u93,u94,u95,u96,u97,u98,u99,u100,u101,u102,u103,u104,u105,u106,u107,u108,u109,u110,u111,u112,u113,u114,u115,u116,u117,u118,u119,u120,u121,u122,u123,u124,u125,u126,u127,u128,u129,u130,u131,u132,u133,u134,u135,u136,u137,u138,u139,u140,u141,u142,u143,u144,u145,u146,u147,u148,u149,u150,u151,u152,u153,u154,u155,u156,u157,u158,u159,u160,u161,u162,u163,u164,u165,u166,u167,u168,u169,u170,u171,u172,u173,u174,u175,u176,u177,u178,u179,u180,u181,u182,u183,u184,u185,u186,u187,u188,u189,u190,u191,u192,u193,u194,u195,u196,u197,u198,u199,u200,u201,u202,u203,u204,u205,u206,u207,u208,u209,u210,u211,u212,u213,u214,u215,u216,u217,u218,u219,u220,u221,u222,u223,u224,u225,u226,u227,u228,u229,u230,u231,u232,u233,u234,u235,u236,u237,u238,u239,u240,u241,u242,u243,u244,u245,.slice a n c,I n,d,e,f,g,i,j,l,m,o,u257,u258,u259,u260],[]⟩ t) :
  Code.wp prog ((Tryz.f9.body.bind (iN 12)).getD .skip) (Exit.then K Q) ⟨#[u0,u1,u2,u3,u4,u5,u6,u7,u8,u9,u10,u11,u12,u13,u14,u15,u16,u17,u18,u19,u20,u21,u22,u23,I q,u25,u26,u27,u28,u29,u30,u31,u32,u33,u34,u35,u36,u37,u38,u39,u40,u41,u42,u43,u44,u45,u46,u47,u48,u49,u50,u51,u52,u53,u54,u55,u56,u57,u58,u59,u60,u61,u62,u63,u64,u65,u66,u67,u68,u69,u70,u71,u72,u73,u74,u75,u76,u77,u78,u79,u80,u81,u82,u83,u84,u85,u86,u87,u88,u89,u90,u91,u92,u93,u94,u95,u96,u97,u98,u99,u100,u101,u102,u103,u104,u105,u106,u107,u108,u109,u110,u111,u112,u113,u114,u115,u116,u117,u118,u119,u120,u121,u122,u123,u124,u125,u126,u127,u128,u129,u130,u131,u132,u133,u134,u135,u136,u137,u138,u139,u140,u141,u142,u143,u144,u145,u146,u147,u148,u149,u150,u151,u152,u153,u154,u155,u156,u157,u158,u159,u160,u161,u162,u163,u164,u165,u166,u167,u168,u169,u170,u171,u172,u173,u174,u175,u176,u177,u178,u179,u180,u181,u182,u183,u184,u185,u186,u187,u188,u189,u190,u191,u192,u193,u194,u195,u196,u197,u198,u199,u200,u201,u202,u203,u204,u205,u206,u207,u208,u209,u210,u211,u212,u213,u214,u215,u216,u217,u218,u219,u220,u221,u222,u223,u224,u225,u226,u227,u228,u229,u230,u231,u232,u233,u234,u235,u236,u237,u238,u239,u240,u241,u242,u243,u244,u245,.slice a n c,I n,I 0,u249,u250,u251,u252,u253,u254,u255,u256,u257,u258,u259,u260],[]⟩ w:=by
 have o:=H b;have d:=H s;obtain⟨y,A,e,f⟩:=r;injection e with t g u;subst t u;have R:=H f;clear b s f g
 conv=>arg 2;whnf
 go_wp2_with fail;go_loopw [24,248] (λv i wr=>∃ k:Nat,k<=n/\i=I k/\v=I ((q+gH (zs.take k):Nat):Int)/\wr=w) (λ_ i _=>n-(intOf i).toNat);case atStart=>exact ⟨0,FH _,rfl,rfl,rfl⟩
 case round =>
  obtain⟨k,s,rfl,rfl,rfl⟩:=hrel;have v:=r7 zs k;by_cases b:k<n
  ·obtain⟨g,rfl,f⟩:=R.out k (by rw [d.out];exact b);obtain⟨z,j⟩:∃ z,zs[k]?=some z:=⟨_,Fy (by rw [d.out];exact b)⟩;have l:=H (wh j);rw [j] at f;have B:wr.cell? ⟨g,k,none⟩=some (I z):=f;generalize gH (zs.take k)=p at v l ⊢;clear f j;by_cases e:0<=z
   ·have j:decide (z≥0)=true:=G8 e;have f:=H (show gH (zs.take (k+1))=p+1 from by rw [l.out,GP e]);clear e;go_wp2;go_roundw;(case rel=>exact ⟨k+1,Z,aY,by rw [f.out];go_num,trivial⟩);case measure=>simp [intOf];omega
   have j:decide (z≥0)=false:=GR e;have f:=H (show gH (zs.take (k+1))=p from by rw [l.out,GO e];rfl);clear e;go_wp2;go_roundw;(case rel=>exact ⟨k+1,Z,aY,by rw [f.out],trivial⟩);case measure=>simp [intOf];omega
  obtain rfl:k=n:=Z;rw [show zs.take k=zs from Ge (by rw [d.out];exact Fv _)];clear s;go_wp2_with fail;apply o.out;rfl
theorem Bh (w:World) (zs:List Int) (a:Option Addr) (n c:Nat) (S:zs.length=n) (W:n<=1000) (r:Rd1 .i64 w (.slice a n c) zs) (T:Tb w) (q:∀ z∈zs,∃ k:Nat,z=(k:Int)/\k<283/\∀ v,Dec ((k:Int)*1024) v->∃ d c s t p o:Int,v=pl d c s t p o/\d≠0/\d≠1) (K:Act->World->Prop) (Q:Exit->Act->World->Prop) (u0 u1 u2 u3 u4 u5 u6 u7 u8 u9 u10 u11 u12 u13 u14 u15 u16 u17 u18 u19 u20 u21 u22 u23 u24 u25 u26 u27 u28 u29 u30 u31 u32 u33 u34 u35 u36 u37 u38 u39 u40 u41 u42 u43 u44 u45 u46 u47 u48 u49 u50 u51 u52 u53 u54 u55 u56 u57 u58 u59 u60 u61 u62 u63 u64 u65 u66 u67 u68 u69 u70 u71 u72 u73 u74 u75 u76 u80 u81 u82 u83 u84 u85 u86 u87 u88 u89 u90 u91 u92 u93 u94 u95 u96 u97 u98 u99 u100 u101 u102 u103 u104 u105 u106 u107 u108 u109 u110 u111 u112 u113 u114 u115 u116 u117 u118 u119 u120 u121 u122 u123 u124 u125 u126 u127 u128 u129 u130 u131 u132 u133 u134 u135 u136 u137 u138 u139 u140 u141 u142 u143 u144 u145 u146 u147 u148 u149 u150 u151 u152 u153 u154 u155 u156 u157 u158 u159 u160 u161 u162 u163 u164 u165 u166 u167 u168 u169 u170 u171 u172 u173 u174 u175 u176 u177 u178 u179 u180 u181 u182 u183 u184 u185 u186 u187 u188 u189 u190 u191 u192 u193 u194 u195 u196 u197 u198 u199 u200 u201 u202 u203 u204 u205 u206 u207 u208 u209 u210 u211 u212 u213 u214 u215 u216 u217 u218 u219 u220 u221 u222 u223 u224 u225 u226 u227 u228 u229 u230 u231 u232 u233 u234 u235 u236 u237 u238 u239 u240 u241 u242 u243 u244 u245 u246 u247 u248 u249 u250 u251 u252 u253 u254 u255 u256 u257 u258 u259 u260:Value) (b:∀ (V e f g i j l m u x y A B F G L M N O P:Value) (R:World),Hid (D w R)->K ⟨#[u0,u1,V,u3,u4,u5,u6,u7,u8,u9,e,f,u12,u13,u14,u15,u16,u17,u18,u19,u20,u21,u22,u23,u24,u25,u26,u27,u28,u29,u30,u31,u32,u33,u34,u35,u36,u37,u38,u39,u40,u41,u42,u43,u44,u45,u46,u47,u48,u49,u50,u51,u52,u53,u54,u55,u56,u57,u58,u59,u60,u61,u62,u63,u64,u65,u66,u67,u68,u69,u70,u71,u72,u73,u74,u75,u76,.slice a n c,I n,g,i,j,l,m,u,x,y,A,B,F,G,L,M,N,O,P,u96,u97,u98,u99,u100,u101,u102,u103,u104,u105,u106,u107,u108,u109,u110,u111,u112,u113,u114,u115,u116,u117,u118,u119,u120,u121,u122,u123,u124,u125,u126,u127,u128,u129,u130,u131,u132,u133,u134,u135,u136,u137,u138,u139,u140,u141,u142,u143,u144,u145,u146,u147,u148,u149,u150,u151,u152,u153,u154,u155,u156,u157,u158,u159,u160,u161,u162,u163,u164,u165,u166,u167,u168,u169,u170,u171,u172,u173,u174,u175,u176,u177,u178,u179,u180,u181,u182,u183,u184,u185,u186,u187,u188,u189,u190,u191,u192,u193,u194,u195,u196,u197,u198,u199,u200,u201,u202,u203,u204,u205,u206,u207,u208,u209,u210,u211,u212,u213,u214,u215,u216,u217,u218,u219,u220,u221,u222,u223,u224,u225,u226,u227,u228,u229,u230,u231,u232,u233,u234,u235,u236,u237,u238,u239,u240,u241,u242,u243,u244,u245,u246,u247,u248,u249,u250,u251,u252,u253,u254,u255,u256,u257,u258,u259,u260],[]⟩ R) :
  Code.wp prog ((Tryz.f9.body.bind (iN 0)).getD .skip) (Exit.then K Q) ⟨#[u0,u1,u2,u3,u4,u5,u6,u7,u8,u9,u10,u11,u12,u13,u14,u15,u16,u17,u18,u19,u20,u21,u22,u23,u24,u25,u26,u27,u28,u29,u30,u31,u32,u33,u34,u35,u36,u37,u38,u39,u40,u41,u42,u43,u44,u45,u46,u47,u48,u49,u50,u51,u52,u53,u54,u55,u56,u57,u58,u59,u60,u61,u62,u63,u64,u65,u66,u67,u68,u69,u70,u71,u72,u73,u74,u75,u76,.slice a n c,I n,I 0,u80,u81,u82,u83,u84,u85,u86,u87,u88,u89,u90,u91,u92,u93,u94,u95,u96,u97,u98,u99,u100,u101,u102,u103,u104,u105,u106,u107,u108,u109,u110,u111,u112,u113,u114,u115,u116,u117,u118,u119,u120,u121,u122,u123,u124,u125,u126,u127,u128,u129,u130,u131,u132,u133,u134,u135,u136,u137,u138,u139,u140,u141,u142,u143,u144,u145,u146,u147,u148,u149,u150,u151,u152,u153,u154,u155,u156,u157,u158,u159,u160,u161,u162,u163,u164,u165,u166,u167,u168,u169,u170,u171,u172,u173,u174,u175,u176,u177,u178,u179,u180,u181,u182,u183,u184,u185,u186,u187,u188,u189,u190,u191,u192,u193,u194,u195,u196,u197,u198,u199,u200,u201,u202,u203,u204,u205,u206,u207,u208,u209,u210,u211,u212,u213,u214,u215,u216,u217,u218,u219,u220,u221,u222,u223,u224,u225,u226,u227,u228,u229,u230,u231,u232,u233,u234,u235,u236,u237,u238,u239,u240,u241,u242,u243,u244,u245,u246,u247,u248,u249,u250,u251,u252,u253,u254,u255,u256,u257,u258,u259,u260],[]⟩ w:=by
 have X:=H b;have L:=H S;obtain⟨a',c',e,f⟩:=r;injection e with Y g e3;subst Y e3;have R:=H f;have TB:=H T;have HD:=H q;clear b S f g T q
 conv=>arg 2;whnf
 go_wp2_with fail;go_loopw [79] (λi wr=>∃ j:Nat,j<=n/\i=I j/\Hid (D w wr)) (λi _=>n-(intOf i).toNat);case atStart=>exact ⟨0,FH _,rfl,H (Fu _ _)⟩
 case round =>
  obtain⟨j,hj,rfl,l⟩:=hrel;by_cases m:j<n
  ·obtain⟨g,rfl,u⟩:=R.out j (by rw [L.out];exact m);obtain⟨z,x⟩:∃ z,zs[j]?=some z:=⟨_,Fy (by rw [L.out];exact m)⟩;obtain⟨k,rfl,hk,f⟩:=HD.out z (FM x);rw [x] at u;have S:wr.cell? ⟨g,j,none⟩=some (I (k:Int)):=ad l u;have M:=H (show ∀ V,Tb V->Calls prog 19 #[U ((k:Int)*1024)] V λe y=>∃ d c s t p o:Int,e=.returned (pl d c s t p o)/\(d≠0/\d≠1)/\D V y from λV A=>by
    refine (iB ((k:Int)*1024) Z Z V A).mono ?_;rintro e y ⟨⟨v,q,rfl⟩,b⟩;obtain⟨d,c,s,t,p,o,rfl,B,F⟩:=f v q;exact⟨d,c,s,t,p,o,rfl,⟨B,F⟩,b⟩)
   have T:IntKind.u64.wrap (k:Int)=(k:Int):=(by rw [IntKind.wrap_u64];omega);have V:IntKind.u64.wrap ((k:Int)*1024)=(k:Int)*1024:=(by rw [IntKind.wrap_u64];omega);clear u x f;go_wp2_with fail;refine (M _ (TB.below l)).mono ?_;rintro e f ⟨d,u,x,y,A,B,rfl,⟨N,O⟩,F⟩;have P:=F.alloc F.size (.cells #[I d,I u,I x,I y,I A,I B] 58);have b:=H (az l P);have G:=H (ao f (.cells #[I d,I u,I x,I y,I A,I B] 58));have q1:(d==1)=false:=(by simp [O]);have q0:(d==0)=false:=(by simp [N]);clear F P M T V S l N O;unfold pl;(go_upto_region 16 with fail);generalize f.alloc (.cells #[I d,I u,I x,I y,I A,I B] 58)=F at b G ⊢;generalize f.heap.size=M at G ⊢;have N:F.cell? ⟨M,0,none⟩=some (I d):=bJ G.out;go_wp2;go_roundw;(case rel=>exact ⟨j+1,Z,aY,b⟩);case measure=>simp [intOf];omega
  go_wp2_with fail;apply X.out;exact l
theorem xm {z:Int} (a:zs[k]?=some z) (x:Int):(zs.take (k+1)).count x=(zs.take k).count x+(if z==x then 1 else 0):=by
 rw [F_,a,List.count_append];simp [List.count_singleton]
theorem wj (zs:List Int) (k:Nat) (x:Int):(zs.take k).count x<=k:=Fx List.count_le_length (by rw [Hm];omega)
theorem y8 (w:World) (zs:List Int) (a:Option Addr) (n L f c s j:Nat) (O:zs.length=n) (a0:n<=1000) (M:c<12) (P:s<6) (hj:j<aM c) (r:Rd1 .i64 w (.slice a n L) zs) (T:Tb w) (V:w.cell? ⟨f,0,none⟩=some (I c)) (X:w.cell? ⟨f,1,none⟩=some (I s)) (Y:w.cell? ⟨f,2,none⟩=some (I j)) (K:Act->World->Prop) (Q:Exit->Act->World->Prop) (hQ:∀ c (a:Act) (d:Option Tmp) v w,Q (.panic c) (a.put d v) w->Q (.panic c) a w) (u0 u1 u2 u3 u4 u5 u6 u7 u8 u9 u10 u11 u12 u13 u14 u15 u16 u17 u18 u19 u22 u23 u24 u25 u26 u27 u28 u29 u30 u31 u32 u33 u34 u35 u36 u37 u38 u39 u40 u41 u42 u43 u44 u45 u46 u47 u48 u49 u50 u51 u52 u53 u54 u55 u56 u57 u58 u59 u60 u61 u62 u63 u64 u65 u66 u67 u68 u69 u70 u71 u72 u73 u74 u75 u76 u77 u78 u79 u80 u81 u82 u83 u84 u85 u86 u87 u88 u89 u90 u91 u92 u93 u94 u95 u96 u97 u98 u99 u100 u101 u102 u103 u104 u105 u106 u107 u108 u109 u110 u111 u112 u113 u114 u115 u116 u117 u118 u119 u120 u121 u122 u123 u124 u125 u126 u127 u128 u129 u130 u131 u132 u133 u134 u135 u136 u137 u138 u139 u140 u141 u142 u143 u144 u145 u146 u147 u148 u149 u150 u151 u152 u153 u154 u155 u156 u157 u158 u159 u160 u161 u162 u163 u164 u165 u166 u167 u168 u169 u170 u171 u172 u173 u174 u175 u176 u177 u178 u179 u180 u181 u182 u183 u184 u185 u186 u187 u188 u189 u190 u191 u192 u193 u194 u195 u196 u197 u198 u199 u200 u201 u202 u203 u204 u205 u206 u207 u208 u209 u210 u214 u215 u216 u217 u218 u219 u220 u221 u222 u223 u224 u225 u226 u227 u228 u229 u230 u231 u232 u233 u234 u235 u236 u237 u238 u239 u240 u241 u242 u243 u244 u245 u246 u247 u248 u249 u250 u251 u252 u253 u254 u255 u256 u257 u258 u259 u260:Value) (b:∀ (N d e g i l m o p q t u x y z A B F G:Value) (R:World),Hid (D w R)->K ⟨#[u0,u1,u2,u3,u4,u5,u6,u7,u8,u9,u10,u11,u12,u13,u14,u15,u16,u17,u18,u19,J f 0,I ((zs.count ((s*aM c+j:Nat):Int):Nat):Int),u22,N,u24,u25,u26,u27,u28,u29,u30,u31,u32,u33,u34,u35,u36,u37,u38,u39,u40,u41,u42,u43,u44,u45,u46,u47,u48,u49,u50,u51,u52,u53,u54,u55,u56,u57,u58,u59,u60,u61,u62,u63,u64,u65,u66,u67,u68,u69,u70,u71,u72,u73,u74,u75,u76,u77,u78,u79,u80,u81,u82,u83,u84,u85,u86,u87,u88,u89,u90,u91,u92,u93,u94,u95,u96,u97,u98,u99,u100,u101,u102,u103,u104,u105,u106,u107,u108,u109,u110,u111,u112,u113,u114,u115,u116,u117,u118,u119,u120,u121,u122,u123,u124,u125,u126,u127,u128,u129,u130,u131,u132,u133,u134,u135,u136,u137,u138,u139,u140,u141,u142,u143,u144,u145,u146,u147,u148,u149,u150,u151,u152,u153,u154,u155,u156,u157,u158,u159,u160,u161,u162,u163,u164,u165,u166,u167,u168,u169,u170,u171,u172,u173,u174,u175,u176,u177,u178,u179,u180,u181,u182,u183,u184,u185,u186,u187,u188,u189,u190,u191,u192,u193,u194,u195,u196,u197,u198,u199,u200,u201,u202,u203,u204,u205,u206,u207,u208,u209,u210,.slice a n L,I n,d,e,g,i,l,m,o,p,q,t,u,x,y,z,A,B,F,G,u231,u232,u233,u234,u235,u236,u237,u238,u239,u240,u241,u242,u243,u244,u245,u246,u247,u248,u249,u250,u251,u252,u253,u254,u255,u256,u257,u258,u259,u260],[]⟩ R) :
  Code.wp prog ((Tryz.f9.body.bind (iN 8)).getD .skip) (Exit.then K Q) ⟨#[u0,u1,u2,u3,u4,u5,u6,u7,u8,u9,u10,u11,u12,u13,u14,u15,u16,u17,u18,u19,J f 0,I 0,u22,u23,u24,u25,u26,u27,u28,u29,u30,u31,u32,u33,u34,u35,u36,u37,u38,u39,u40,u41,u42,u43,u44,u45,u46,u47,u48,u49,u50,u51,u52,u53,u54,u55,u56,u57,u58,u59,u60,u61,u62,u63,u64,u65,u66,u67,u68,u69,u70,u71,u72,u73,u74,u75,u76,u77,u78,u79,u80,u81,u82,u83,u84,u85,u86,u87,u88,u89,u90,u91,u92,u93,u94,u95,u96,u97,u98,u99,u100,u101,u102,u103,u104,u105,u106,u107,u108,u109,u110,u111,u112,u113,u114,u115,u116,u117,u118,u119,u120,u121,u122,u123,u124,u125,u126,u127,u128,u129,u130,u131,u132,u133,u134,u135,u136,u137,u138,u139,u140,u141,u142,u143,u144,u145,u146,u147,u148,u149,u150,u151,u152,u153,u154,u155,u156,u157,u158,u159,u160,u161,u162,u163,u164,u165,u166,u167,u168,u169,u170,u171,u172,u173,u174,u175,u176,u177,u178,u179,u180,u181,u182,u183,u184,u185,u186,u187,u188,u189,u190,u191,u192,u193,u194,u195,u196,u197,u198,u199,u200,u201,u202,u203,u204,u205,u206,u207,u208,u209,u210,.slice a n L,I n,I 0,u214,u215,u216,u217,u218,u219,u220,u221,u222,u223,u224,u225,u226,u227,u228,u229,u230,u231,u232,u233,u234,u235,u236,u237,u238,u239,u240,u241,u242,u243,u244,u245,u246,u247,u248,u249,u250,u251,u252,u253,u254,u255,u256,u257,u258,u259,u260],[]⟩ w:=by
 have B:=H b;have d:=H hQ;have x:=H O;obtain⟨a',c',e,i⟩:=r;injection e with e1 l e3;subst e1 e3;have R:=H i;have TB:=H T;have Z0:=H V;have Z1:=H X;have Z2:=H Y;have y:aM c<=64:=(show ∀ c,c<12->aM c<=64 by decide) c M;have SS:=H (λW (a:Tb W)=>(gK (c:Int) W a));have A:=H (vA M);have hm:s*aM c<=400:=Fx (Nat.mul_le_mul (Nat.le_of_lt_succ P) y) ar;obtain⟨t,g⟩:∃ t,s*aM c=t:=⟨_,rfl⟩;rw [g] at B hm;have HT:=H g;clear b hQ O i l T V X Y M P g
 conv=>arg 2;whnf
 go_wp2_with fail;go_loopw [21,213] (λv i wr=>∃ k:Nat,k<=n/\i=I k/\v=I (((zs.take k).count ((t+j:Nat):Int):Nat):Int)/\Hid (D w wr)) (λ_ i _=>n-(intOf i).toNat);case atStart=>exact ⟨0,FH _,rfl,rfl,H (Fu _ _)⟩
 case round =>
  obtain⟨k,X,rfl,rfl,m⟩:=hrel;have F:=wj zs k ((t+j:Nat):Int);by_cases q:k<n
  ·obtain⟨g,rfl,b⟩:=R.out k (by rw [x.out];exact q);obtain⟨z,l⟩:∃ z,zs[k]?=some z:=⟨_,Fy (by rw [x.out];exact q)⟩;have u:=H (xm l ((t+j:Nat):Int));rw [l] at b;have Y:wr.cell? ⟨g,k,none⟩=some (I z):=ad m b;generalize (zs.take k).count ((t+j:Nat):Int)=p at F u ⊢;have wm:IntKind.i64.wrap ((s:Int)*((aM c:Nat):Int))=((t:Nat):Int):=(by rw [Hh,<-Int.natCast_mul,HT.out];omega);have wa:IntKind.i64.wrap (((t:Nat):Int)+(j:Int))=((t+j:Nat):Int):=(by rw [Hh];omega);have G:=ad m Z0.out;have M:=ad m Z1.out;have N:=ad m Z2.out;clear b l;(go_upto_region 44 with fail);refine rh (S:=λa=>D wr a/\a.cell? ⟨f,0,none⟩=some (I c)/\a.cell? ⟨f,1,none⟩=some (I s)/\a.cell? ⟨f,2,none⟩=some (I j)) ?_;have l:=(show _/\_/\_/\_ from ⟨(Fu wr.heap.size wr).drew,G,M,N⟩);refine pk 0 (I z) l ?_ (hQ:=λ_ _ _ h=>d.out _ _ _ _ _ h)
   (try simp only [lz,l0,ls]);refine pk 1 (J f 1) l ?_ (hQ:=λ_ _ _ h=>d.out _ _ _ _ _ h)
   (try simp only [lz,l0,ls]);refine pz 2 (I s) l ?_ (hQ:=λ_ _ _ h=>d.out _ _ _ _ _ h)
   (try simp only [lz,l0,ls]);refine pk 3 (J f 0) l ?_ (hQ:=λ_ _ _ h=>d.out _ _ _ _ _ h)
   (try simp only [lz,l0,ls]);refine pz 4 (I c) l ?_ (hQ:=λ_ _ _ h=>d.out _ _ _ _ _ h)
   (try simp only [lz,l0,ls]);refine pk 7 (J f 2) l ?_ (hQ:=λ_ _ _ h=>d.out _ _ _ _ _ h)
   (try simp only [lz,l0,ls]);refine pz 8 (I j) l ?_ (hQ:=λ_ _ _ h=>d.out _ _ _ _ _ h)
   (try simp only [lz,l0,ls]);refine po 5 λK' O=>?_;go_simp;refine (SS _ ((TB.below m).below l.1)).mono ?_;rintro e V ⟨rfl,rfl⟩;rw [A.out];have o:=l;refine O _ _ ⟨o,?_⟩;refine pz 6 (I ((t:Nat):Int)) o ?_ (hQ:=λ_ _ _ h=>d.out _ _ _ _ _ h)
   (try simp only [lz,l0,ls]);refine pz 9 (I ((t+j:Nat):Int)) o ?_ (hQ:=λ_ _ _ h=>d.out _ _ _ _ _ h)
   (try simp only [lz,l0,ls]);refine pk 10 (.bool (z==((t+j:Nat):Int))) o ?_ (hQ:=λ_ _ _ h=>d.out _ _ _ _ _ h)
   (try simp only [lz,l0,ls]);refine bY ?_;have P:=H (az m o.1);obtain⟨b,T⟩:∃ b,(z==((t+j:Nat):Int))=b:=⟨_,rfl⟩;rw [T] at u ⊢;clear l o m O K' G M N wm wa T Y;cases b with
   | true =>
    have l:=H (show (zs.take (k+1)).count ((t+j:Nat):Int)=p+1 from u);go_wp2;go_roundw;(case rel=>exact ⟨k+1,Z,aY,by rw [l.out];go_num,P⟩);case measure=>simp [intOf];omega
   | false =>
    have l:=H (show (zs.take (k+1)).count ((t+j:Nat):Int)=p from u);go_wp2;go_roundw;(case rel=>exact ⟨k+1,Z,aY,by rw [l.out],P⟩);case measure=>simp [intOf];omega
  obtain rfl:k=n:=Z;rw [show zs.take k=zs from Ge (by rw [x.out];exact Fv _)];clear X F;go_wp2_with fail;apply B.out;exact m
theorem uc:(prog.info? 3).map (λi=>(i.zero,i.size,i.bytes))=some (some (I 0),1,8):=E
theorem nD {B:Nat} {v:Value} {d:List Int} (f:W.ownsRow B 3 1 v d.length (Ns .i64 d)) {a:Option Addr} (r:Rd1 .i64 W (.slice a zs.length c) zs) (ha:a=none->c=0) (Q:d.length+zs.length<=100000) (G:B<=W.heap.size) :
  ∃ (i:Option Addr) (k:Nat) (l:World),(Builtin.append_ #[24,24] 24 #[v,.slice a zs.length c]).run prog W=.ok (.slice i (d.length+zs.length) k) l/\l.ownsRow B 3 1 (.slice i (d.length+zs.length) k) (d.length+zs.length) (Ns .i64 (d++zs))/\W.grownBy l v.ownBlock:=by
 obtain⟨F,m,o,q,s⟩:=G0 uc;obtain⟨R,S,e,K⟩:=r;injection e with L T M;subst L M;have n:∀ {t:Value} {l:World},l.ownsRow B 3 1 t (d.length+zs.length) (Ns .i64 (d++zs))->∃ i k,t=.slice i (d.length+zs.length) k:=λh=>by
  obtain⟨a,b,c,rfl⟩:=fW h;obtain rfl:=ik h;exact⟨a,c,rfl⟩
 have N:Ns .i64 (d++zs)=Ns .i64 d++Ns .i64 zs:=by simp [Ns]
 cases zs with
 | nil =>
  cases a with
  | none =>
   obtain rfl:=ha rfl;have f2:W.ownsRow B 3 1 v (d.length+([]:List Int).length) (Ns .i64 (d++[])):=(by simpa using f);obtain⟨i,k,rfl⟩:=n f2;exact⟨i,k,W,run_append_owned_none (P:=prog) (w:=W) B 24 24 3 F 1 underlying24 m _ _ _ f,f2,⟨rfl,rfl,rfl,Fv _,λ_ _ _=>rfl⟩⟩
  | some p =>
   obtain⟨t,l,f1,f2,f3,_⟩:=run_append_own_at (P:=prog) W B 24 24 3 F _ 1 8 underlying24 m o q s rfl Z v _ _ f p 0 c [] rfl (λj u y=>by simp at y) (λu A=>by cases A) (by unfold maxLen;omega) Z G;have f4:l.ownsRow B 3 1 t (d.length+([]:List Int).length) (Ns .i64 (d++[])):=(by simpa using f2);obtain⟨i,k,rfl⟩:=n f4;exact⟨i,k,l,f1,f4,f3⟩
 | cons z r =>
  obtain⟨g,rfl,_⟩:=K 0 bH;obtain⟨t,l,f1,f2,f3,_⟩:=run_append_own_at (P:=prog) W B 24 24 3 F _ 1 8 underlying24 m o q s rfl Z v _ _ f ⟨g,0,none⟩ (z::r).length c (Ns .i64 (z::r)) (by rw [bv,Nat.mul_one]) (λj u y=>by
   have b:=(Fz.1 y).1;rw [bv] at b;obtain⟨V,p,x⟩:=K j b;injection p with p;injection p with p;subst p;have O:(⟨g,0,none⟩:Addr).add j=⟨g,j,none⟩:=(by cases j <;> simp [Addr.add]);rw [O,x,<-y];unfold Ns;rw [Gv,Fy b];rfl) (λu A=>by simp only [Ns,FQ] at A;obtain ⟨_,_,rfl⟩:=A;rfl) (by unfold maxLen;omega) Z G
  rw [<-N] at f2;obtain⟨i,k,rfl⟩:=n f2;exact⟨i,k,l,f1,f2,f3⟩
theorem jx (t:TypeId) (d:Tmp) {o:Oper} {a:Act} {c:World} {K:Act->World->Prop} {Q:Exit->Act->World->Prop} (s x:Operand) {v e f:Value} (b:o.op=.call { callee:=.builtin .append,args:=#[s,x],argTypes:=#[t,t] }) (g:o.type=t) (i:a.eval s=v) (j:a.eval x=e) (k:o.dst=some d)
  (l:(Builtin.append_ #[t,t] t #[v,e]).run prog W=.ok f c) (m:K { a with tmps:=a.tmps.setIfInBounds d f } c):Oper.wp prog o a W K Q :=
 aV t s x b g i j l (by unfold Act.put;rw [k];exact m)
end
end Go.Proofs.YtdngbppdomoenaaGreatDoor
