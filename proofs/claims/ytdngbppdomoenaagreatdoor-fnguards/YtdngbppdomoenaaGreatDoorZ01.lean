import Derived.Test.YtdngbppdomoenaaGreatDoorZ00
import Derived.Test.YtdngbppdomoenaaGreatDoorN41
import Derived.Test.YtdngbppdomoenaaGreatDoorN44
set_option linter.unusedVariables false
set_option linter.unusedSimpArgs false
set_option maxRecDepth 20000
set_option maxHeartbeats 8000000
namespace Go.Proofs.YtdngbppdomoenaaGreatDoor
open Go.Proofs.Tryz
variable {W w:World} {B e n:Nat} {v:Value} {cf:Cf} {h:Hs}
section
open Go.RowKit Go.Shelf Go.Maps
theorem IU {w'} (h:D w w') {g:Nat} {o:Obj} (a:w.heap[g]?=some o):w'.heap[g]?=some o:=by rw [h.block g (ag a)];exact a
theorem Od6.bel {q W'} (h:Od6 B q W) (b:D W W'):Od6 B q W':=⟨h.p,h.a,h.b,by
 rcases h.d.2 with a|⟨g,e,c,f,a,d,i⟩
 ·exact⟨h.d.1,.inl a⟩
 ·exact⟨h.d.1,.inr ⟨g,e,c,f,a,by rw [b.block g (ag d)];exact d,i⟩⟩,h.r,h.y⟩
def AJ : Prop := ∀ (mi fi la bu ky : Int) (da : Option Addr) (dn dc : Nat) (A : Option Addr) (n cap : Nat) (w : World), ¬ (jg mi fi la bu dn/\n<=300) ->
 Calls prog 12 #[.agg #[.int .i64 mi, .int .i64 fi, .int .i64 la, .int .i64 bu, .int .u64 ky, .slice da dn dc], .slice A n cap] w λe W' => e=.returned (.agg #[.bool false, .slice none 0 0, .int .i64 0, .slice none 0 0, .slice none 0 0, .slice none 0 0, .slice none 0 0, .slice none 0 0, .slice none 0 0, .int .i64 0])/\D w W'
theorem Ois.low {V A ops} (h:Ois w A ops) (b:D w V):Ois V A ops :=
 ⟨λk q a=>by obtain ⟨G,c,d,e⟩:=h.at_ k q a;exact⟨G,c,FG d b.size,λj u f=>ad b (e j u f)⟩,h.wf,λq a i g=>by obtain ⟨x,c,d,e⟩:=h.dat q a i g;exact⟨x,c,ad b d,FG e b.size⟩⟩
theorem ER (V) (k:Nat):D V (V.drewN k):=⟨rfl,rfl,rfl,Fv _,λ_ _=>rfl⟩
theorem uw {b c d e f g i j k:Value} (a:∀ v∈[b,c,d,e,f,g,i,j,k],v.oneCell'=true):(#[.bool true,b,c,d,e,f,g,i,j,k]:Array Value).all (·.oneCell')=true:=by
 have h:=a;simp only [F4,Gp,or_false,forall_eq_or_imp,forall_eq] at h;obtain⟨l,m,n,o,p,q,r,s,t⟩:=h;rw [<-Array.all_toList];simp only [List.all_cons,List.all_nil,Bool.and_true,Gi];exact⟨rfl,l,m,n,o,p,q,r,s,t⟩
def Re (w:World) (v:Value) (n sz:Nat) (e:Nat->List Value):Prop:=∃ a c,v=.slice a n c/\∀ k,k<n->(e k).length=sz/\∃ g,a=some ⟨g,0,none⟩/\w.rangeAt g (k*sz) (e k)
theorem Re.below {sz Cq9} (h:Re w v n sz Cq9) (b:D w W):Re W v n sz Cq9:=by
 obtain⟨a,c,e,h⟩:=h;exact⟨a,c,e,λk d=>by obtain ⟨f,g,i,l⟩:=h k d;exact⟨f,g,i,λj v m=>ad b (l j v m)⟩⟩
theorem Re.sl {sz Cq9} (h:Re w v n sz Cq9):∃ a b c,v=.slice a b c:=by obtain ⟨a,c,e,_⟩:=h;exact⟨_,_,_,e⟩
theorem pq {sz:Nat} {b:List Value} (h:w.ownsRow B e sz v n b):Re w v n sz (λk=>(b.drop (k*sz)).take sz):=by
 rcases h.2 with ⟨rfl,rfl⟩|⟨g,d,f,rfl,o,i,p,q,r,l⟩;·exact⟨none,0,rfl,λk c=>Z⟩
 have m:=h.1;refine⟨_,_,rfl,λk c=>⟨?_,g,rfl,λj u a=>?_⟩⟩;·rw [Hm,List.length_drop,m];have:(k+1)*sz<=n*sz:=Gm _ c;rw [Gy] at this;omega
 rw [GT _ _ _ _ _ _ i];rw [Gx] at a;split at a
 ·rw [IR,<-l] at a;rw [Gx] at a;split at a;·simpa using a
  cases a
 cases a
theorem jN {k} {u:Value} {zs} (h:w.ownsRow B e 1 u n (Ns k zs)):Rd1 k w u zs:=by
 have b:zs.length=n:=by have:=h.1;rw [bv] at this;omega
 rcases h.2 with ⟨rfl,d⟩|⟨g,a,f,rfl,_⟩;·exact⟨none,0,by rw [b,d],λi c=>Z⟩
 refine⟨some ⟨g,0,none⟩,a,by rw [b],λi c=>⟨g,rfl,bC h i _ ?_⟩⟩;simp [Ns,c]
theorem tx {u:Value} {l} (h:w.ownsRow B e 1 u n (Us l)):Rd1 .u64 w u (l.map (λx:Nat=>(x:Int))):=by
 refine jN (B:=B) (e:=e) (n:=n) ?_;have a:Ns .u64 (l.map (λx:Nat=>(x:Int)))=Us l:=by simp [Ns,Us]
 rw [a];exact h
theorem p5 {k g zs} (h:RowV w g e (Ns k zs)) (c):Rd1 k w (Vl g zs.length c) zs:=⟨_,_,rfl,λi a=>⟨g,rfl,jZ h i a⟩⟩
theorem oC {α:Type} (f:α->List Value) (sz:Nat) (a:∀ x,(f x).length=sz):∀ (l:List α) (k:Nat) (x:α),l[k]?=some x->((l.flatMap f).drop (k*sz)).take sz=f x
 | [],k,x,h=>by simp at h
 | y::r,0,x,h=>by
  simp at h
  subst h
  rw [If,Nat.zero_mul,IE,<-a y,List.take_left]
 | y::r,k+1,x,h=>by
  rw [If,show (k+1)*sz=(f y).length+k*sz by rw [a,Gy];omega,List.drop_append]
  simp only [Nat.add_sub_cancel_left,List.drop_eq_nil_of_le (Nat.le_add_right (f y).length (k*sz)),FV]
  exact oC f sz a r k x (by simpa using h)
theorem xe {V vo} {a:List (Nat×Nat)} {vw} (d:a.length=12) (w:Wt9 cf h B vo a vw V) :
  ∃ b,Re V vw 12 3 b/\∀ k,k<12->∃ u1 u2,b k=[u1,u2,I cf.fifo]/\Rd1 .i64 V u1 (h.mx k)/\Rd1 .i64 V u2 (h.ff k)/\∀ n c,u1≠.slice none n c/\u2≠.slice none n c:=by
 have b:=w.row;rw [d] at b;refine⟨_,pq b,λk f=>?_⟩;have e:a[k]?=some a[k]:=Fy Z;have c:a.zipIdx[k]?=some (a[k],k):=by rw [List.getElem?_zipIdx,e];simp
 exact⟨_,_,oC (λx:(Nat×Nat)×Nat=>E_ cf h x.2 x.1) 3 (λ_=>rfl) a.zipIdx k _ c,p5 (w.at_ k _ e).1 _,p5 (w.at_ k _ e).2.1 _,λ_ _=>⟨λh=>(by injection h with h;cases h),λh=>(by injection h with h;cases h)⟩⟩
def Mt (cf:Cf) (h:Hs) (W:World) (t z l u A v i j:Value):Prop:=∃ (rs:List Rg9) (e:List Nat) (Cq:Nat->List Value),t=I (bz h.m 283:Nat)/\j=I h.used/\(rs.Perm h.rg/\rs.Pairwise (λa b=>a.base<=b.base))/\(e.Perm h.rel/\e.Pairwise (λa b=>a<=b))/\Rd1 .i64 W z (bw h.m 283)/\Re W l (I1 h 12).length 5 (λk=>((fP h (I1 h 12)).drop (k*5)).take 5)/\Re W u 12 3 Cq/\(∀ k,k<12->∃ u1 u2,Cq k=[u1,u2,I cf.fifo]/\Rd1 .i64 W u1 (h.mx k)/\Rd1 .i64 W u2 (h.ff k)/\∀ n c,u1≠.slice none n c/\u2≠.slice none n c)/\Re W A rs.length 5 (λk=>((dH rs).drop (k*5)).take 5)/\Rd1 .u64 W v (h.row.map (λx:Nat=>(x:Int)))/\Rd1 .u64 W i (e.map (λx:Nat=>(x:Int)))
theorem Mt.low {W' m0 m1 m2 m3 m4 m5 m6 m7} (t:Mt cf h W m0 m1 m2 m3 m4 m5 m6 m7) (b:D W W'):Mt cf h W' m0 m1 m2 m3 m4 m5 m6 m7:=by
 obtain⟨rs,c,Cq,d,f,g,i,o,s,q,j,r,l,e⟩:=t;exact⟨rs,c,Cq,d,f,g,i,o.below b,s.below b,q.below b,λk m=>by obtain ⟨u1,u2,n,p,a⟩:=j k m;exact⟨u1,u2,n,p.below b,a.1.below b,a.2⟩,r.below b,l.below b,e.below b⟩
def x7:Prop:=∀ (cf:Cf) (da:Option Addr) (dc:Nat) (A:Option Addr) (cap:Nat) (i:List df) (w:World),mE cf->1<=cf.large->Tb w->Sl w da cf.ds->(∀ a,da=some a->a.block<w.heap.size)->0<w.heap.size->Ois w A i->(∀ q∈i,q.o.ys.length<=q.dc /\ -9223372036854775808<=q.o.ref/\∀ y∈q.o.ys,0<=y/\y<=255)->i.length<=300 ->
 Calls prog 11 #[gZ cf da dc,.slice A i.length cap] w λe W'=>∃ (l:List Aw) (K B N u F O L j t:Value),e=.returned (.agg #[.bool true,K,B,N,u,F,O,L,j,t])/\(∀ v∈[K,B,N,u,F,O,L,j,t],v.oneCell'=true)/\l.map (·.1)=(bd cf (i.map df.o) (aP cf) []).2/\W'.ownsRow w.heap.size 44 4 K l.length (fZ l)/\(∀ z∈l,W'.ownsRow w.heap.size 5 1 z.2 z.1.data.length (Ns .u8 z.1.data))/\D w W'/\Mt cf (bd cf (i.map df.o) (aP cf) []).1 W' B N u F O L j t
theorem p6 {m} (f:Fine m):∀ k,bz m k=(bw m k).length
 | 0=>rfl
 | k+1=>by
  have a:=p6 f k
  simp only [bz,bw]
  cases e:m k with
  | none=>simp [isOpen,a]
  | some q =>
   have h:=(f k q e).1
   obtain⟨b,l⟩:=q
   simp at h
   subst h
   simp [isOpen,a]
theorem p7 {q:Option (Bool×List Int)} (h:isOpen q=true):q.isSome=true:=by
 cases q with
 | none=>cases h
 | some q=>rfl
theorem qP (b:Inv cf h) {k:Nat} (m:k<283) (j:isOpen (h.m k)=true) (i:Dec ((k*1024:Nat):Int) v):∃ a c s t p o:Int,v=pl a c s t p o/\a≠0/\a≠1:=by
 by_cases n:187<=k;·have:=Dec.one i (.large _ Z Z);exact⟨_,_,_,_,_,_,this,ar,ar⟩
 obtain⟨c,s,a,o,d,f⟩:=b.low k Z (p7 j);have g:Hit (((k*1024:Nat):Int)/1024) (c:Int) (s:Int):=by
  unfold aD at d f;have e:((k*1024:Nat):Int)/1024=(k:Int):=Z;rw [e];refine⟨Z,Z,Z,Z,?_,?_⟩;·rw [v3 a,pU a];exact_mod_cast d
  rw [v3 a,pU a];have:k<=yJ c+s*(dI c+1)+dI c:=Z
  exact_mod_cast this
 have p:1<=k:=by
  have l:∀ c,c<12->1<=yJ c:=ar;have q:=l c a;unfold aD at d;omega
 have e:=Dec.one i (.slab _ _ _ Z Z g);rw [v3 a,pU a] at e;unfold aD at d f;have l:((k*1024:Nat):Int)-(((yJ c:Nat):Int)+(s:Int)*(((dI c:Nat):Int)+1))*1024<((dI c:Nat):Int)*1024:=by
  have q:(k:Int)<((yJ c:Nat):Int)+(s:Int)*(((dI c:Nat):Int)+1)+((dI c:Nat):Int):=by exact_mod_cast f
  omega
 unfold zT at e;rw [pU a,GO Z] at e;split at e;·exact⟨_,_,_,_,_,_,e,ar,ar⟩
 exact⟨_,_,_,_,_,_,e,ar,ar⟩
def setP (zs:List Int):List Value:=(List.range 283).map λk:Nat=>.bool (decide ((k:Int)∈zs))
theorem de (zs):(setP zs).length=283:=by simp [setP]
theorem gJ (zs) {k:Nat} (a:k<283):(setP zs)[k]?=some (.bool (decide ((k:Int)∈zs))):=by simp [setP,a]
theorem qI (zs) (k:Nat) (b:k<283):(setP zs).set k (.bool true)=setP (zs++[(k:Int)]):=by
 apply Ho;intro j;by_cases a:j<283
 ·rw [gJ _ a,Gr];by_cases e:k=j;·subst e;rw [GP rfl,GP (by rw [de];exact b)];simp
  rw [GO e,gJ _ a];congr 2;rw [decide_eq_decide];simp only [F8,List.mem_singleton];constructor;·exact .inl
  rintro (h|h);·exact h
  omega
 rw [FJ (by rw [Gj,de];omega),FJ (by rw [de];omega)]
theorem uE:(prog.info? 4).map (λi=>(i.zero,i.size,i.bytes))=some (some (.bool false),1,1):=E
theorem qG (v:Value) (b:List Int) (w:World) (r:Rd1 .i64 w v b) (f:∀ z∈b,0<=z/\z<283) (Q:b.length<=1000) :
  Calls prog 23 #[v] w λe M=>∃ G,e=.returned (Vl G 283 283)/\RowV M G 4 (setP b)/\D w M:=by
 obtain⟨S,T,s,t,u⟩:=G0 uE;obtain⟨a,c,rfl,g⟩:=r;have R:=H g;have V:=H f;have i:=H mA;obtain⟨n,d⟩:∃ n,b.length=n:=⟨_,rfl⟩;rw [d] at Q ⊢;have x:=H d;clear g f d;go_enter func23,ntmps23;go_wp2_with fail;refine (i _).mono ?_;rintro e m ⟨rfl,d⟩;have g:=H d;clear d i;go_wp2_with (at_make;refine wpList_make_full _ rfl _ _ 62 rfl m.heap.size 4 S (.bool false) 1 underlying62 T s t .i64 .i64 _ _ 283 rfl rfl rfl rfl ?c1 ?c2 ?c3 ?_);case c1=>rw [u];omega
 case c2=>unfold maxLen;omega
 case c3=>exact Fv _
 intro W f d;have i:RowV W m.heap.size 4 (setP []):=by
  have:=RowV.ofOwns f;have e:setP []=List.replicate 283 (.bool false):=by
   unfold setP;simp only [Gp,decide_false];rw [List.map_const',GG]
  rw [e];simpa [Ii,Value.cells] using this
 have N:=H (az g ((Fu _ m).grown d (Fv _) bH));have y:=H i;have O:=H g.size;clear f d i g;generalize m.heap.size=G at y O ⊢;go_wp2_with fail;go_loopw [10] (λi wr=>∃ j:Nat,j<=n/\i=I j/\Hid (RowV wr G 4 (setP (b.take j)))/\Hid (D w wr)) (λi _=>n-(intOf i).toNat);case atStart=>exact ⟨0,FH _,rfl,y,N⟩
 case round =>
  obtain⟨j,X,rfl,f,o⟩:=hrel;clear y N;by_cases l:j<n
  ·obtain⟨g,rfl,A⟩:=R.out j (by rw [x.out];exact l);obtain⟨z,d⟩:∃ z,b[j]?=some z:=⟨_,Fy (by rw [x.out];exact l)⟩;have B:=V.out z (FM d);obtain⟨k,rfl⟩:∃ k:Nat,z=(k:Int):=⟨z.toNat,Z⟩;rw [d] at A;have Y:wr.cell? ⟨g,j,none⟩=some (I (k:Int)):=ad o A;have q:k<283:=Z;have P:=f.cell k (by rw [de];exact q);rw [gJ _ q] at P;have y2:=f.free k;have F:=f.set k (by rw [de];exact q) (.bool true);rw [qI _ _ q,show b.take j++[(k:Int)]=b.take (j+1) from by rw [F_,d];rfl] at F;have K:=H F;have L:=H (o.setCell (p:=⟨G,k,none⟩) O (.bool true));have d1:decide ((k:Int)≥0)=true:=G8 Z;generalize decide ((k:Int)∈b.take j)=bb at P;clear A d B F f o;go_wp2;go_roundw;(case rel=>exact ⟨j+1,Z,aY,K,L⟩);case measure=>simp [intOf];omega
  obtain rfl:j=n:=Z;rw [show b.take j=b from Ge (by rw [x.out];exact Fv _)] at f;clear X;go_wp2;go_ret;exact⟨G,rfl,f,o⟩
theorem y6 (w zs G) (a bp f x:Nat) (st) (r:f+x<=283) (b:RowV w G 4 (setP zs)) (s:w.cell? ⟨a,1,none⟩=some (I f)) (t:w.cell? ⟨a,2,none⟩=some (I x)) (u:w.cell? ⟨a,3,none⟩=some (I st)) (ho:∀ k,f<=k->k<f+x->decide ((k:Int)∈zs)=((st==1)&&decide ((k:Int)≥(bp:Int))&&decide ((k:Int)<(f:Int)+(x:Int)-1))) (K:Act->World->Prop) (Q:Exit->Act->World->Prop) (u0 u1 u2 u3 u4 u5 u6 u7 u9 u10 u11 u12 u13 u17 u18 u19 u20 u21 u22 u23 u24 u25 u26 u27 u28 u29 u30 u31 u32 u33 u34 u35 u36 u37 u38 u39 u40 u41 u42 u43 u44 u45 u46 u47 u48 u49 u50 u51 u52 u53 u54 u55 u56 u57 u58 u59 u60 u61 u62 u63 u64 u65 u66 u67 u68 u69 u70 u71 u72 u73 u74 u75 u76 u77 u78 u79 u80 u81 u82 u83 u84 u85 u86 u87 u88 u89 u90 u91 u92 u93 u94 u95 u96 u97 u98 u99 u100 u101 u102 u103 u104 u105 u106 u107 u108 u109 u110 u111 u112 u113 u114 u115 u116 u117 u118 u119 u120 u121 u122 u123 u124 u125 u126 u127 u128 u129 u130 u131 u132 u133 u134 u135 u136 u137 u138 u139 u140 u141 u142 u143 u144 u145 u146 u147 u148 u149 u150 u151 u152 u153 u154 u155 u156 u157 u158 u159 u160 u161 u162 u163 u164 u165 u166 u167 u168 u169 u170 u171 u172 u173 u174 u175 u176 u177 u178 u179 u180 u181 u182 u183 u184 u185 u186 u187 u188 u189 u190 u191 u192 u193 u194 u195 u196 u197 u198 u199 u200 u201 u202 u203 u204 u205 u206 u207 u208 u209 u210 u211 u212 u213 u214 u215 u216 u217 u218 u219 u220 u221 u222 u223 u224 u225 u226 u227 u228 u229 u230 u231 u232 u233 u234 u235 u236 u237 u238 u239 u240 u241 u242 u243 u244 u245 u246 u247 u248 u249 u250 u251 u252 u253 u254 u255 u256 u257 u258 u259 u260:Value) (c:∀ (v2 a0 a1 d e g i j l m n o p q r s t u v y z A B F L M N O P R S T V W X Y:Value) (w':World),w'=w->K ⟨#[u0,u1,v2,u3,u4,u5,u6,u7,Vl G 283 283,u9,u10,u11,u12,u13,J a 0,I bp,a0,a1,u18,u19,u20,u21,u22,u23,u24,u25,u26,u27,u28,u29,u30,u31,u32,u33,u34,u35,u36,u37,u38,u39,u40,u41,u42,u43,u44,u45,u46,u47,u48,u49,u50,u51,u52,u53,u54,u55,u56,u57,u58,u59,u60,u61,u62,u63,u64,u65,u66,u67,u68,u69,u70,u71,u72,u73,u74,u75,u76,u77,u78,u79,u80,u81,u82,u83,u84,u85,u86,u87,u88,u89,u90,u91,u92,u93,u94,u95,u96,u97,u98,u99,u100,u101,u102,u103,u104,u105,u106,u107,u108,u109,u110,u111,u112,u113,u114,u115,u116,u117,u118,u119,u120,u121,u122,u123,u124,u125,u126,u127,u128,u129,u130,u131,u132,u133,u134,u135,u136,u137,u138,u139,u140,u141,u142,u143,u144,d,e,g,i,j,l,m,n,o,p,q,r,s,t,u,v,y,z,A,B,F,L,M,N,O,P,R,S,T,V,W,X,Y,u178,u179,u180,u181,u182,u183,u184,u185,u186,u187,u188,u189,u190,u191,u192,u193,u194,u195,u196,u197,u198,u199,u200,u201,u202,u203,u204,u205,u206,u207,u208,u209,u210,u211,u212,u213,u214,u215,u216,u217,u218,u219,u220,u221,u222,u223,u224,u225,u226,u227,u228,u229,u230,u231,u232,u233,u234,u235,u236,u237,u238,u239,u240,u241,u242,u243,u244,u245,u246,u247,u248,u249,u250,u251,u252,u253,u254,u255,u256,u257,u258,u259,u260],[]⟩ w') :
  Code.wp prog ((Tryz.f9.body.bind (iN 4)).getD .skip) (Exit.then K Q) ⟨#[u0,u1,u2,u3,u4,u5,u6,u7,Vl G 283 283,u9,u10,u11,u12,u13,J a 0,I bp,I f,u17,u18,u19,u20,u21,u22,u23,u24,u25,u26,u27,u28,u29,u30,u31,u32,u33,u34,u35,u36,u37,u38,u39,u40,u41,u42,u43,u44,u45,u46,u47,u48,u49,u50,u51,u52,u53,u54,u55,u56,u57,u58,u59,u60,u61,u62,u63,u64,u65,u66,u67,u68,u69,u70,u71,u72,u73,u74,u75,u76,u77,u78,u79,u80,u81,u82,u83,u84,u85,u86,u87,u88,u89,u90,u91,u92,u93,u94,u95,u96,u97,u98,u99,u100,u101,u102,u103,u104,u105,u106,u107,u108,u109,u110,u111,u112,u113,u114,u115,u116,u117,u118,u119,u120,u121,u122,u123,u124,u125,u126,u127,u128,u129,u130,u131,u132,u133,u134,u135,u136,u137,u138,u139,u140,u141,u142,u143,u144,u145,u146,u147,u148,u149,u150,u151,u152,u153,u154,u155,u156,u157,u158,u159,u160,u161,u162,u163,u164,u165,u166,u167,u168,u169,u170,u171,u172,u173,u174,u175,u176,u177,u178,u179,u180,u181,u182,u183,u184,u185,u186,u187,u188,u189,u190,u191,u192,u193,u194,u195,u196,u197,u198,u199,u200,u201,u202,u203,u204,u205,u206,u207,u208,u209,u210,u211,u212,u213,u214,u215,u216,u217,u218,u219,u220,u221,u222,u223,u224,u225,u226,u227,u228,u229,u230,u231,u232,u233,u234,u235,u236,u237,u238,u239,u240,u241,u242,u243,u244,u245,u246,u247,u248,u249,u250,u251,u252,u253,u254,u255,u256,u257,u258,u259,u260],[]⟩ w:=by
 have m:=H c;have n:=H b;have o:=H ho;clear c b ho
 conv=>arg 2;whnf
 go_wp2_with fail;go_loopw [16] (λi wr=>∃ k:Nat,f<=k/\k<=f+x/\i=I k/\wr=w) (λi _=>f+x-(intOf i).toNat);case atStart=>exact ⟨f,Fv _,Z,rfl,rfl⟩
 case round =>
  obtain⟨k,b,p,rfl,rfl⟩:=hrel;by_cases c:k<f+x
  ·have e:=o.out k b c;have d:=n.cell k (by rw [de];omega);rw [gJ _ (show k<283 by omega),e] at d;have v:IntKind.i64.wrap ((f:Int)+(x:Int))=(f:Int)+(x:Int):=(by rw [Hh];omega);have g:IntKind.i64.wrap ((f:Int)+(x:Int)-1)=(f:Int)+(x:Int)-1:=(by rw [Hh];omega);have q:(k:Int)<283:=Z;clear e;cases e:(st==1) <;> cases j:decide ((k:Int)≥(bp:Int)) <;> cases l:decide ((k:Int)<(f:Int)+(x:Int)-1) <;> (rw [e,j,l] at d;simp only [Bool.and_true,Bool.and_false,Bool.true_and,Bool.false_and] at d;simp at e j l;go_wp2 <;> first|(exfalso;omega)|(go_roundw;(case rel=>exact ⟨k+1,Z,Z,aY,trivial⟩);(case measure=>simp [intOf];omega)))
  go_wp2_with fail;apply m.out;rfl
theorem sT {P:Program} {c:Code} {R:Exit->Act->World->Prop} {a:Act} (h:Code.wp P c (Exit.then (R .normal) R) a w):Code.wp P c R a w:=by
 have e:Exit.then (R .normal) R=R:=by funext e a w;cases e <;> rfl
 rw [e] at h;exact h
def oK (M F:Nat->List Int):Nat->Nat
 | 0=>0
 | k+1=>oK M F k+gH (M k++F k)
theorem wT (w:World) (M F:Nat->List Int) (L:Option Addr) (O:Nat) (f) (hw:∀ k,k<12->∃ (g:Nat) (l:Option Addr) (n:Nat) (o:Option Addr) (q:Nat),L=some ⟨g,0,none⟩/\w.rangeAt g (k*3) [.slice l (M k).length n,.slice o (F k).length q,I f]/\Rd1 .i64 w (.slice l (M k).length n) (M k)/\Rd1 .i64 w (.slice o (F k).length q) (F k)/\(l=none->n=0)/\(o=none->q=0)/\(M k).length<=400/\(F k).length<=400) (K:Act->World->Prop) (Q:Exit->Act->World->Prop) (hQ:∀ c (a:Act) (d:Option Tmp) v w,Q (.panic c) (a.put d v) w->Q (.panic c) a w) (u0 u1 u2 u3 u4 u5 u6 u7 u8 u9 u10 u11 u12 u13 u14 u15 u16 u17 u18 u19 u20 u21 u22 u23 u25 u26 u27 u28 u29 u30 u31 u32 u33 u34 u35 u36 u37 u38 u39 u40 u41 u42 u43 u44 u45 u46 u47 u48 u49 u50 u51 u52 u53 u54 u55 u56 u57 u58 u59 u60 u61 u62 u63 u64 u65 u66 u67 u68 u69 u70 u71 u72 u73 u74 u75 u76 u77 u78 u79 u80 u81 u82 u83 u84 u85 u86 u87 u88 u89 u90 u91 u92 u93 u94 u95 u96 u97 u98 u99 u100 u101 u102 u103 u104 u105 u106 u107 u108 u109 u110 u111 u112 u113 u114 u115 u116 u117 u118 u119 u120 u121 u122 u123 u124 u125 u126 u127 u128 u129 u130 u131 u132 u133 u134 u135 u136 u137 u138 u139 u140 u141 u142 u143 u144 u145 u146 u147 u148 u149 u150 u151 u152 u153 u154 u155 u156 u157 u158 u159 u160 u161 u162 u163 u164 u165 u166 u167 u168 u169 u170 u171 u172 u173 u174 u175 u176 u177 u178 u179 u180 u181 u182 u183 u184 u185 u186 u187 u188 u189 u190 u191 u192 u193 u194 u195 u196 u197 u198 u199 u200 u201 u202 u203 u204 u205 u206 u207 u208 u209 u210 u211 u212 u213 u214 u215 u216 u217 u218 u219 u220 u221 u222 u223 u224 u225 u226 u227 u228 u229 u230 u231 u232 u233 u234 u238 u239 u240 u241 u242 u243 u244 u245 u246 u247 u248 u249 u250 u251 u252 u253 u254 u255 u256 u257 u258 u259 u260:Value) (a0:∀ (d5 d6 a3 a4 a5 a6 a7 a8 a9 b0 b4 b6 b7 b8 b9 c3 c4 c5 c6 c7 c8 c9 d0:Value) (w':World),Hid (D w w')->K ⟨#[u0,u1,u2,u3,u4,u5,u6,u7,u8,u9,u10,u11,u12,u13,u14,u15,u16,u17,u18,u19,u20,u21,u22,u23,I ((oK M F 12:Nat):Int),u25,d5,u27,d6,u29,u30,u31,u32,u33,u34,u35,u36,u37,u38,u39,u40,u41,u42,u43,u44,u45,u46,u47,u48,u49,u50,u51,u52,u53,u54,u55,u56,u57,u58,u59,u60,u61,u62,u63,u64,u65,u66,u67,u68,u69,u70,u71,u72,u73,u74,u75,u76,u77,u78,u79,u80,u81,u82,u83,u84,u85,u86,u87,u88,u89,u90,u91,u92,u93,u94,u95,u96,u97,u98,u99,u100,u101,u102,u103,u104,u105,u106,u107,u108,u109,u110,u111,u112,u113,u114,u115,u116,u117,u118,u119,u120,u121,u122,u123,u124,u125,u126,u127,u128,u129,u130,u131,u132,u133,u134,u135,u136,u137,u138,u139,u140,u141,u142,u143,u144,u145,u146,u147,u148,u149,u150,u151,u152,u153,u154,u155,u156,u157,u158,u159,u160,u161,u162,u163,u164,u165,u166,u167,u168,u169,u170,u171,u172,u173,u174,u175,u176,u177,u178,u179,u180,u181,u182,u183,u184,u185,u186,u187,u188,u189,u190,u191,u192,u193,u194,u195,u196,u197,u198,u199,u200,u201,u202,u203,u204,u205,u206,u207,u208,u209,u210,u211,u212,u213,u214,u215,u216,u217,u218,u219,u220,u221,u222,u223,u224,u225,u226,u227,u228,u229,u230,u231,u232,u233,u234,.slice L 12 O,I 12,a3,a4,a5,a6,a7,a8,a9,b0,b4,b6,b7,b8,b9,c3,c4,c5,c6,c7,c8,c9,d0,u258,u259,u260],[]⟩ w') :
  Code.wp prog ((Tryz.f9.body.bind (iN 10)).getD .skip) (Exit.then K Q) ⟨#[u0,u1,u2,u3,u4,u5,u6,u7,u8,u9,u10,u11,u12,u13,u14,u15,u16,u17,u18,u19,u20,u21,u22,u23,I 0,u25,u26,u27,u28,u29,u30,u31,u32,u33,u34,u35,u36,u37,u38,u39,u40,u41,u42,u43,u44,u45,u46,u47,u48,u49,u50,u51,u52,u53,u54,u55,u56,u57,u58,u59,u60,u61,u62,u63,u64,u65,u66,u67,u68,u69,u70,u71,u72,u73,u74,u75,u76,u77,u78,u79,u80,u81,u82,u83,u84,u85,u86,u87,u88,u89,u90,u91,u92,u93,u94,u95,u96,u97,u98,u99,u100,u101,u102,u103,u104,u105,u106,u107,u108,u109,u110,u111,u112,u113,u114,u115,u116,u117,u118,u119,u120,u121,u122,u123,u124,u125,u126,u127,u128,u129,u130,u131,u132,u133,u134,u135,u136,u137,u138,u139,u140,u141,u142,u143,u144,u145,u146,u147,u148,u149,u150,u151,u152,u153,u154,u155,u156,u157,u158,u159,u160,u161,u162,u163,u164,u165,u166,u167,u168,u169,u170,u171,u172,u173,u174,u175,u176,u177,u178,u179,u180,u181,u182,u183,u184,u185,u186,u187,u188,u189,u190,u191,u192,u193,u194,u195,u196,u197,u198,u199,u200,u201,u202,u203,u204,u205,u206,u207,u208,u209,u210,u211,u212,u213,u214,u215,u216,u217,u218,u219,u220,u221,u222,u223,u224,u225,u226,u227,u228,u229,u230,u231,u232,u233,u234,.slice L 12 O,I 12,I 0,u238,u239,u240,u241,u242,u243,u244,u245,u246,u247,u248,u249,u250,u251,u252,u253,u254,u255,u256,u257,u258,u259,u260],[]⟩ w:=by
 have HK:=H a0;have X:=H hQ;have HW:=H hw;clear a0 hQ hw
 conv=>arg 2;whnf
 go_wp2_with fail;go_loopw [24,237] (λv i wr=>∃ k:Nat,k<=12/\i=I k/\(∃ p:Nat,Hid (oK M F k=p)/\p<=k*1000/\v=I p)/\Hid (D w wr)) (λ_ i _=>12-(intOf i).toNat);case atStart=>exact ⟨0,FH _,rfl,⟨0,H rfl,FH _,rfl⟩,H (Fu _ _)⟩
 case round =>
  obtain⟨k,hk,rfl,⟨p,HP,hp,rfl⟩,HB⟩:=hrel;by_cases d7:k<12
  ·obtain⟨g,l,n,o,q,rfl,rg,r1,r2,n1,n2,d8,d9⟩:=HW.out k d7;have HS:=H (show oK M F (k+1)=p+gH (M k++F k) from by rw [<-HP.out];rfl);generalize M k=s at *;generalize F k=t at *;obtain⟨A,e1⟩:∃ A,s.length=A:=⟨_,rfl⟩;obtain⟨B,e2⟩:∃ B,t.length=B:=⟨_,rfl⟩;rw [e1] at rg r1 d8;rw [e2] at rg r2 d9;have RG:=H (show wr.rangeAt g (k*3) [.slice l A n,.slice o B q,I f] from λi u hu=>ad HB (rg i u hu));have bA:=(Fu wr.heap.size wr).alloc (Fv _) (.cells #[.slice l A n,.slice o B q,I f] 68);have NS:=H (ao wr (.cells #[.slice l A n,.slice o B q,I f] 68));have BA:=H (az HB bA);have P:=H (IT e1 e2);have HN:=H (IT n1 n2);have R1:=H r1;have R2:=H r2;clear rg bA HB e1 e2 n1 n2 r1 r2;go_upto_region 54 with (refine wpList_load_mid rfl 68 _ rfl _ _ rfl _ _ RG underlying68 rfl E ?_)
   generalize wr.alloc (.cells #[.slice l A n,.slice o B q,I f] 68)=Y at NS BA ⊢;generalize wr.heap.size=G at NS ⊢;have c0:Y.cell? ⟨G,0,none⟩=some (.slice l A n):=bJ NS.out;have d3:Y.cell? ⟨G,1,none⟩=some (.slice o B q):=bJ NS.out;clear RG
   (try simp only [Act.put]);refine rh (S:=λW9=>D Y W9/\W9.cell? ⟨G,0,none⟩=some (.slice l A n)/\W9.cell? ⟨G,1,none⟩=some (.slice o B q)) ?_;have x:=(show D Y Y.drew/\Y.drew.cell? ⟨G,0,none⟩=some (.slice l A n)/\Y.drew.cell? ⟨G,1,none⟩=some (.slice o B q) from ⟨(Fu Y.heap.size Y).drew,c0,d3⟩);refine pk 0 (J G 0) x ?_ (hQ:=λ_ _ _ h=>X.out _ _ _ _ _ h)
   (try simp only [lz,l0,ls]);refine pz 1 (.slice l A n) x ?_ (hQ:=λ_ _ _ h=>X.out _ _ _ _ _ h)
   (try simp only [lz,l0,ls]);refine pk 3 (J G 1) x ?_ (hQ:=λ_ _ _ h=>X.out _ _ _ _ _ h)
   (try simp only [lz,l0,ls]);refine pz 4 (.slice o B q) x ?_ (hQ:=λ_ _ _ h=>X.out _ _ _ _ _ h)
   (try simp only [lz,l0,ls]);refine pk 7 (I 0) x ?_ (hQ:=λ_ _ _ h=>X.out _ _ _ _ _ h)
   (try simp only [lz,l0,ls]);generalize d4:Y.drew=W0 at x ⊢;have R:({ heap:=Y.heap,tape:=Y.tape,drawn:=Y.drawn+1,os:=Y.os,output:=Y.output } : World)=W0:=d4
   (try rw [R]);clear d4 R;have T:W0.ownsRow W0.heap.size 3 1 (C) ([]:List Int).length (Ns .i64 []):=⟨rfl,.inl ⟨rfl,rfl⟩⟩;obtain⟨b1,d1,w3,e,y,g1⟩:=nD T (zs:=s) (a:=l) (c:=n) (by rw [P.1];exact (R1.below BA).below x.1) HN.1 (by have:=P.out;simp;omega) (Fv _);simp only [F1,Gb,FV] at e y;have V:D W0 w3:=(Fu _ _).grown g1 (Fv _) (λr hr=>by cases hr);have W:=(show D Y w3/\w3.cell? ⟨G,0,none⟩=some (.slice l A n)/\w3.cell? ⟨G,1,none⟩=some (.slice o B q) from ⟨az x.1 V,ad V x.2.1,ad V x.2.2⟩);obtain⟨b2,d2,w5,b,j,g2⟩:=nD y (zs:=t) (a:=o) (c:=q) (by rw [P.2];exact (R2.below BA).below W.1) HN.2 (by have:=P.out;omega) V.size;have b5:D W0 w5:=V.grown g2 V.size (λr hr=>(aF y hr).1);have N:=(show D Y w5/\w5.cell? ⟨G,0,none⟩=some (.slice l A n)/\w5.cell? ⟨G,1,none⟩=some (.slice o B q) from ⟨az x.1 b5,ad b5 x.2.1,ad b5 x.2.2⟩);rw [P.1] at e b j;rw [P.2] at b j;obtain⟨m,hm⟩:∃ m,A+B=m:=⟨_,rfl⟩;rw [hm] at b j;have e3:m<=800:=Z;have HM:=H hm;clear hm;refine po 2 λK' hK=>?_;refine jx 24 243 (.const (C)) (.tmp 242) E E E E E e ?_;refine hK _ _ ⟨W,?_⟩;clear hK K'
   (try simp only [lz,l0,ls]);refine po 5 λK' hK=>?_;refine jx 24 246 (.tmp 243) (.tmp 245) E E E E E b ?_;refine hK _ _ ⟨N,?_⟩;clear hK K'
   (try simp only [lz,l0,ls]);refine pz 6 (I ((m:Nat):Int)) N ?_ (hQ:=λ_ _ _ h=>X.out _ _ _ _ _ h)
   (try simp only [lz,l0,ls]);refine bY ?_;have BV:=H (az BA N.1);have RD:=H (show Rd1 .i64 w5 (.slice b2 m d2) (s++t) from jN j);have e4:gH (s++t)<=800:=(by have h9:=P.out;have:=Hb (λz=>decide (0<=z)) (s++t);unfold gH;rw [FC] at this;omega);clear x W N V b5 T y j e b g1 g2 c0 d3;(go_upto_block 12 with fail);refine sT ?_;refine vL w5 (s++t) _ m _ p (by have:=P.out;have:=HM.out;rw [FC];omega) Z Z RD _ _ _ _ _ _ _ _ _ _ _ _ _ _ _ _ _ _ _ _ _ _ _ _ _ _ _ _ _ _ _ _ _ _ _ _ _ _ _ _ _ _ _ _ _ _ _ _ _ _ _ _ _ _ _ _ _ _ _ _ _ _ _ _ _ _ _ _ _ _ _ _ _ _ _ _ _ _ _ _ _ _ _ _ _ _ _ _ _ _ _ _ _ _ _ _ _ _ _ _ _ _ _ _ _ _ _ _ _ _ _ _ _ _ _ _ _ _ _ _ _ _ _ _ _ _ _ _ _ _ _ _ _ _ _ _ _ _ _ _ _ _ _ _ _ _ _ _ _ _ _ _ _ _ _ _ _ _ _ _ _ _ _ _ _ _ _ _ _ _ _ _ _ _ _ _ _ _ _ _ _ _ _ _ _ _ _ _ _ _ _ _ _ _ _ _ _ _ _ _ _ _ _ _ _ _ _ _ _ _ _ _ _ _ _ _ _ _ _ _ _ _ _ _ _ _ _ _ _ _ _ _ _ _ _ _ _ _ _ _ _ _ _ _ _ _ _ _ _ _ _ _ _ _ _ _ _ _ _ ?_;intros;rename_i w6 e0;subst e0
   (try simp only [Exit.inBlock,Exit.then]);go_wp2;go_roundw;(case rel=>exact ⟨k+1,Z,aY,⟨p+gH (s++t),HS,Z,rfl⟩,BV⟩);case measure=>simp [intOf];omega
  obtain rfl:k=12:=Z;rw [<-HP.out];clear hk;go_wp2_with fail;apply HK.out;exact HB
theorem AC (w zs G) (L:RowV w G 4 (setP zs)) (rs:List Rg9) (n:Nat) (hn:rs.length=n) (l5:n<=10000) (y:Option Addr) (z:Nat) (A:∀ k r,rs[k]?=some r->∃ g,y=some ⟨g,0,none⟩/\w.rangeAt g (k*5) (tC r)) (hr:∀ r∈rs,187<=r.first/\r.first+r.ext<=283/\1<=r.guards/\1<=r.pages) (ho:rs.Pairwise (λa b=>a.first+a.ext<=b.first)) (op:∀ r∈rs,∀ k,r.first<=k->k<r.first+r.ext->decide ((k:Int)∈zs)=(decide (r.st=1)&&decide (r.base/1024<=k)&&decide (k<r.first+r.ext-1))) (tb:Tb w) (K:Act->World->Prop) (Q:Exit->Act->World->Prop) (hQ:∀ c (a:Act) (d:Option Tmp) v w,Q (.panic c) (a.put d v) w->Q (.panic c) a w) (u0 u1 u2 u3 u4 u5 u6 u7 u9 u10 u11 u13 u14 u15 u16 u17 u18 u19 u20 u21 u22 u23 u24 u25 u26 u27 u28 u29 u30 u31 u32 u33 u34 u35 u36 u37 u38 u39 u40 u41 u42 u43 u44 u45 u46 u47 u48 u49 u50 u51 u52 u53 u54 u55 u56 u57 u58 u59 u60 u61 u62 u63 u64 u65 u66 u67 u68 u69 u70 u71 u72 u73 u74 u75 u76 u77 u78 u79 u80 u81 u82 u83 u84 u85 u86 u87 u88 u89 u90 u91 u92 u93 u94 u95 u96 u97 u101 u102 u103 u104 u105 u106 u107 u108 u109 u110 u111 u112 u113 u114 u115 u116 u117 u118 u119 u120 u121 u122 u123 u124 u125 u126 u127 u128 u129 u130 u131 u132 u133 u134 u135 u136 u137 u138 u139 u140 u141 u142 u143 u144 u145 u146 u147 u148 u149 u150 u151 u152 u153 u154 u155 u156 u157 u158 u159 u160 u161 u162 u163 u164 u165 u166 u167 u168 u169 u170 u171 u172 u173 u174 u175 u176 u177 u178 u179 u180 u181 u182 u183 u184 u185 u186 u187 u188 u189 u190 u191 u192 u193 u194 u195 u196 u197 u198 u199 u200 u201 u202 u203 u204 u205 u206 u207 u208 u209 u210 u211 u212 u213 u214 u215 u216 u217 u218 u219 u220 u221 u222 u223 u224 u225 u226 u227 u228 u229 u230 u231 u232 u233 u234 u235 u236 u237 u238 u239 u240 u241 u242 u243 u244 u245 u246 u247 u248 u249 u250 u251 u252 u253 u254 u255 u256 u257 u258 u259 u260:Value) (M:∀ (v2 k4 k5 k6 k7 k8 N O P R T W X a0 a1 a2 a3 a4 a5 a6 a7 a8 a9 b0 b1 b2 b3 b4 b5 b6 b7 b8 b9 c0 c1 c2 c3 c4 c5 c6 c7 c8 c9 d0 d5 d6 d7 d8 d9 e0 e2 e3 e4 e5 e6 e7 e8 e9 g0 g1 g2 g3 g4 g5 g6 g7 g8 g9 h0 h5 h6 h7 h8 h9 i0 i1 i2 i3 i4 i5 i6 i7 i8 i9 j0 j1 j2 j3 j4 j5:Value) (w':World),Hid (D w w')->K ⟨#[u0,u1,v2,u3,u4,u5,u6,u7,Vl G 283 283,u9,u10,u11,k4,u13,k5,k6,k7,k8,u18,u19,u20,u21,u22,u23,u24,u25,u26,u27,u28,u29,u30,u31,u32,u33,u34,u35,u36,u37,u38,u39,u40,u41,u42,u43,u44,u45,u46,u47,u48,u49,u50,u51,u52,u53,u54,u55,u56,u57,u58,u59,u60,u61,u62,u63,u64,u65,u66,u67,u68,u69,u70,u71,u72,u73,u74,u75,u76,u77,u78,u79,u80,u81,u82,u83,u84,u85,u86,u87,u88,u89,u90,u91,u92,u93,u94,u95,u96,u97,.slice y n z,I n,N,O,P,R,T,W,X,a0,a1,a2,a3,a4,a5,a6,a7,a8,a9,b0,b1,b2,b3,b4,b5,b6,b7,b8,b9,c0,c1,c2,c3,c4,c5,c6,c7,c8,c9,d0,d5,d6,d7,d8,d9,e0,e2,e3,e4,e5,e6,e7,e8,e9,g0,g1,g2,g3,g4,g5,g6,g7,g8,g9,h0,h5,h6,h7,h8,h9,i0,i1,i2,i3,i4,i5,i6,i7,i8,i9,j0,j1,j2,j3,j4,j5,u184,u185,u186,u187,u188,u189,u190,u191,u192,u193,u194,u195,u196,u197,u198,u199,u200,u201,u202,u203,u204,u205,u206,u207,u208,u209,u210,u211,u212,u213,u214,u215,u216,u217,u218,u219,u220,u221,u222,u223,u224,u225,u226,u227,u228,u229,u230,u231,u232,u233,u234,u235,u236,u237,u238,u239,u240,u241,u242,u243,u244,u245,u246,u247,u248,u249,u250,u251,u252,u253,u254,u255,u256,u257,u258,u259,u260],[]⟩ w') :
  Code.wp prog ((Tryz.f9.body.bind (iN 2)).getD .skip) (Exit.then K Q) ⟨#[u0,u1,u2,u3,u4,u5,u6,u7,Vl G 283 283,u9,u10,u11,I 187,u13,u14,u15,u16,u17,u18,u19,u20,u21,u22,u23,u24,u25,u26,u27,u28,u29,u30,u31,u32,u33,u34,u35,u36,u37,u38,u39,u40,u41,u42,u43,u44,u45,u46,u47,u48,u49,u50,u51,u52,u53,u54,u55,u56,u57,u58,u59,u60,u61,u62,u63,u64,u65,u66,u67,u68,u69,u70,u71,u72,u73,u74,u75,u76,u77,u78,u79,u80,u81,u82,u83,u84,u85,u86,u87,u88,u89,u90,u91,u92,u93,u94,u95,u96,u97,.slice y n z,I n,I 0,u101,u102,u103,u104,u105,u106,u107,u108,u109,u110,u111,u112,u113,u114,u115,u116,u117,u118,u119,u120,u121,u122,u123,u124,u125,u126,u127,u128,u129,u130,u131,u132,u133,u134,u135,u136,u137,u138,u139,u140,u141,u142,u143,u144,u145,u146,u147,u148,u149,u150,u151,u152,u153,u154,u155,u156,u157,u158,u159,u160,u161,u162,u163,u164,u165,u166,u167,u168,u169,u170,u171,u172,u173,u174,u175,u176,u177,u178,u179,u180,u181,u182,u183,u184,u185,u186,u187,u188,u189,u190,u191,u192,u193,u194,u195,u196,u197,u198,u199,u200,u201,u202,u203,u204,u205,u206,u207,u208,u209,u210,u211,u212,u213,u214,u215,u216,u217,u218,u219,u220,u221,u222,u223,u224,u225,u226,u227,u228,u229,u230,u231,u232,u233,u234,u235,u236,u237,u238,u239,u240,u241,u242,u243,u244,u245,u246,u247,u248,u249,u250,u251,u252,u253,u254,u255,u256,u257,u258,u259,u260],[]⟩ w:=by
 have HK:=H M;have l:=H hQ;have HR:=H A;have HX:=H hr;have HN:=H hn;have HO:=H ho;have HP:=H op;have TB:=H tb;have RW:=H L;clear M hQ A hr hn ho op tb L
 conv=>arg 2;whnf
 go_wp2_with fail;go_loopw [12,100] (λv i wr=>∃ k:Nat,k<=n/\i=I k/\(∃ q:Nat,Hid (∀ r,rs[k]?=some r->q<=r.first)/\v=I q)/\Hid (D w wr)) (λ_ i _=>n-(intOf i).toNat);case atStart=>exact ⟨0,FH _,rfl,⟨187,H (λr h=>(HX r (FM h)).1),rfl⟩,H (Fu _ _)⟩
 case round =>
  obtain⟨k,hk,rfl,⟨q,j6,rfl⟩,HB⟩:=hrel;by_cases k9:k<n
  ·obtain⟨r,t⟩:∃ r,rs[k]?=some r:=⟨_,Fy (by rw [HN.out];exact k9)⟩;obtain⟨j7,rfl,rg⟩:=HR.out k _ t;obtain⟨h1,h2,h3,h4⟩:=HX.out _ (FM t);have hq:=j6.out r t;have hp:=HP.out r (FM t);have l1:=H (show ∀ r',rs[k+1]?=some r'->r.first+r.ext<=r'.first from λr' h'=>by
    obtain⟨y1,y2⟩:=Fz.1 t;obtain⟨y3,y4⟩:=Fz.1 h';have:=II.1 HO k (k+1) y1 y3 Z;rw [y2,y4] at this;exact this)
   have hb:r.base=(r.first+r.guards)*1024:=rfl;have j8:r.ext=r.guards+r.pages+1:=rfl;unfold tC at rg;generalize r.base=b at rg hb hp;generalize r.first=f at *
   generalize r.ext=x at *;generalize r.st=st at *;generalize r.rq=rq at *;obtain⟨s,j9⟩:∃ s,f+r.guards=s:=⟨_,rfl⟩;rw [j9] at hb;have e1:b/1024=s:=Z;rw [e1] at hp;have k1:f<s:=Z;have k2:s<f+x-1:=Z;have k3:f+x<=283:=h2;have RG:=H (show wr.rangeAt j7 (k*5) [U b,I f,I x,I st,I rq] from λi u hu=>ad HB (rg i u hu));have l2:=H hp;have k0:=H hb;have bA:=(Fu wr.heap.size wr).alloc (Fv _) (.cells #[U b,I f,I x,I st,I rq] 66);have B:=H (ao wr (.cells #[U b,I f,I x,I st,I rq] 66));have BA:=H (az HB bA);clear hb rg bA HB t hp h1 h2 h3 h4 j8 j9 e1 j6;clear r;go_upto_region 23 with (refine wpList_load_mid rfl 66 _ rfl _ _ rfl _ _ RG underlying66 rfl E ?_)
   generalize wr.alloc (.cells #[U b,I f,I x,I st,I rq] 66)=Y at B BA ⊢;generalize wr.heap.size=o at B ⊢;have z0:Y.cell? ⟨o,0,none⟩=some (U b):=bJ B.out;have z1:Y.cell? ⟨o,1,none⟩=some (I f):=bJ B.out;have z2:Y.cell? ⟨o,2,none⟩=some (I x):=bJ B.out;have wq:Int.tdiv ((b:Nat):Int) 1024=((s:Nat):Int):=(by rw [k0.out,Ig Z];omega);have l6:Int.tmod ((b:Nat):Int) 1024=0:=(by rw [k0.out,GH Z];omega);have wb:IntKind.u64.wrap ((s:Nat):Int)=((s:Nat):Int):=(by rw [IntKind.wrap_u64];omega);have wc:IntKind.i64.wrap ((s:Nat):Int)=((s:Nat):Int):=(by rw [Hh];omega);have wf:IntKind.i64.wrap ((f:Int)+(x:Int))=(f:Int)+(x:Int):=(by rw [Hh];omega);have l4:IntKind.i64.wrap ((f:Int)+(x:Int)-1)=(f:Int)+(x:Int)-1:=(by rw [Hh];omega);have d1:decide ((f:Int)<(q:Int))=false:=GR Z;have d2:decide ((s:Int)<=(f:Int))=false:=GR Z;have d3:decide ((s:Int)≥(f:Int)+(x:Int)-1)=false:=GR Z;have d4:decide ((f:Int)+(x:Int) > 283)=false:=GR Z;clear RG;go_upto_region 24 with fail
   (try simp only [Act.put]);refine rh (S:=λW9=>D Y W9/\W9.cell? ⟨o,0,none⟩=some (U b)/\W9.cell? ⟨o,1,none⟩=some (I f)/\W9.cell? ⟨o,2,none⟩=some (I x)) ?_;have j:=(show D Y Y.drew/\Y.drew.cell? ⟨o,0,none⟩=some (U b)/\Y.drew.cell? ⟨o,1,none⟩=some (I f)/\Y.drew.cell? ⟨o,2,none⟩=some (I x) from ⟨(Fu Y.heap.size Y).drew,z0,z1,z2⟩);refine pz 0 (J o 0) j ?_ (hQ:=λ_ _ _ h=>l.out _ _ _ _ _ h)
   (try simp only [lz,l0,ls]);refine pz 1 (U b) j ?_ (hQ:=λ_ _ _ h=>l.out _ _ _ _ _ h)
   (try simp only [lz,l0,ls]);refine pz 2 (U 0) j ?_ (hQ:=λ_ _ _ h=>l.out _ _ _ _ _ h)
   (try simp only [lz,l0,ls]);refine pz 3 (.bool false) j ?_ (hQ:=λ_ _ _ h=>l.out _ _ _ _ _ h)
   (try simp only [lz,l0,ls]);refine pz 4 (.bool false) j ?_ (hQ:=λ_ _ _ h=>l.out _ _ _ _ _ h)
   (try simp only [lz,l0,ls]);refine pz 5 (J o 1) j ?_ (hQ:=λ_ _ _ h=>l.out _ _ _ _ _ h)
   (try simp only [lz,l0,ls]);refine pz 6 (I f) j ?_ (hQ:=λ_ _ _ h=>l.out _ _ _ _ _ h)
   (try simp only [lz,l0,ls]);refine pz 7 (I q) j ?_ (hQ:=λ_ _ _ h=>l.out _ _ _ _ _ h)
   (try simp only [lz,l0,ls]);refine pz 8 (.bool false) j ?_ (hQ:=λ_ _ _ h=>l.out _ _ _ _ _ h)
   (try simp only [lz,l0,ls]);refine pz 9 (.bool false) j ?_ (hQ:=λ_ _ _ h=>l.out _ _ _ _ _ h)
   (try simp only [lz,l0,ls]);refine pz 10 (.bool false) j ?_ (hQ:=λ_ _ _ h=>l.out _ _ _ _ _ h)
   (try simp only [lz,l0,ls]);refine pz 11 (I s) j ?_ (hQ:=λ_ _ _ h=>l.out _ _ _ _ _ h)
   (try simp only [lz,l0,ls]);refine pz 12 (J o 1) j ?_ (hQ:=λ_ _ _ h=>l.out _ _ _ _ _ h)
   (try simp only [lz,l0,ls]);refine pz 13 (I f) j ?_ (hQ:=λ_ _ _ h=>l.out _ _ _ _ _ h)
   (try simp only [lz,l0,ls]);refine pz 14 (.bool false) j ?_ (hQ:=λ_ _ _ h=>l.out _ _ _ _ _ h)
   (try simp only [lz,l0,ls]);refine pz 15 (.bool false) j ?_ (hQ:=λ_ _ _ h=>l.out _ _ _ _ _ h)
   (try simp only [lz,l0,ls]);refine pz 16 (.bool false) j ?_ (hQ:=λ_ _ _ h=>l.out _ _ _ _ _ h)
   (try simp only [lz,l0,ls]);refine pz 17 (I s) j ?_ (hQ:=λ_ _ _ h=>l.out _ _ _ _ _ h)
   (try simp only [lz,l0,ls]);refine pz 18 (J o 1) j ?_ (hQ:=λ_ _ _ h=>l.out _ _ _ _ _ h)
   (try simp only [lz,l0,ls]);refine pz 19 (I f) j ?_ (hQ:=λ_ _ _ h=>l.out _ _ _ _ _ h)
   (try simp only [lz,l0,ls]);refine pz 20 (J o 2) j ?_ (hQ:=λ_ _ _ h=>l.out _ _ _ _ _ h)
   (try simp only [lz,l0,ls]);refine pz 21 (I x) j ?_ (hQ:=λ_ _ _ h=>l.out _ _ _ _ _ h)
   (try simp only [lz,l0,ls]);refine pz 22 (I ((f:Int)+(x:Int))) j ?_ (hQ:=λ_ _ _ h=>l.out _ _ _ _ _ h)
   (try simp only [lz,l0,ls]);refine pz 23 (I ((f:Int)+(x:Int)-1)) j ?_ (hQ:=λ_ _ _ h=>l.out _ _ _ _ _ h)
   (try simp only [lz,l0,ls]);refine pz 24 (.bool false) j ?_ (hQ:=λ_ _ _ h=>l.out _ _ _ _ _ h)
   (try simp only [lz,l0,ls]);refine pz 25 (.bool false) j ?_ (hQ:=λ_ _ _ h=>l.out _ _ _ _ _ h)
   (try simp only [lz,l0,ls]);refine pz 26 (.bool false) j ?_ (hQ:=λ_ _ _ h=>l.out _ _ _ _ _ h)
   (try simp only [lz,l0,ls]);refine pz 27 (J o 1) j ?_ (hQ:=λ_ _ _ h=>l.out _ _ _ _ _ h)
   (try simp only [lz,l0,ls]);refine pz 28 (I f) j ?_ (hQ:=λ_ _ _ h=>l.out _ _ _ _ _ h)
   (try simp only [lz,l0,ls]);refine pz 29 (J o 2) j ?_ (hQ:=λ_ _ _ h=>l.out _ _ _ _ _ h)
   (try simp only [lz,l0,ls]);refine pz 30 (I x) j ?_ (hQ:=λ_ _ _ h=>l.out _ _ _ _ _ h)
   (try simp only [lz,l0,ls]);refine pz 31 (I ((f:Int)+(x:Int))) j ?_ (hQ:=λ_ _ _ h=>l.out _ _ _ _ _ h)
   (try simp only [lz,l0,ls]);refine po 32 λK' hK=>?_;go_simp;refine (eH _ ((TB.below BA).below j.1)).mono ?_;rintro e V ⟨rfl,p⟩;have F:=(show D Y V/\V.cell? ⟨o,0,none⟩=some (U b)/\V.cell? ⟨o,1,none⟩=some (I f)/\V.cell? ⟨o,2,none⟩=some (I x) from ⟨az j.1 p,ad p j.2.1,ad p j.2.2.1,ad p j.2.2.2⟩);refine hK _ _ ⟨F,?_⟩;clear hK K';refine pz 33 (.bool false) F ?_ (hQ:=λ_ _ _ h=>l.out _ _ _ _ _ h)
   (try simp only [lz,l0,ls]);refine pz 34 (.bool false) F ?_ (hQ:=λ_ _ _ h=>l.out _ _ _ _ _ h)
   (try simp only [lz,l0,ls]);refine bY ?_;have BV:=H (az BA F.1);have NV:=H (IU F.1 B);have RV:=H (RW.below BV RW.lt);clear j F p B BA z0 z1 z2;have z1:V.cell? ⟨o,1,none⟩=some (I f):=bJ NV.out;have z2:V.cell? ⟨o,2,none⟩=some (I x):=bJ NV.out;(go_upto_block 4 with fail);refine y6 V zs G o s f x st k3 RV z1 z2 (bJ NV.out) (λm m1 m2=>by
    rw [l2.out m m1 m2];congr 1;·congr 1;exact decide_eq_decide.2 Z
    exact decide_eq_decide.2 Z) _ _ _ _ _ _ _ _ _ _ _ _ _ _ _ _ _ _ _ _ _ _ _ _ _ _ _ _ _ _ _ _ _ _ _ _ _ _ _ _ _ _ _ _ _ _ _ _ _ _ _ _ _ _ _ _ _ _ _ _ _ _ _ _ _ _ _ _ _ _ _ _ _ _ _ _ _ _ _ _ _ _ _ _ _ _ _ _ _ _ _ _ _ _ _ _ _ _ _ _ _ _ _ _ _ _ _ _ _ _ _ _ _ _ _ _ _ _ _ _ _ _ _ _ _ _ _ _ _ _ _ _ _ _ _ _ _ _ _ _ _ _ _ _ _ _ _ _ _ _ _ _ _ _ _ _ _ _ _ _ _ _ _ _ _ _ _ _ _ _ _ _ _ _ _ _ _ _ _ _ _ _ _ _ _ _ _ _ _ _ _ _ _ _ _ _ _ _ _ _ _ _ _ _ _ _ _ _ _ _ _ _ _ _ _ _ _ _ _ _ _ _ _ _ _ _ _ _ _ _ _ _ _ _ _ _ _ _ _ _ _ _ _ _ _ _ _ _ _ _ _ _ _ _ _ _ _ _ _ ?_
   intros;rename_i w6 l3;subst l3;go_wp2;go_roundw;(case rel=>exact ⟨k+1,Z,aY,⟨f+x,l1,aY⟩,BV⟩);case measure=>simp [intOf];omega
  obtain rfl:k=n:=Z;clear hk;go_wp2_with fail;apply HK.out;exact HB
end
end Go.Proofs.YtdngbppdomoenaaGreatDoor
