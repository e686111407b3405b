import Derived.Test.YtdngbppdomoenaaGreatDoorZ01
import Derived.Test.YtdngbppdomoenaaGreatDoorN41
set_option linter.unusedVariables false
set_option linter.unusedSimpArgs false
set_option maxRecDepth 20000
set_option maxHeartbeats 8000000
namespace Go.Proofs.YtdngbppdomoenaaGreatDoor
open Go.Proofs.Tryz
section
open Go.RowKit Go.Shelf Go.Maps
def AJ : Prop := ∀ (mi fi la bu ky : Int) (da : Option Addr) (dn dc : Nat) (A : Option Addr) (n cap : Nat) (w : World), ¬ (jg mi fi la bu dn/\n<=300) ->
 Calls prog 12 #[.agg #[.int .i64 mi, .int .i64 fi, .int .i64 la, .int .i64 bu, .int .u64 ky, .slice da dn dc], .slice A n cap] w λe W' => e=.returned (.agg #[.bool false, .slice none 0 0, .int .i64 0, .slice none 0 0, .slice none 0 0, .slice none 0 0, .slice none 0 0, .slice none 0 0, .slice none 0 0, .int .i64 0])/\D w W'
theorem zR {o:Oper} {a:Act} {w:World} (b:TypeId) (x:Operand) (d:o.op=.load b x) (g:Nat) (e:a.eval x=.pointer (some ⟨g,0,none⟩)) {c:Array Value} (f:(loadVar b ⟨g,0,none⟩).run prog w=.ok (.agg c) w):(execOp a.eval o).run prog w=.ok (.value (.agg c)) w:=by
 unfold execOp;simp only [d,e,Instr.loadAt,Instr.sureAddr,Sem.run_bind,Sem.run_pure,Result.andThen_ok,f]
theorem Ois.low {w V A ops} (h:Ois w A ops) (b:D w V):Ois V A ops :=
 ⟨λk q a=>by obtain ⟨G,c,d,e⟩:=h.at_ k q a;exact⟨G,c,FG d b.size,λj u f=>ad b (e j u f)⟩,h.wf,λq a i g=>by obtain ⟨x,c,d,e⟩:=h.dat q a i g;exact⟨x,c,ad b d,FG e b.size⟩⟩
theorem ER (V) (k:Nat):D V (V.drewN k):=⟨rfl,rfl,rfl,Fv _,λ_ _=>rfl⟩
theorem uw {b c d e f g i j k:Value} (a:∀ v∈[b,c,d,e,f,g,i,j,k],v.oneCell'=true):(#[.bool true,b,c,d,e,f,g,i,j,k]:Array Value).all (·.oneCell')=true:=by
 have h:=a;simp only [F4,Gp,or_false,forall_eq_or_imp,forall_eq] at h;obtain⟨l,m,n,o,p,q,r,s,t⟩:=h;rw [<-Array.all_toList];simp only [List.all_cons,List.all_nil,Bool.and_true,Gi];exact⟨rfl,l,m,n,o,p,q,r,s,t⟩
def Anf (A : Option Addr) (an : List An4) (W : World) : Prop := ∀ j a, an[j]? = some a->∃ G, A=some ⟨G, 0, none⟩/\∃ (x : Option Addr) (y z : Nat), W.rangeAt G (j*4) [.int .i64 a.code, .int .u64 (a.addr : Nat), .int .i64 (a.size : Nat), .slice x y z]
theorem Anf.low {A an W W'} (h:Anf A an W) (b:D W W'):Anf A an W':=λj a ha=>by
 obtain⟨G,c,x,y,z,d⟩:=h j a ha
 exact⟨G,c,x,y,z,λt u e=>ad b (d t u e)⟩
theorem qF {W:World} {B:Nat} {n:Value} {l:List Aw} {b:List An4} (d:W.ownsRow B 44 4 n l.length (fZ l)) (o:l.map (·.1)=b) (i:∀ z∈l,W.ownsRow B 5 1 z.2 z.1.data.length (Ns .u8 z.1.data)) :
  ∃ A c,n=.slice A b.length c/\b.length<=c/\Anf A b W:=by
 have e:l.length=b.length:=by rw [<-o,Gz]
 by_cases q:0<b.length
 ·obtain⟨G,k,f,_,_,p⟩:=Bd d o q;refine⟨_,k,f,?_,λj a ha=>⟨G,rfl,?_⟩⟩
  ·rcases d.2 with ⟨_,c⟩|⟨g,r,m,c,s,v,w,x,_⟩;·omega
   ·rw [f] at c;injection c with y A F;omega
  ·obtain⟨v,r,s,w,A,F⟩:=p j a ha;obtain⟨x,y,z,rfl⟩:∃ x y z,v=.slice x y z:=by
    rcases (i _ r).2 with ⟨c,_⟩|⟨_,_,_,c,_⟩;·exact⟨_,_,_,c⟩
    ·exact⟨_,_,_,c⟩
   refine⟨x,y,z,λt u hu=>?_⟩
   match t,hu with
   | 0,hu=>simp at hu;subst hu;exact s
   | 1,hu=>simp at hu;subst hu;exact w
   | 2,hu=>simp at hu;subst hu;exact A
   | 3,hu=>simp at hu;subst hu;exact F
   | t+4,hu=>simp at hu
 ·have c:b=[]:=List.length_eq_zero_iff.1 Z;rcases d.2 with ⟨f,p⟩|⟨g,k,m,f,_⟩;·exact⟨none,0,by rw [f,c];rfl,Z,λj a ha=>by rw [c] at ha;simp at ha⟩
  ·exact⟨_,k,by rw [f,e],by rw [c];exact FH _,λj a ha=>by rw [c] at ha;simp at ha⟩
theorem EO (L:List (Nat×Int)) (d:Int) (j N:Nat) (F:L.length=N) (R:j<N) (v:N<=300) (G:Option Addr) (M i O:Nat) (w:World) (P:w.cell? ⟨i,j,none⟩=some (.int .i64 d)) (a:∀ k e,L[k]?=some e->w.cell? ⟨i,k,none⟩=some (.int .i64 e.2)) (K:Act->World->Prop) (Q:Exit->Act->World->Prop) (u0 u1 u2 u3 u4 u5 u6 u9 u10 u11 u12 u13 u16 u17 u18 u19 u20 u21 u22 u23 u24 u25 u26 u27 u28 u29 u30 u31 u32 u33 u34 u35 u36 u37 u38 u39 u40 u41 u42 u43 u44 u45 u46 u47 u48 u49 u50 u51 u52 u53 u54 u55 u56 u57 u58 u59 u60 u61 u62 u63 u64 u65 u66 u67 u68 u69 u70 u71 u72 u73 u74 u75 u76 u77 u78 u79 u80 u81 u82 u83 u84 u85 u86 u87 u88 u89 u90 u91 u92 u93 u94 u95 u96 u97 u98 u99 u100 u101 u102 u103 u104 u105 u106 u107 u108 u109 u110 u111 u112 u113 u114 u115 u116 u117 u118 u119 u120 u121 u122 u123 u124 u125 u126 u127 u128 u129 u130 u131 u132 u133 u134 u135 u136 u137 u138 u139 u140 u141 u142 u143 u144 u145 u146 u147 u148 u149 u150 u151 u152 u153 u154 u155 u156 u157 u158 u159 u160 u161 u162 u163 u164 u165 u166 u167 u168 u169 u170 u171 u172 u173 u174 u175 u176 u177 u178 u179 u180 u181 u182 u183 u184 u185 u186 u187 u188 u189 u190 u191 u192 u193:Value) (B:u16=.int .i64 ((j+1:Nat):Int)) (b:∀ (z c e f g l m n o p q r s t u v x y:Value) (A:World),Hid (D w A)->K ⟨#[u0,u1,u2,u3,u4,u5,u6,.slice G N M,.slice (some ⟨i,0,none⟩) N O,u9,u10,u11,u12,u13,.int .i64 (j:Nat),.int .i64 (gH L d j N:Nat),z,u17,u18,u19,u20,u21,u22,u23,u24,u25,u26,u27,u28,u29,u30,u31,u32,u33,u34,u35,u36,u37,u38,u39,u40,u41,u42,u43,u44,u45,u46,u47,u48,u49,u50,u51,u52,u53,u54,u55,u56,u57,u58,u59,u60,u61,u62,u63,u64,u65,u66,u67,u68,u69,u70,u71,u72,u73,u74,u75,u76,u77,u78,u79,u80,u81,u82,u83,u84,u85,u86,u87,u88,u89,u90,u91,u92,u93,u94,u95,u96,u97,u98,u99,u100,u101,u102,u103,u104,u105,u106,u107,u108,u109,u110,u111,u112,u113,u114,u115,u116,u117,u118,u119,u120,u121,u122,u123,u124,u125,u126,u127,u128,u129,u130,c,e,f,g,l,m,n,o,p,q,r,s,t,u,v,x,y,u148,u149,u150,u151,u152,u153,u154,u155,u156,u157,u158,u159,u160,u161,u162,u163,u164,u165,u166,u167,u168,u169,u170,u171,u172,u173,u174,u175,u176,u177,u178,u179,u180,u181,u182,u183,u184,u185,u186,u187,u188,u189,u190,u191,u192,u193],[]⟩ A) :
  Code.wp prog ((Tryz.f6.body.bind (iN 4)).getD .skip) (Exit.then K Q) ⟨#[u0,u1,u2,u3,u4,u5,u6,.slice G N M,.slice (some ⟨i,0,none⟩) N O,u9,u10,u11,u12,u13,.int .i64 (j:Nat),.int .i64 0,u16,u17,u18,u19,u20,u21,u22,u23,u24,u25,u26,u27,u28,u29,u30,u31,u32,u33,u34,u35,u36,u37,u38,u39,u40,u41,u42,u43,u44,u45,u46,u47,u48,u49,u50,u51,u52,u53,u54,u55,u56,u57,u58,u59,u60,u61,u62,u63,u64,u65,u66,u67,u68,u69,u70,u71,u72,u73,u74,u75,u76,u77,u78,u79,u80,u81,u82,u83,u84,u85,u86,u87,u88,u89,u90,u91,u92,u93,u94,u95,u96,u97,u98,u99,u100,u101,u102,u103,u104,u105,u106,u107,u108,u109,u110,u111,u112,u113,u114,u115,u116,u117,u118,u119,u120,u121,u122,u123,u124,u125,u126,u127,u128,u129,u130,u131,u132,u133,u134,u135,u136,u137,u138,u139,u140,u141,u142,u143,u144,u145,u146,u147,u148,u149,u150,u151,u152,u153,u154,u155,u156,u157,u158,u159,u160,u161,u162,u163,u164,u165,u166,u167,u168,u169,u170,u171,u172,u173,u174,u175,u176,u177,u178,u179,u180,u181,u182,u183,u184,u185,u186,u187,u188,u189,u190,u191,u192,u193],[]⟩ w:=by
 have x:=H b;have y:=H F;have p:=H a;have S:=H P;have B0:=H (Fu w.heap.size w);subst B;clear b F a P
 conv=>arg 2;whnf
 go_wp2_with fail;go_loopw [15,16] (λl k wr=>∃ c:Nat,j+1<=c/\c<=N/\k=.int .i64 c/\l=.int .i64 (gH L d j c:Nat)/\Hid (D w wr)) (λ_ k _=>N-(intOf k).toNat);case atStart=>exact ⟨j+1,Fv _,R,rfl,by rw [pq _ _ _ _ (Fv _)];rfl,B0⟩
 case round =>
  obtain⟨c,e,F,rfl,rfl,m⟩:=hrel;have P:wr.cell? ⟨i,j,none⟩=some (.int .i64 d):=ad m S.out;have q:=oK L d j c;by_cases n:c<N
  ·obtain⟨l,f⟩:∃ l,L[c]?=some l:=⟨_,Fy (by have:=y.out;omega)⟩;have t:wr.cell? ⟨i,c,none⟩=some (.int .i64 l.2):=ad m (p c l f);obtain⟨a,r⟩:∃ a,gH L d j c=a:=⟨_,rfl⟩;obtain⟨b,s⟩:∃ b,(l.2==d)=b:=⟨_,rfl⟩;have o:=H (Bh e f r s);have g:=H s;rw [r] at q ⊢;obtain⟨z,u⟩:∃ z,l.2=z:=⟨_,rfl⟩;rw [u] at t g;clear r f s u;(go_upto_region 30 with fail);go_cut [145] from 131 to 147 (λs A=>s=.bool b/\Hid (D wr A))
   case first=>as_aux_lemma =>
    go_quiet (fail);go_wp2_with fail;go_meet;case rel=>exact ⟨congrArg Value.bool g,H (ER _ _)⟩
   case rest =>
    obtain⟨rfl,r⟩:=hcut;have f:=H (az m r);clear P t r m g;cases b with
    | true =>
     go_wp2;go_roundw;(case rel=>exact ⟨c+1,Nat.le_succ_of_le e,n,aY,by rw [o.out];go_num,f⟩);case measure=>simp [intOf];omega
    | false =>
     go_wp2;go_roundw;(case rel=>exact ⟨c+1,Nat.le_succ_of_le e,n,aY,by rw [o.out];simp,f⟩);case measure=>simp [intOf];omega
  ·obtain rfl:c=N:=Z;go_wp2_with fail;apply x.out;exact m
theorem EJ (o:Cf) (L:List (Nat×Int)) (x N:Nat) (hN:L.length=N) (d4:N<=300) (a7 a8:Option Addr) (c7 c8 X a:Nat) (w:World)
  (f:0<N->∃ g7 g8,a7=some ⟨g7,0,none⟩/\a8=some ⟨g8,0,none⟩/\∀ k e,L[k]?=some e->w.cell? ⟨g7,k,none⟩=some (.int .u64 (e.1:Nat))/\w.cell? ⟨g8,k,none⟩=some (.int .i64 e.2))
  (hz:w.cell? ⟨a,1,none⟩=some (.int .u64 (x:Nat))) (hf:w.cell? ⟨X,1,none⟩=some (.int .i64 (o.fifo:Nat))) (hl:w.cell? ⟨X,2,none⟩=some (.int .i64 (o.large:Nat)))
  (b:∀ j d,L[j]?=some (x,d)->(∀ k e,j+1<=k->L[k]?=some e->e.1≠x)->(0<=d->o.fifo<=gH L d j N)/\(d<0->o.large<=gH L d j N)) (K:Act->World->Prop) (Q:Exit->Act->World->Prop) (u0 u1 u2 u4 u5 u6 u9 u10 u12 u13 u14 u15 u16 u17 u18 u19 u20 u21 u22 u23 u24 u25 u26 u27 u28 u29 u30 u31 u32 u33 u34 u35 u36 u37 u38 u39 u40 u41 u42 u43 u44 u45 u46 u47 u48 u49 u50 u51 u52 u53 u54 u55 u56 u57 u58 u59 u60 u61 u62 u63 u64 u65 u66 u67 u68 u69 u70 u71 u72 u73 u74 u75 u76 u77 u78 u79 u80 u81 u82 u83 u84 u85 u86 u87 u88 u89 u90 u91 u92 u93 u94 u95 u96 u97 u98 u99 u100 u101 u102 u103 u104 u105 u106 u107 u108 u109 u110 u111 u112 u113 u114 u115 u116 u117 u118 u119 u120 u121 u122 u123 u124 u125 u126 u127 u128 u129 u130 u131 u132 u133 u134 u135 u136 u137 u138 u139 u140 u141 u142 u143 u144 u145 u146 u147 u148 u149 u150 u151 u152 u153 u154 u155 u156 u157 u158 u159 u160 u161 u162 u163 u164 u165 u166 u167 u168 u169 u170 u171 u172 u173 u174 u175 u176 u177 u178 u179 u180 u181 u182 u183 u184 u185 u186 u187 u188 u189 u190 u191 u192 u193:Value) (d5:u14=.int .i64 ((N:Int)-1)) (c:∀ (v2 d6 d7 W d g i l m n s T V Y a0 a1 a2 p q r t u v y z A B F G M O P R S a3 a4 a5 a6 a9 b0 b1 b2 b3 b4 b5 b6 b7 b8 b9 c0 c1 c2 c3 c4 c5 c6 c9 d0:Value) (w':World),Hid (D w w')->K ⟨#[u0,u1,v2,.pointer (some ⟨X,0,none⟩),u4,u5,u6,.slice a7 N c7,.slice a8 N c8,u9,u10,.pointer (some ⟨a,0,none⟩),u12,u13,d6,d7,W,u17,u18,u19,u20,u21,u22,u23,u24,u25,u26,u27,u28,u29,u30,u31,u32,u33,u34,u35,u36,u37,u38,u39,u40,u41,u42,u43,u44,u45,u46,u47,u48,u49,u50,u51,u52,u53,u54,u55,u56,u57,u58,u59,u60,u61,u62,u63,u64,u65,u66,u67,u68,u69,u70,u71,u72,u73,u74,u75,u76,u77,u78,u79,u80,u81,u82,u83,u84,u85,u86,u87,u88,u89,u90,u91,u92,u93,u94,u95,u96,u97,u98,u99,u100,u101,u102,u103,u104,u105,u106,u107,u108,u109,u110,u111,u112,u113,u114,u115,u116,u117,d,g,i,l,m,n,s,T,V,Y,a0,a1,a2,p,q,r,t,u,v,y,z,A,B,F,G,M,O,P,R,S,a3,a4,a5,a6,a9,b0,b1,b2,b3,b4,b5,b6,b7,b8,b9,c0,c1,c2,c3,c4,c5,c6,c9,d0,u172,u173,u174,u175,u176,u177,u178,u179,u180,u181,u182,u183,u184,u185,u186,u187,u188,u189,u190,u191,u192,u193],[]⟩ w') :
  Code.wp prog ((Tryz.f6.body.bind (iN 2)).getD .skip) (Exit.then K Q) ⟨#[u0,u1,u2,.pointer (some ⟨X,0,none⟩),u4,u5,u6,.slice a7 N c7,.slice a8 N c8,u9,u10,.pointer (some ⟨a,0,none⟩),u12,u13,u14,u15,u16,u17,u18,u19,u20,u21,u22,u23,u24,u25,u26,u27,u28,u29,u30,u31,u32,u33,u34,u35,u36,u37,u38,u39,u40,u41,u42,u43,u44,u45,u46,u47,u48,u49,u50,u51,u52,u53,u54,u55,u56,u57,u58,u59,u60,u61,u62,u63,u64,u65,u66,u67,u68,u69,u70,u71,u72,u73,u74,u75,u76,u77,u78,u79,u80,u81,u82,u83,u84,u85,u86,u87,u88,u89,u90,u91,u92,u93,u94,u95,u96,u97,u98,u99,u100,u101,u102,u103,u104,u105,u106,u107,u108,u109,u110,u111,u112,u113,u114,u115,u116,u117,u118,u119,u120,u121,u122,u123,u124,u125,u126,u127,u128,u129,u130,u131,u132,u133,u134,u135,u136,u137,u138,u139,u140,u141,u142,u143,u144,u145,u146,u147,u148,u149,u150,u151,u152,u153,u154,u155,u156,u157,u158,u159,u160,u161,u162,u163,u164,u165,u166,u167,u168,u169,u170,u171,u172,u173,u174,u175,u176,u177,u178,u179,u180,u181,u182,u183,u184,u185,u186,u187,u188,u189,u190,u191,u192,u193],[]⟩ w:=by
 have HK:=H c;have HN:=H hN;have Y:=H f;have HZ:=H hz;have HF:=H hf;have HL:=H hl;have a0:=H b;have B0:=H (Fu w.heap.size w);subst d5;clear c hN f hz hf hl b
 conv=>arg 2;whnf
 go_wp2_with fail;go_loopw [14] (λj wr=>∃ m:Nat,m<=N/\j=.int .i64 ((m:Int)-1)/\Hid (∀ k e,m<=k->L[k]?=some e->e.1≠x)/\Hid (D w wr)) (λj _=>(intOf j+1).toNat);case atStart=>exact ⟨N,Fv _,rfl,H (λk e hk T=>by have:=(Fz.1 T).1;have:=HN.out;omega),B0⟩
 case round =>
  obtain⟨m,hm,rfl,l,d⟩:=hrel;cases m with
  | zero =>
   go_wp2;apply HK.out;exact d
  | succ j =>
   obtain⟨g7,g8,rfl,rfl,f⟩:=Y.out Z;obtain⟨c,b⟩:∃ c,L[j]?=some c:=⟨_,Fy (by have:=HN.out;omega)⟩;have x7:wr.cell? ⟨g7,j,none⟩=some (.int .u64 (c.1:Nat)):=ad d (f j c b).1;have z1:wr.cell? ⟨a,1,none⟩=some (.int .u64 (x:Nat)):=ad d HZ.out;have g:=H f;have n:=H b;have i:((j+1:Nat):Int)-1=(j:Int):=Z;rw [i];clear f b i Y;have a2:j<N:=Z;(go_upto_region 25 with fail);go_cut [128] from 118 to 171 (λs w'=>s=.bool (((c.1:Nat):Int) != ((x:Nat):Int))/\Hid (D wr w'))
   case first=>as_aux_lemma =>
    go_quiet (fail);go_wp2_with fail;go_meet;case rel=>exact ⟨rfl,H (ER _ _)⟩
   case rest =>
    obtain⟨rfl,b⟩:=hcut;have i:=H (az d b);clear x7 z1 b d;by_cases T:c.1=x
    ·have de:(((c.1:Nat):Int) != ((x:Nat):Int))=false:=(by rw [T];simp);rw [de];have s:=H (a0 j c.2 (by rw [n.out,<-T]) l);clear de T a0 l;(go_upto_block 4 with fail);refine EO L c.2 j N HN a2 d4 _ _ _ _ _ (ad i (g j c n).2) (λk e V=>ad i (g k e V).2) _ _ _ _ _ _ _ _ _ _ _ _ _ _ _ _ _ _ _ _ _ _ _ _ _ _ _ _ _ _ _ _ _ _ _ _ _ _ _ _ _ _ _ _ _ _ _ _ _ _ _ _ _ _ _ _ _ _ _ _ _ _ _ _ _ _ _ _ _ _ _ _ _ _ _ _ _ _ _ _ _ _ _ _ _ _ _ _ _ _ _ _ _ _ _ _ _ _ _ _ _ _ _ _ _ _ _ _ _ _ _ _ _ _ _ _ _ _ _ _ _ _ _ _ _ _ _ _ _ _ _ _ _ _ _ _ _ _ _ _ _ _ _ _ _ _ _ _ _ _ _ _ _ _ _ _ _ _ _ _ _ _ _ _ _ _ _ _ _ _ _ _ _ _ _ _ _ _ _ _ _ _ _ _ _ _ _ _ _ _ _ _ aY ?_;intro W p q r t u v y z A B F G M O P R S w5 a1;have BK:=H (az i a1);have y8:w5.cell? ⟨g8,j,none⟩=some (.int .i64 c.2):=ad BK (g j c n).2;have f1:w5.cell? ⟨X,1,none⟩=some (.int .i64 (o.fifo:Nat)):=ad BK HF.out;have f2:w5.cell? ⟨X,2,none⟩=some (.int .i64 (o.large:Nat)):=ad BK HL.out;have a3:=oK L c.2 j N;generalize gH L c.2 j N=b at s a3 ⊢;clear i a1;by_cases hd:0<=c.2
     ·have d1:decide (c.2≥0)=true:=G8 hd;have d2:¬b<o.fifo:=(by have:=s.1 hd;omega);have d3:decide (c.2<0)=false:=GR Z;clear hd;go_wp2;apply HK.out;exact BK
     ·have d1:decide (c.2≥0)=false:=GR Z;have d2:¬b<o.large:=(by have:=s.2 Z;omega);have d3:decide (c.2<0)=true:=G8 Z;clear hd;go_wp2;apply HK.out;exact BK
    ·have de:(((c.1:Nat):Int) != ((x:Nat):Int))=true:=bG;rw [de];have wj:IntKind.i64.wrap ((j:Int)-1)=(j:Int)-1:=(by rw [Hh];omega);have b:=H (show ∀ k e,j<=k->L[k]?=some e->e.1≠x from λk e hk V=>by
      by_cases s:k=j;·rw [s,n.out] at V;injection V with V;rw [<-V];exact T
      ·exact l k e Z V)
     clear de T l;go_wp2;go_roundw;(case rel=>exact ⟨j,Z,rfl,b,i⟩);case measure=>simp [intOf]
theorem Dp (RI:Db) (RS:Di) (SN:AJ) (a:Option Addr) (a5 c9:Nat) (zs:List Int) (w:World) (h0:IsRow .u8 w a a5 c9 zs) (tb:Tb w) (hw:0<w.heap.size) :
    Calls prog 6 #[.slice a a5 c9] w λe K=>e=.returned (.bool true)/\D w K:=by
  by_cases hl:1048576<a5
  · go_enter func6,ntmps6
    go_wp2
    go_ret
    exact⟨rfl,Fu _ _⟩
  · have b:=H (Dd a a5 c9 zs w h0 Z)
    have TB:=H tb
    have HW:=H hw
    have i2:=H RI
    have i3:=H RS
    have i4:=H SN
    clear h0 tb hw RI RS SN
    go_enter func6,ntmps6
    go_wp2_with fail
    refine b.mono ?_
    rintro e O ⟨c,l,A,n,B,rfl,g2,q1,hB,ok,d0,od,b1⟩
    clear b
    by_cases a0:jg c.mi c.fi c.la c.bu c.ds.length/\l.length<=300
    · obtain ⟨r,b,g,i,f⟩:=Bn ok a0.1
      have hN:=a0.2
      rw [b,show gZ r c.da c.dc=.agg #[.int .i64 (r.mix:Nat),.int .i64 (r.fifo:Nat),.int .i64 (r.large:Nat),.int .i64 (r.bud:Nat),.int .u64 r.key,.slice c.da r.ds.length c.dc] from rfl]
      have b2:D O _:=(Fu O.heap.size O).alloc (Fv _) (.cells #[.int .i64 (r.mix:Nat),.int .i64 (r.fifo:Nat),.int .i64 (r.large:Nat),.int .i64 (r.bud:Nat),.int .u64 r.key,.slice c.da r.ds.length c.dc] 26)
      have M:=H (ao O (.cells #[.int .i64 (r.mix:Nat),.int .i64 (r.fifo:Nat),.int .i64 (r.large:Nat),.int .i64 (r.bud:Nat),.int .u64 r.key,.slice c.da r.ds.length c.dc] 26))
      have Q:=H (az b1 b2)
      have OD:=H (λq W=>(od q W).bel b2)
      have a6:=H (ax d0 b2)
      have OI:=H (yZ a6 OD)
      have SL:=H (show Sl _ c.da r.ds from by rw [f];exact ok.sl.1.below b2)
      have SB:=H (λa ha=>FG (ok.sl.2 a ha) b2.size)
      have DK:=H (IT g i)
      clear ok d0 od b1 b2 hB g2 a0 b f g i
      generalize c.da=da at SL SB M Q OD OI a6 ⊢
      generalize c.dc=dc at M Q OD OI SL SB a6 ⊢
      clear c
      go_upto_region 4 with fail
      generalize O.alloc (.cells #[.int .i64 (r.mix:Nat),.int .i64 (r.fifo:Nat),.int .i64 (r.large:Nat),.int .i64 (r.bud:Nat),.int .u64 r.key,.slice da r.ds.length dc] 26)=V2 at M Q OD OI SL SB a6 ⊢
      generalize O.heap.size=X at M ⊢
      go_wp2_with (refine Gt rfl 26 _ rfl _ rfl _ _ _ _ M underlying26 rfl E ?_)
      refine (i2 r da dc A n l V2 DK.1 DK.2 (TB.below Q) SL SB (by have:=HW.out;have:=Q.size;omega) OI.1 OI.2 hN).mono ?_
      rintro e V3 ⟨l5,i5,m0,m1,m2,m3,m4,m5,m6,m7,rfl,b,t,g,i,b3⟩
      obtain⟨nb,k⟩:=uy V3 #[.bool false,.slice none 0 0,.int .i64 0,.slice none 0 0,.slice none 0 0,.slice none 0 0,.slice none 0 0,.slice none 0 0,.slice none 0 0,.int .i64 0] #[.bool true,i5,m0,m1,m2,m3,m4,m5,m6,m7] 38
      have y:=H (uw b)
      have m:(bd r (l.map df.o) (aP r) []).2.length=l.length:=by rw [ft];simp
      obtain⟨A5,c5,g3,i6,v⟩:=qF g t i
      rw [m] at g3 i6
      subst g3
      have o:=H (v.low k)
      have f:=H nb
      have p:=H (az b3 k)
      have a9:=H m
      have s:=H (IU p M)
      clear nb k b3 b t g i m v
      go_upto_region 5 with (refine Gf rfl 38 _ _ rfl _ _ rfl rfl 38 _ (ao V3 _) E rfl y ?_;generalize (V3.alloc (.cells #[.bool false,.slice none 0 0,.int .i64 0,.slice none 0 0,.slice none 0 0,.slice none 0 0,.slice none 0 0,.slice none 0 0,.slice none 0 0,.int .i64 0] 38)).setRow V3.heap.size #[.bool true,.slice A5 l.length c5,m0,m1,m2,m3,m4,m5,m6,m7]=V4 at f p o s ⊢;generalize V3.heap.size=E5 at f ⊢)
      go_wp2_with (refine Gt rfl 26 _ rfl _ rfl _ _ _ _ s underlying26 rfl E ?_)
      refine (i3 r da dc A n l V4 DK.1 DK.2 (SL.below p) (Ois.low OI.1 p) hN).mono ?_
      rintro e V5 ⟨l6,i7,k0,k1,k2,k3,k4,k5,k6,k7,rfl,b,t,g,i,b5⟩
      obtain⟨nb,k⟩:=uy V5 #[.bool false,.slice none 0 0,.int .i64 0,.slice none 0 0,.slice none 0 0,.slice none 0 0,.slice none 0 0,.slice none 0 0,.slice none 0 0,.int .i64 0] #[.bool true,i7,k0,k1,k2,k3,k4,k5,k6,k7] 38
      have v:=H (uw b)
      obtain⟨A6,c6,g4,i8,x⟩:=qF g t i
      rw [a9.out] at g4 i8
      subst g4
      have d1:=H (x.low k)
      have a1:=H nb
      have m:=H (az b5 k)
      have N5:=H (IU m f)
      have b0:=H (o.low m)
      clear nb k b5 b t g i x y s
      go_upto_region 6 with (refine Gf rfl 38 _ _ rfl _ _ rfl rfl 38 _ (ao V5 _) E rfl v ?_;generalize (V5.alloc (.cells #[.bool false,.slice none 0 0,.int .i64 0,.slice none 0 0,.slice none 0 0,.slice none 0 0,.slice none 0 0,.slice none 0 0,.slice none 0 0,.int .i64 0] 38)).setRow V5.heap.size #[.bool true,.slice A6 l.length c6,k0,k1,k2,k3,k4,k5,k6,k7]=F at a1 m d1 N5 b0 ⊢;generalize V5.heap.size=E6 at a1 ⊢)
      have i9:=H (IU m (IU p M))
      have B6:=H (az p m)
      have g5:F.cell? ⟨E5,0,none⟩=some (.bool true):=bJ N5.out
      have b9:F.cell? ⟨E5,1,none⟩=some (.slice A5 l.length c5):=bJ N5.out
      have g6:F.cell? ⟨E6,0,none⟩=some (.bool true):=bJ a1.out
      have g9:F.cell? ⟨E6,1,none⟩=some (.slice A6 l.length c6):=bJ a1.out
      clear v f o p m
      have h4:=H (λi o b a ha=>qX r DK.1.fifo1 DK.2 (l.map df.o) i o b a ha)
      generalize (bd r (l.map df.o) (aP r) []).2=y at h4 a9 b0 d1
      go_wp2_with fail
      clear g5 b9 g6 g9
      go_loopw [7,8,52] (λb f i wr=>∃ t:Nat,t<=l.length/\i=.int .i64 t/\Hid (Wl F (gJ (l.map df.o) y t).reverse b f wr)) (λ_ _ i _=>l.length-(intOf i).toNat)
      case atStart=>exact ⟨0,FH _,rfl,H ⟨Fu _ _,⟨rfl,.inl ⟨rfl,rfl⟩⟩,⟨rfl,.inl ⟨rfl,rfl⟩⟩⟩⟩
      case round =>
        obtain⟨t,ht,rfl,WL⟩:=hrel;have d2:=ql (l.map df.o) y t;rw [<-List.length_reverse] at d2;obtain⟨L,b⟩:∃ L,(gJ (l.map df.o) y t).reverse=L:=⟨_,rfl⟩;rw [b] at WL d2;have HL:=H b;clear b;obtain⟨⟨a7,c7,h5⟩,a8,c8,h6⟩:=WL.form;obtain⟨N,b⟩:∃ N,L.length=N:=⟨_,rfl⟩;have a2:=H b;rw [b] at h5 h6 d2;clear b;subst h5 h6;by_cases h7:t<l.length
        · obtain ⟨q,W⟩:∃ q,l[t]?=some q:=⟨_,Fy h7⟩
          obtain⟨m,ha⟩:∃ m,y[t]?=some m:=⟨_,Fy (by rw [a9.out];exact h7)⟩
          obtain⟨GA,hA,q2,f⟩:=OI.1.at_ t q W
          subst hA
          obtain⟨G5,j0,x5,y5,z5,k⟩:=b0.out t m ha
          subst j0
          obtain⟨G6,j1,x6,y6,z6,p⟩:=d1.out t m ha
          subst j1
          have v:=H (show wr.rangeAt GA (t*6) [.int .i64 q.o.kd,.int .i64 q.o.ref,.int .u64 (q.o.p:Nat),.int .u64 (q.o.a:Nat),.int .u64 (q.o.b:Nat),.slice q.d q.o.ys.length q.dc] from λj u hu=>ad WL.bel (ad B6 (f j u hu)))
          have s:=H (ao wr (.cells #[.int .i64 q.o.kd,.int .i64 q.o.ref,.int .u64 (q.o.p:Nat),.int .u64 (q.o.a:Nat),.int .u64 (q.o.b:Nat),.slice q.d q.o.ys.length q.dc] 42))
          have g:D wr _:=(Fu wr.heap.size wr).alloc (Fv _) (.cells #[.int .i64 q.o.kd,.int .i64 q.o.ref,.int .u64 (q.o.p:Nat),.int .u64 (q.o.a:Nat),.int .u64 (q.o.b:Nat),.slice q.d q.o.ys.length q.dc] 42)
          have b:=H (WL.low g)
          clear f WL g
          go_upto_region 15 with (refine wpList_load_mid rfl 42 _ rfl _ _ rfl _ _ v underlying42 rfl E ?_)
          generalize wr.alloc (.cells #[.int .i64 q.o.kd,.int .i64 q.o.ref,.int .u64 (q.o.p:Nat),.int .u64 (q.o.a:Nat),.int .u64 (q.o.b:Nat),.slice q.d q.o.ys.length q.dc] 42)=Y at s b ⊢
          generalize wr.heap.size=f at s ⊢
          clear v
          have b9:Y.cell? ⟨E5,1,none⟩=some (.slice (some ⟨G5,0,none⟩) l.length c5):=ad b.bel (bJ N5.out)
          have v:=H (show Y.rangeAt G5 (t*4) [.int .i64 m.code,.int .u64 (m.addr:Nat),.int .i64 (m.size:Nat),.slice x5 y5 z5] from λj u hu=>ad b.bel (k j u hu))
          have NT:=H (ao Y (.cells #[.int .i64 m.code,.int .u64 (m.addr:Nat),.int .i64 (m.size:Nat),.slice x5 y5 z5] 44))
          have g:D Y _:=(Fu Y.heap.size Y).alloc (Fv _) (.cells #[.int .i64 m.code,.int .u64 (m.addr:Nat),.int .i64 (m.size:Nat),.slice x5 y5 z5] 44)
          have a3:=H (b.low g)
          have d3:=H (IU g s)
          clear b s g
          go_upto_region 16 with (refine wpList_load_mid rfl 44 _ rfl _ _ rfl _ _ v underlying44 rfl E ?_)
          generalize Y.alloc (.cells #[.int .i64 m.code,.int .u64 (m.addr:Nat),.int .i64 (m.size:Nat),.slice x5 y5 z5] 44)=Y2 at d3 a3 NT ⊢
          generalize Y.heap.size=Z2 at NT ⊢
          clear v b9
          have C5:=H (λx (bW:D F x)=>(ad bW (bJ N5.out):x.cell? ⟨E5,1,none⟩=some (.slice (some ⟨G5,0,none⟩) l.length c5)))
          have C6:=H (λx (bW:D F x)=>(ad bW (bJ a1.out):x.cell? ⟨E6,1,none⟩=some (.slice (some ⟨G6,0,none⟩) l.length c6)))
          have K6:=H (λx (bW:D F x)=>(ad bW (p 0 (.int .i64 m.code) rfl):x.cell? ⟨G6,t*4,none⟩=some (.int .i64 m.code)))
          have AD:=H (λx (bW:D F x) j b (hb:y[j]?=some b)=>(show x.cell? ⟨G5,j*4+1,none⟩=some (.int .u64 (b.addr:Nat)) from by
            obtain⟨v,g,z,G,P,s⟩:=b0.out j b hb;injection g with g;injection g with g;subst g;exact ad bW (s 1 _ rfl)))
          clear k p
          go_cut [72] (λs K=>s=.bool false/\Hid (D Y2 K))
          case first=>as_aux_lemma =>
            have z0:Y2.cell? ⟨Z2,0,none⟩=some (.int .i64 m.code):=bJ NT.out;have c6:=C6.out _ a3.bel;have k6:=K6.out _ a3.bel;clear W ha;go_quiet (fail);go_wp2_with fail;go_meet;case rel=>exact ⟨bH,H (ER _ _)⟩
          case rest =>
            obtain⟨rfl,g⟩:=hcut;have a4:=H (a3.low g);have d4:=H (IU g d3);have d5:=H (IU g NT);clear a3 d3 NT g;obtain⟨P,hP⟩:∃ P,m_ q.o (y.take t)=P:=⟨_,rfl⟩;have g:=h4.out t q.o (by rw [Gv,W];rfl) m ha;rw [hP] at g;have G:=H (show gJ (l.map df.o) y (t+1)=stepW (gJ (l.map df.o) y t) q.o P m from by
              rw [<-hP];show (match (l.map df.o)[t]?,y[t]? with|some o,some a=>stepW (gJ (l.map df.o) y t) o (m_ o (y.take t)) a|_,_=>gJ (l.map df.o) y t)=_;rw [Gv,W,ha];rfl)
            have W0:=H g;clear g;(go_upto_region 18 with fail);go_cut [80] (λs K=>s=.bool (decide (m.code≠0) || decide (3<q.o.kd))/\K=wc)
            case first=>as_aux_lemma =>
              have x0:wc.cell? ⟨f,0,none⟩=some (.int .i64 q.o.kd):=bJ d4.out;have z0:wc.cell? ⟨Z2,0,none⟩=some (.int .i64 m.code):=bJ d5.out;clear W ha hP;cases R:(m.code != 0) <;> cases T:decide (q.o.kd > 3) <;>
              (go_wp2
               go_meet
               case rel=>exact ⟨congrArg Value.bool (by simp at R T;simp [R,T]),rfl⟩)
            case rest =>
              obtain⟨rfl,rfl⟩:=hcut;cases hb:(decide (m.code≠0) || decide (3<q.o.kd)) with
              | true =>
                have HE:=H (show gJ (l.map df.o) y (t+1)=gJ (l.map df.o) y t from by
                  rw [G.out];unfold stepW;rw [GO];rintro⟨⟨c0,k3⟩,_⟩;simp only [Bool.or_eq_true,Hj] at hb;omega)
                clear hb W ha hP;go_wp2;go_roundw;(case rel=>exact ⟨t+1,Z,aY,by rw [HE.out,HL.out];exact a4⟩);case measure=>simp [intOf];omega
              | false =>
                simp only [Bool.or_eq_false_iff,decide_eq_false_iff_not,Classical.not_not] at hb;obtain⟨g,k⟩:=hb;have V:=H (λx (bW:D wc x)=>(show Calls prog 14 #[.agg #[.int .i64 q.o.kd,.int .i64 q.o.ref,.int .u64 (q.o.p:Nat),.int .u64 (q.o.a:Nat),.int .u64 (q.o.b:Nat),.slice q.d q.o.ys.length q.dc],.slice (some ⟨G5,0,none⟩) t c5] x λe p=>e=.returned (.int .u64 (P:Nat))/\D x p from by
                  have h9:=wB q G5 t c5 (y.take t) x (by rw [Hm,a9.out];omega) Z (OI.1.wf q (FM W)).1 (λj b hb=>by
                    rw [Gx] at hb;split at hb;· exact AD x (az a4.bel bW) j b hb
                    · cases hb)
                  rw [hP] at h9;exact h9))
                have BY:=H (Fu wc.heap.size wc);have v:=H (C5 _ a4.bel);have HQ:=H (IT W (IT ha (IT k g)));have q3:=H hP;clear W ha k g hP;have q4:t<=c5:=Z;(go_upto_region 19 with fail);refine wp_region_held (S:=λx=>D wc x/\x.heap[f]?=some (.cells #[.int .i64 q.o.kd,.int .i64 q.o.ref,.int .u64 (q.o.p:Nat),.int .u64 (q.o.a:Nat),.int .u64 (q.o.b:Nat),.slice q.d q.o.ys.length q.dc] 42)/\x.cell? ⟨E5,1,none⟩=some (.slice (some ⟨G5,0,none⟩) l.length c5)) E ?_;simp only [FX,FN,F1,Nat.reduceAdd,FP,FO,FY,FV,F5];have k:=(show _/\_/\_ from ⟨BY.drew,d4,v⟩);refine pf 0 (.agg #[.int .i64 q.o.kd,.int .i64 q.o.ref,.int .u64 (q.o.p:Nat),.int .u64 (q.o.a:Nat),.int .u64 (q.o.b:Nat),.slice q.d q.o.ys.length q.dc]) rfl k (λW h=>zR 42 _ rfl f rfl (run_loadVar_row _ f 42 42 _ (0,0) _ h.2.1 underlying42 rfl E)) ?_;simp only [lz,l0,ls];refine pk 1 (.pointer (some ⟨E5,1,none⟩)) k ?_;simp only [lz,l0,ls];refine pz 2 (.slice (some ⟨G5,0,none⟩) l.length c5) k ?_;simp only [lz,l0,ls];refine pk 3 (.int .i64 (t:Nat)) k ?_;simp only [lz,l0,ls];refine pz 4 (.slice (some ⟨G5,0,none⟩) t c5) k ?_;simp only [lz,l0,ls];refine po 5 λK' hK=>?_;go_simp
                refine (V _ k.1).mono ?_;rintro e g ⟨rfl,p⟩;refine hK _ _ ⟨⟨az k.1 p,IU p k.2.1,ad p k.2.2⟩,?_⟩;have z:=(show D wc g/\g.heap[f]?=some (.cells #[.int .i64 q.o.kd,.int .i64 q.o.ref,.int .u64 (q.o.p:Nat),.int .u64 (q.o.a:Nat),.int .u64 (q.o.b:Nat),.slice q.d q.o.ys.length q.dc] 42)/\g.cell? ⟨E5,1,none⟩=some (.slice (some ⟨G5,0,none⟩) l.length c5) from ⟨az k.1 p,IU p k.2.1,ad p k.2.2⟩);refine pk 6 (.int .u64 (P:Nat)) z ?_;simp only [lz,l0,ls];refine bY ?_;have c1:=H (a4.low z.1);have c2:=H z.2.1;have d6:=H (IU z.1 d5);clear k p z V BY a4 d4 d5 v hK K';(go_upto_region 20 with fail);go_cut [13] (λs K=>s=.bool (decide (q.o.kd=2/\P≠0/\P≠m.addr))/\K=g)
                case first=>as_aux_lemma =>
                  have x0:g.cell? ⟨f,0,none⟩=some (.int .i64 q.o.kd):=bJ c2.out;have p:g.cell? ⟨Z2,1,none⟩=some (.int .u64 (m.addr:Nat)):=bJ d6.out;cases R:(q.o.kd==2) <;> cases T:(((P:Nat):Int) != 0) <;> cases k:(((P:Nat):Int) != ((m.addr:Nat):Int)) <;>
                  (go_wp2
                   go_meet
                   case rel=>exact ⟨congrArg Value.bool (by simp at R T k;simp [R,T,k];try omega),rfl⟩)
                case rest =>
                  obtain⟨rfl,rfl⟩:=hcut;obtain⟨z,k⟩:∃ z,decide (q.o.kd=2/\P≠0/\P≠m.addr)=z:=⟨_,rfl⟩;rw [k];have HB:=H k;clear k;(go_upto_region 21 with fail);go_cut [114] (λs K=>s=.bool (decide (q.o.kd≠3/\(q.o.kd≠2\/P=0\/P≠m.addr)))/\K=wc)
                  case first=>as_aux_lemma =>
                    have x0:wc.cell? ⟨f,0,none⟩=some (.int .i64 q.o.kd):=bJ c2.out;cases k:(q.o.kd != 3) <;> cases R:(q.o.kd != 2) <;> cases T:(((P:Nat):Int)==0) <;> cases z <;>
                    (go_wp2
                     go_meet
                     case rel=>exact ⟨congrArg Value.bool (by have h9:=HB.out;simp at k R T h9;simp [k,R,T];try omega),rfl⟩)
                  case rest =>
                    obtain⟨rfl,rfl⟩:=hcut;have e4:=H (IU c1.bel i9);have BR:=H (Fu wc.heap.size wc);obtain⟨e5,k⟩:∃ e5,decide (q.o.kd≠3/\(q.o.kd≠2\/P=0\/P≠m.addr))=e5:=⟨_,rfl⟩;rw [k];have c4:=H k;clear k;refine (by assumption:∀ (a:Act) (w:World),Code.wp prog (Code.cond (Operand.tmp 114) _ _) _ a w->_) _ _ ?_;obtain⟨WB,rfl⟩:∃ WB,WB=wc:=⟨_,rfl⟩;go_cut [13] (λs K=>s=.bool z/\Hid (D WB K))
                    case first=>as_aux_lemma =>
                      cases e5 with
                      | false =>
                        go_wp2;go_meet;case rel=>exact ⟨rfl,BR⟩
                      | true =>
                        have c3:=H (show okW r (gJ (l.map df.o) y t) m.addr from W0.2.1 (by
                          have h1:=of_decide_eq_true c4.out;have h2:=HQ.out;exact⟨h2.2.2.2,Z,h1.1,h1.2⟩))
                        have q5:IntKind.i64.wrap ((N:Int)-1)=(N:Int)-1:=(by rw [Hh];omega);have e6:N<=300:=Z;have p:0<N->∃ V g8,a7=some ⟨V,0,none⟩/\a8=some ⟨g8,0,none⟩/\∀ k e,L[k]?=some e->WB.cell? ⟨V,k,none⟩=some (.int .u64 (e.1:Nat))/\WB.cell? ⟨g8,k,none⟩=some (.int .i64 e.2):=λh9=>by
                          obtain⟨V,d7,g8,d8,v,e8,g0⟩:=c1.at (by have:=a2.out;omega);injection v with v _ f7;injection e8 with e8 _ f8;exact⟨V,g8,v,e8,g0⟩
                        have v:=H p;clear p;(go_upto_block 2 with fail);refine EJ r L m.addr N a2 e6 _ _ _ _ X Z2 WB v (bJ d6.out) (bJ e4.out) (bJ e4.out) (λj d h1 h2=>by have h9:=Eb c3 (j:=j) (d:=d) (by rw [HL.out];exact h1) (by rw [HL.out];exact h2);rw [HL.out,a2.out] at h9;exact h9) _ _ _ _ _ _ _ _ _ _ _ _ _ _ _ _ _ _ _ _ _ _ _ _ _ _ _ _ _ _ _ _ _ _ _ _ _ _ _ _ _ _ _ _ _ _ _ _ _ _ _ _ _ _ _ _ _ _ _ _ _ _ _ _ _ _ _ _ _ _ _ _ _ _ _ _ _ _ _ _ _ _ _ _ _ _ _ _ _ _ _ _ _ _ _ _ _ _ _ _ _ _ _ _ _ _ _ _ _ _ _ _ _ _ _ _ _ _ _ _ _ _ _ _ _ _ _ _ _ _ _ _ _ _ _ _ _ _ _ _ _ _ _ _ _ _ _ _ _ _ _ _ _ _ _ _ _ _ _ _ _ _ _ _ _ _ _ _ _ _ _ _ _ _ _ _ _ _ _ _ _ _ _ _ _ _ _ _ _ _ _ _ rfl ?_;intro v2 q6 q7 q8 g0 g1 h8 i0 i1 j2 j3 j4 j5 j6 j7 j8 j9 k8 k9 l2 l3 l4 l7 l8 l9 m8 m9 n0 n1 n2 n3 n4 n5 n6 n7 n8 n9 o0 o1 o2 o3 o4 o5 o6 o7 o8 o9 p0 p1 p2 p3 p4 p5 p6 p7 p8 p9 q0 w5 p;go_wp2_with fail;go_meet;case rel=>exact ⟨rfl,p⟩
                    case rest =>
                      obtain⟨rfl,p⟩:=hcut;have c3:=H (c1.low p);have h8:=H (IU p c2);have i0:=H (TB.below (az Q (az B6 c3.bel)));clear p c1 c2 d6 e4 BR c4;(go_upto_region 34 with fail);go_cut [177] (λs K=>s=.bool (decide (q.o.kd=3) || z)/\K=wc)
                      case first=>as_aux_lemma =>
                        have x0:wc.cell? ⟨f,0,none⟩=some (.int .i64 q.o.kd):=bJ h8.out;by_cases p:q.o.kd=3
                        · rw [p] at x0
                          have v:=H (show (decide (q.o.kd=3) || z)=true from by simp [p])
                          clear p
                          go_wp2
                          go_meet
                          case rel=>exact ⟨congrArg Value.bool v.symm,rfl⟩
                        · have v:¬q.o.kd=3:=p
                          clear p
                          go_wp2
                          go_meet
                          case rel=>exact ⟨congrArg Value.bool (by simp [v]),rfl⟩
                      case rest =>
                        obtain⟨rfl,rfl⟩:=hcut;have HM:=H (show (decide (q.o.kd=3) || z)=true↔tu q.o P m from by
                          rw [<-HB.out];unfold tu;simp)
                        obtain⟨e6,p⟩:∃ e6,(decide (q.o.kd=3) || z)=e6:=⟨_,rfl⟩;rw [p] at HM ⊢;clear p HB;cases e6 with
                        | false =>
                          have HE:=H (show gJ (l.map df.o) y (t+1)=gJ (l.map df.o) y t from by
                            rw [G.out];unfold stepW;rw [GO];rintro⟨_,hm⟩;exact Bool.noConfusion (HM.2 hm))
                          go_wp2;go_roundw;(case rel=>exact ⟨t+1,Z,aY,by rw [HE.out,HL.out];exact c3⟩);case measure=>simp [intOf];omega
                        | true =>
                          have g0:=W0.2.2 HQ.2.2.2 (HM.1 rfl);have HE:=H (show (gJ (l.map df.o) y (t+1)).reverse=L++[(P,jx P)] from by
                            rw [G.out];unfold stepW;rw [GP ⟨⟨HQ.2.2.2,by have:=HQ.2.2.1;omega⟩,HM.1 rfl⟩,List.reverse_cons,HL.out])
                          have DE:=H (show ∀ V,Tb V->Calls prog 19 #[.int .u64 (P:Nat)] V λe V'=>∃ kd c s j p o:Int,e=.returned (pl kd c s j p o)/\((kd=3/\c=jx P)\/(kd=4/\jx P = -1))/\D V V' from λV hV=>by
                            rcases g0 with ⟨c,s,j,hc,hs,hj,R,T⟩|⟨k,g1,i1,R,T⟩
                            · have j2:=ca hc hs hj
                              refine (iB (P:Int) Z Z V hV).mono ?_
                              rintro e V' ⟨⟨v,hd,rfl⟩,b⟩
                              rw [R] at hd
                              obtain rfl:=uE hc hs hj hd
                              exact⟨_,_,_,_,_,_,rfl,.inl ⟨rfl,T.symm⟩,b⟩
                            · refine (iB (P:Int) Z Z V hV).mono ?_
                              rintro e V' ⟨⟨v,hd,rfl⟩,b⟩
                              rw [R] at hd
                              obtain⟨p,o,rfl⟩:=vL g1 i1 hd
                              exact⟨_,_,_,_,_,_,rfl,.inr ⟨rfl,T⟩,b⟩)
                          clear g0 HM G W0;generalize jx P=cl at HE DE;go_wp2_with fail;refine (DE _ i0).mono ?_;rintro e U1 ⟨kd,c,s,j,p,o,rfl,V,v⟩;have b6:=v.alloc v.size (.cells #[.int .i64 kd,.int .i64 c,.int .i64 s,.int .i64 j,.int .i64 p,.int .i64 o] 58);have U0:=H (ao U1 (.cells #[.int .i64 kd,.int .i64 c,.int .i64 s,.int .i64 j,.int .i64 p,.int .i64 o] 58));have g0:=H (c3.low b6);have i1:=H V;clear v b6 DE c3 i0 V h8;unfold pl;(go_upto_region 37 with fail);generalize U1.alloc (.cells #[.int .i64 kd,.int .i64 c,.int .i64 s,.int .i64 j,.int .i64 p,.int .i64 o] 58)=U2 at g0 U0 ⊢;generalize U1.heap.size=F9 at U0 ⊢;obtain⟨b7,d7,w2,V,b8,d8,w4,v,g1⟩:=g0.app7 (by have:=a2.out;omega) P cl;rw [a2.out] at V v g1;have H1:=H V;have H2:=H v;have H3:=H g1;clear g0 V v g1;have u0:U2.cell? ⟨F9,0,none⟩=some (.int .i64 kd):=bJ U0.out;have u1:U2.cell? ⟨F9,1,none⟩=some (.int .i64 c):=bJ U0.out;rcases i1.out with ⟨h1,h2⟩|⟨h1,h2⟩ <;>
                          (subst h1 h2
                           clear i1 U0
                           go_wp2_with (at_builtin;first|refine ga 34 rfl (.tmp 185) (.tmp 187) (by with_reducible rfl) rfl rfl rfl H1 ?_|refine ga 24 rfl (.tmp 189) (.tmp 191) (by with_reducible rfl) rfl rfl rfl H2 ?_)
                           go_roundw
                           case rel=>exact ⟨t+1,Z,aY,by rw [HE.out];exact H3⟩
                           case measure=>simp [intOf];omega)
        · have b:=H (az Q (az B6 WL.bel))
          clear ht WL
          go_wp2
          go_ret
          exact⟨rfl,b⟩
    · have k:=H a0
      unfold pQ
      have M:=H (ao O (.cells #[.int .i64 c.mi,.int .i64 c.fi,.int .i64 c.la,.int .i64 c.bu,.int .u64 c.ky,.slice c.da c.ds.length c.dc] 26))
      have b2:D O _:=(Fu O.heap.size O).alloc (Fv _) (.cells #[.int .i64 c.mi,.int .i64 c.fi,.int .i64 c.la,.int .i64 c.bu,.int .u64 c.ky,.slice c.da c.ds.length c.dc] 26)
      have Q:=H (az b1 b2)
      clear ok d0 od b1 b2 hB g2 a0
      go_upto_region 4 with fail
      generalize O.alloc (.cells #[.int .i64 c.mi,.int .i64 c.fi,.int .i64 c.la,.int .i64 c.bu,.int .u64 c.ky,.slice c.da c.ds.length c.dc] 26)=V2 at M Q ⊢
      generalize O.heap.size=X at M ⊢
      go_wp2_with (refine Gt rfl 26 _ rfl _ rfl _ _ _ _ M underlying26 rfl E ?_)
      refine (nt _ _ _ _ _ _ _ _ _ _ _ _ (TB.below Q) k).mono ?_
      rintro e V3 ⟨rfl,b3⟩
      have b:=b3.alloc b3.size (.cells #[.bool false,.slice none 0 0,.int .i64 0,.slice none 0 0,.slice none 0 0,.slice none 0 0,.slice none 0 0,.slice none 0 0,.slice none 0 0,.int .i64 0] 38)
      have u0:=H (ao V3 (.cells #[.bool false,.slice none 0 0,.int .i64 0,.slice none 0 0,.slice none 0 0,.slice none 0 0,.slice none 0 0,.slice none 0 0,.slice none 0 0,.int .i64 0] 38))
      have f:=H (IU b M)
      have i:=H (az Q b)
      clear b3 b M Q
      go_upto_region 5 with fail
      generalize V3.alloc (.cells #[.bool false,.slice none 0 0,.int .i64 0,.slice none 0 0,.slice none 0 0,.slice none 0 0,.slice none 0 0,.slice none 0 0,.slice none 0 0,.int .i64 0] 38)=V4 at f i u0 ⊢
      generalize V3.heap.size=b at u0 ⊢
      go_wp2_with (refine Gt rfl 26 _ rfl _ rfl _ _ _ _ f underlying26 rfl E ?_)
      refine (i4 _ _ _ _ _ _ _ _ _ _ _ _ k).mono ?_
      rintro e V5 ⟨rfl,b5⟩
      have b6:=b5.alloc b5.size (.cells #[.bool false,.slice none 0 0,.int .i64 0,.slice none 0 0,.slice none 0 0,.slice none 0 0,.slice none 0 0,.slice none 0 0,.slice none 0 0,.int .i64 0] 38)
      have g:=H (ao V5 (.cells #[.bool false,.slice none 0 0,.int .i64 0,.slice none 0 0,.slice none 0 0,.slice none 0 0,.slice none 0 0,.slice none 0 0,.slice none 0 0,.int .i64 0] 38))
      have u1:=H (IU b6 u0)
      have B6:=H (az i b6)
      clear b5 b6 i f u0
      go_upto_region 6 with fail
      generalize V5.alloc (.cells #[.bool false,.slice none 0 0,.int .i64 0,.slice none 0 0,.slice none 0 0,.slice none 0 0,.slice none 0 0,.slice none 0 0,.slice none 0 0,.int .i64 0] 38)=F at B6 g u1 ⊢
      generalize V5.heap.size=f at g ⊢
      have g5:F.cell? ⟨b,0,none⟩=some (.bool false):=bJ u1.out
      have b9:F.cell? ⟨b,1,none⟩=some (.slice none 0 0):=bJ u1.out
      have g6:F.cell? ⟨f,0,none⟩=some (.bool false):=bJ g.out
      have g9:F.cell? ⟨f,1,none⟩=some (.slice none 0 0):=bJ g.out
      go_wp2
      go_ret
      exact⟨rfl,B6⟩
end
end Go.Proofs.YtdngbppdomoenaaGreatDoor
