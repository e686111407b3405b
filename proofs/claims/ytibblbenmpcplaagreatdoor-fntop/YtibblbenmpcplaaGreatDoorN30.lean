import Derived.Test.YtibblbenmpcplaaGreatDoorN20
import Derived.Test.YtibblbenmpcplaaGreatDoorN28
import Derived.Test.YtibblbenmpcplaaGreatDoorN29
set_option linter.unusedVariables false
set_option linter.unusedSimpArgs false
set_option maxRecDepth 20000
set_option maxHeartbeats 8000000
namespace Go.Proofs.YtibblbenmpcplaaGreatDoor
open Go.Proofs.Tryz
variable {g:Nat} {W:World}
section
open Go.RowKit Go.Maps
theorem uO {cf h} (i:Inv cf h) {s p:Nat} (a:dV h (g+p+1)=some s):(∀ j,j<p->(h.m (s+g+j)).isSome=false)/\(h.rg.any λr=>r.base==(s+g)*1024)=false:=by
 obtain⟨k,l,c⟩:=gO a;constructor
 ·intro j e;cases b:(h.m (s+g+j)).isSome with
  | false=>rfl
  | true =>
   obtain⟨r,a,_,f,m⟩:=(i.big _ Z).1 b;have:=c r a;have d:r.ext=r.guards+r.pages+1:=rfl;omega
 cases b:(h.rg.any λr=>r.base==(s+g)*1024) with
 | false=>rfl
 | true =>
  obtain⟨r,a,e⟩:=List.any_eq_true.1 b;have f:(r.first+r.guards)*1024=(s+g)*1024:=by simpa [Rg9.base] using e
  have:=c r a;have d:r.ext=r.guards+r.pages+1:=rfl;omega
theorem sR (s g p:Nat) (a c:Int) (l:List Nat):(l.filter λx => !cov ⟨s,g,p,a,c⟩ x)=l.filter λb=>b/1024<s || s+(g+p+1)<=b/1024:=by
 congr 1;funext x;have d:(⟨s,g,p,a,c⟩:Rg9).ext=g+p+1:=rfl;unfold cov;rw [d];dsimp only;by_cases e:s<=x/1024 <;> by_cases f:x/1024<s+(g+p+1) <;> simp [e,f] <;> omega
theorem ET {a:World} {o:Option Nat} {e:Ending} (h:DY W o e a):(∃ s:Nat,e=.returned (I s)/\o=some s/\D W a)\/(e=.panicked (ip 1)/\o=none/\D W a):=by
 cases h with
 | yes s _ b=>exact .inl ⟨s,rfl,rfl,b⟩
 | no _ b=>exact .inr ⟨rfl,rfl,b⟩
theorem cN {v:Value} {t:TypeId} (h:W.heap[g]?=some (.cells #[v] t)):W.cell? ⟨g,0,none⟩=some v:=bJ h
theorem nx {r} (h:W.heap[g]?=some (.cells (oV r) 182)) (a:r.first<=300) (b:r.guards<=3) (c:r.pages<=18014398509481984):Lc g r W:=by
 refine⟨?_,?_,?_,?_,?_,a,b,c⟩ <;> rw [GT _ _ _ _ _ _ h] <;> rfl
theorem sB {a:Nat} (h:a<18446744073709551616):aR a<=18014398509481984:=by
 unfold aR;split <;> omega
theorem oU (B y d cf h an) (a:Nat) (W) (hp:Hp B y d cf h W) (c:Gd d h an) (i:Inv cf h) (ha:1016<a) (c0:a<18446744073709551616) (O:h.used+2000<=1000000) (dk:mE cf) (M:h.rg.length<4096) (q:h.rel.length<=100000) :
  Calls prog 72 #[.pointer (some ⟨y.P,0,none⟩),.int .u64 (a:Nat)] W (AS B y cf an d.lg W (av cf h a)):=by
 have x:=H (iJ cf h ha);obtain⟨o,b⟩:∃ o,av cf h a=o:=⟨_,rfl⟩;rw [b] at x ⊢;clear b;have k:=H hp;have j:=H c;have N:=H i;have r:=H (λV (l:D W V)=>oL B y d cf h 3 V (hp.below l) Z Z Z dk.len);have t:=H (λV=>km a V c0);clear hp c i;go_enter func72,ntmps72;go_wp2_with fail;have c:D W (W.alloc (.cells #[.pointer (some ⟨y.P,0,none⟩)] 56)):=(Fu _ _).alloc (Fv _) _;have v:=ao W (.cells #[.pointer (some ⟨y.P,0,none⟩)] 56);refine (r _ c).mono ?_;rintro e V1 ⟨rfl,n,b1⟩;have e0:dr cf h 3<3:=by
  unfold dr;omega
 have b:=H n;have i:=H (Bi.trans (Bi.ofBelow c k.bW) b1);have s:=H (show V1.heap[W.heap.size]?=some (.cells #[.pointer (some ⟨y.P,0,none⟩)] 56) from b1.ky.cells _ _ _ _ v (by unfold hI;decide));generalize p:W.heap.size=u at *;clear n b1 v c r k p;generalize c:dr cf h 3=z at *;have A:=H c;clear c;go_wp2_with fail;refine (t _).mono ?_;rintro e K ⟨rfl,rfl⟩;clear t;go_upto_region 3 with fail
 generalize c:(K.alloc (.cells #[.int .i64 1,.int .i64 (wrap64 (a:Nat)),.int .i64 0,.int .i64 (1+(z:Nat)),.int .i64 (aR a:Nat)] 182)).alloc (.cells #[.pointer (some ⟨K.heap.size,0,none⟩)] 168)=F;have t:D K F:=by rw [<-c];exact ((Fu _ _).alloc (Fv _) _).alloc (by rw [aO];omega) _
 have G:F.heap[K.heap.size]?=some (.cells (oV ⟨0,1+z,aR a,1,wrap64 (a:Nat)⟩) 182):=by
  rw [<-c,eg _ _ _ (by rw [aO];omega),ao];simp [oV]
 have p:F.heap[K.heap.size+1]?=some (.cells #[.pointer (some ⟨K.heap.size,0,none⟩)] 168):=by
  have n:=ao (K.alloc (.cells #[.int .i64 1,.int .i64 (wrap64 (a:Nat)),.int .i64 0,.int .i64 (1+(z:Nat)),.int .i64 (aR a:Nat)] 182)) (.cells #[.pointer (some ⟨K.heap.size,0,none⟩)] 168);rw [aO,c] at n;exact n
 have T:=H (b.below t);have b7:=H (i.add t b.bW);have a4:=H (show F.heap[u]?=some (.cells #[.pointer (some ⟨y.P,0,none⟩)] 56) by rw [t.block _ (ag s.out)];exact s);have c1:=H (show B<=K.heap.size from b.bW);have NL:=H (show ∀ k,d.lg k≠some K.heap.size from λk L=>by
  have n:=b.lo k;rw [L] at n;have P:h.rg.any (λr=>r.base==k)=true:=n.symm;obtain⟨r,hr,w⟩:=List.any_eq_true.1 P;have v:r.base=k:=by simpa using w
  obtain⟨g,e1,_,e3⟩:=b.lb r hr;rw [v,L] at e1;cases e1;have:=ag e3;omega)
 have a6:=H (λV (l:D K V)=>IT (b.below l) (i.add l b.bW));have B3:=H t;have b8:=H (λV (l:D K V)=>show V.heap[u]?=some (.cells #[.pointer (some ⟨y.P,0,none⟩)] 56) by rw [l.block _ (ag s.out)];exact s);clear c t b i s;obtain⟨L,b⟩:∃ L,K.heap.size=L:=⟨_,rfl⟩;have b9:=H b;rw [b] at G p c1 NL ⊢;clear b;generalize c:L+1=w at *;have HL:=H G;have b:=H p;have d3:=H (show L≠w by omega);clear G p c;have PG:=H (sB c0);obtain⟨v,c⟩:∃ v,aR a=v:=⟨_,rfl⟩;have X:=H c;rw [c] at HL PG ⊢;clear c;rw [X.out] at x;have I1:=H (N.used (h.used+1));have G1:=H (show Gd d { h with used:=h.used+1 } an from ⟨j.on,j.un,j.an⟩);clear N j A;generalize c:({ h with used:=h.used+1 } : Hs)=n at *;have d4:n.rg.length<4096:=by rw [<-c];exact M
 have c2:n.rel.length<=100000:=by rw [<-c];exact q
 clear c M q O;generalize a5:wrap64 (a:Nat)=Y at *;have c3:=H a5;clear a5;have CK:=H (show ∀ V,D F V->V.cell? ⟨w,0,none⟩=some (.pointer (some ⟨L,0,none⟩))/\V.cell? ⟨u,0,none⟩=some (.pointer (some ⟨y.P,0,none⟩)) from λV l=>⟨by rw [GT _ _ _ _ _ _ (show V.heap[w]?=_ by rw [l.block _ (ag b.out)];exact b.out)];rfl,by rw [GT _ _ _ _ _ _ (show V.heap[u]?=_ by rw [l.block _ (ag a4.out)];exact a4.out)];rfl⟩);have a7:=H (show ∀ V,D F V->Lc L ⟨0,1+z,v,1,Y⟩ V from λV l=>nx (by rw [l.block _ (ag HL.out)];exact HL) bH bG PG);have EX:=H (λV (l:D F V)=>iE L ⟨0,1+z,v,1,Y⟩ V (a7 V l));have RO:=H (λV (l:D F V)=>zx B y d cf n (1+z+v+1) V (T.below l) I1 Z (by have:=PG.out;omega));have a0:=H (show ∀ i,dV n (1+z+v+1)=none->D F i->AS B y cf an d.lg W o (.panicked (ip 1)) i from λi hr hU=>by
  have e1:o=(none,n):=by
   rw [x.out];split;·rfl
   ·rw [hr];rfl
  rw [e1];exact⟨.no _ _ (Hg.tk ⟨d,T.below hU,G1⟩),b7.add hU T.bW⟩)
 have FZ:=H (show ∀ V,D F V->V.frozen? ⟨L,2,none⟩=false from λV l=>by
  have:V.heap[L]?=_:=(l.block _ (ag HL)).trans HL.out;simp [World.frozen?,this])
 have c4:=H (show ∀ V (s:Nat),D F V->(V.setCell ⟨L,2,none⟩ (.int .i64 (s:Nat))).heap[L]?=some (.cells (oV ⟨s,1+z,v,1,Y⟩) 182)/\(V.setCell ⟨L,2,none⟩ (.int .i64 (s:Nat))).heap[w]?=some (.cells #[.pointer (some ⟨L,0,none⟩)] 168)/\Hp B y d cf n (V.setCell ⟨L,2,none⟩ (.int .i64 (s:Nat)))/\Bi B W (V.setCell ⟨L,2,none⟩ (.int .i64 (s:Nat)))/\(V.setCell ⟨L,2,none⟩ (.int .i64 (s:Nat))).heap[u]?=some (.cells #[.pointer (some ⟨y.P,0,none⟩)] 56) from λV s l=>by
  have c:V.heap[L]?=_:=(l.block _ (ag HL)).trans HL.out;have j:V.heap[w]?=_:=(l.block _ (ag b)).trans b.out;have k:D K (V.setCell ⟨L,2,none⟩ (.int .i64 (s:Nat))):=by
   have k1:D K V:=B3.trans (l.mono B3.size);exact k1.grown (au (al V L) 2 _) k1.size (λr hr=>by simp at hr;have:=b9.out;omega)
  refine⟨by simp [World.setCell,FD,c,oV],?_,(a6 _ k).1,(a6 _ k).2,b8 _ k⟩;rw [GQ _ _ _ _ (λe=>d3.out e.symm)];exact j)
 generalize c:dV n (1+z+v+1)=rm at *;have c5:=H c;clear c;refine wp_region_held (S:=λW9=>W9.cell? ⟨w,0,none⟩=some (.pointer (some ⟨L,0,none⟩))/\W9.cell? ⟨u,0,none⟩=some (.pointer (some ⟨y.P,0,none⟩))) E ?_;simp only [FX,FN,F1,Nat.reduceAdd,FP,FO,FY,FV,F5];have j:=CK.out _ (Fu _ _).drew;refine pf 0 (.pointer (some ⟨L,0,none⟩)) rfl j (λW j=>by obtain ⟨P,Q⟩:=j;first|(go_simp;done)|(go_simp;omega)) ?_;refine pf 1 (.pointer (some ⟨y.P,0,none⟩)) rfl j (λW j=>by obtain ⟨P,Q⟩:=j;first|(go_simp;done)|(go_simp;omega)) ?_;refine pf 2 (.pointer (some ⟨L,0,none⟩)) rfl j (λW j=>by obtain ⟨P,Q⟩:=j;first|(go_simp;done)|(go_simp;omega)) ?_;refine gu 3 ?_;refine cw λK' p=>?_;go_simp
 refine (EX _ (Fu _ _).drew).mono ?_;rintro e R ⟨rfl,rfl⟩;have A:=CK.out _ (Fu _ F).drew.drew;refine p _ _ ⟨A,?_⟩;clear j;have j:=A;clear p K';refine gu 4 ?_;refine cw λK' p=>?_;go_simp
 refine (RO _ (Fu _ F).drew.drew).mono ?_;rintro e U2 q;rcases ET q with ⟨s,rfl,t,c⟩|⟨rfl,t,c⟩
 rotate_left
 ·have k2:D F U2:=(Fu _ F).drew.drew.trans ⟨c.os,c.tape,c.output,c.size,c.block⟩;exact⟨rfl,a0 U2 t k2⟩
 have k2:D F U2:=(Fu _ F).drew.drew.trans ⟨c.os,c.tape,c.output,c.size,c.block⟩;have q2:=CK.out _ k2;refine p _ _ ⟨q2,?_⟩;clear j q;have j:=q2;have d7:=(a7 U2 k2).c2;have d8:U2.frozen? ⟨L,2,none⟩=false:=FZ.out U2 k2;clear p K';refine pf 5 (.pointer (some ⟨L,0,none⟩)) rfl j (λ_ _=>E) ?_;refine pf 6 (.pointer (some ⟨L,2,none⟩)) rfl j (λ_ _=>E) ?_;refine gu 7 ?_;refine cw λK' p=>?_;go_simp
 obtain⟨a8,a9,b0,c6,b4⟩:=c4.out U2 s k2;have q3:_/\_:=⟨cN a9,cN b4⟩;refine p _ _ ⟨q3,?_⟩;clear p K';refine bY ?_;generalize U2.setCell ⟨L,2,none⟩ (.int .i64 (s:Nat))=V4 at *;have b6:=H (c5.trans t);have c8:=H t;obtain⟨r1,r2,r3⟩:=gO b6.out;have a5:Y=(a:Nat):=by
  rw [<-c3.out];have q:=gE a;rw [X.out] at q;exact wrap64_in Z Z
 subst a5;obtain⟨q,a1⟩:=uO I1 b6.out;obtain⟨r,hr⟩:∃ r:Rg9,r=⟨s,1+z,v,1,(a:Nat)⟩:=⟨_,rfl⟩;have HR:=H hr;rw [<-hr] at a8;have G:r.base=(s+(1+z))*1024:=by rw [hr];rfl
 have c9:r.base<18446744073709551616:=by rw [G];omega
 have N:=H a8;have a2:=H a9;have a3:=H b4;have O:=H b0;have d0:=H c6;have d1:=H q;have H0:=H (show d.lg r.base=none by
  have:=b0.lo r.base;rw [G,a1] at this;rw [G];simpa using this)
 have d2:=H G;have M:=H (IT r1 r2);have d9:=H (show 1<=v by have:=mF ha;rw [X.out] at this;exact this);clear a8 a9 b4 b0 c6 q a1 hr G r1 r2 r3 A q2 q3 j k2 c d7 d8 a0 RO EX a7 CK FZ c4 a6 B3 b8 b9 t HL b a4 T b7 c5 X c3 PG;have CK:=H (show V4.cell? ⟨w,0,none⟩=some (.pointer (some ⟨L,0,none⟩))/\V4.cell? ⟨u,0,none⟩=some (.pointer (some ⟨y.P,0,none⟩))/\V4.cell? ⟨y.P,115,none⟩=some (.map (some y.R)) from ⟨cN a2,cN a3,O.cell 115 Z _ rfl⟩);have a4:=H (show ∀ V,D V4 V->Lc L r V from λV l=>nx (by rw [l.block _ (ag N.out)];exact N) (by rw [HR.out];have:=M.out;simp;omega) (by rw [HR.out];simp;omega) (by rw [HR.out];have:=M.out;simp;omega));have LB:=H (λV (l:D V4 V)=>ie L r V (a4 V l));have CD:=H (show V4.drew.drew.cell? ⟨w,0,none⟩=some (.pointer (some ⟨L,0,none⟩))/\V4.drew.drew.cell? ⟨u,0,none⟩=some (.pointer (some ⟨y.P,0,none⟩))/\V4.drew.drew.cell? ⟨y.P,115,none⟩=some (.map (some y.R)) from CK);have q:=H (O.below (Fu _ V4).drew.drew);go_upto_region 4 with fail
 refine wp_region_held (S:=λW9=>W9.cell? ⟨w,0,none⟩=some (.pointer (some ⟨L,0,none⟩))/\W9.cell? ⟨u,0,none⟩=some (.pointer (some ⟨y.P,0,none⟩))/\W9.cell? ⟨y.P,115,none⟩=some (.map (some y.R))) E ?_;simp only [FX,FN,F1,Nat.reduceAdd,FP,FO,FY,FV,F5];have j:=CK.out;refine pf 0 (.pointer (some ⟨y.P,0,none⟩)) rfl j (λW j=>by obtain ⟨P,Q,y2⟩:=j;first|(go_simp;done)|(go_simp;omega)) ?_;refine pf 1 (.pointer (some ⟨y.P,0,none⟩)) rfl j (λ_ _=>E) ?_;refine pf 2 (.pointer (some ⟨y.P,115,none⟩)) rfl j (λ_ _=>E) ?_;refine pf 3 (.map (some y.R)) rfl j (λW j=>by obtain ⟨P,Q,y2⟩:=j;first|(go_simp;done)|(go_simp;omega)) ?_;refine pf 4 (.pointer (some ⟨L,0,none⟩)) rfl j (λW j=>by obtain ⟨P,Q,y2⟩:=j;first|(go_simp;done)|(go_simp;omega)) ?_;refine pf 6 (.pointer (some ⟨L,0,none⟩)) rfl j (λW j=>by obtain ⟨P,Q,y2⟩:=j;first|(go_simp;done)|(go_simp;omega)) ?_;refine gu 5 ?_;refine cw λK' p=>?_;go_simp
 refine (LB _ (Fu _ _).drew).mono ?_;rintro e R ⟨rfl,rfl⟩;have A:=CD.out;refine p _ _ ⟨A,?_⟩;clear j;have j:=A;clear p K';refine gu 7 ?_;refine cw λK' p=>?_;obtain⟨V5,c,a6,t⟩:=q.mp.put r.base L c9 H0 d4
 have T:=iC t q.mp.typ;refine s4 69 (.tmp 29) (.tmp 31) (.tmp 32) (vm:=.map (some y.R)) (vx:=.int .u64 (r.base:Nat)) (vu:=.pointer (some ⟨L,0,none⟩)) E E E E c ?_;refine p _ _ ⟨⟨T.cellK A.1,T.cellK A.2.1,T.cellK A.2.2⟩,?_⟩;clear p K';refine bY ?_;have kD:D V4 V4.drew.drew:=(Fu _ _).drew.drew;have X:V4.drew.drew.heap[L]?=some (.cells (oV r) 182):=(kD.block _ (ag N)).trans N.out;obtain⟨a7,b5⟩:=q.addR X c1 NL H0 a6 t;have a1:=H a7;have a9:=H ((d0.add kD O.bW).trans b5);have b:=H (show V5.heap[w]?=some (.cells #[.pointer (some ⟨L,0,none⟩)] 168) from T.cells _ _ _ _ ((kD.block _ (ag a2)).trans a2) (λe=>e));have G:=H (show V5.heap[u]?=some (.cells #[.pointer (some ⟨y.P,0,none⟩)] 56) from T.cells _ _ _ _ ((kD.block _ (ag a3)).trans a3) (λe=>e));have LO:=H O.lo;have b0:=H (show V5.heap[L]?=some (.cells (oV r) 182) from T.cells _ _ _ _ X (λe=>e));clear kD X a7 b5 T a6 t c q N a2 a3 O d0 A j CK CD a4 LB;have a6:=H (show ∀ V:World,V.heap[L]?=some (.cells (oV r) 182)->Lc L r V from λV l=>nx l (by rw [HR.out];have:=M.out;simp;omega) (by rw [HR.out];simp;omega) (by rw [HR.out];have:=M.out;simp;omega));have LP:=H (λV (l:D V5 V)=>ma L 0 r V (a6 V (by rw [l.block _ (ag b0.out)];exact b0)));have c:r.pages=v/\r.first+r.guards=s+(1+z):=by rw [HR.out];exact⟨rfl,rfl⟩
 rw [c.1,c.2] at LP;clear c;obtain⟨d5,t⟩:∃ d5:Dy,d5={ d with lg:=upd d.lg r.base (some L) }:=⟨_,rfl⟩;rw [<-t] at a1;have N:=H t;have G5:=H (show d5.lg=upd d.lg r.base (some L)/\d5.un=.nilFunc/\d5.an=an/\(∀ c s,c<12->s<6->d5.on c s=dA n c s) by rw [t];exact⟨rfl,G1.un,G1.an,G1.on⟩);clear t N;have CM:=H (λV (l:D V5 V)=>nA B y d5 cf { n with rg:=n.rg++[r] } (s+(1+z)) v (.func 123) #[] #[.pointer (some ⟨u,0,none⟩),.pointer (some ⟨w,0,none⟩)] V (a1.below l) I1.out.out d9 (by have:=M.out;omega) d1);have CD:=H (show ∀ V,D V5 V->V.cell? ⟨w,0,none⟩=some (.pointer (some ⟨L,0,none⟩))/\V.cell? ⟨u,0,none⟩=some (.pointer (some ⟨y.P,0,none⟩)) from λV l=>⟨cN ((l.block _ (ag b)).trans b),cN ((l.block _ (ag G)).trans G)⟩);have b4:=H (show o=Dr cf n (1+z) v a (some s) by
  rw [x.out,GO (by have:=M.out;omega),c8.out])
 have a0:=H (show ∀ f' R i,D V5 R->Bi B R i->(cf.bud:Int)<(bz n.m 283:Int)+v->Hp B y { d5 with f:=f',un:=.func (.func 123) #[] #[.pointer (some ⟨u,0,none⟩),.pointer (some ⟨w,0,none⟩)] } cf { n with rg:=n.rg++[r] } i->AS B y cf an d.lg W o (.panicked (ip 1)) i from λf' R i N hU hb hp=>by
  have e1:o=(none,n):=by
   rw [b4.out];show (if cf.bud<bz n.m 283+v then (none,n) else _)=_;rw [GP Z]
  rw [e1];refine⟨.no _ _ (λV l=>?_),(a9.add N a1.bW).trans hU⟩;have O:=hp.below l;obtain⟨g,e3,_,e5⟩:=O.lb r bH;have e4:d5.lg r.base=some g:=e3;rw [G5.1,upd_same] at e4;cases e4;have cx:∀ (g:Nat) (c:Array Value) (t:TypeId),¬hI t->V5.heap[g]?=some (.cells c t)->V.heap[g]?=some (.cells c t):=λg c t ht hg=>by
   have n:=hU.ky.cells _ _ _ _ ((N.block _ (ag hg)).trans hg) ht;exact (l.block _ (ag n)).trans n
  refine (pc B y _ cf n r L u w d.lg V O G5.1 H0 LO (a6 V e5) c9 (cN (cx _ _ _ (by unfold hI;decide) G)) (cN (cx _ _ _ (by unfold hI;decide) b)) rfl).mono ?_;rintro e V' ⟨rfl,T,X⟩;exact⟨rfl,⟨_,T,⟨λc s hc hs=>G5.2.2.2 c s hc hs,rfl,G5.2.2.1⟩⟩,X⟩)
 clear x;go_upto_region 5 with fail
 refine wp_region_held (S:=λW9=>W9.cell? ⟨w,0,none⟩=some (.pointer (some ⟨L,0,none⟩))/\W9.cell? ⟨u,0,none⟩=some (.pointer (some ⟨y.P,0,none⟩))) E ?_;simp only [FX,FN,F1,Nat.reduceAdd,FP,FO,FY,FV,F5];have j:=CD.out _ (Fu _ _).drew;refine pf 0 (.pointer (some ⟨y.P,0,none⟩)) rfl j (λW j=>by obtain ⟨P,Q⟩:=j;first|(go_simp;done)|(go_simp;omega)) ?_;refine pf 1 (.pointer (some ⟨L,0,none⟩)) rfl j (λW j=>by obtain ⟨P,Q⟩:=j;first|(go_simp;done)|(go_simp;omega)) ?_;refine pf 3 (.func (.func 123) #[] #[.pointer (some ⟨u,0,none⟩),.pointer (some ⟨w,0,none⟩)]) rfl j (λW j=>by obtain ⟨P,Q⟩:=j;first|(go_simp;done)|(go_simp;omega)) ?_;refine gu 2 ?_;refine cw λK' p=>?_;go_simp
 refine (LP _ (Fu _ _).drew).mono ?_;rintro e R ⟨rfl,b1⟩;have k1:D V5 R:=⟨b1.os,b1.tape,b1.output,b1.size,b1.block⟩;have A:=CD.out _ k1;refine p _ _ ⟨A,?_⟩;clear j;have j:=A;clear p K';refine gu 4 ?_;refine cw λK' p=>?_;go_simp
 refine (CM _ k1).mono ?_;rintro e t ⟨f',N,⟨O,rfl,a7⟩|⟨O,rfl,a7⟩⟩
 rotate_left
 ·exact⟨rfl,a0 f' R t k1 N O a7⟩
 have q2:_/\_:=⟨cN (N.ky.cells _ _ _ _ ((k1.block _ (ag b)).trans b) (by unfold hI;decide)),cN (N.ky.cells _ _ _ _ ((k1.block _ (ag G)).trans G) (by unfold hI;decide))⟩;refine p _ _ ⟨q2,?_⟩;clear j;have j:=q2;clear p K';refine bY ?_;obtain⟨d6,b7⟩:∃ d6:Dy,d6={ d5 with f:=f',un:=.nilFunc }:=⟨_,rfl⟩;obtain⟨T,a2⟩:∃ T:Hs,T={ n with rg:=n.rg++[r],m:=aT n.m (s+(1+z)) v }:=⟨_,rfl⟩;have X:=H (show Hp B y d6 cf T t by rw [b7,a2];exact a7);have c6:=H ((a9.add k1 a1.bW).trans N);have G6:=H (show d6.lg=upd d.lg r.base (some L)/\d6.un=.nilFunc/\d6.an=an/\(∀ c s,c<12->s<6->d6.on c s=dA n c s) by rw [b7];exact⟨G5.1,rfl,G5.2.2.1,G5.2.2.2⟩);have a8:=H a2;have b8:=H (show t.heap[w]?=some (.cells #[.pointer (some ⟨L,0,none⟩)] 168) from N.ky.cells _ _ _ _ ((k1.block _ (ag b)).trans b) (by unfold hI;decide));have b9:=H (show t.heap[u]?=some (.cells #[.pointer (some ⟨y.P,0,none⟩)] 56) from N.ky.cells _ _ _ _ ((k1.block _ (ag G)).trans G) (by unfold hI;decide));have c3:=H (show ¬cf.bud<bz n.m 283+v from λe=>O (by show (cf.bud:Int)<_;have:(cf.bud:Int)<((bz n.m 283+v:Nat):Int):= Z;simpa using this));have a3:=H (show t.heap[L]?=some (.cells (oV r) 182) by
  obtain⟨g,e3,_,e5⟩:=X.lb r (by rw [a2];simp);rw [G6.1,upd_same] at e3;cases e3;exact e5)
 have a4:T.rel=n.rel:=by rw [a2]
 have c4:=H (show ∀ x∈T.rel,x<18446744073709551616 from λx a=>by
  rw [a4] at a;have:=I1.rel x a;omega)
 have c5:=H (show T.rel.length<=100000 by rw [a4];exact c2);have d0:=H0;clear a7 N b7 a2 k1 b1 A q2 j O a0 CM LP CD a1 a9 b G b0 G5 LO NL H0 d1 a4;obtain⟨O,vn,vc,G⟩:=aA X.rl;have N:=H G;have q:=H (X.below (Fu _ t).drew);have DF:=H (nu B L r O vn vc T.rel t.drew (by have:=q.rl;rw [G] at this;exact this) c5 c4 (a6 _ ((Fu t.heap.size t).drew.block _ (ag a3) |>.trans a3)) ⟨_,(Fu t.heap.size t).drew.block _ (ag a3) |>.trans a3⟩);have a0:(T.rel.filter λx => !cov r x)=T.rel.filter λb=>b/1024<s || s+(1+z+v+1)<=b/1024:=by rw [HR.out];exact sR s (1+z) v 1 _ _
 rw [a0] at DF;clear a0;generalize a0:(T.rel.filter λb=>b/1024<s || s+(1+z+v+1)<=b/1024)=fl at *;have a9:=H a0;have a1:t.drew.cell? ⟨y.P,117,none⟩=some (.slice O vn vc):=q.cell 117 Z _ G;have CD:=H (show ∀ V:World,Ky (· = 23) t.drew V->V.cell? ⟨w,0,none⟩=some (.pointer (some ⟨L,0,none⟩))/\V.cell? ⟨u,0,none⟩=some (.pointer (some ⟨y.P,0,none⟩)) from λV l=>⟨cN (l.cells _ _ _ _ (show t.drew.heap[w]?=_ from b8) ar),cN (l.cells _ _ _ _ (show t.drew.heap[u]?=_ from b9) ar)⟩);have a2:=H (show ∀ (i:World) (Y:Option Addr) (a wc:Nat),i.ownsRow B 23 1 (.slice Y a wc) fl.length (Us fl)->t.drew.grownBy i (Value.slice O vn vc).ownBlock->(Value.slice Y a wc).ownBlock=(Value.slice O vn vc).ownBlock->_ from λi Y a wc own gr k=>q.setRl (v':=.slice Y a wc) own (by rw [N.out];exact gr) (λg hg=>by rw [k,<-N.out];exact q.rr g hg));have a4:=H (show ∀ i:World,t.drew.grownBy i (Value.slice O vn vc).ownBlock->Ky (· = 23) t.drew i from λi gr=>(q.gw (λg hg=>aF q.rl hg) (by rw [N.out];exact gr)).k);have b0:=H (show ∀ b g,d.lg b=some g->d6.lg b=some g from λb g hb=>by
  rw [G6.1];by_cases e:b=r.base;·subst e;rw [d0.out] at hb;cases hb
  ·rw [aI _ _ _ _ e];exact hb)
 have a7:=H (show ∀ v' i,Hp B y { d6 with rl:=v' } cf { T with rel:=fl } i->Bi B t.drew i->AS B y cf an d.lg W o (.returned (.iface 168 (.pointer (some ⟨L,0,none⟩)))) i from λv' i hU b7=>by
  have e1:o=(some r.base,{ T with rel:=fl }):=by
   rw [b4.out];show (if cf.bud<bz n.m 283+v then (none,n) else _)=_;rw [GO c3.out,<-a9.out,a8.out,d2.out,HR.out]
  rw [e1];refine⟨.range r L { d6 with rl:=v' } _ i (by rw [a8.out];simp) (by rw [HR.out]) (by show d6.lg r.base=_;rw [G6.1,upd_same]) hU ⟨λc s' hc hs=>?_,G6.2.1,G6.2.2.1⟩ (λb g hb=>b0.out b g hb),(c6.add (Fu _ _).drew X.bW).trans b7⟩;show d6.on c s'=(T.m (aD c s')).isSome;rw [G6.2.2.2 c s' hc hs,a8.out];show (n.m (aD c s')).isSome=(aT n.m (s+(1+z)) v (aD c s')).isSome;have:=cD hc hs;rw [jJ _ _ _ _ (by have:=M.out;omega)])
 have NP:=H (show w≠y.P/\u≠y.P from by
  obtain⟨c,hb,_⟩:=X.box;constructor;·intro e;have:=b8.out;rw [e,hb] at this;simp at this
  ·intro e;have:=b9.out;rw [e,hb] at this;simp at this)
 clear a0 G b4 c3 G6 a8 b8 b9 a3 c4 c5 I1 G1 HR a6 d2 b6 c8 X q;have SX:=H (show ∀ (V:World) (v:Value),V.cell? ⟨w,0,none⟩=some (.pointer (some ⟨L,0,none⟩))/\V.cell? ⟨u,0,none⟩=some (.pointer (some ⟨y.P,0,none⟩))->(V.setCell ⟨y.P,117,none⟩ v).cell? ⟨w,0,none⟩=some (.pointer (some ⟨L,0,none⟩))/\(V.setCell ⟨y.P,117,none⟩ v).cell? ⟨u,0,none⟩=some (.pointer (some ⟨y.P,0,none⟩)) from λV v l=>by
  have q:w≠y.P:=NP.1;have G:u≠y.P:=NP.2;unfold World.cell? at l ⊢;rw [GQ _ _ _ _ q,GQ _ _ _ _ G];exact l)
 go_upto_region 6 with fail
 refine wp_region_held (S:=λW9=>W9.cell? ⟨w,0,none⟩=some (.pointer (some ⟨L,0,none⟩))/\W9.cell? ⟨u,0,none⟩=some (.pointer (some ⟨y.P,0,none⟩))) E ?_;simp only [FX,FN,F1,Nat.reduceAdd,FP,FO,FY,FV,F5];have j:=CD.out _ (Ky.refl _ _);refine pf 0 (.pointer (some ⟨y.P,0,none⟩)) rfl j (λW j=>by obtain ⟨P,Q⟩:=j;first|(go_simp;done)|(go_simp;omega)) ?_;refine pf 1 (.pointer (some ⟨y.P,0,none⟩)) rfl j (λW j=>by obtain ⟨P,Q⟩:=j;first|(go_simp;done)|(go_simp;omega)) ?_;refine pf 2 (.pointer (some ⟨y.P,0,none⟩)) rfl j (λ_ _=>E) ?_;refine pf 3 (.pointer (some ⟨y.P,117,none⟩)) rfl j (λ_ _=>E) ?_;refine pf 5 (.pointer (some ⟨L,0,none⟩)) rfl j (λW j=>by obtain ⟨P,Q⟩:=j;first|(go_simp;done)|(go_simp;omega)) ?_;refine pf 6 (.func (.func 125) #[.pointer (some ⟨L,0,none⟩)] #[]) rfl j (λW j=>by obtain ⟨P,Q⟩:=j;first|(go_simp;done)|(go_simp;omega)) ?_;refine gu 4 ?_;refine cw λK' p=>?_;go_simp
 refine p _ _ ⟨j,?_⟩;clear p K';refine gu 7 ?_;refine cw λK' p=>?_;go_simp
 refine (DF).mono ?_;rintro e R ⟨v',rfl,q,G,X⟩;obtain⟨Y,wc,rfl⟩:=aK q;obtain⟨a0,a3,c7,f7⟩:=a2.out R Y _ wc q G X;rw [N.out] at c7;have A:=CD.out R (a4 R G);refine p _ _ ⟨A,?_⟩;clear j;have j:=A;clear p K';refine pf 8 (.pointer (some ⟨y.P,0,none⟩)) rfl j (λ_ _=>E) ?_;refine pf 9 (.pointer (some ⟨y.P,117,none⟩)) rfl j (λ_ _=>E) ?_;refine gu 10 ?_;refine cw λK' p=>?_;go_simp
 have q2:=SX.out R (.slice Y fl.length wc) A;refine p _ _ ⟨q2,?_⟩;clear p K';refine bY ?_;have p:=H (a7 _ _ a0 a3);have qx:=q2.1;clear a0 a3 q G X c7 f7 A q2 j CD a2 a4 a7 DF SX a1;go_wp2;go_ret;exact p.out
end
end Go.Proofs.YtibblbenmpcplaaGreatDoor
