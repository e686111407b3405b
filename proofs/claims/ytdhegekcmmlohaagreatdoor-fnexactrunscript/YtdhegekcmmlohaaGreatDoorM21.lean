import Derived.Test.YtdhegekcmmlohaaGreatDoorM20
set_option linter.unusedVariables false
set_option linter.unusedSimpArgs false
set_option maxRecDepth 20000
set_option maxHeartbeats 8000000
namespace Go.Proofs.YtdhegekcmmlohaaGreatDoor
open Go.Proofs.Tryz Go.RowKit Go.Maps Go.Shelf Go.ChangeShapes Go.WideShapes Go.ChangeAt
section
variable {B R S b k n:Nat}{W W' w w':World}{bd dv ov v v2:Value}
theorem MX (v q B w)(f:Ws B w v q)(b5:0<q.length)(hl:q.length<=1048576)(a2:∀x∈q,x.length<=1048576)(d:OV 6 q=true):
  QA 22 #[v] w λe w'=>∃r,e=QJ r/\Nx w w' (tu q) r/\D w w':=by
 obtain⟨g,c,rfl,hg⟩:∃g c,v=Vl g q.length c/\g<w.heap.size:=by
  rcases f.2 with⟨rfl,r⟩|⟨g,m,o,rfl,hg,hh,_⟩;·omega
  exact⟨g,m,rfl,G_ hh⟩
 have HQ:=H (λ(W:QM)(hb:D w W)(k:Nat)(hk:k<q.length)=>(show W.cell? (Qz g k)=some (.string (bs (q.getD k []))) by rw[hb.cell hg];exact Ex f rfl hk));have b8:=H (λ(k:Nat)(hk:k<q.length)=>(show(q.getD k []).length<=1048576 by
  have:q.getD k []=q[k]:=by simp[hk]
  rw[this];exact a2 _ (Iw hk)))
 have⟨m,o⟩:=Qa q.length;rw[o]at b5 hl⊢;have⟨HM,b9⟩:=y7 o d;clear d;clear f o a2;go_enter func22,ntmps22;go_wp2;have H3:=H (Ki w);have⟨W3,d⟩:=Qb (((w.alloc (QL io.toArray 48)).alloc (QL (ga.map wg).toArray 9)).alloc (QL (cF.map wg).toArray 9));rw[<-d]at H3;refine Eq.mp (congrArg _ d) ?_;clear d;have⟨N2,d⟩:=Qb (w.heap.size+1+1);have c0:=H (show N2≠w.heap.size by omega);rw[<-d]at H3⊢;clear d;generalize w.heap.size+1=N1 at H3⊢;go_loopw [21] (λi wr=>∃(k:Nat),k<=7/\i=I (k:Int)/\Hid (∀j,j<k->OV j q=false)/\wr=W3) (λi _=>7-(intOf i).toNat);case atStart=>exact⟨0,Z,rfl,H (λj hj=>Z),rfl⟩
 case round=>
  obtain⟨k,hk,rfl,a7,rfl⟩:=hrel;by_cases a0:k<7
  ·have c1:=H3.name a0;have c2:=H3.form a0;have c3:=HQ.out _ H3.bel 0 (by rw[HM];exact b5);have⟨t,r⟩:=Qb (bs (cF.getD k []));have⟨nm,f⟩:=Qb (bs (ga.getD k []));have⟨q0,o⟩:=Qb (bs (q.getD 0 []));rw[<-f]at c1;rw[<-r]at c2;rw[<-o]at c3;have d8:t.size<=2:=(by rw[r,gz];exact Jz k);have HT:=H r;have HX:Hid (∀j,j<k+1->¬OV k q=true->OV j q=false):=(λj hj hh=>by
    by_cases e:j=k;·subst e;simpa using hh
    exact a7 j Z)
   have d:OV k q=decide (q0.toList=nm.toList/\m=t.size+1):=by
    rw[OV,r,gz,HM,o,f,Lib.toList_data,Lib.toList_data,kO,kO];congr 1;cases q<;>simp
   have HH:=H d;clear r f o d;by_cases x1:q0.toList=nm.toList
   ·by_cases x2:m=t.size+1
    ·have c6:((m:Int) != (t.size:Int)+1)=false:=bG;have HE:Hid (tu q=eD (cF.getD k []) q.tail 0 ⟨k,0,0,0,0,[]⟩):=(CF a0 a7 (by rw[HH];simp[x1,x2]));have⟨a8,r⟩:=y7 x2 (H3.open k c0);have c7:Hid (k=6):=(Kf a0 Z (by rw[HH];simp[x1,x2]) b9);clear x2 a7;go_wp2;have⟨W4,d⟩:=Qb (wr.alloc (QL (opC ⟨k,0,0,0,0,[]⟩ (C)).toArray 48));rw[<-d]at r;refine Eq.mp (congrArg _ d) ?_;clear d;have⟨O,d⟩:=Qb wr.heap.size;rw[<-d]at r⊢;clear d c1 c2 c3;have⟨f,d⟩:=Qb (cF.getD k []);rw[<-d]at HT HE;have HF:=H d;clear d;have d9:f.length=t.size:=(by rw[HT,gz]);have c8:decide ((k:Int)<7)=true:=bG;simp only[c8];go_loopw [9,10] (λc i wq=>∃(j L:Nat)(o:sT)(dv:QN),j<=t.size/\L<=j/\c=I (L:Int)/\i=I (j:Int)/\Hid (tu q=eD (f.drop j) (q.tail.drop j) L o)/\Hid (Sp4 w wq w.heap.size N2 O o dv)/\Hid (j<t.size->o.data=[]/\dv=C)) (λ_ i _=>t.size-(intOf i).toNat);(case atStart=>exact⟨0,0,_,_,Z,Z,rfl,rfl,H (by simpa using HE.out),r,H (λ_=>⟨rfl,rfl⟩)⟩);case round=>
      clear HE r;obtain⟨j,L,o,dv,hj,e2,rfl,rfl,HE,r,HD⟩:=hrel;have c2:wr.cell? (Qz N2 k)=some (.string t):=(by rw[HT,HF];exact r.form a0);by_cases a9:j<t.size
      ·have e3:j+1<m:=(by have:=a8.out;omega);have u:=HQ.out _ r.bel (j+1) (by rw[HM,a8];omega);have a2:=b8.out (j+1) (by rw[HM,a8];omega);have⟨P,y⟩:=Qb (q.getD (j+1) []);rw[<-y]at u a2;have z:t[j].toNat=(f[j]' Z).toNat:=by
        rw[Mf HT j a9 Z]
       have K:eD (f.drop j) (q.tail.drop j) L o=(mX (f[j]' Z) P L o).bind (eD (f.drop (j+1)) (q.tail.drop (j+1)) (if t[j].toNat=78 then L+1 else L)):=by
        rw[List.drop_eq_getElem_cons (l:=f) (i:=j) Z,eD,z];have hh:(q.tail.drop j).headD []=P:=(by rw[y,List.headD_eq_head?_getD,List.head?_drop];simp);rw[hh,List.tail_drop]
       have s:=EM (k:=k) (j:=j) a0 (by rw[<-HF.out];omega);simp only[<-HF.out]at s;have A:mX (f[j]' Z) P L o=if t[j].toNat=78 then(dL 10 20 P).map (λn=>if L=0 then {o with a:=n}else {o with b:=n})else if t[j].toNat=80 then(d_ P).map (λx=>{o with ref:=x.1,p:=x.2})else(qG P).map (λd=>{o with data:=o.data++d}):=(by rw[mX,z]);rw[A]at K;rw[<-z]at s;have c9:=H (show¬t[j].toNat=78 by have e6:=c7.out;have h9:=Kc (j:=j) (by rw[<-e6,<-HF.out];omega);simp only[<-e6,<-HF.out]at h9;rw[z];exact h9);have⟨G,F⟩:=y7 (HE.trans K) s;clear K A s z y HE;have⟨y,z⟩:=Qb (bs P);rw[<-z]at u;have a1:y.size<=1048576:=by rw[z,gz];exact a2
       have Q:=H (show y.data.toList=P by rw[z,kO]);clear z a2;have e4:=EO t j a9;have l1:¬t[j].toNat=78:=c9.out;by_cases l2:t[j].toNat=80
       ·have b1:(((t[j].toNat:Nat):Int)==78)=false:=(by rw[QF];omega);have b2:(((t[j].toNat:Nat):Int)==80)=true:=(by rw[beq_iff_eq];omega);have HP:=H (show tu q=(d_ P).bind λx=>eD (f.drop (j+1)) (q.tail.drop (j+1)) L {o with ref:=x.1,p:=x.2} by
         rw[G,GO l1,GO l1,GP l2];cases d_ P<;>rfl)
        clear G F;have c3:wr.cell? (Qz O 1)=some (I (o.ref:Int)):=r.bx.cell 1;have T:wr.cell? (Qz O 2)=some (U (o.p:Int)):=r.bx.cell 2;have d3:=r.bx.free 1;have d4:=r.bx.free 2;cases V:d_ P with
        |none=>
         have HN:=H (show tu q=none by rw[HP,V];rfl);have z:=Az y wr a1 (by rw[Q];exact V);clear V;have H6:=H (λA K:Nat=>(r.set (o':={o with ref:=A}) 1 Z (I (A:Int)) rfl rfl).set (o':={o with ref:=A,p:=K}) 2 Z (U (K:Int)) rfl rfl);generalize o.ref=X at c3;generalize o.p=Y at T;go_wp2_with fail;refine z.mono ?_;rintro e w'⟨A,K,rfl,rfl⟩;have M:=H (H6 A K);clear z;exact ih HN M.r M.bel
        |some x=>
         have⟨A,K⟩:=x;have b0:=H (show tu q=eD (f.drop (j+1)) (q.tail.drop (j+1)) L {o with ref:=A,p:=K} by rw[HP,V];rfl);have z:=Bn y wr a1 A K (by rw[Q];exact V);clear V;have⟨M,R⟩:=y7 ((r.set (o':={o with ref:=A}) 1 Z (I (A:Int)) rfl rfl).set (o':={o with ref:=A,p:=K}) 2 Z (U (K:Int)) rfl rfl) (λ(h:j+1<t.size)=>HD.out Z);clear HD r;generalize o.ref=X at c3;generalize o.p=Y at T;go_wp2_with (go_at_call 38;refine z.mono ?_;rintro e w'⟨rfl,rfl⟩);go_roundw;(case rel=>exact⟨j+1,L,_,_,Z,Z,rfl,aY,b0,M,R⟩);case measure=>exact QE
       have b1:(((t[j].toNat:Nat):Int)==78)=false:=(by rw[QF];omega);have b2:(((t[j].toNat:Nat):Int)==80)=false:=(by rw[QF];omega);have d0:=H (F.resolve_left Z).2;obtain⟨d1,rfl⟩:=HD.out a9;have HP:=H (show tu q=(qG P).bind λd=>eD (f.drop (j+1)) (q.tail.drop (j+1)) L {o with data:=d} by
        rw[G,GO l1,GO l1,GO l2];cases qG P<;>simp[d1])
       clear G F HD;by_cases hA:oK P=true/\0<y.size
       ·have HA:=H hA.1;have b6:=hA.2;have z:=IZ y wr a1 (by rw[Q];exact hA.1) hA.2;rw[Q]at z;clear hA;go_wp2_with fail;refine z.mono ?_;rintro e w'⟨hg,hc,rfl,F,A,X⟩;have M:=H (r.five X A F);have⟨B2,G⟩:=Qb (w'.heap.size);rw[<-G]at M;clear z r A F X G;obtain⟨pb,A⟩:∃pb:Bool,pb=(((y.size:Nat):Int)%2==0):=⟨_,rfl⟩;have d2:(((y.size:Nat):Int)%2==0)=pb:=A.symm;have b7:=H (show pb=decide (y.size%2=0) by rw[A,Bool.eq_iff_iff];simp;omega);clear A;go_wp2_with fail;go_loopw [16] (λA wq=>∃(T i:Nat)(a3:QN),T<=y.size/\A=I (T:Int)/\Hid (T=2*i)/\Hid (Sp5 w wq w.heap.size N2 O hg B2 o a3 P i)) (λA _=>y.size-(intOf A).toNat);(case atStart=>exact⟨0,0,_,Z,rfl,H rfl,M⟩);case round=>
         clear M;obtain⟨T,i,a3,e5,rfl,HJ,M⟩:=hrel;by_cases e7:T+1<y.size
         ·have R:=xC (iN P) i (by have:=HJ.out;rw[show(iN P).length=P.length by simp[iN],<-Q.out];simp;omega);have⟨xx,K⟩:=Qb ((iN P).getD (2*i) 0*16+(iN P).getD (2*i+1) 0);rw[<-K]at R;obtain⟨v1,w1,e1,⟨va,vm,vc,rfl⟩,c5,d5,Y,s7⟩:=M.drew.more _ R (by have:=HJ.out;omega);have d6:=Jl HA (2*i);have d7:=Jl HA (2*i+1);have q1:∀W,RowV W hg 5 (hv P)->QG W hg T (.int .u8 (((iN P).getD (2*i) 0:Nat):Int))/\W.cell? (Qz hg (T+1))=some (.int .u8 (((iN P).getD (2*i+1) 0:Nat):Int)):=λW hW=>by
           have e9:=HJ.out;rw[<-e9];exact⟨Dd hW T (by rw[<-Q.out];simp;omega),Dd hW (T+1) (by rw[<-Q.out];simp;omega)⟩
          have e8:wr.cell? (Qz O 5)=some a3:=M.bx.cell 5;generalize (iN P).getD (2*i) 0=xa at*;generalize (iN P).getD (2*i+1) 0=xb at*;have⟨F,G,CS,H7⟩:=Qf (λ(W9:QM)(hb:D wr W9)=>q1 W9 (M.hx.below hb M.hx.lt)) (q1 _ Y) (q1 _ s7.hx) s7;have g0:IntKind.u8.wrap ((xa:Int)*16)=(xa:Int)*16:=wrap_u8 Z Z;have g1:IntKind.i64.wrap ((T:Int)+1)=(T:Int)+1:=wrap_i64 Z Z;have g2:IntKind.u8.wrap ((xa:Int)*16+(xb:Int))=(xx:Int):=(wrap_u8 Z Z).trans Z;clear K;have g3:(wr.drew.alloc (QL #[.int .u8 (xx:Int)] 5)).cell? (Qz O 5)=some a3:=(M.drew.bx.below ((Fu wr.heap.size wr.drew).alloc (Fv _) _) M.bx.lt).cell 5;have g4:(wr.alloc (QL #[.int .u8 (xx:Int)] 5)).cell? (Qz O 5)=some a3:=(M.bx.below ((Fu wr.heap.size wr).alloc (Fv _) _) M.bx.lt).cell 5;obtain⟨da,K,dc,rfl,b3⟩:=ch M.dt;clear b3;clear q1 Y s7 M R;go_wp2_with fail;refine rh (S:=λW9=>QG W9 hg T (.int .u8 (xa:Int))/\QG W9 hg (T+1) (.int .u8 (xb:Int))) ?_;have R:=F.out _ (Fu _ _).drew;refine py R ?_;simp only[f0,f1,Nat.reduceAdd,lz,l0,ls];refine pk 2 (Vl hg y.size hc) R ?_;refine pk 3 (I (T:Int)) R ?_;refine pz 4 (J hg T) R ?_;refine pz 5 (.int .u8 (xa:Int)) R ?_;refine pz 6 (.int .u8 ((xa*16:Nat):Int)) R ?_;refine pk 7 (Vl hg y.size hc) R ?_;refine pk 8 (I (T:Int)) R ?_;refine pz 9 (I ((T+1:Nat):Int)) R ?_;refine pz 10 (J hg (T+1)) R ?_;refine pz 11 (.int .u8 (xb:Int)) R ?_;refine pz 12 (.int .u8 (xx:Int)) R ?_;refine lZ [1,13] λi9 a4=>?_;rcases(by simpa using a4:i9=1\/i9=13)with a4|a4
          ·subst a4;refine cw λK' Y=>?_;go_simp;refine Y _ _ ⟨R,?_⟩;clear Y K';refine po 13 λK' Y=>?_
           go_simp;have a5:=F.out _ (((Fu wr.heap.size wr).alloc (Fv _) (QL #[.int .u8 (xx:Int)] 5)).mono (Fv _));refine Y _ _ ⟨a5,?_⟩;clear R;have R:=a5;clear Y K';refine gu 14 ?_;have a6:=G.out;refine fq rfl rfl _ _ rfl rfl rfl rfl e1 ⟨a6,?_⟩;clear R;have R:=a6;refine pk 15 (J O 5) R ?_;refine po 16 λK' Y=>?_;go_simp;have b4:=CS.out;refine Y _ _ ⟨b4,?_⟩;clear R;clear Y K';refine bY ?_;go_wp2_with fail;go_roundw
           (case rel=>exact⟨T+2,i+1,_,Z,aY,H (by have:=HJ.out;omega),H7⟩);case measure=>exact QE
          subst a4;refine cw λK' Y=>?_;go_simp;have a5:=F.out _ (((Fu wr.heap.size wr).alloc (Fv _) (QL #[.int .u8 (xx:Int)] 5)).mono (Fv _));refine Y _ _ ⟨a5,?_⟩;clear R;have R:=a5;clear Y K';refine po 1 λK' Y=>?_
          go_simp;refine Y _ _ ⟨R,?_⟩;clear Y K';refine gu 14 ?_;have a6:=G.out;refine fq rfl rfl _ _ rfl rfl rfl rfl e1 ⟨a6,?_⟩;clear R;have R:=a6;refine pk 15 (J O 5) R ?_;refine po 16 λK' Y=>?_;go_simp;have b4:=CS.out;refine Y _ _ ⟨b4,?_⟩;clear R;clear Y K';refine bY ?_;go_wp2_with fail;go_roundw
          (case rel=>exact⟨T+2,i+1,_,Z,aY,H (by have:=HJ.out;omega),H7⟩);case measure=>exact QE
         have R:=H (show i=y.size/2 by have:=HJ.out;omega);clear HJ;have c2:wr.cell? (Qz N2 k)=some (.string t):=(by rw[HT,HF];exact JN M.fm a0);rcases pb with _|_
         ·have HN:=H (show tu q=none by
           rw[HP,qG,GO (λh=>by have F:=b7.out;have G:=h.1;rw[<-Q.out]at G;simp at F G;omega)];rfl)
          exact ih HN M.r M.bel
         have b0:=H (show tu q=eD (f.drop (j+1)) (q.tail.drop (j+1)) L {o with data:=mN (iN P)} by
          rw[HP,qG,GP ⟨by have F:=b7.out;rw[<-Q.out];simp at F⊢;omega,HA,by rw[<-Q.out];simpa using b6⟩];rfl)
         have G:=H (show Sp4 w wr w.heap.size N2 O {o with data:=mN (iN P)} a3 from⟨M.r,M.fm,M.bx,by
          have h9:=M.dt;have V:(mN (iN P)).length=i:=(by rw[tQ,R,<-Q.out];simp[iN]);rw[Ge Z]at h9;dsimp only;rw[V];exact ia h9 M.lt.2.2.2.2.2,M.bel,M.ge,M.ne⟩)
         clear M;go_wp2_with fail;go_roundw;(case rel=>exact⟨j+1,L,_,_,Z,Z,rfl,aY,b0,G,H (λh=>by have:=d0.out;omega)⟩);case measure=>exact QE
       have HN:=H (show tu q=none by
        rw[HP,qG,GO (λh=>hA ⟨h.2.1,by have:=h.2.2;rw[<-Q.out]at this;simpa using this⟩)];rfl)
       have z:=I_ y wr a1 (by rw[Q];exact hA);clear hA;go_wp2_with fail;refine z.mono ?_;rintro e w'⟨ha,hc,rfl,X⟩;have H6:=H (r.below X);clear z X r;go_wp2_with fail;go_loopw [16] (λA wq=>A=I 0/\wq=w') (λ_ _=>0);(case atStart=>exact⟨rfl,rfl⟩);case round=>
        obtain⟨rfl,rfl⟩:=hrel;exact ih HN H6.r H6.bel
      obtain rfl:j=t.size:=Z;have HN:=H (show tu q=some o by rw[HE,List.drop_eq_nil_of_le Z];rfl);obtain⟨da,K,dc,rfl,b3⟩:=ch r.dt;clear b3;have u:Hid (wr.heap[w.heap.size]?=some (QL io.toArray 48)):=H r.r;have y:Hid (wr.heap[O]?=some (QL (opC o (.slice da K dc)).toArray 48)):=H r.bx;have⟨d,z,s⟩:=Qe (setRow_heap wr w.heap.size _ (opC o (.slice da K dc)).toArray 48 (0,0) u) (below_setRow r.bel (Fv _) (opC o (.slice da K dc)).toArray) (dG r.dt (r.r.apart r.dt ar) (opC o (.slice da K dc)).toArray);clear HE r HD;go_wp2_with (first|(refine Gt rfl 48 _ rfl O rfl 48 _ (0,0) _ y underlying48 rfl E ?_)|(refine Gf rfl 48 _ _ rfl _ _ rfl rfl 48 _ u E rfl (by first|exact Lb _ _ _ _|simp[Value.oneCell',opC]) ?_));refine GX (de dU _ _ w.heap.size 48 _ (0,0) _ dU d underlying48 rfl E) dU ?_;rw[HN];exact⟨_,rfl,⟨.slice da K dc,_,rfl,(λh=>by cases h),(λx c=>by cases c;exact⟨rfl,s⟩)⟩,z⟩
    have c6:((m:Int) != (t.size:Int)+1)=true:=bG;have HN:Hid (∀j,j<k+1->OV j q=false):=(λj hj=>HX.out j hj (by rw[HH];simp[x2]));clear x2;go_wp2;go_roundw;(case rel=>exact⟨k+1,Z,aY,HN,trivial⟩);case measure=>exact QE
   have HN:Hid (∀j,j<k+1->OV j q=false):=(λj hj=>HX.out j hj (by rw[HH];simp[x1]));go_wp2;go_roundw;(case rel=>exact⟨k+1,Z,aY,HN,trivial⟩);case measure=>exact QE
  have HN:Hid (tu q=none):=wU λj hj=>a7.out j Z;exact ih HN H3.r H3.bel
theorem MY(v q B w)(c:Ws B w v q)(a:0<q.length)(d:q.length<=1048576)(b:∀x∈q,x.length<=1048576):
  QA 22 #[v] w λe w'=>∃r,e=QJ r/\Nx w w' (tu q) r/\D w w':=by
 cases h:OV 6 q with
 |false=>exact Mq v q B w c a d b h
 |true=>exact MX v q B w c a d b h
def wX(ps:List (sT×Value)):List Value:=ps.flatMap λp=>opC p.1 p.2
theorem zE(ps:List (sT×QN))(p:sT×QN):wX (ps++[p])=wX ps++opC p.1 p.2:=by simp[wX]
structure Res(B:Nat)(W:QM)(s:rP)(dv ov bd:QN)(ps:List (sT×QN)):Prop where
 dt:W.ownsRow B 3 1 dv s.cf.draws.length (iv s.cf.draws)
 op:W.ownsRow B 48 6 ov ps.length (wX ps)
 eq:ps.map (·.1)=s.ops
 dd:∀p∈ps,W.ownsRow B 5 1 p.2 p.1.data.length (xe p.1.data)
 bdo:W.ownsRow B 3 1 bd s.bad.length (iv s.bad)
 ap:∀r,dv.ownBlock=some r->bd.ownBlock≠some r
 pw:ps.Pairwise λp q=>∀r,p.2.ownBlock=some r->q.2.ownBlock≠some r
theorem Res.below{s ps}(h:Res B W s dv ov bd ps)(a:D W W'):Res B W' s dv ov bd ps:=
 ⟨own_below h.dt a,own_below h.op a,h.eq,λp b=>own_below (h.dd p b) a,own_below h.bdo a,h.ap,h.pw⟩
structure Rq(w W:QM)(C R:Nat)(s:rP)(dv ov bd:QN)(ps:List (sT×QN)):Prop where
 r:Bx W R 30 jx
 bx:Bx W C 30 (OD s.cf dv)
 res:Res w.heap.size W s dv ov bd ps
 bel:D w W
 ge:w.heap.size<=C/\w.heap.size<=R
 ne:C≠R
theorem Rq.below{w W W' C R s dv ov bd ps}(h:Rq w W C R s dv ov bd ps)(a:D W W'):Rq w W' C R s dv ov bd ps:=
 ⟨h.r.below a h.r.lt,h.bx.below a h.bx.lt,h.res.below a,h.bel.trans (a.mono h.bel.size),h.ge,h.ne⟩
def Ef:Value:=C
theorem Rq.start(w):Rq w ((w.alloc (QL jx.toArray 30)).alloc (QL (OD ik.cf Ef).toArray 30)) (w.heap.size+1) w.heap.size ik Ef Ef Ef []:=by
 have a:(w.alloc (QL jx.toArray 30)).heap.size=w.heap.size+1:=bH;refine⟨?_,?_,⟨⟨by simp[ik,iv],.inl ⟨rfl,rfl⟩⟩,⟨by simp[wX],.inl ⟨rfl,rfl⟩⟩,rfl,bH,⟨by simp[ik,iv],.inl ⟨rfl,rfl⟩⟩,(λr h=>by cases h),.nil⟩,?_,Z,Z⟩;·unfold Bx;rw[eg _ _ _ Z,ao]
 ·unfold Bx;rw[<-a,ao]
 exact((Fu _ w).alloc (Fv _) _).alloc Z _
theorem A5{a:QN}(h:∀r,a.ownBlock=some r->v2.ownBlock≠some r):a.ownBlock=none\/a.ownBlock≠v2.ownBlock:=by
 cases e:a.ownBlock with
 |none=>exact .inl rfl
 |some r=>exact .inr (λa=>h r e a.symm)
theorem Rq.opMore{C s ps}(h:Rq w W C R s dv ov bd ps)(o:sT)(b:QN)(g:Nat)(i:W.ownsRow g 5 1 b o.data.length (xe o.data))(j:w.heap.size<=g)(f:∀p∈ps,∀r,p.2.ownBlock=some r->r<g)(l:ps.length<=2000000):
  ∃e W',QI 31 ov (Vl W.heap.size 1 1) (W.alloc (QL (opC o b).toArray 48)) e W'/\Rq w W' C R {s with ops:=s.ops++[o]} dv e bd (ps++[(o,b)])/\K2 W W':=by
 have⟨e,W',e1,n,d⟩:=DL Nj h.res.op h.bel.size (opC o b).toArray (by simp[opC]) (by
  obtain⟨a,m,c,rfl,_⟩:=ch i;intro u k;simp[opC]at k;rcases k with rfl|rfl|rfl|rfl|rfl|rfl<;>rfl) l
 have c:K2 W W':=K2.grown d h.res.op ar;refine⟨e,W',e1,⟨h.r.grown d (h.r.apart h.res.op ar),h.bx.grown d (h.bx.apart h.res.op ar),⟨h.res.dt.kept d (OH h.res.dt h.res.op ar),?_,?_,?_,h.res.bdo.kept d (OH h.res.bdo h.res.op ar),h.res.ap,?_⟩,h.bel.grown d h.bel.size (λr e=>(h.res.op.lt r e).1),h.ge,h.ne⟩,c⟩;·rw[zE,FC];exact n
 ·simp[h.res.eq]
 ·intro p a;rcases F8.1 a with a|a;·exact c.own (h.res.dd p a) ar
  simp at a;subst a;exact ia (c.own i ar) j
 refine Is.2 ⟨h.res.pw,List.pairwise_singleton _ _,λp a q k r m t=>?_⟩;simp at k;subst k;have:=f p a r m;have:=(i.lt r t).1;omega
theorem Rq.badMore{C s ps}(h:Rq w W C R s dv ov bd ps)(x)(g:s.bad.length<=2000000):
  ∃c W',QI 28 bd (Vl W.heap.size 1 1) (W.alloc (QL #[I x] 3)) c W'/\Rq w W' C R {s with bad:=s.bad++[x]} dv ov c ps/\K2 W W':=by
 have⟨c,W',e1,i,a,b⟩:=Ni tE h.res.bdo h.bel.size #[I x] rfl mL g;have f:K2 W W':=K2.grown a h.res.bdo ar;refine⟨c,W',e1,⟨h.r.grown a (h.r.apart h.res.bdo ar),h.bx.grown a (h.bx.apart h.res.bdo ar),⟨h.res.dt.kept a (A5 h.res.ap),h.res.op.kept a (OH h.res.op h.res.bdo ar),h.res.eq,λp j=>f.own (h.res.dd p j) ar,?_,?_,h.res.pw⟩,h.bel.grown a h.bel.size (λr e=>(h.res.bdo.lt r e).1),h.ge,h.ne⟩,f⟩;·rw[show iv (s.bad++[x])=iv s.bad++[I x] by simp[iv],FC];exact i
 intro r e d;rcases b with b|b;·exact h.res.ap r e (b▸d)
 have:=(h.res.dt.lt r e).2;rw[b]at d;cases d;omega
theorem Rq.cfMore{C s}{a:QN}{ps}(h:Rq w W C R s dv ov bd ps)(i:D W W')(d:Jh)(e:W'.ownsRow w.heap.size 3 1 a d.draws.length (iv d.draws))(c:a=dv\/∀r,a.ownBlock=some r->W.heap.size<=r):
  Rq w (W'.setRow C (OD d a).toArray) C R {s with cf:=d} a ov bd ps:=by
 have b:=h.below i;have j:K2 W' (W'.setRow C (OD d a).toArray):=K2.row b.bx ar _;refine⟨?_,setRow_heap _ _ _ _ _ _ b.bx,⟨dG e (b.bx.apart e ar) _,dG b.res.op (b.bx.apart b.res.op ar) _,h.res.eq,λp k=>j.own (b.res.dd p k) ar,dG b.res.bdo (b.bx.apart b.res.bdo ar) _,?_,h.res.pw⟩,below_setRow b.bel h.ge.1 _,h.ge,h.ne⟩;·unfold Bx;rw[setRow_other _ _ _ _ (Iq h.ne)];exact b.r
 intro r f g;rcases c with rfl|c;·exact h.res.ap r f g
 have:=c r f;have:=(h.res.bdo.lt r g).2;omega
def Bnd(k:Nat)(s:rP)(n:Nat):Prop:=s.cf.draws.length<=k*20001/\n<=k/\s.bad.length<=k
theorem Bnd.next{s}(h:Bnd k s n):Bnd (k+1) s n:=by
 have⟨a,b,c⟩:=h;refine⟨?_,Z,Z⟩;rw[Nat.succ_mul];exact Fx a (Nat.le_add_right _ _)
theorem Bnd.op{s}(h:Bnd k s n)(o:sT):Bnd (k+1) {s with ops:=s.ops++[o]} (n+1):=⟨h.next.1,Nat.succ_le_succ h.2.1,h.next.2.2⟩
theorem Bnd.bad{k n s}(h:Bnd k s n)(x:Int):Bnd (k+1) {s with bad:=s.bad++[x]} n:=⟨h.next.1,h.next.2.1,by
 show(s.bad++[x]).length<=k+1
 rw[FC];exact Nat.succ_le_succ h.2.2⟩
theorem Bnd.cf{s}(h:Bnd k s n){c:Jh}{q:List (List UInt8)}(a:q.length<=20001)(b:ij s.cf q=some c):Bnd (k+1) {s with cf:=c} n:=⟨by
 show c.draws.length<=(k+1)*20001
 rw[Nat.succ_mul]
 exact Fx (AC b) (Nat.add_le_add h.1 a),h.next.2.1,h.next.2.2⟩
theorem Bnd.dr{s}(h:Bnd k s n)(a:k<=20000):s.cf.draws.length<=1000000000:=Fx h.1 (Fx (Gm 20001 a) ar)
theorem EV(ls:List (List UInt8))(k:Nat)(s:rP)(h:k<ls.length):gJ (ls.drop k) k s=gJ (ls.drop (k+1)) (k+1) (rZ k ls[k] s):=by
 rw[List.drop_eq_getElem_cons h,gJ]
theorem Ml(g n c:Nat)(l:List UInt8)(w:QM)(j:l.length=n)(k:20000<n)(b:n<=1048576):
  QA 10 #[Vl g n c] w λe w'=>∃dv ov bd ps,e=QJ (.tuple #[.agg (OD (kI l).cf dv).toArray,ov,bd])/\Res w.heap.size w' (kI l) dv ov bd ps/\D w w':=by
 have d:=H (show kI l=BK by rw[kI,GP Z]);have a:Hid ((w.alloc (QL jx.toArray 30)).heap[w.heap.size]?=some (QL jx.toArray 30)):=H (ao _ _);have⟨f,i⟩:=y7 (setRow_self (w.alloc (QL jx.toArray 30)) w.heap.size jx.toArray 30 (0,0) a) ((Fu w.heap.size w).alloc (Fv _) (QL jx.toArray 30));go_enter func10,ntmps10;go_wp2_with (refine eG a ?_);refine Eq.mp (congrArg _ f.symm) ?_;refine GX (wV dU _ _ w.heap.size 30 _ (0,0) _ dU a underlying30 rfl E) dU ?_;rw[d];exact⟨Ef,Ef,Ef,[],rfl,⟨⟨by simp[BK,iv],.inl ⟨rfl,rfl⟩⟩,⟨by simp[wX],.inl ⟨rfl,rfl⟩⟩,rfl,bH,⟨by simp[BK,iv],.inl ⟨rfl,rfl⟩⟩,(λr h=>by cases h),.nil⟩,i⟩
theorem EH(g)(n:Nat)(c)(l:List UInt8)(w)(hl:l.length=n)(hn:¬20000<n)(hr:RowV w g 5 (bv l)):
  QA 10 #[Vl g n c] w λe w'=>∃dv ov bd ps,e=QJ (.tuple #[.agg (OD (kI l).cf dv).toArray,ov,bd])/\Res w.heap.size w' (kI l) dv ov bd ps/\D w w':=by
 have⟨ls,b⟩:=Qb (kn l []);have HM:=H (show kI l=gJ (ls.drop 0) 0 ik by rw[kI,GO Z,b];rfl);have b9:=H (λx(hx:x∈ls)=>(show x.length<=20000 by rw[b]at hx;have:=xy l [] x hx;simp at this;omega));have d4:ls.length<=20000:=by rw[b];have:=OX l [];omega
 have z:=H (Rq.start w);have⟨W0,d⟩:=Qb ((w.alloc (QL jx.toArray 30)).alloc (QL (OD ik.cf Ef).toArray 30));rw[<-d]at z;have a:=Le g n c l W0 hl Z (hr.below z.bel hr.lt);rw[<-b]at a;have⟨c0,d5⟩:=y7 d b;rw[d]at a;clear d b hr;go_enter func10,ntmps10;go_wp2_with fail;refine a.mono ?_;rintro e w1⟨lv,rfl,f,i⟩;rw[<-c0.out]at f i;have⟨HL,a6⟩:=y7 f (z.below i);have⟨b,j⟩:=Qb W0.heap.size;rw[<-j]at HL;have⟨d,m⟩:=Qb (w.heap.size+1);rw[<-m]at a6⊢;obtain⟨la,L,lc,rfl,o⟩:∃la L lc,lv=.slice la L lc/\L=ls.length:=by
  have⟨a0,h1,h2,_⟩:=HL.out;have⟨la,L,lc,h3,p⟩:=ch h2;exact⟨la,L,lc,h3,by rw[p,<-h1];simp⟩
 have a7:=H o;have d6:L<=20000:=Z;clear a f i j m o;go_wp2_with fail;have c1:decide ((20000:Int)<(n:Int))=false:=bG
 try simp only[c1]
 go_loopw [6,7,22] (λov bd i wr=>∃(k:Nat)(s:rP)(dv:QN)(ps:List (sT×QN)),k<=L/\i=I (k:Int)/\Hid (kI l=gJ (ls.drop k) k s)/\Hid (Rq w wr d w.heap.size s dv ov bd ps)/\Hid (Lns b wr (.slice la L lc) ls)/\Hid (Bnd k s ps.length)) (λ_ _ i _=>L-(intOf i).toNat);case atStart=>exact⟨0,ik,Ef,[],FH _,rfl,HM,a6,HL,H ⟨by simp[ik],bH,by simp[ik]⟩⟩
 case round=>
  clear a6 HL HM;obtain⟨k,s,dv,ps,hk,rfl,HM,z,HL,HN⟩:=hrel;by_cases d7:k<L
  ·obtain⟨lg,u,rfl,p,m,c2⟩:∃lg u,la=some (Qz lg 0)/\wr.cell? (Qz lg k)=some u/\LnS wr.heap.size wr u (ls.getD k [])/\(ls.getD k []).length<=20000:=by
    have⟨a0,h1,h2,h3⟩:=HL.out;have X:k<a0.length:=(by have:=a7.out;rw[<-h1]at this;simp at this;omega);have a4:ls.getD k []=(a0[k]).2:=(by rw[<-h1];simp[X]);rcases h2.2 with⟨h9,h8⟩|⟨lg,d8,d9,h9,hg,hh,_⟩;·omega
    simp only[Value.slice.injEq]at h9;obtain⟨rfl,h7,rfl⟩:=h9;refine⟨lg,(a0[k]).1,rfl,?_,by rw[a4];exact h3 _ (Iw X),by rw[a4];exact b9 _ (by rw[<-h1];exact List.mem_map_of_mem (Iw X))⟩;rw[h7]at h2;rw[(RowV.ofOwns h2).cell k (by simpa using X)];simp[X]
   have b4:k<ls.length:=(by have:=a7.out;omega);have G:=H (HM.trans (EV ls k s b4));have f:ls[k]=ls.getD k []:=(by simp[b4]);rw[f]at G;have⟨x,hx⟩:=Qb (ls.getD k []);rw[<-hx]at G m c2;clear hx f HM;obtain⟨f,um,j,rfl⟩:∃f um j,u=.slice f um j:=by
    rcases m with⟨rfl,_⟩|⟨o,q,rfl,_⟩;·exact⟨_,_,_,rfl⟩
    exact⟨_,_,_,rfl⟩
   have a:=KV _ x wr m Z;clear m;go_wp2_with fail;refine a.mono ?_;rintro e w2⟨qv,rfl,o,r⟩;have⟨t,F,A⟩:=Qe (z.below r) (HL.keep (K2.below r)) o;have c3:=O4 x [];have a8:=r_ x [];clear a z HL p;have⟨q,K⟩:=Qb (cE x []);rw[<-K]at A c3 a8 o;obtain⟨qa,m,qc,rfl,p⟩:=ch o;by_cases M:m=0
   ·have c4:((m:Int)==0)=true:=(by rw[beq_iff_eq];omega);have v:=H (show kI l=gJ (ls.drop (k+1)) (k+1) s by
     rw[G,rZ,GP (by rw[<-K];exact Ik Z)])
    have c5:=H p;clear o p r M;go_wp2_with fail;go_roundw;(case rel=>exact⟨k+1,s,dv,ps,Z,aY,v,t,F,H HN.next⟩);case measure=>exact QE
   have c4:((m:Int)==0)=false:=(by rw[QF];omega);have P:¬cE x []=[]:=λh=>M (by rw[p,K,h];rfl)
   have O:=MY _ q _ w2 A Z Z (λy hy=>by have:=a8 y hy;simp at this;omega);have b5:q.length<=20001:=Z;have c7:0<q.length:=Z;have⟨c5,b6⟩:=y7 p K;clear o r M p K;go_wp2_with fail;refine O.mono ?_;rintro e N⟨r,rfl,⟨a1,cs,rfl,a9,b0⟩,b1⟩;have c8:w.heap.size<=w2.heap.size:=t.bel.size;have⟨b7,a2,a3,a5⟩:=Qf (λp(hp:p∈ps)r(hr:p.2.ownBlock=some r)=>((t.res.dd p hp).lt r hr).2) (t.below b1) (F.keep (K2.below b1)) (show Ws wr.heap.size N (.slice qa m qc) q from own_below A b1);clear O;cases ho:tu q with
   |some o=>
    obtain⟨rfl,K⟩:=b0 o ho;have F:D N (N.alloc (QL (opC o a1).toArray 48)):=(Fu _ N).alloc (Fv _) _;have⟨A,Q⟩:=y7 (a2.below F) (a3.keep (K2.below F));have⟨v5,w5,R,q5,k5⟩:=A.opMore o a1 w2.heap.size (own_below K F) c8 b7 (by have:=HN.2.1;omega);have⟨v,S,T⟩:=Qe (show kI l=gJ (ls.drop (k+1)) (k+1) {s with ops:=s.ops++[o]} by rw[G,rZ,GO P,<-b6.out,ho]) q5 (Q.keep k5);have O:Hid ((N.alloc (QL (opC o a1).toArray 48)).heap[N.heap.size]?=some (QL (opC o a1).toArray 48)):=H (ao _ _);obtain⟨V,t,Y,rfl,M⟩:=ch K;clear M;clear a9 b0 ho K F q5 k5 P;unfold opC at R O⊢;(go_upto_region 13 with fail);have⟨W4,K⟩:=Qb (N.alloc (QL #[I (o.kind:Int),I (o.ref:Int),U (o.p:Int),U (o.a:Int),U (o.b:Int),.slice V t Y] 48));have b2:QI 31 u6 (Vl W4.heap.size 1 1) (W4.alloc (QL #[I (o.kind:Int),I (o.ref:Int),U (o.p:Int),U (o.a:Int),U (o.b:Int),.slice V t Y] 48)) v5 w5:=(by rw[K];exact R);have M:Hid (W4.heap[N.heap.size]?=some (QL #[I (o.kind:Int),I (o.ref:Int),U (o.p:Int),U (o.a:Int),U (o.b:Int),.slice V t Y] 48)):=(by rw[K];exact O);refine Eq.mp (congrArg _ K) ?_;clear K R O;generalize N.heap.size=O at M⊢;go_wp2_with (first|(at_builtin;refine cY rfl (.tmp 38) (.tmp 40) (by with_reducible rfl) rfl rfl rfl b2 ?_)|(refine Gt rfl 48 _ rfl O rfl 48 _ (0,0) _ M underlying48 rfl E ?_));go_roundw;(case rel=>exact⟨k+1,_,_,_,Z,aY,v,S,T,H (by rw[FC];exact HN.op o)⟩);case measure=>exact QE
   | none=>
    obtain rfl:=a9 ho;have F:D N (N.alloc (QL io.toArray 48)):=(Fu _ N).alloc (Fv _) _;have⟨A,Q,o⟩:=Qe (a2.below F) (a3.keep (K2.below F)) (show Ws wr.heap.size (N.alloc (QL io.toArray 48)) (.slice qa m qc) q from own_below a5 F);have Y:=Mo s.cf dv (.slice qa m qc) q wr.heap.size w.heap.size (N.alloc (QL io.toArray 48)) o c7 Z (λy hy=>by have:=a8 y hy;simp at this;omega) A.res.dt A.bel.size (HN.dr Z);have T:Hid ((N.alloc (QL io.toArray 48)).heap[d]?=some (QL (OD s.cf dv).toArray 30)):=H A.bx;have v:=H (show kI l=gJ (ls.drop (k+1)) (k+1) (match ij s.cf q with|some c=>{s with cf:=c} |none=>{s with bad:=s.bad++[((k+1:Nat):Int)]}) by rw[G,rZ,GO P,<-b6.out,ho];cases ij s.cf q<;>rfl);clear a9 b0 ho F P;unfold io;(go_upto_region 15 with fail);have⟨W4,K⟩:=Qb (N.alloc (QL io.toArray 48));rw[<-K]at Y T A Q;refine Eq.mp (congrArg _ K) ?_;clear K;obtain⟨da,o,dc,rfl,b2⟩:=ch A.res.dt;clear b2;go_wp2_with (refine Gt rfl 30 _ rfl d rfl 30 _ (0,0) _ T underlying30 rfl E ?_);refine Y.mono ?_;rintro e w6⟨r,rfl,⟨d0,rfl,V,O⟩,M⟩;have b8:Hid (w6.heap[d]?=some (QL (OD s.cf (.slice da o dc)).toArray 30)):=H ((A.below M).bx);have R:=H (A.cfMore M _ V O);have S:=H (Q.keep ((K2.below M).trans (K2.row (A.below M).bx ar (OD ((ij s.cf q).getD s.cf) d0).toArray)));obtain⟨ea,t,ec,rfl,b3⟩:=ch V;clear b3 V O M Y T;cases M:ij s.cf q with
    |some c6=>
     rw[M]at v R S;have⟨Y,b3,T,V⟩:=Qf (show kI l=gJ (ls.drop (k+1)) (k+1) {s with cf:=c6}from v) (HN.cf b5 M) (show Rq w (w6.setRow d (OD c6 (.slice ea t ec)).toArray) d w.heap.size {s with cf:=c6} (.slice ea t ec) u6 u7 ps from R) (show Lns b (w6.setRow d (OD c6 (.slice ea t ec)).toArray) (Vl lg L lc) ls from S);clear M;simp only[Ht,Option.isSome_some];go_upto_region 16 with(refine Gf rfl 30 _ _ rfl d _ rfl rfl 30 _ b8 E rfl (nF _ _ _ _) ?_)
     have⟨W7,O⟩:=Qb (w6.setRow d (OD c6 (.slice ea t ec)).toArray);rw[<-O]at T V;refine Eq.mp (congrArg _ O) ?_;clear O;go_wp2_with fail;go_roundw;(case rel=>exact⟨k+1,_,_,_,Z,aY,Y,T,V,b3⟩);case measure=>exact QE
    |none=>
     rw[M]at v R S;have⟨T,V,Y⟩:=Qe (show Rq w (w6.setRow d (OD s.cf (.slice ea t ec)).toArray) d w.heap.size s (.slice ea t ec) u6 u7 ps from R) (show Lns b (w6.setRow d (OD s.cf (.slice ea t ec)).toArray) (Vl lg L lc) ls from S) (show kI l=gJ (ls.drop (k+1)) (k+1) {s with bad:=s.bad++[((k+1:Nat):Int)]}from v);clear M;simp only[Option.getD_none,Option.isSome_none];go_upto_region 17 with(refine Gf rfl 30 _ _ rfl d _ rfl rfl 30 _ b8 E rfl (nF _ _ _ _) ?_)
     have⟨W7,O⟩:=Qb (w6.setRow d (OD s.cf (.slice ea t ec)).toArray);rw[<-O]at T V;refine Eq.mp (congrArg _ O) ?_;clear O;have⟨v8,w8,e8,q8,k8⟩:=T.badMore ((k+1:Nat):Int) (by have:=HN.2.2;omega);have d1:QI 28 u7 (Vl W7.heap.size 1 1) (W7.alloc (QL #[I ((k:Int)+1)] 3)) v8 w8:=e8;have⟨d2,d3,b3⟩:=Qe q8 (V.keep k8) (HN.bad ((k+1:Nat):Int));clear e8 q8 k8;go_wp2_with (at_builtin;refine cY rfl (.tmp 50) (.tmp 53) (by with_reducible rfl) rfl rfl rfl d1 ?_);go_roundw;(case rel=>exact⟨k+1,_,_,_,Z,aY,Y,d2,d3,b3⟩);case measure=>exact QE
  have r:=H (show kI l=s by rw[HM,List.drop_eq_nil_of_le (by have:=a7.out;omega)];rfl);obtain⟨da,o,dc,rfl,b2⟩:=ch z.res.dt;have q:Hid (wr.heap[w.heap.size]?=some (QL jx.toArray 30)):=H z.r;have t:Hid (wr.heap[d]?=some (QL (OD s.cf (.slice da o dc)).toArray 30)):=H z.bx;have⟨f,j⟩:=y7 (setRow_heap wr w.heap.size _ (OD s.cf (.slice da o dc)).toArray 30 (0,0) q) (below_setRow z.bel (Fv _) (OD s.cf (.slice da o dc)).toArray);have m:=H (show Res w.heap.size (wr.setRow w.heap.size (OD s.cf (.slice da o dc)).toArray) s (.slice da o dc) u6 u7 ps from by
   have hk:=K2.row z.r ar (OD s.cf (.slice da o dc)).toArray;exact⟨dG z.res.dt (z.r.apart z.res.dt ar) _,dG z.res.op (z.r.apart z.res.op ar) _,z.res.eq,λp hp=>hk.own (z.res.dd p hp) ar,dG z.res.bdo (z.r.apart z.res.bdo ar) _,z.res.ap,z.res.pw⟩)
  clear z HL HM b2 HN;go_upto_region 19 with fail
  go_wp2_with (first|(refine Gt rfl 30 _ rfl d rfl 30 _ (0,0) _ t underlying30 rfl E ?_)|(refine Gf rfl 30 _ _ rfl _ _ rfl rfl 30 _ q E rfl (nF _ _ _ _) ?_));refine GX (wV dU _ _ w.heap.size 30 _ (0,0) _ dU f underlying30 rfl E) dU ?_;rw[r];exact⟨_,_,_,_,rfl,m,j⟩
theorem L6{O:Nat}(h:w.grownBy W (some O))(k:W.grownBy W' v.ownBlock)(hv:∀r,v.ownBlock=some r->w.heap.size<=r):w.grownBy W' (some O):=
 ⟨k.os.trans h.os,k.tape.trans h.tape,k.output.trans h.output,Fx h.size k.size,λi b a=>(k.block i (FG b h.size) (λe=>by have:=hv i e.symm;omega)).trans (h.block i b a)⟩
theorem Mk{l:List UInt8}(h:k+1<l.length):(l.drop k).take 2=[l[k],l[k+1]]:=by
 rw[List.drop_eq_getElem_cons Z,List.drop_eq_getElem_cons Z];rfl
theorem JO{c d:UInt8}(a:pQ c.toNat<16)(b:pQ d.toNat<16):dL 16 2 [c,d]=some (pQ c.toNat*16+pQ d.toNat):=by
 rw[dL,GP bH,sL Z,sL Z];simp[qF]
theorem JP{c d:UInt8}(h:¬(pQ c.toNat<16/\pQ d.toNat<16)):dL 16 2 [c,d]=none:=by
 rw[dL,GP bH];by_cases a:pQ c.toNat<16;·rw[sL Z,qI Z]
 rw[qI Z]
theorem JJ{l}(h:oK l=true)(a:k<l.length):pQ l[k].toNat<16:=by
 have:=List.all_eq_true.1 h l[k] (Iw a);simpa using this
theorem Kw{l:List UInt8}{i:Nat}(h:2*i+1<l.length):(mN (iN l))[i]?=some (pQ (l[2*i]' Z).toNat*16+pQ (l[2*i+1]).toNat):=by
 rw[xC (iN l) i (by simpa[iN]using h)];simp[iN,show 2*i<l.length by omega,h]
theorem Jf:PartC 54 88 0:=by
 intro M O o s w hs a3 h1 hO r hd;have a:mX 88 s.data.toList 0 o=(qG s.data.toList).map (λd=>{o with data:=o.data++d}):=by rw[mX,GO ar,GO ar]
 rw[a];clear a;have⟨l,a⟩:=Qb s.data.toList;have t:l.length=s.size:=by rw[a];simp
 have HL:=H a;rw[<-a];clear a;by_cases f:s.size%2=0
 ·have j:(((s.size:Nat):Int)%2 !=0)=false:=bG;go_enter func54,ntmps54;go_wp2_with fail;go_loopw [5] (λv wr=>∃(k i:Nat)(dv:QN),k<=s.size/\v=I (k:Int)/\Hid (k=2*i)/\Hid (oK (l.take k)=true)/\Hid (wr.ownsRow w.heap.size 5 1 dv i (xe ((mN (iN l)).take i)))/\Hid (Bx wr O 48 (opC o dv))/\Hid (w.grownBy wr (some O))) (λv _=>s.size-(intOf v).toNat);case atStart=>exact⟨0,0,OL,Z,rfl,H rfl,H rfl,H ⟨by simp[xe],.inl ⟨rfl,rfl⟩⟩,H r,H (al w O)⟩
  case round=>
   obtain⟨k,i,dv,hk,rfl,n,G,N,K,u⟩:=hrel;by_cases a4:k<s.size
   ·have y:k+1<l.length:=(by have:=n.out;omega);have a5:k+2<=s.size:=Z;have d:(s.extract k (k+2)).data.toList=[l[k],l[k+1]]:=by
     rw[ext_list,<-HL.out,show k+2-k=2 by omega,Mk y]
    have Q:=run_slice_string (P:=prog) wr 9 s .i64 .i64 (k:Int) ((k:Int)+2) underlying9 Z Z Z;have b:(((k:Int)+2).toNat)=k+2:=Z;have a:((k:Int).toNat)=k:=Z;rw[b,a]at Q;clear b a;have z:=OZ u h1 (by simpa using Iq hO);by_cases g:pQ l[k].toNat<16/\pQ l[k+1].toNat<16
    ·have a:=jA (s.extract k (k+2)) 16 2 _ M wr (by rw[ext_size];omega) Z Z Z z (by rw[d];exact JO g.1 g.2);have m:(mN (iN l))[i]?=some (pQ l[k].toNat*16+pQ l[k+1].toNat):=by
      have:=Kw (l:=l) (i:=i) (by have:=n.out;omega);have e9:=n.out;subst e9;exact this
     have R:=H (show oK (l.take (k+2))=true by
      have e1:=(sP l k l[k] (List.drop_eq_getElem_cons Z)).2;have S:=(sP l (k+1) l[k+1] (List.drop_eq_getElem_cons Z)).2;rw[S,e1,G];simp[g.1,g.2])
     have⟨x,b⟩:=Qb (pQ l[k].toNat*16+pQ l[k+1].toNat);rw[<-b]at a m;have T:x<256:=Z;clear b d g G;go_wp2_with fail;refine a.mono ?_;rintro e w1⟨rfl,q⟩;have A:=own_below N q;have L:=K.below q K.lt;have B:=fW u (gS q);have⟨v2,V,S,W,X⟩:=DL ql A B.size #[.int .u8 (x:Int)] rfl mL (by have:=n.out;omega);have F:=L.grown X (L.apart A ar);have G2:=L6 B X (λr e=>(A.lt r e).1);have Y:V.ownsRow w.heap.size 5 1 v2 (i+1) (xe ((mN (iN l)).take (i+1))):=(by rw[F9 _ _ _ m];exact W);have⟨B3,O3,G3⟩:=Qe (show Bx (V.setCell (Qz O 5) v2) O 48 (opC o v2) by simpa[opC]using F.set 5 v2) (fY (p:=(Qz O 5)) Y (F.apart Y ar) v2) (au G2 5 v2);obtain⟨da,b,dc,rfl,a0⟩:=ch A;have c5:w1.cell? (Qz O 5)=some (.slice da b dc):=L.cell 5;have a6:V.cell? (Qz O 5)=some (.slice da b dc):=F.cell 5;have f5:=F.free 5;obtain⟨ea,c,ec,rfl,a2⟩:=ch W;clear a N K u A L B W X F G2 Y a0 a2 q m;go_wp2_with (at_builtin;refine cY rfl (.tmp 36) (.tmp 39) (by with_reducible rfl) rfl rfl rfl S ?_);go_roundw;(case rel=>exact⟨k+2,i+1,_,Z,aY,H (by have:=n.out;omega),R,O3,B3,G3⟩);case measure=>exact QE
    have a:=iT (s.extract k (k+2)) 16 2 M wr (by rw[ext_size];omega) Z Z Z z (by rw[d];exact JP g);have c:=H (show qG l=none by
     rw[qG,GO];rintro⟨_,b,_⟩;exact g ⟨JJ b Z,JJ b y⟩)
    unfold wE at a;clear d g G;go_wp2_with fail;refine a.mono ?_;rintro e w1⟨rfl,q⟩;have B:=H (fW u (gS q));clear a;go_wp2_with fail;go_ret;rw[c];exact⟨B,_,rfl,.inr ⟨_,rfl⟩⟩
   have c:=H (show qG l=some (mN (iN l)) by
    have b:=G.out;rw[Ge Z]at b;rw[qG,GP ⟨by rw[t];exact f,b,Z⟩])
   have d:=H (show wr.ownsRow w.heap.size 5 1 dv (mN (iN l)).length (xe (mN (iN l))) by
    have b:=N.out;have g:(mN (iN l)).length=i:=(by rw[tQ];have:=n.out;simp[iN];omega);rw[Ge Z]at b;rw[g];exact b)
   go_wp2_with fail;go_ret;rw[c];refine⟨u,rfl,dv,K,?_,λb=>?_⟩
   rotate_left
   ·have g:=congrArg List.length (show o.data++mN (iN l)=[]from b);rw[hd]at g;simp[tQ,iN]at g;omega
   show wr.ownsRow w.heap.size 5 1 dv (o.data++mN (iN l)).length (xe (o.data++mN (iN l)));rw[hd];exact d
 have j:(((s.size:Nat):Int)%2 !=0)=true:=bG;have a:=OE s M w h1;unfold wE at a;have c:=H (show qG l=none by rw[qG,GO (λh=>f (by rw[<-t];exact h.1))]);go_enter func54,ntmps54;go_wp2_with (go_at_call 56;refine a.mono ?_;rintro e w'⟨rfl,rfl⟩);go_ret;rw[c];exact⟨al _ O,_,rfl,.inr ⟨_,rfl⟩⟩
section
open Go.ChangeShapes Go.WideShapes Go.ChangeAt Go.RowKit Go.Lib
theorem get_at(s:ByteArray)(p:Nat)(h:p<s.size):s.get! p=s[p]'(h):=by
 simp[ByteArray.get!,getElem!_pos,h];rfl
theorem xO(s:ByteArray)(a:Nat)(h:a<s.size)(ha:¬(s[a]'(h)).toNat<128)(k:Nat)(c:k<(Utf8.decode s a).2):a+k<s.size/\128<=(s.get! (a+k)).toNat:=by
 have e:s.get! (a+0)=s[a]'(h):=get_at s a h;simp only[Utf8.decode,e,ha,IL]at c;have d:k=0->a+k<s.size/\128<=(s.get! (a+k)).toNat:=λe0=>by
  subst e0;rw[e];exact⟨by simpa using h,Z⟩
 by_cases f:k=0;·exact d f
 repeat' split at c
 all_goals(try(simp at c;omega))
 all_goals(rename_i b g;simp only[Gi,Hj,beq_iff_eq]at b)
 ·have e1:k=1:=by simp at c;omega
  subst e1;exact⟨b.2.1,by have:=b.2.2;omega⟩
 ·have e1:k=1\/k=2:=by simp at c;omega
  rcases e1 with rfl|rfl;·exact⟨b.1.2.1,by have:=b.1.2.2;omega⟩
  exact⟨b.2.1,by have:=b.2.2;omega⟩
 have e1:k=1\/k=2\/k=3:=by simp at c;omega
 rcases e1 with rfl|rfl|rfl;·exact⟨b.1.1.2.1,by have:=b.1.1.2.2;omega⟩
 ·exact⟨b.1.2.1,by have:=b.1.2.2;omega⟩
 exact⟨b.2.1,by have:=b.2.2;omega⟩
theorem AN(s:ByteArray)(a:Nat):0<(Utf8.decode s a).2:=by
 simp only[Utf8.decode]
 repeat' split
 all_goals simp
def yr(l:List UInt8):Int:=if OY l<l.length then(OY l:Int)else -1
theorem yT:pm.data.toList=[43,45]:=rfl
theorem L9(l:List UInt8):Lib.indexAny l [43,45]=yr l:=by
 induction l with
 |nil=>rfl
 | cons b l a=>
  have d:([43,45]:List UInt8).contains b=yt b:=by
   simp only[yt,List.contains_cons,List.contains_nil,Bool.or_false];have c:(b==43)=(b.toNat==43):=(by rw[Bool.eq_iff_iff];simp;exact⟨λh=>by subst h;rfl,λh=>UInt8.toNat_inj.1 h⟩);have e:(b==45)=(b.toNat==45):=(by rw[Bool.eq_iff_iff];simp;exact⟨λh=>by subst h;rfl,λh=>UInt8.toNat_inj.1 h⟩);rw[c,e]
  rw[Lib.indexAny,d,a];unfold yr OY;rw[List.findIdx_cons];have e:l.findIdx yt<=l.length:=List.findIdx_le_length;cases yt b with
  |true=>simp
  |false=>
   by_cases c:l.findIdx yt<l.length;·simp[c]
   simp[c]
theorem Kr{l:List UInt8}{p:Nat}(h:∀k,k<n->∃b,l[p+k]?=some b/\yt b=false):p+(l.drop p).findIdx yt=p+n+(l.drop (p+n)).findIdx yt:=by
 induction n generalizing p with
 |zero=>simp
 | succ n a=>
  have⟨b,c,e⟩:=h 0 Z;have d:p<l.length:=(Fz.1 (by simpa using c)).1;have f:l.drop p=b::l.drop (p+1):=by
   rw[List.drop_eq_getElem_cons d];have:=Fy d;simp at c;rw[this]at c;simp at c;rw[c]
  rw[AX f,GO (by simp[e]),a (p:=p+1) (λk a=>by
   have:=h (k+1) Z;rw[show p+1+k=p+(k+1) by omega];exact this)]
  rw[show p+1+n=p+(n+1) by omega]
theorem Lq{b:UInt8}(h:128<=b.toNat):yt b=false:=by
 simp only[yt,Bool.or_eq_false_iff,QF];omega
theorem Cs(s:ByteArray)(w:QM)(h8:s.size<=8):
  QA 85 #[.string s,.string pm] w λe w'=>e=QJ (I (yr s.data.toList))/\D w w':=by
 have⟨l,a⟩:=Qb s.data.toList;have X:l.length=s.size:=by rw[a];simp
 have S:=H a;rw[<-a];clear a;have Y:pm.size=2:=rfl;have F:(pm.toList==([]:List UInt8))=false:=by rw[Lib.toList_data,yT];rfl
 have O:decide ((8:Int)<(s.size:Int))=false:=bG;have a:=Any.strings_shouldUseASCIISet (P:=prog) (ρ:=Tryz.lays153_ren) {Tryz.lays153 with} ((s.size:Nat):Int) w;rw[O]at a;have G:QA 138 #[I (s.size:Int)] w λe w'=>e=QJ Qk/\w'=w:=a
 clear a;go_enter func85,ntmps85;go_wp2_with (go_at_call 138;refine G.mono ?_;rintro e w'⟨rfl,rfl⟩);have⟨a,b⟩:=Qb (w'.heap.size);have x:(w'.iter s 0).heap[a]?=some (.stringIter s 0):=by rw[b];exact World.iter_heap _ _ _
 have y:Hid (D w' (w'.iter s 0)):=(Fu _ _).alloc (Fv _) _;rw[<-b];have Q:=H b;clear b;go_loopw [] (λwr=>∃f:Nat,f<=s.size/\wr.heap[a]?=some (.stringIter s f)/\Hid (D w' wr)/\Hid (OY l=f+(l.drop f).findIdx yt)) (λwr=>s.size-wr.iterPos a);case atStart=>exact⟨0,FH _,x,y,H (by simp[OY])⟩
 case round=>
  clear x y;have⟨f,hp,o,T,N⟩:=hrel;have K:=G_ o;have z:wr.iterPos a=f:=by simp[World.iterPos,o]
  by_cases g:f<s.size
  ·have u:=λb=>run_next_any_at (P:=prog) wr a s f b o g
   have q:∀p,(wr.iterAt a s p).heap[a]?=some (.stringIter s p):=λp=>iterAt_heap wr a s f p o
   have t:∀p,D w' (wr.iterAt a s p):=λp=>T.trans ⟨rfl,rfl,rfl,by simp[World.iterAt],λk V=>by
    have:=Q.out;simp[World.iterAt,FK];intro e;omega⟩
   by_cases ha:(s[f]'(g)).toNat<128
   ·rw[decode_ascii s f g ha]at u;have L:=pL s f g;rw[<-S.out]at L;have c:=λn=>Any.strings_IndexRune_ascii (P:=prog) (ρ:=Tryz.lays153_ren) {Tryz.lays153 with} pm (((s[f]'(g)).toNat:Nat):Int) n Z Z
    have v:∀n,QA 137 #[.string pm,.int .i32 (((s[f]'(g)).toNat:Nat):Int)] n λe B=>e=QJ (I (Lib.indexByte [43,45] (s[f]'(g))))/\B=n:=λn=>by
     have m:=c n;rw[yT,F0,show(s[f]'(g)).toNat.toUInt8=s[f]'(g)from UInt8.ofNat_toNat]at m;exact m
    clear c;have i:=AX L;cases j:yt (s[f]'(g))with
    | true=>
     obtain⟨d,r,A⟩:∃d:Int,Lib.indexByte [43,45] (s[f]'(g))=d/\0<=d:=⟨_,rfl,by
      simp only[yt,Bool.or_eq_true,beq_iff_eq]at j;rcases j with m|m;·rw[show s[f]'(g)=43 from UInt8.toNat_inj.1 m];decide
      rw[show s[f]'(g)=45 from UInt8.toNat_inj.1 m];decide⟩
     have R:=H (show yr l=(f:Int) by
      unfold yr;rw[N,i,GP j,GP Z])
     rw[r]at v;clear r i j L z;go_wp2_with (go_at_call 137;refine(v _).mono ?_;rintro e B⟨rfl,rfl⟩);go_ret;exact⟨by rw[R];rfl,t _⟩
    | false=>
     have r:Lib.indexByte [43,45] (s[f]'(g)) = -1:=by
      simp only[yt,Bool.or_eq_false_iff,QF]at j;have d:¬s[f]'(g)=43:=λe=>j.1 (by rw[e];rfl)
      have A:¬s[f]'(g)=45:=λe=>j.2 (by rw[e];rfl)
      simp[Lib.indexByte,Iq d,Iq A,d,A]
     have⟨A,M,d⟩:=Qe (show OY l=f+1+(l.drop (f+1)).findIdx yt by rw[N,i,GO (by simp[j])]) (t (f+1)) (q (f+1));rw[r]at v;clear r i j L t;go_wp2_with (go_at_call 137;refine(v _).mono ?_;rintro e B⟨rfl,rfl⟩);go_roundw;(case rel=>exact⟨f+1,Z,d,M,A⟩);case measure=>rw[z];simp[World.iterPos,d.out];omega
   have i:=vL s f g ha;have v:=decode_le s f;have d:=xO s f g ha;have⟨r,L⟩:=Qb ((Utf8.decode s f).1);have⟨sz,j⟩:=Qb ((Utf8.decode s f).2);have W:0<sz:=(by rw[j];exact AN s f);rw[<-L]at u i v;rw[<-j]at u d;clear L j;have c:∀n,QA 137 #[.string pm,.int .i32 (r:Int)] n λe B=>e=QJ (I (-1))/\D n B:=λn=>by
    by_cases m:r=65533;·rw[m];exact KD n
    exact Ke r i v m n
   have F:f+sz<=s.size:=(by have:=(d (sz-1) Z).1;omega);have A:=H (show OY l=f+sz+(l.drop (f+sz)).findIdx yt by
    rw[N];refine Kr λk V=>?_;have m:=d k V;refine⟨s[f+k]'(m).1,?_,Lq ?_⟩
    ·rw[S];simp[m.1];rfl
    rw[<-get_at s (f+k) m.1];exact m.2)
   have⟨j,L⟩:=y7 (t (f+sz)) (q (f+sz));have M:a<(wr.iterAt a s (f+sz)).heap.size:=(by simp[World.iterAt];exact K);clear d i t q;go_wp2_with fail;refine(c _).mono ?_;rintro e B⟨rfl,i⟩;have⟨q,d⟩:=y7 (j.trans (i.mono j.size)) ((i.block a M).trans L);clear i c;go_wp2_with fail;go_roundw;(case rel=>exact⟨f+sz,F,d,q,A⟩);case measure=>rw[z];simp[World.iterPos,d.out];omega
  have u:=λb=>run_next_end_at (P:=prog) wr a s f b o g
  have R:=H (show yr l = -1 by
   unfold yr;rw[GO (by rw[N,List.drop_eq_nil_of_le Z];simp;omega)])
  go_wp2_with fail;go_ret;exact⟨by rw[R];rfl,T⟩
theorem Jv:(prog.info? 235).map (λi=>(i.zero,i.size))=some (some (.agg (Array.replicate 256 Qk)),256):=E
theorem Mn(s:ByteArray)(w:QM)(c:s.size<=1048576):
  QA 85 #[.string s,.string pm] w λe w'=>e=QJ (I (yr s.data.toList))/\D w w':=by
 by_cases a:s.size<=8;·exact Cs s w a
 have h:=Any.strings_IndexAny_long (P:=prog) (ρ:=Tryz.lays153_ren) Tryz.lays153 (zero_of_info Jv).1 (zero_of_info Jv).2 s pm w ar Z Z ar (λj b a=>by
  rw[yT]at a;rcases j with _|_|j;·simp at a;subst a;decide
  ·simp at a;subst a;decide
  simp at a)
 refine Calls.mono h ?_;rintro e w'⟨rfl,rfl⟩;rw[yT,L9];exact⟨rfl,((Fu _ w).alloc (Fv _) _).alloc bH _⟩
end
def PartT(f:Nat)(c:UInt8)(i:Nat):Prop:=∀(j:Addr)(O:Nat)(o:sT)(s:ByteArray)(w:World),s.size<=1048576->0<s.size->w.cell? ⟨1,0,none⟩=some (.iface 392 (.pointer (some j)))->O≠1->Bx w O 48 (opC o OL)->o.data=[]->o.ref=0->o.p=0 ->
 QA f #[J O 0,.string s] w λe w'=>K_ j O w w' (mX c s.data.toList i o) e
theorem wG(W:QM)(B:Nat):W.ownsRow B 5 1 OL 0 (xe []):=⟨by simp[xe],.inl ⟨rfl,rfl⟩⟩
theorem NC{o}{r p:Nat}(dv):((opC o dv).set 2 (U (p:Int))).set 1 (I (r:Int))=opC {o with ref:=r,p:=p} dv:=rfl
theorem En:PartT 53 80 0:=by
 intro M O o s w hs b3 Y hO r hd b0 iF;have a:mX 80 s.data.toList 0 o=(d_ s.data.toList).map (λx=>{o with ref:=x.1,p:=x.2}):=by rw[mX,GO ar,GP ar]
 rw[a];clear a;have⟨l,N⟩:=Qb s.data.toList;have HL:=H N;rw[<-N];by_cases x:C5 l=36
 ·have hcut:=λP=>E6 s 36 P (by rw[<-N];exact x) ar
  have⟨t,a⟩:=Qb (s.extract 1 s.size);have a2:t.size<=1048576:=by rw[a,ext_size];omega
  have Q:t.data.toList=l.tail:=by rw[a,sD,N]
  rw[<-a]at hcut;have z:=H (show d_ l=wj l.tail by rw[d_,GP x]);have⟨m,b⟩:=Qb l.tail;rw[<-b]at Q z;have b5:m.length=t.size:=by rw[<-Q];simp
  have d:=Mn t w a2;rw[Q]at d;have R:=H Q;clear a N b x;have b6:=Lh m;by_cases A:OY m<m.length
  ·have HA:=H (show yr m=(OY m:Int) by unfold yr;rw[GP A]);rw[HA]at d;have S:=H (show wj m=(dL 10 3 (m.take (OY m))).bind λq=>if q=0 then none else(x7 (m.drop (OY m))).map (λn:Nat=>(q,n)) by
    unfold wj x7;congr 1;funext q;by_cases y:q=0;·rw[GP y,GP y]
    rw[GO y,GO y,GO Z,List.tail_drop,Option.map_map];rfl)
   have⟨c,a⟩:=Qb (OY m);rw[<-a]at d S A;have b4:c<t.size:=Z;have a6:(t.extract c t.size).data.toList=m.drop c:=by
    rw[ext_list,R,Ge bG]
   have a7:0<(t.extract c t.size).size:=(by rw[ext_size];omega);clear a A;cases T:x7 (m.drop c)with
   | none=>
    have k:=H (show d_ l=none by
     rw[z,S];cases dL 10 3 (m.take c)with
     |none=>rfl
     |some q=>rw[Option.bind_some,T];split<;>rfl)
    go_enter func53,ntmps53;go_wp2_with fail;refine(hcut _).mono ?_;rintro e w0⟨rfl,rfl⟩;go_wp2_with fail;refine d.mono ?_;rintro e V⟨rfl,j⟩;have B:=Bt (t.extract c t.size) M V (by rw[ext_size];omega) a7 (NI j Y) (by rw[a6];exact T);have G1:=H (gS (O:=some O) j);clear d hcut;go_wp2_with fail;refine B.mono ?_;rintro e w2⟨v,rfl,a,W⟩;have G2:=H (fW G1 (gS W));clear B;rcases a with rfl|⟨b,rfl⟩;·go_wp2_with fail;go_ret;rw[k];exact⟨G2,_,rfl,.inl rfl⟩
    unfold wE;go_wp2_with fail;go_ret;rw[k];exact⟨G2,_,rfl,.inr ⟨b,rfl⟩⟩
   | some p=>
    have B:=λV F=>Bz (t.extract c t.size) p M V (by rw[ext_size];omega) a7 F (by rw[a6];exact T)
    have a8:(t.extract 0 c).data.toList=m.take c:=(by rw[ext_list,R,IE,Nat.sub_zero]);have a9:(t.extract 0 c).size<=1048576:=(by rw[ext_size];omega);go_enter func53,ntmps53;go_wp2_with fail;refine(hcut _).mono ?_;rintro e w0⟨rfl,rfl⟩;go_wp2_with fail;refine d.mono ?_;rintro e V⟨rfl,j⟩;have a:=B V (NI j Y);have a0:=r.below j r.lt;have G1:=H (gS (O:=some O) j);clear d hcut B;go_wp2_with fail;refine a.mono ?_;rintro e w2⟨rfl,W⟩;have G:=a0.below W a0.lt;have G2:=fW G1 (gS W);have c2:w2.cell? (Qz O 2)=some (U (o.p:Int)):=G.cell 2;have f2:=G.free 2;have f:=G.set 2 (U (p:Int));have G3:=au G2 2 (U (p:Int));have K:=OZ G3 Y (by simpa using Iq hO);generalize o.p=b7 at c2;clear a;cases g:dL 10 3 (m.take c)with
    |none=>
     have a:=iT (t.extract 0 c) 10 3 M (w2.setCell (Qz O 2) (U (p:Int))) a9 Z Z Z K (by rw[a8];exact g);unfold wE at a;have k:=H (show d_ l=none by rw[z,S,g];rfl);go_wp2_with fail;refine a.mono ?_;rintro e X⟨rfl,i⟩;have b:=f.below i f.lt;have u:=fW G3 (gS i);have c1:X.cell? (Qz O 1)=some (I (o.ref:Int)):=b.cell 1;have f1:=b.free 1;generalize o.ref=a3 at c1;have L:=H (au u 1 (I 0));clear a b u;go_wp2_with fail;go_ret;rw[k];exact⟨L,_,rfl,.inr ⟨_,rfl⟩⟩
    |some q=>
     have a:=jA (t.extract 0 c) 10 3 q M (w2.setCell (Qz O 2) (U (p:Int))) a9 Z Z Z K (by rw[a8];exact g);have b1:q<1000:=sO g;go_wp2_with fail;refine a.mono ?_;rintro e X⟨rfl,i⟩;have b:=f.below i f.lt;have u:=fW G3 (gS i);have a4:=OZ u Y (by simpa using Iq hO);clear a;by_cases y:q=0
     ·have a5:((q:Int)==0)=true:=(by rw[beq_iff_eq];omega);have k:=H (show d_ l=none by rw[z,S,g,Option.bind_some,GP y]);have hU:=OE s M X a4;unfold wE at hU;have L:=H u;clear y b u;go_wp2_with (go_at_call 56;refine hU.mono ?_;rintro e P⟨rfl,rfl⟩);go_ret;rw[k];exact⟨L,_,rfl,.inr ⟨_,rfl⟩⟩
     have a5:((q:Int)==0)=false:=(by rw[QF];omega);have k:=H (show d_ l=some (q,p) by rw[z,S,g,Option.bind_some,GO y,T];rfl);have⟨B5,L⟩:=y7 (b.set 1 (I (q:Int))) (au u 1 (I (q:Int)));have c1:X.cell? (Qz O 1)=some (I (o.ref:Int)):=b.cell 1;have f1:=b.free 1;generalize o.ref=a3 at c1;clear b u;go_wp2_with fail;go_ret;rw[k];refine⟨L,rfl,OL,?_,?_,λ_=>rfl⟩;·exact B5
     show World.ownsRow _ _ _ _ _ (List.length o.data) (xe o.data);rw[hd];exact wG _ _
  have HA:=H (show yr m = -1 by unfold yr;rw[GO A]);rw[HA]at d;have c:OY m=m.length:=Z;have S:=H (show wj m=(dL 10 3 m).bind λq=>if q=0 then none else some (q,0) by
   unfold wj;rw[c,G9];congr 1;funext q;simp)
  clear c A HA;go_enter func53,ntmps53;go_wp2_with fail;refine(hcut _).mono ?_;rintro e w0⟨rfl,rfl⟩;go_wp2_with fail;refine d.mono ?_;rintro e c⟨rfl,j⟩;have f:=r.below j r.lt;have G3:=gS (O:=some O) j;have K:=NI j Y;clear d hcut;cases g:dL 10 3 m with
  |none=>
   have a:=iT t 10 3 M c a2 Z Z Z K (by rw[R];exact g);unfold wE at a;have k:=H (show d_ l=none by rw[z,S,g];rfl);go_wp2_with fail;refine a.mono ?_;rintro e X⟨rfl,i⟩;have b:=f.below i f.lt;have u:=fW G3 (gS i);have c1:X.cell? (Qz O 1)=some (I (o.ref:Int)):=b.cell 1;have f1:=b.free 1;generalize o.ref=a3 at c1;have L:=H (au u 1 (I 0));clear a b u;go_wp2_with fail;go_ret;rw[k];exact⟨L,_,rfl,.inr ⟨_,rfl⟩⟩
  |some q=>
   have a:=jA t 10 3 q M c a2 Z Z Z K (by rw[R];exact g);have b1:q<1000:=sO g;go_wp2_with fail;refine a.mono ?_;rintro e X⟨rfl,i⟩;have b:=f.below i f.lt;have u:=fW G3 (gS i);have a4:=OZ u Y (by simpa using Iq hO);clear a;by_cases y:q=0
   ·have a5:((q:Int)==0)=true:=(by rw[beq_iff_eq];omega);have k:=H (show d_ l=none by rw[z,S,g,Option.bind_some,GP y]);have hU:=OE s M X a4;unfold wE at hU;have L:=H u;clear y b u;go_wp2_with (go_at_call 56;refine hU.mono ?_;rintro e P⟨rfl,rfl⟩);go_ret;rw[k];exact⟨L,_,rfl,.inr ⟨_,rfl⟩⟩
   have a5:((q:Int)==0)=false:=(by rw[QF];omega);have⟨k,B5,L⟩:=Qe (show d_ l=some (q,0) by rw[z,S,g,Option.bind_some,GO y]) (b.set 1 (I (q:Int))) (au u 1 (I (q:Int)));have c1:X.cell? (Qz O 1)=some (I (o.ref:Int)):=b.cell 1;have f1:=b.free 1;generalize o.ref=a3 at c1;clear b u;go_wp2_with fail;go_ret;rw[k];refine⟨L,rfl,OL,?_,?_,λ_=>rfl⟩
   ·have F:=B5.out;have A:(opC o OL).set 1 (I (q:Int))=opC {o with ref:=q,p:=0} OL:=(by rw[<-iF];rfl);rw[A]at F;exact F
   show World.ownsRow _ _ _ _ _ (List.length o.data) (xe o.data);rw[hd];exact wG _ _
 have hcut:=λP=>I9 s 36 P (by rw[<-N];exact x)
 have z:=H (show d_ l=(dL 10 20 l).map (λn:Nat=>(0,n)) by rw[d_,GO x]);clear x;cases f:dL 10 20 l with
 |none=>
  have a:=λP F=>iT s 10 20 M P hs Z Z Z F (by rw[<-N];exact f)
  unfold wE at a;have k:=H (show d_ l=none by rw[z,f];rfl);clear N;go_enter func53,ntmps53;go_wp2_with fail;refine(hcut _).mono ?_;rintro e w0⟨rfl,rfl⟩;have b:=a _ Y;clear a hcut;go_wp2_with fail;refine b.mono ?_;rintro e V⟨rfl,d⟩;have c:=r.below d r.lt;have c2:V.cell? (Qz O 2)=some (U (o.p:Int)):=c.cell 2;have f2:=c.free 2;generalize o.p=g at c2;clear b c;go_wp2_with fail;go_ret;rw[k];exact⟨au (gS d) 2 _,_,rfl,.inr ⟨_,rfl⟩⟩
 |some n=>
  have a:=λP F=>jA s 10 20 n M P hs Z Z Z F (by rw[<-N];exact f)
  have k:=H (show d_ l=some (0,n) by rw[z,f];rfl);clear N;go_enter func53,ntmps53;go_wp2_with fail;refine(hcut _).mono ?_;rintro e w0⟨rfl,rfl⟩;have b:=a _ Y;clear a hcut;go_wp2_with fail;refine b.mono ?_;rintro e V⟨rfl,d⟩;have c:=r.below d r.lt;have i:=H (c.set 2 (U (n:Int)));have c2:V.cell? (Qz O 2)=some (U (o.p:Int)):=c.cell 2;have f2:=c.free 2;generalize o.p=g at c2;clear b c;go_wp2_with fail;go_ret;rw[k];refine⟨au (gS d) 2 _,rfl,OL,?_,?_,λ_=>rfl⟩
  ·have F:=i.out;have A:(opC o OL).set 2 (U (n:Int))=opC {o with ref:=0,p:=n} OL:=(by rw[<-b0];rfl);rw[A]at F;exact F
  show World.ownsRow _ _ _ _ _ (List.length o.data) (xe o.data);rw[hd];exact wG _ _
def Wd(W:World)(e:Option Addr)(ws:List (List UInt8)):Prop:=ws=[]\/∃g off,e=some ⟨g,off,none⟩/\∀k,k<ws.length->W.cell? ⟨g,off+k,none⟩=some (.string (bs (ws.getD k [])))
theorem Wd.below{sa ws}(h:Wd W sa ws)(b:D W W'):Wd W' sa ws:=by
 rcases h with h|⟨g,a,c,d⟩;·exact .inl h
 exact .inr ⟨g,a,c,λk e=>NI b (d k e)⟩
theorem Kj(h:n<1000000000):IntKind.i64.wrap (IntKind.u64.wrap (-(n:Int))) = -(n:Int):=by
 simp[IntKind.wrap,IntKind.bits,IntKind.signed];omega
theorem MG{l}(h:C5 l=45):tJ l=(dL 10 9 l.tail).map (λn:Nat=> -(n:Int)):=by rw[tJ,GP h]
theorem MQ{l}(h:¬C5 l=45):tJ l=(dL 10 9 l).map (λn:Nat=>(n:Int)):=by rw[tJ,GO h]
theorem JY(a:List (List UInt8))(k:Nat)(h:k<a.length):dw (a.drop k)=(tJ (a.getD k [])).bind λn=>(dw (a.drop (k+1))).map (n:: ·):=by
 rw[List.drop_eq_getElem_cons h,dw];have:a[k]=a.getD k []:=by simp[h]
 rw[this]
def MZ(i:Addr)(w w':World)(r:Option (List Int))(e:Ending):Prop:=D w w'/\match r with
 |some ns=>∃v,e=.returned (.tuple #[v,.nilIface])/\w'.ownsRow w.heap.size 3 1 v ns.length (iv ns)
 |none=>∃v,e=.returned (.tuple #[C,v])/\Ue i v
theorem xV(sa)(m c:Nat)(f:List (List UInt8))(O:Addr)(w)(b:m=f.length)(d:Wd w sa f)(a2:m<=1048576)(a:∀x∈f,x.length<=1048576)(h1:QG w 1 0 (.iface 392 (.pointer (some O)))):
  QA 81 #[.slice sa m c] w λe w'=>MZ O w w' (dw f) e:=by
 have⟨HW,HM⟩:=y7 d b;have a0:=H (λ(k:Nat)(hk:k<f.length)=>(show(f.getD k []).length<=1048576 by
  have:f.getD k []=f[k]:=by simp[hk]
  rw[this];exact a _ (Iw hk)))
 clear d b a;go_enter func81,ntmps81;go_wp2_with fail;go_loopw [4,13] (λa i wr=>∃(k:Nat)(p:List Int),k<=m/\i=I (k:Int)/\p.length=k/\Hid (dw f=(dw (f.drop k)).map (p ++ ·))/\Hid (wr.ownsRow w.heap.size 3 1 a p.length (iv p))/\Hid (D w wr)) (λ_ i _=>m-(intOf i).toNat);case atStart=>exact⟨0,[],FH _,rfl,rfl,H bH,H ⟨by simp[iv],.inl ⟨rfl,rfl⟩⟩,H (Fu _ _)⟩
 case round=>
  obtain⟨k,p,hk,rfl,Q,F,R,v⟩:=hrel;by_cases a3:k<m
  ·have d:k<f.length:=(by have:=HM.out;omega);obtain⟨g,x,rfl,b⟩:∃g x,sa=some (Qz g x)/\w.cell? (Qz g (x+k))=some (.string (bs (f.getD k []))):=by
    rcases HW with h9|⟨g,x,h9,h8⟩;·rw[h9]at d;simp at d
    exact⟨g,x,h9,h8 k d⟩
   have a:=NI v b;have t:=a0.out k d;have j:=H (JY f k d);clear b;have⟨P,r⟩:=Qb (f.getD k []);rw[<-r]at a t j;have⟨b,o⟩:=Qb (bs P);rw[<-o]at a;have S:b.size<=1048576:=(by rw[o,gz];exact t);have q:b.data.toList=P:=(by rw[o,kO]);clear o t r d;have G:=NI v h1;have T:p.length<=2000000:=Z;by_cases u:C5 P=45
   ·have hcut:=λK=>E6 b 45 K (by rw[q];exact u) ar
    have y:(b.extract 1 b.size).data.toList=P.tail:=(by rw[sD,q]);have L:(b.extract 1 b.size).size<=1048576:=(by rw[ext_size];omega);have o:=H (MG u);generalize b.extract 1 b.size=t at hcut y L;clear u;cases r:dL 10 9 P.tail with
    |none=>
     have d:=iT t 10 9 O wr L Z Z Z G (by rw[y];exact r);unfold wE at d;have V:=H (show dw f=none by rw[F,j,o,r];rfl);clear F r y;go_wp2_with (first|(go_at_call 84;refine(hcut _).mono ?_;rintro e K⟨rfl,rfl⟩)|(go_at_call 82;refine d.mono ?_;rintro e w8⟨rfl,z⟩))
     go_ret2
     have M:=v.trans (z.mono v.size);rw[V];exact⟨M,_,rfl,.inr ⟨_,rfl⟩⟩
    | some n=>
     have d:=jA t 10 9 n O wr L Z Z Z G (by rw[y];exact r);have W:n<1000000000:=sO r;have N:=H (show dw f=(dw (f.drop (k+1))).map ((p++[-(n:Int)]) ++ ·) by
      rw[F,j,o,r];cases dw (f.drop (k+1))<;>simp)
     have a4:=Kj W;clear F r y;go_wp2_with (go_at_call 84;refine(hcut _).mono ?_;rintro e K⟨rfl,rfl⟩);refine d.mono ?_;rintro e w8⟨rfl,z⟩;have A:=own_below R z;have B:=v.trans (z.mono v.size);have⟨v2,w2,e2,X,Y,g2⟩:=Jo tE A B #[I (-(n:Int))] rfl mL T;have O2:=H (show w2.ownsRow w.heap.size 3 1 v2 (p++[-(n:Int)]).length (iv (p++[-(n:Int)])) by rw[show iv (p++[-(n:Int)])=iv p++[I (-(n:Int))] by simp[iv],FC];exact X);have B2:=H Y;clear d R A B X Y g2 z;go_wp2_with (at_builtin;refine cY rfl (.tmp 33) (.tmp 36) (by with_reducible rfl) rfl rfl rfl e2 ?_);go_roundw;(case rel=>exact⟨k+1,_,Z,aY,by simp[Q],N,O2,B2⟩);case measure=>exact QE
   have hcut:=λK=>I9 b 45 K (by rw[q];exact u)
   have o:=H (MQ u);clear u;cases r:dL 10 9 P with
   |none=>
    have d:=iT b 10 9 O wr S Z Z Z G (by rw[q];exact r);unfold wE at d;have V:=H (show dw f=none by rw[F,j,o,r];rfl);clear F r q;go_wp2_with (first|(go_at_call 84;refine(hcut _).mono ?_;rintro e K⟨rfl,rfl⟩)|(go_at_call 82;refine d.mono ?_;rintro e w8⟨rfl,z⟩))
    go_ret2
    have M:=v.trans (z.mono v.size);rw[V];exact⟨M,_,rfl,.inr ⟨_,rfl⟩⟩
   | some n=>
    have d:=jA b 10 9 n O wr S Z Z Z G (by rw[q];exact r);have W:n<1000000000:=sO r;have N:=H (show dw f=(dw (f.drop (k+1))).map ((p++[(n:Int)]) ++ ·) by
     rw[F,j,o,r];cases dw (f.drop (k+1))<;>simp)
    clear F j o r q;go_wp2_with (go_at_call 84;refine(hcut _).mono ?_;rintro e K⟨rfl,rfl⟩);refine d.mono ?_;rintro e w8⟨rfl,z⟩;have A:=own_below R z;have B:=v.trans (z.mono v.size);have⟨v2,w2,e2,X,Y,g2⟩:=Jo tE A B #[I (n:Int)] rfl mL T;have O2:=H (show w2.ownsRow w.heap.size 3 1 v2 (p++[(n:Int)]).length (iv (p++[(n:Int)])) by rw[show iv (p++[(n:Int)])=iv p++[I (n:Int)] by simp[iv],FC];exact X);have B2:=H Y;clear d R A B X Y g2 z;go_wp2_with (at_builtin;refine cY rfl (.tmp 33) (.tmp 36) (by with_reducible rfl) rfl rfl rfl e2 ?_);go_roundw;(case rel=>exact⟨k+1,_,Z,aY,by simp[Q],N,O2,B2⟩);case measure=>exact QE
  have V:=H (show dw f=some p by
   rw[F,List.drop_eq_nil_of_le (by have:=HM.out;omega)];simp[dw])
  clear F;go_wp2_with fail
  go_ret2
  rw[V];exact⟨v,_,rfl,R⟩
structure Gb(B S:Nat)(w w':QM):Prop where
 os:w'.os=w.os
 tape:w'.tape=w.tape
 ou:w'.output=w.output
 size:w.heap.size<=w'.heap.size
 block:∀k,k<B->k≠S->w'.heap[k]?=w.heap[k]?
theorem Gb.refl(B S w):Gb B S w w:=⟨rfl,rfl,rfl,Fv _,λ_ _ _=>rfl⟩
theorem Gb.trans{B S a b c}(h:Gb B S a b)(k:Gb B S b c):Gb B S a c:=⟨k.os.trans h.os,k.tape.trans h.tape,k.ou.trans h.ou,Fx h.size k.size,λi e d=>(k.block i e d).trans (h.block i e d)⟩
theorem Gb.below(h:D w w')(a:B<=w.heap.size):Gb B S w w':=⟨h.os,h.tape,h.output,h.size,λk b _=>h.block k Z⟩
theorem Gb.set{a}(h:Gb B S a w)(i:Nat)(v:QN):Gb B S a (w.setCell (Qz S i) v):=h.trans ⟨rfl,rfl,rfl,by simp[World.setCell],λk _ b=>GQ _ _ _ _ b⟩
theorem Gb.grown{a}(h:Gb B S a w)(g:w.grownBy w' v.ownBlock)(hv:∀r,v.ownBlock=some r->B<=r)(b:B<=w.heap.size):Gb B S a w':=h.trans ⟨g.os,g.tape,g.output,g.size,λk c _=>g.block k Z (λe=>by have:=hv k e.symm;omega)⟩
theorem Gb.cell{B S w w'}(h:Gb B S w w'){a:Addr}(c:a.block<B)(b:a.block≠S):w'.cell? a=w.cell? a:=by
 have:=h.block a.block c b;unfold World.cell?;rw[this]
structure Ss(B S:Nat)(W:QM)(s:rP)(dv ov bd:QN)(ps:List (sT×QN)):Prop where
 bx:Bx W S 77 (OD s.cf dv++[ov,bd])
 res:Res B W s dv ov bd ps
 sb:S<B
 bw:B<=W.heap.size
theorem Ss.below{B S W W' s dv ov bd ps}(h:Ss B S W s dv ov bd ps)(a:D W W'):Ss B S W' s dv ov bd ps:=
 ⟨h.bx.below a h.bx.lt,h.res.below a,h.sb,Fx h.bw a.size⟩
def OrdP(B S:Nat)(j:Addr)(w w':World)(s:rP)(r:Option rP)(e:Ending):Prop:=Gb B S w w'/\match r with
 |some i=>e=.returned .nilIface/\∃dv ov bd ps,Ss B S w' i dv ov bd ps
 |none=>(∃v,e=.returned v/\Ue j v)/\∃dv ov bd ps,Ss B S w' s dv ov bd ps
theorem OrdP.no{a1 s}(g:Gb B S w w')(a:Ue a1 v){ps}(h:Ss B S w' s dv ov bd ps):OrdP B S a1 w w' s none (QJ v):=⟨g,⟨v,rfl,a⟩,dv,ov,bd,ps,h⟩
theorem OrdP.yes{a1 s s'}(g:Gb B S w w'){ps}(h:Ss B S w' s' dv ov bd ps):OrdP B S a1 w w' s (some s') (QJ .nilIface):=⟨g,rfl,dv,ov,bd,ps,h⟩
theorem Ss.cf{B S W s dv ov bd ps}(h:Ss B S W s dv ov bd ps)(i:Nat)(v:QN)(a:Jh)(d:a.draws=s.cf.draws)(e:(OD s.cf dv++[ov,bd]).set i v=OD a dv++[ov,bd]):
  Ss B S (W.setCell (Qz S i) v) {s with cf:=a} dv ov bd ps:=by
 have b:=h.bx.set i v;rw[e]at b;exact⟨b,⟨d▸fY h.res.dt (h.bx.apart h.res.dt ar) v,fY h.res.op (h.bx.apart h.res.op ar) v,h.res.eq,λp c=>fY (h.res.dd p c) (h.bx.apart (h.res.dd p c) ar) v,fY h.res.bdo (h.bx.apart h.res.bdo ar) v,h.res.ap,h.res.pw⟩,h.sb,by have:=h.bw;simp[World.setCell];exact this⟩
def C6(s:rP)(ws:List (List UInt8)):Option rP:=if ws.length=1 then(yf (ws.getD 0 [])).map (λk:Nat=>{s with cf:={s.cf with key:=k}})else none
theorem JR(B S)(y:Addr)(sa)(m c:Nat)(d:List (List UInt8))(s dv ov bd ps w)(z:Ss B S w s dv ov bd ps)(A:m=d.length)(K:Wd w sa d)(O:m<=1048576)(p:∀x∈d,x.length<=1048576)(L:QG w 1 0 (.iface 392 (.pointer (some y)))):
  QA 48 #[J S 0,.slice sa m c] w λe w'=>OrdP B S y w w' s (C6 s d) e:=by
 have q:=H z;by_cases M:m=1
 ·have x:((m:Int) !=1)=false:=bG;have b:d.length=1:=Z;obtain⟨g,f,rfl,i⟩:∃g f,sa=some (Qz g f)/\w.cell? (Qz g (f+0))=some (.string (bs (d.getD 0 []))):=by
   rcases K with F|⟨g,f,F,P⟩;·rw[F]at b;cases b
   exact⟨g,f,F,P 0 Z⟩
  have o:(d.getD 0 []).length<=1048576:=by
   have:d.getD 0 []=d[0]:=by simp[b]
   rw[this];exact p _ (Iw _)
  have r:=H (show C6 s d=(yf (d.getD 0 [])).map (λk:Nat=>{s with cf:={s.cf with key:=k}}) by rw[C6,GP b]);have⟨G,n⟩:=Qb (d.getD 0 []);rw[<-n]at i o r;have⟨a,j⟩:=Qb (bs G);rw[<-j,GK]at i;have t:a.size<=1048576:=by rw[j,gz];exact o
  have u:a.data.toList=G:=by rw[j,kO]
  have Q:0<m:=Z;have V:=H A;clear j o n b A M K p z;cases n:yf G with
  |none=>
   have b:=iT a 16 16 y w t Z Z Z L (by rw[u];exact n);unfold wE at b;have o:=H (show C6 s d=none by rw[r,n];rfl);clear n;go_enter func48,ntmps48;go_wp2_with fail;refine b.mono ?_;rintro e N⟨rfl,v⟩;have j:=H (q.below v);clear b;go_wp2_with fail;go_ret;rw[o];exact OrdP.no (Gb.below v q.bw) (.inr ⟨_,rfl⟩) j
  |some k=>
   have b:=jA a 16 16 k y w t Z Z Z L (by rw[u];exact n);have o:=H (show C6 s d=some {s with cf:={s.cf with key:=k}} by rw[r,n];rfl);clear n;go_enter func48,ntmps48;go_wp2_with fail;refine b.mono ?_;rintro e N⟨rfl,v⟩;have j:=q.below v;have R:=H (j.cf 4 (U (k:Int)) {s.cf with key:=k} rfl rfl);have T:N.cell? (Qz S 4)=some (U (s.cf.key:Int)):=j.bx.cell 4;have f4:=j.bx.free 4;generalize s.cf.key=W at T;clear b j;go_wp2_with fail;go_ret;rw[o];exact OrdP.yes ((Gb.below v q.bw).set 4 _) R
 have x:((m:Int) !=1)=true:=bG;have o:=H (show C6 s d=none by rw[C6,GO Z]);clear A M z;go_enter func48,ntmps48;go_wp2_with fail;go_ret;rw[o];exact OrdP.no (Gb.refl _ _ _) (.inl rfl) q
def AD(s:rP)(ws:List (List UInt8)):Option rP:=(dw ws).map (λns=>{s with cf:={s.cf with draws:=s.cf.draws++ns}})
theorem Nt{T e z sz bb}(S:Kt T e z sz bb){r:List QN}(a:W.ownsRow B e sz v n r)(t:B<=W.heap.size){x:Nat}{m:Nat}{f:List QN}(l:W.ownsRow x e sz v2 m f)(y:∀u∈f,u.oneCell'=true)(A:n+m<=2000000000):
  ∃d w',(Builtin.append_ #[T,T] T #[v,v2]).run prog W=.ok d w'/\w'.ownsRow B e sz d (n+m) (r++f)/\W.grownBy w' v.ownBlock/\(d.ownBlock=v.ownBlock\/d.ownBlock=some W.heap.size):=by
 rcases l.2 with⟨rfl,F⟩|⟨g,o,G,rfl,R,K,V,X,Y,L⟩;·subst F;have j:f=[]:=Ik (by rw[l.1];simp);subst j;have⟨p,b,i,c,k⟩:=G0 S.info;subst c;refine⟨v,W,run_append_owned_none (P:=prog) (w:=W) B T T e p _ S.und b v _ _ a,by simpa using a,⟨rfl,rfl,rfl,Fv _,λ_ _ _=>rfl⟩,.inl rfl⟩
 have⟨p,b,i,c,k⟩:=G0 S.info;have M:(n+m)*bb<=2000000000*100:=Nat.mul_le_mul A S.small;have⟨d,w',e1,N,O,_,Q⟩:=run_append_own_at (P:=prog) W B T T e p _ sz bb S.und b i c k S.cells S.pos v n _ a (Qz g 0) m o f l.1 (λj u s=>by
  have q:=(Fz.1 s).1;rw[Addr.add_mid,Oi,GT _ _ j _ _ _ K,<-s,<-L,Hf (by rw[<-l.1];exact q),Gg]) y (by unfold maxLen;omega) Z t
 exact⟨d,w',e1,N,O,Q⟩
theorem JZ{a:QN}(h:∀r,a.ownBlock=some r->v2.ownBlock≠some r):∀r,v2.ownBlock=some r->a.ownBlock≠some r:=λr e b=>h r b e
theorem Ss.draw{s ps}(h:Ss B S W s dv ov bd ps){t:Nat}{b:QN}{f:List Int}(u:W.ownsRow t 3 1 b f.length (iv f))(v:s.cf.draws.length+f.length<=2000000000):
  ∃d W',QI 28 dv b W d W'/\Bx W' S 77 (OD s.cf dv++[ov,bd])/\Gb B S W W'/\(∃a m c,d=.slice a m c)/\Ss B S (W'.setCell (Qz S 5) d) {s with cf:={s.cf with draws:=s.cf.draws++f}} d ov bd ps:=by
 have⟨d,W',e1,n,g,j⟩:=Nt tE h.res.dt h.bw u (ze _) v;have i:=h.bx.grown g (h.bx.apart h.res.dt ar);have w:=(Gb.refl B S W).grown g (λr e=>(h.res.dt.lt r e).1) h.bw;have x:K2 W W':=K2.grown g h.res.dt ar;have⟨a,m,c,hv,_⟩:=ch n;have o:W'.ownsRow B 3 1 d (s.cf.draws++f).length (iv (s.cf.draws++f)):=by
  rw[show iv (s.cf.draws++f)=iv s.cf.draws++iv f by simp[iv],FC];exact n
 have e:=h.res.op.kept g (OH h.res.op h.res.dt ar);have k:=h.res.bdo.kept g (A5 (JZ h.res.ap));refine⟨d,W',e1,i,w,⟨a,m,c,hv⟩,⟨by simpa[OD]using i.set 5 d,⟨fY o (i.apart o ar) d,fY e (i.apart e ar) d,h.res.eq,λp y=>?_,fY k (i.apart k ar) d,?_,h.res.pw⟩,h.sb,?_⟩⟩;·have:=x.own (h.res.dd p y) ar;exact fY this (i.apart this ar) d
 ·intro r l q;rcases j with j|j;·exact h.res.ap r (j▸l) q
  rw[j]at l;cases l;have:=(h.res.bdo.lt _ q).2;omega
 have:=h.bw;have:=g.size;simp[World.setCell];omega
theorem E5(B S)(r:Addr)(sa)(m c:Nat)(g:List (List UInt8))(s dv ov bd ps w)(d:Ss B S w s dv ov bd ps)(b:m=g.length)(f:Wd w sa g)(n:m<=1048576)(a:∀x∈g,x.length<=1048576)(L:QG w 1 0 (.iface 392 (.pointer (some r))))(M:s.cf.draws.length<=1000000000):
  QA 49 #[J S 0,.slice sa m c] w λe w'=>OrdP B S r w w' s (AD s g) e:=by
 have hI:=xV sa m c g r w b f n a L;have o:=H d;have j:=λp=>xA g p
 have N:=H b;clear f a d b;cases k:dw g with
 |none=>
  rw[k]at hI;have q:=H (show AD s g=none by rw[AD,k];rfl);clear k j;go_enter func49,ntmps49;go_wp2_with fail;refine hI.mono ?_;rintro e y⟨l,v,rfl,b⟩;have a:=H (o.below l);clear hI;rcases b with rfl|⟨d,rfl⟩;·go_wp2_with fail;go_ret;rw[q];exact OrdP.no (Gb.below l o.bw) (.inl rfl) a
  unfold wE;go_wp2_with fail;go_ret;rw[q];exact OrdP.no (Gb.below l o.bw) (.inr ⟨d,rfl⟩) a
 |some p=>
  rw[k]at hI;have q:=H (show AD s g=some {s with cf:={s.cf with draws:=s.cf.draws++p}} by rw[AD,k];rfl);have z:p.length<=1048576:=by rw[j p k,<-N.out];exact n
  clear k j;go_enter func49,ntmps49;go_wp2_with fail;refine hI.mono ?_;rintro e y⟨l,a,rfl,f⟩;have i:=o.below l;obtain⟨v2,O,P,t,A,⟨Q,b,R,rfl⟩,F⟩:=i.draw f Z;have⟨T,V⟩:=y7 F (((Gb.below l o.bw).trans A).set 5 (.slice Q b R));obtain⟨G,d,K,rfl,u⟩:=ch i.res.dt;obtain⟨X,Y,nc,rfl,x⟩:=ch f;have c5:y.cell? (Qz S 5)=some (.slice G d K):=i.bx.cell 5;have W:O.cell? (Qz S 5)=some (.slice G d K):=t.cell 5;have f5:=t.free 5;clear hI i t A F f u x;go_wp2_with (at_builtin;refine cY rfl (.tmp 20) (.tmp 21) (by with_reducible rfl) rfl rfl rfl P ?_);go_ret;rw[q];exact OrdP.yes V T
theorem tj(S k)(a:QP)(m c:Nat)(w:QM):
  QA 50 #[J S 0,I k,.slice a m c] w λe w'=>e=QJ (.func (.func 83) #[] #[J (w.heap.size+1+1) 0,J (w.heap.size+1) 0,J w.heap.size 0])/\w'=((w.alloc (QL #[J S 0] 49)).alloc (QL #[I k] 3)).alloc (QL #[.slice a m c] 185):=by
 go_enter func50,ntmps50;go_wp2;go_ret;exact QB
def Mp(W:World)(M:Nat)(t:List (List UInt8×Value)):Prop:=∃j i,W.heap[M]?=some (.map j i)/\j.toList.map (λe=>(e.key,e.val))=t.map (λe=>(Value.string (bs e.1),e.2))
def lk(l:List UInt8):List (List UInt8×Value)->Option Value
 |[]=>none
 |e::r=>if e.1=l then some e.2 else lk l r
theorem M6(a b):(bs a==bs b)=decide (a=b):=by
 rw[Bool.eq_iff_iff,MapKept.bytes_beq,Hj];exact⟨λh=>by have:=congrArg (λs:ByteArray=>s.data.toList) h;exact this,λh=>by rw[h]⟩
theorem AQ(l):∀(L:List MapEntry)(a:List (List UInt8×QN))(i:Nat),L.map (λe=>(e.key,e.val))=a.map (λe=>(Value.string (bs e.1),e.2))->∃r,Instr.findNow .string (.string (bs l)) L i=some r/\r.map (·.2)=lk l a
 |[],[],i,h=>⟨none,rfl,rfl⟩
 |[],_::_,i,h=>by cases h
 |_::_,[],i,h=>by cases h
 | x::L,e::a,i,h=>by
  simp only[It,List.cons.injEq,Prod.mk.injEq]at h
  obtain⟨⟨d,f⟩,g⟩:=h
  have c:Instr.sameNow .string (.string (bs l)) x.key=some (decide (l=e.1)):=by
   rw[d];show some (bs l==bs e.1)=_;rw[M6]
  by_cases b:l=e.1
  ·refine⟨some (i,x.val),?_,?_⟩
   ·unfold Instr.findNow;rw[c];simp[b]
   simp[lk,b,f]
  have⟨r,j,k⟩:=AQ l L a (i+1) g;refine⟨r,?_,?_⟩
  ·unfold Instr.findNow;rw[c];simp[b];exact j
  rw[k,lk,GO (Iq b)]
theorem Kh{M es}(h:Mp W M es)(l):
  (Instr.lookup 78 (.map (some M)) (.string (bs l)) true).run prog W=.ok (match lk l es with|some v=>.tuple #[v,.bool true]|none=>.tuple #[.nilFunc,.bool false]) W:=by
 have⟨b,c,d,e⟩:=h;have⟨r,f,g⟩:=AQ l b.toList es 0 e;have i:(zeroValue 120).run prog W=.ok .nilFunc W:=E;have j:=MapKept.run_getObj_map (P:=prog) d;have m:=λa=>MapKept.run_checkKey (P:=prog) (w:=W) (k:=.string (bs l)) underlying9 trivial a 9999
 have n:=MapKept.run_findKey (P:=prog) (w:=W) underlying9 f;rw[<-g];unfold Instr.lookup;simp only[Sem.run_bind,run_underlying underlying78,Result.andThen,j,Sem.run_pure,m,n];cases r with
 |none=>simp[i,Result.andThen]
 |some q=>simp[Result.andThen]
theorem yK{M es}(h:Mp W M es)(l)(v:QN)(i:lk l es=none):
  ∃W',(Instr.mapUpdate 78 (.map (some M)) (.string (bs l)) v).run prog W=.ok () W'/\Mp W' M (es++[(l,v)])/\W.grownBy W' (some M):=by
 have⟨b,a,c,f⟩:=h;have⟨r,j,g⟩:=AQ l b.toList es 0 f;rw[i]at g;cases r with
 |some q=>cases g
 | none=>
  have m:=G_ c;refine⟨{W with heap:=W.heap.setIfInBounds M (.map (b.push ⟨.string (bs l),v,a⟩) (a+1))},?_,⟨b.push ⟨.string (bs l),v,a⟩,a+1,by simp[m],by simp[f]⟩,⟨rfl,rfl,rfl,bH,λk s d=>?_⟩⟩
  ·have e:=MapKept.run_getObj_map (P:=prog) c;have n:=MapKept.run_checkKey (P:=prog) (w:=W) (k:=.string (bs l)) underlying9 trivial false 9999;have p:=MapKept.run_findKey (P:=prog) (w:=W) underlying9 j;have q:=λo=>MapKept.run_setObj_map (P:=prog) o c
   unfold Instr.mapUpdate;simp only[Sem.run_bind,run_underlying underlying78,Result.andThen,e,n,p,q]
  have:k≠M:=λe=>d (by rw[e])
  simp[FK,Iq this]
section
open Go.ChangeShapes Go.WideShapes Go.ChangeAt Go.RowKit Go.Lib
def pc(l:List UInt8)(a b:Nat):List UInt8:=(l.take b).drop a
theorem JH(l a):pc l a a=[]:=by
 unfold pc;apply List.drop_eq_nil_of_le;simp;omega
theorem CJ(l:List UInt8)(a b:Nat)(h:b<l.length)(c:a<=b):pc l a (b+1)=pc l a b++[l[b]]:=by
 unfold pc;rw[F_,Fy h,List.drop_append_of_le_length bG];rfl
theorem Ks(l:List UInt8)(a b:Nat)(h:b<=l.length)(c:a<b):pc l a b≠[]:=by
 unfold pc;intro e;have:=congrArg List.length e;simp at this;omega
theorem Cd{l:List UInt8}(h:b<l.length)(a:List UInt8)(c:l[b].toNat≠32):cE (l.drop b) a=cE (l.drop (b+1)) (a++[l[b]]):=by
 rw[List.drop_eq_getElem_cons h]
 conv=>lhs;unfold cE
 rw[GO c]
theorem K8{l:List UInt8}(h:b<l.length)(a:List UInt8)(c:l[b].toNat=32):cE (l.drop b) a=(if a=[]then cE (l.drop (b+1)) []else a::cE (l.drop (b+1)) []):=by
 rw[List.drop_eq_getElem_cons h]
 conv=>lhs;unfold cE
 rw[GP c]
theorem uY(l:List UInt8)(a:Nat):∀(n b:Nat),a<=b->b+n<=l.length->(∀k(f:b+k<l.length),k<n->l[b+k].toNat≠32)->cE (l.drop b) (pc l a b)=cE (l.drop (b+n)) (pc l a (b+n))
 |0,b,_,_,_=>rfl
 | n+1,b,c,g,h=>by
  have d:b<l.length:=Z
  rw[Cd d _ (h 0 d Z),<-CJ l a b d c,uY l a n (b+1) Z Z (λk f a=>by
   have:=h (k+1) Z Z
   have e:b+1+k=b+(k+1):=Z
   simp only[e];exact this)]
  rw[show b+1+n=b+(n+1) by omega]
def uz(r:Nat):Bool:=r==32
def ED(l:List UInt8)(st:Option Nat)(pos:Nat):List UInt8:=match st with|some a=>pc l a pos|none=>[]
theorem Jp(s:ByteArray)(l:List UInt8)(u:l=s.data.toList):∀(f d:Nat)(i:Option Nat)(g:List (Nat×Nat)),s.size<=d+f->d<=s.size->(∀a,i=some a->a<d) ->
  (closeSpans s (spansFromP uz s f d i g)).map (λx=>pc l x.1 x.2)=g.map (λx=>pc l x.1 x.2)++cE (l.drop d) (ED l i d):=by
 have q:s.size=l.length:=by rw[u];exact size_eq s
 intro f;induction f with
 |zero=>
  intro d i g z A o;have e:d=l.length:=Z;subst e;have v:cE (l.drop l.length) (ED l i l.length)=if ED l i l.length=[]then[]else[ED l i l.length]:=by rw[List.drop_length];rfl
  rw[v];cases i with
  |none=>simp[spansFromP,closeSpans,ED]
  |some a=>simp[spansFromP,closeSpans,ED,Ks l a _ (Fv _) (o a rfl),q]
 | succ f c=>
  intro d i g z A o;by_cases p:d<s.size
  ·have j:d<l.length:=Z;have y:s[d]'(p)=l[d]:=(by subst u;rfl);unfold spansFromP;rw[GP p];by_cases ha:(s[d]'(p)).toNat<128
   ·rw[decode_ascii s d p ha];by_cases m:l[d].toNat=32
    ·rw[GP (by rw[y,m];rfl),K8 j _ m];cases i with
     |none=>
      show(closeSpans s (spansFromP uz s f (d+1) none g)).map _=_;rw[c _ _ _ Z Z (λa h=>by cases h)];simp[ED]
     |some a=>
      show(closeSpans s (spansFromP uz s f (d+1) none (g++[(a,d)]))).map _=_;rw[c _ _ _ Z Z (λa h=>by cases h)];simp[ED,Ks l a d Z (o a rfl)]
    rw[GO (by rw[y];simp[uz];exact m),Cd j _ m];cases i with
    |none=>
     show(closeSpans s (spansFromP uz s f (d+1) (some d) g)).map _=_;rw[c _ _ _ Z Z (λa h=>by cases h;omega)];simp only[ED];rw[CJ l d d j (Fv _),JH]
    |some a=>
     show(closeSpans s (spansFromP uz s f (d+1) (some a) g)).map _=_;rw[c _ _ _ Z Z (λb h=>by cases h;have:=o a rfl;omega)];simp only[ED];rw[CJ l a d j (by have:=o a rfl;omega)]
   have F:=vL s d p ha;have G:=AN s d;have r:=xO s d p ha;have m:d+(Utf8.decode s d).2<=l.length:=by
    have:=(r ((Utf8.decode s d).2-1) Z).1;omega
   have t:∀k(B:d+k<l.length),k<(Utf8.decode s d).2->l[d+k].toNat≠32:=λk B w=>by
    have:=r k w;have e:s.get! (d+k)=l[d+k]:=(by rw[get_at s _ this.1];subst u;rfl);rw[e]at this;omega
   rw[GO (by simp[uz];omega)];generalize (Utf8.decode s d).2=n at*;cases i with
   |none=>
    show(closeSpans s (spansFromP uz s f (d+n) (some d) g)).map _=_;rw[c _ _ _ Z Z (λa h=>by cases h;omega)];simp only[ED];rw[<-uY l d n d (Fv _) m t,JH]
   |some a=>
    have:=o a rfl;show(closeSpans s (spansFromP uz s f (d+n) (some a) g)).map _=_;rw[c _ _ _ Z Z (λb h=>by cases h;omega)];simp only[ED];rw[<-uY l a n d Z m t]
  rw[spansFromP_end uz s _ _ _ _ p];have e:d=l.length:=Z;subst e;have v:cE (l.drop l.length) (ED l i l.length)=if ED l i l.length=[]then[]else[ED l i l.length]:=by rw[List.drop_length];rfl
  rw[v];cases i with
  |none=>simp[closeSpans,ED]
  |some a=>simp[closeSpans,ED,Ks l a _ (Fv _) (o a rfl),q]
theorem MN{s t:ByteArray}(h:s.data.toList=t.data.toList):s=t:=by
 rw[<-DJ s,h,DJ]
theorem AJ(s:ByteArray):goFieldsP uz s=(cE s.data.toList []).map bs:=by
 have h:=Jp s s.data.toList rfl s.size 0 none [] Z Z (λa h=>by cases h);rw[List.map_nil,FV,IE]at h;show(closeSpans s (spansFromP uz s s.size 0 none [])).map (λx=>s.extract x.1 x.2)=(cE s.data.toList (ED s.data.toList none 0)).map bs;rw[<-h,List.map_map];apply List.map_congr_left;intro x _;apply MN;show(s.extract x.1 x.2).data.toList=pc s.data.toList x.1 x.2;rw[ByteArray.data_extract,Array.toList_extract,List.extract_eq_take_drop,pc,List.drop_take]
theorem ME(w:QM):PredAt prog 58 #[] encR uz w:=by
 intro W x _;show QA 58 #[.int .i32 (x:Int)] W _;have a:(((x:Nat):Int)==32)=uz x:=by rw[Bool.eq_iff_iff];simp[uz];omega
 go_enter func58,ntmps58;go_wp2;go_ret;exact⟨rfl,0,rfl⟩
def Ka(w w':World)(l:List UInt8)(e:Ending):Prop:=D w w'/\∃A,w.heap.size<=A/\e=.returned (Vl A (cE l []).length (cE l []).length)/\∀k,k<(cE l []).length->w'.cell? ⟨A,k,none⟩=some (.string (bs ((cE l []).getD k [])))
theorem Jn(s:ByteArray)(w:QM)(q:s.size<=1048576):QA 30 #[.string s] w λe w'=>Ka w w' s.data.toList e:=by
 have a:=Any.strings_FieldsFunc Tryz.lays229 58 #[] (enters_of func58 E rfl) uz s w Z (ME w) E E;rw[AJ]at a;replace a:QA 57 #[.string s,.func (.func 58) #[] #[]] w λe w'=>Ka w w' s.data.toList e:=a.mono (by
  rintro e w'⟨A,rfl,f,i,j⟩;refine⟨j,A,f,bH,λk c=>?_⟩;rcases i.2 with⟨l,_⟩|⟨g,m,b,hv,r,n,t,u,v,o⟩;·cases l
  cases hv;have p:b.toList.take ((cE s.data.toList []).map bs).length=((cE s.data.toList []).map bs).map Value.string:=by simpa using o
  rw[GT _ _ k _ _ _ n,<-Gg];have d:=congrArg (λl=>l[k]?) p;rw[Hf (by simpa using c)]at d;rw[d];simp[c])
 go_enter func30,ntmps30;go_wp2_with fail;refine a.mono ?_;rintro e f⟨b,A,c,rfl,d⟩;go_wp2_with fail;go_ret;exact⟨b,A,c,rfl,d⟩
end
structure Mv(o:sT):Prop where
 kd:o.kind<7
 p:o.p<18446744073709551616
 a:o.a<18446744073709551616
 b:o.b<18446744073709551616
 by_:∀d∈o.data,d<256
theorem EE:∀l:List Nat,(∀x∈l,x<16)->∀d∈mN l,d<256
 |[],_,d,h=>by cases h
 |[_],_,d,h=>by cases h
 |x::y::r,a,d,h=>by
  have b:=a x bH
  have c:=a y bH
  rcases F4.1 h with rfl|h
  ·omega
  exact EE r (λz b=>a z (by simp[b])) d h
theorem LI{c l o}{i:sT}(h:mX c l n o=some i)(b:Mv o):Mv i:=by
 unfold mX at h;split at h
 ·obtain⟨q,j,rfl⟩:=Option.map_eq_some_iff.1 h;have:=tR j;split;·exact⟨b.kd,b.p,this,b.b,b.by_⟩
  exact⟨b.kd,b.p,b.a,this,b.by_⟩
 split at h
 ·obtain⟨x,a,rfl⟩:=Option.map_eq_some_iff.1 h;refine⟨b.kd,?_,b.a,b.b,b.by_⟩;unfold d_ at a;split at a
  ·unfold wj at a;have⟨k,_,a⟩:=Option.bind_eq_some_iff.1 a;split at a;·cases a
   split at a;·cases a;show 0<_;omega
   obtain⟨m,g,rfl⟩:=Option.map_eq_some_iff.1 a;have:=tR g;dsimp only;split;·unfold yZ;omega
   exact this
  obtain⟨m,g,rfl⟩:=Option.map_eq_some_iff.1 a;exact tR g
 obtain⟨d,f,rfl⟩:=Option.map_eq_some_iff.1 h;refine⟨b.kd,b.p,b.a,b.b,λy e=>?_⟩;rcases F8.1 e with e|e;·exact b.by_ y e
 unfold qG at f;split at f
 ·rename_i p;cases f;refine EE _ (λx a=>?_) y e;obtain⟨z,r,rfl⟩:=FQ.1 a;have:=List.all_eq_true.1 p.2.1 z r;simpa using this
 cases f
theorem IU:∀(f:List UInt8)(ws:List (List UInt8))(n:Nat)(o a:sT),eD f ws n o=some a->Mv o->Mv a
 |[],ws,n,o,a,h,b=>by cases h;exact b
 |c::f,ws,n,o,a,h,b=>by
  unfold eD at h
  have⟨g,d,e⟩:=Option.bind_eq_some_iff.1 h
  exact IU f _ _ _ _ e (LI d b)
theorem M_{q}{o:sT}(h:tu q=some o):Mv o:=by
 unfold tu at h;have⟨k,a,b⟩:=Option.bind_eq_some_iff.1 h;have c:k<7:=Gh.1 (Ip a);exact IU _ _ _ _ _ b ⟨c,bH,bH,bH,λd e=>by cases e⟩
theorem MO{l}{n:Int}(h:tJ l=some n): -1000000000<n/\n<1000000000:=by
 unfold tJ at h;split at h
 all_goals
  obtain⟨m,a,rfl⟩:=Option.map_eq_some_iff.1 h
  have:=sO a
  omega
theorem JB:∀(ws:List (List UInt8))(ns:List Int),dw ws=some ns->∀n∈ns,-1000000000<n/\n<1000000000
 |[],ns,h,n,a=>by cases h;cases a
 |w::r,ns,h,n,a=>by
  unfold dw at h
  have⟨x,b,c⟩:=Option.bind_eq_some_iff.1 h
  obtain⟨m,d,rfl⟩:=Option.map_eq_some_iff.1 c
  rcases F4.1 a with rfl|a
  ·exact MO b
  exact JB r m d n a
structure J8(s:rP):Prop where
 ops:∀o∈s.ops,Mv o
 key:s.cf.key<18446744073709551616
 dr:∀d∈s.cf.draws,-1000000000<d/\d<1000000000
 bad:∀n∈s.bad,0<=n/\n<=1000000
theorem Ms{c}{e:Jh}{q}(h:ij c q=some e)(i:c.key<18446744073709551616)(f:∀d∈c.draws,-1000000000<d/\d<1000000000):e.key<18446744073709551616/\∀d∈e.draws,-1000000000<d/\d<1000000000:=by
 unfold ij at h;split at h;·obtain⟨k,g,rfl⟩:=Option.map_eq_some_iff.1 h;exact⟨tR g,f⟩
 have⟨j,g,a⟩:=Option.bind_eq_some_iff.1 h;split at a;·cases a;exact⟨i,f⟩
 split at a
 ·cases a;refine⟨i,λd b=>?_⟩;rcases F8.1 b with b|b;·exact f d b
  exact JB _ _ g d b
 cases a
theorem Lx(i:Nat)(l s)(j:i<1000000)(b:J8 s):J8 (rZ i l s):=by
 unfold rZ;split;·exact b
 cases d:tu (cE l [])with
 |some o=>
  refine⟨λx a=>?_,b.key,b.dr,b.bad⟩;rcases F8.1 a with a|a;·exact b.ops x a
  rw[List.mem_singleton.1 a];exact M_ d
 | none=>
  dsimp only;cases e:ij s.cf (cE l [])with
  |some c=>obtain⟨f,g⟩:=Ms e b.key b.dr;exact⟨b.ops,f,g,b.bad⟩
  |none=>
   refine⟨b.ops,b.key,b.dr,λx a=>?_⟩;rcases F8.1 a with a|a;·exact b.bad x a
   rw[List.mem_singleton.1 a];omega
theorem IX:∀(ls:List (List UInt8))(i:Nat)(s:rP),i+ls.length<=1000000->J8 s->J8 (gJ ls i s)
 |[],i,s,a,b=>b
 |l::r,i,s,a,b=>IX r (i+1) _ (by simp at a;omega) (Lx i l s (by simp at a;omega) b)
theorem Jy(t):J8 (kI t):=by
 unfold kI;split;·exact⟨λo h=>(by cases h),by simp[BK],λd h=>(by cases h),λd h=>(by cases h)⟩
 have:=OX t [];exact IX _ 0 _ Z ⟨λo h=>(by cases h),by simp[ik],λd h=>(by cases h),λd h=>(by cases h)⟩
theorem EJ:∀(ls:List (List UInt8))(i:Nat)(s:rP),s.bad.length<=i->(gJ ls i s).bad.length<=i+ls.length
 |[],i,s,h=>h
 | l::r,i,s,h=>by
  have a:(rZ i l s).bad.length<=i+1:=by
   unfold rZ
   repeat' split
   all_goals try simp
   all_goals omega
  have:=EJ r (i+1) _ a;simp only[gJ,FN];omega
theorem Ju(t):(kI t).bad.length<=20000:=by
 unfold kI;split;·simp[BK]
 have a:=OX t [];have b:=EJ (kn t []) 0 ik (by simp[ik]);omega
def Bu(B b:Nat)(l:List UInt8)(W:World):Prop:=∃p v,(p=.pointer none\/p=J b 0)/\W.heap[b]?=some (.cells #[p,v] 57)/\ObW B W v l/\B<=b
theorem MH:(prog.info? 57).map (·.size)=some 2:=E
theorem Mw:liesAt prog prog.depth 57 (2/prog.cellsOf 57) 0 57 1=true:=E
theorem Mi(b)(p v:QN)(W:QM)(g:p=.pointer none\/p=J b 0)(h:W.heap[b]?=some (QL #[p,v] 57)):
  QA 36 #[J b 0] W λe W'=>e=QJ (.tuple #[])/\W'.heap[b]?=some (QL #[J b 0,v] 57)/\W.grownBy W' (some b):=by
 have⟨j,c,d⟩:=Option.map_eq_some_iff.1 MH;have k:W.cell? (Qz b 0)=some p:=bJ h;have f:=H h;rcases g with rfl|rfl
 ·have a:W.shape? b=some (57,2):=by simp[World.shape?,h]
  have i:W.frozen? (Qz b 0)=false:=by simp[QD,h]
  go_enter func36,ntmps36;go_wp2;rw[Lib.run_to_unsafe W (Qz b 0) underlying55 underlying158 c (by rw[d];decide) a (Nat.zero_lt_succ 1)];simp only[Result.andThen];rw[Oper.upon_value];go_wp2;rw[run_callFunc_extern func66 E E E (e:=Extern.AbiNoEscape.same) E];rw[Lib.run_noEscape];simp only[Result.andThen];rw[Oper.upon_value];go_wp2;rw[Lib.run_from_unsafe W (Qz b 0) underlying158 underlying55 c a Mw];simp only[Result.andThen];rw[Oper.upon_value];go_wp2;go_end0;exact⟨rfl,Bx.set (cs:=[.pointer none,v]) f 0 _,au (al W b) 0 _⟩
 go_enter func36,ntmps36;go_wp2;rw[Lib.run_neq_ptr_same W _ underlying55 c];go_wp2;go_end0;exact⟨rfl,f,al W b⟩
theorem ObW.set57{l}{cs:List QN}(h:ObW B W v l)(a:W.heap[b]?=some (QL cs.toArray 57))(c:B<=b)(i:Nat)(u:QN):ObW B (W.setCell (Qz b i) u) v l/\Ky (· =57) W (W.setCell (Qz b i) u)/\Below B W (W.setCell (Qz b i) u):=
 have k:Ky (· =57) W (W.setCell (Qz b i) u):=Ky.grown a rfl (au (al W b) i u)
 ⟨h.ky k ar,k,(Fu B W).setCell (p:=(Qz b i)) c _⟩
def Bw9(B b:Nat)(W:World)(l:List UInt8)(W':World):Prop:=Bu B b l W'/\Ky (λt=>t=5\/t=57) W W'/\Below B W W'
theorem Bw9.of{V d:QM}{a:QP}{m c:Nat}{l l2:List UInt8}(i:B<=b)(n:V.heap[b]?=some (QL #[J b 0,v] 57))(f:Ky (λt=>t=5\/t=57) W V)(g:Below B W V)(o:ObW B d (.slice a m c) l2)(k:Ky (· =5) V d)(bu:Below B V d):Bw9 B b W l2 (d.setCell (Qz b 1) (.slice a m c)):=by
 have j:=k.cells _ _ _ _ n ar;have⟨p,q,r⟩:=ObW.set57 (cs:=[J b 0,v]) o j i 1 (.slice a m c);exact⟨⟨_,_,.inr rfl,Bx.set (cs:=[J b 0,v]) j 1 _,p,i⟩,(f.trans (k.more λt e=>.inl e)).trans (q.more λt e=>.inr e),(g.trans bu).trans r⟩
theorem Lt(B b l)(s:ByteArray)(W)(h:Bu B b l W)(u:B<=W.heap.size)(z:l.length+s.size<=2000000000):
  QA 17 #[J b 0,.string s] W λe W'=>e=QJ (.tuple #[I s.size,.nilIface])/\Bw9 B b W (l++s.data.toList) W':=by
 have⟨p,v,c,a,f,n⟩:=h;have d:=Mi b p v W c a;have⟨w,q⟩:=y7 a f;have F:IntKind.i64.wrap (s.size:Int)=(s.size:Int):=by rw[Hh];omega
 clear c a f;go_enter func17,ntmps17;go_wp2_with fail;refine d.mono ?_;rintro e V⟨rfl,o,f⟩;have g:Ky (· =57) W V:=Ky.grown w rfl f;have i:Below B W V:=(Fu B W).grown f u (λr a=>by cases a;exact n);obtain⟨a,m,c,rfl,j⟩:=ch q;clear j;have⟨G,K,L,j,k,x,r,y⟩:=(q.ky g ar).str s (Fx u i.size) z;have A:=H (Bw9.of (l:=l) n o (g.more λt e=>.inr e) i x r y);have M:V.cell? (Qz b 1)=some (.slice a m c):=bJ o;have t:=r.cells _ _ _ _ o ar;have N:j.cell? (Qz b 1)=some (.slice a m c):=bJ t;have f2:j.frozen? (Qz b 1)=false:=by simp[QD,t]
 clear d g i x r y q w o f t;go_wp2_with (at_builtin;refine it rfl (.tmp 12) (.tmp 13) (by with_reducible rfl) rfl rfl rfl k ?_)
 go_ret2
 exact⟨rfl,A⟩
theorem K9(B b l)(x:UInt8)(W)(h:Bu B b l W)(s:B<=W.heap.size)(G:l.length<=1999999999):
  QA 18 #[J b 0,.int .u8 ((x.toNat:Nat):Int)] W λe W'=>e=QJ .nilIface/\Bw9 B b W (l++[x]) W':=by
 have⟨p,v,c,a,f,n⟩:=h;have d:=Mi b p v W c a;have⟨y,u⟩:=y7 a f;clear c a f;go_enter func18,ntmps18;go_wp2_with fail;refine d.mono ?_;rintro e V⟨rfl,o,f⟩;have g:Ky (· =57) W V:=Ky.grown y rfl f;have i:Below B W V:=(Fu B W).grown f s (λr a=>by cases a;exact n);obtain⟨a,m,c,rfl,j⟩:=ch u;clear j;have⟨K,L,M,j,k,z,r,A⟩:=(u.ky g ar).one [x] (Fx s i.size) bG;have q:=(Fu V.heap.size V).alloc (Fv _) (QL (bv [x]).toArray 5);have w:(V.alloc (QL (bv [x]).toArray 5)).heap[b]?=_:=(Bx.below (cs:=[J b 0,.slice a m c]) o q (G_ o));have F:=H (Bw9.of (l:=l) n w ((g.more λt e=>.inr e).trans (Ky.below q)) (i.trans (q.mono i.size |>.mono (Nat.le_of_lt_succ (Nat.lt_succ_of_le s)))) z r A);have N:V.cell? (Qz b 1)=some (.slice a m c):=bJ o;have t:=r.cells _ _ _ _ w ar;have O:j.cell? (Qz b 1)=some (.slice a m c):=bJ t;have f2:j.frozen? (Qz b 1)=false:=by simp[QD,t]
 clear d g i z r A u y o f t w q;go_wp2_with (at_builtin;refine it rfl (.tmp 11) (.tmp 13) (by with_reducible rfl) rfl rfl rfl k ?_);go_ret;exact⟨rfl,F⟩
theorem NF:Builder.Extra prog Tryz.lays169_ren where
 sizeBuilder:=E
 liesBuilder:=E
 t5:=underlying5
 a5:=Tryz.isAgg5
 z5:=Tryz.sizeOf5
 v5:=Tryz.zeroValue5
 infoByte:=E
 cellsByte:=E
 sizeByte:=E
 neB5:=ar
theorem LL(B b l W)(h:Bu B b l W)(j:B<=W.heap.size):
  QA 19 #[J b 0] W λe W'=>e=QJ (.string (bs l))/\Below B W W':=by
 have⟨p,v,k,d,f,a⟩:=h;have g:Lib.BuilderAt 57 5 B b p (Lib.byteCells l) W:=⟨a,v,d,by rw[Lib.byteCells_length];exact f,λe=>by
  have⟨_,c,i⟩:=aF f e;rw[d]at i;cases i⟩
 exact Any.Builder_String_any Tryz.lays169 NF B b l W (by rcases k with rfl|rfl;exact .inl g;exact .inr g) j
end
end Go.Proofs.YtdhegekcmmlohaaGreatDoor
