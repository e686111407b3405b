import Derived.Test.YtbcacchkcedffaaGreatDoorM10
set_option linter.all false
set_option maxRecDepth 20000
set_option maxHeartbeats 0
namespace Go.Proofs.YtbcacchkcedffaaGreatDoor
open Go.Proofs.Tryz Go.RowKit Go.Maps Go.Shelf Go.ChangeShapes Go.WideShapes Go.ChangeAt
section
variable {B c cm g lo:Nat}{V V1 W W' W0 w:World}{v va:Value}{l:List Aw}{bb:Bool}
def wh(a b:List (List UInt8)):joinL (a++b)=joinL a++joinL b:=by simp[joinL]
def Li(ys:List Int)(q:Nat):List UInt8:=if q=0 then[]else[32]++uy (ys.take q)
def Oy.al10{l}(h:Oq B lo W0 W v l)(b:Below B V1 W0):Oq B W.heap.size (W.alloc (QL #[.int .u8 10] 5)) (W.alloc (QL #[.int .u8 10] 5)) v l/\Below B V1 (W.alloc (QL #[.int .u8 10] 5))/\RowV (W.alloc (QL #[.int .u8 10] 5)) W.heap.size 5 (bv [10]):=by have a:=(Fu W.heap.size W).alloc gi (QL #[.int .u8 10] 5);have d:=Fx h.hB h.bel.size;exact⟨Oq.start (h.o.below a) (Fx d a.size) (λr e=>(aF h.o e).2.elim λc e=>G_ e),(b.trans h.bel).trans (a.mono d),Jd W [10]⟩
def Oy.rk2{U l xs}(h:Oq B lo W0 U v l)(r:RowV W0 g 5 xs)(b:lo<=g):RowV U g 5 xs:=by have⟨c,a,d⟩:=r;exact⟨c,(h.win g ⟨b,G_ a⟩).trans a,d⟩
def To9(V:World)(T:List UInt8)(e:Ending)(w':World):Prop:=∃i c',e=.returned (Vl i T.length c')/\V.heap.size<=i/\RowM w' i (bv T)/\D V w'
def To9.of{T U}{a:QP}{m:Nat}(b:D W V1)(d:D V1 W0)(o:Oq V1.heap.size lo W0 U (.slice a m c) T)(e:T≠[]):To9 W T (QJ (.slice a m c)) U:=by obtain⟨g,rfl,rfl⟩:=o.o.isS e;exact⟨g,c,rfl,Fx b.size (aF o.o rfl).1,(RowV.ofOwns o.o).m,b.trans ((d.trans o.bel).mono b.size)⟩
def GM:(∀(l:List UInt8)(g c:Nat)(W:QM)(r:RowV W g 5 (bv l))(hl:l.length<=1048576)(tb:Tb W)(h6:2<W.heap.size),QA 12 #[Vl g l.length c] W (To9 W (tell l))) /\
  (∀(s:rP)(bL:List Int)(W0 W:QM)(B:Nat)(dv ov bd:QN)(ps:List (sT×QN))(bb:Bool)(l9:List Aw)(va:QN)(cm us:Nat)(m1 m2 m3 m4 m5 m6:QN)(ba:QP)(bc:Nat)(hR:Res B W s dv ov bd ps)(k:J8 s)(d5:Sl W ba bL)(g1:∀x∈bL,0<=x/\x<=1000001)(g3:bL.length<=20001)(rp:Rsp s W0 bb l9 va cm us [va,m1,m2,m3,m4,m5,m6] W),QA 11 #[ov,.slice ba bL.length bc,.agg #[.bool bb,va,I cm,m1,m2,m3,m4,m5,m6,I us]] W (To9 W (joinL (m_ bL++yk s)))):=by
 refine⟨λl g c W r hl tb h6=>?_,λs bL W0 W B dv ov bd ps bb l9 va cm us m1 m2 m3 m4 m5 m6 ba bc hR k d5 g1 g3 rp=>?_⟩
 case' refine_1=>
  by_cases d:20000<l.length
  ·have HT:=H (show tell l=GA by unfold tell;rw[GP d]);have w:decide ((l.length:Int) > 20000)=true:=bG;have b:=Lib.run_convert_bytes_const (P:=prog) W 22 5 #[.int .u8 63,.int .u8 32,.int .u8 115,.int .u8 99,.int .u8 114,.int .u8 105,.int .u8 112,.int .u8 116,.int .u8 10] 9 9 underlying22 underlying5;clear r tb h6 d hl;go_enter func12,ntmps12;go_wp2_with fail;go_ret;unfold To9;rw[HT];exact⟨_,9,rfl,gi,⟨_,_,XD,ar,λi hi=>List.getElem?_toArray (xs:=bv GA),.inl ar⟩,ph⟩
  have b:=EH g l.length c l W rfl d r;have w:¬(20000:Int)<(l.length:Int):=Z;have HT:=H (show tell l=joinL (m_ (kI l).bad++yk (kI l)) by unfold tell;rw[GO d];rfl);have⟨HK,HL,HB⟩:=Qe (Jy l) (Ju l) (IT tb h6);generalize kI l=s at*;clear r tb d hl h6;go_enter func12,ntmps12;go_upto_region 4 with fail
  refine b.mono ?_;rintro e V⟨dv,ov,bd,ps,rfl,rs,d⟩;obtain⟨da,dn,dc,rfl,f⟩:=Re rs.dt;have p:=H (ao V (QL jx.toArray 27));have HA:(OD s.cf (.slice da dn dc)).toArray.all (·.oneCell')=true:=by simp[OD,Value.oneCell']
  have j:(OD s.cf (.slice da dn dc)).toArray.size=6:=rfl;have⟨o,n⟩:=Qa ((OD s.cf (.slice da dn dc)).toArray);rw[n]at HA j⊢;clear b f;go_upto_region 4 with(refine Gf rfl 27 _ _ rfl _ _ rfl rfl 27 _ p (by rw[j];kernel_rfl) (by rw[j];rfl) HA ?_)
  have⟨V1,m⟩:=Qa ((V.alloc (QL jx.toArray 27)).setRow V.heap.size o);have b:V1.heap[V.heap.size]?=some (QL o 27):=by rw[<-m];exact aw p o
  have b1:D V V1:=by rw[<-m];exact((Fu V.heap.size V).alloc gi (QL jx.toArray 27)).grown (aj _ V.heap.size o) bH (λq e=>by cases e;exact gi)
  refine Eq.mp (congrArg _ m.symm) ?_;have⟨HC,b6,BV⟩:=Qe (IT b n) (rs.below b1) (az d b1);generalize V.heap.size=f at*;clear m b b1 rs d n HA j w;obtain⟨ba,bc,rfl,d5,_⟩:=JC b6.bdo;have HS:Hid (∀d,D V1 d->∀i n,s.bad[i]?=some n->∃g,ba=some (Qz g 0)/\d.cell? (Qz g i)=some (I n)):=(λd hU i n hi=>by have⟨g,h1,h2⟩:=d5.cells i (Fz.1 hi).1;rw[hi]at h2;exact⟨g,h1,NI hU h2⟩)
  clear d5;have e7:Hid (∀x∈s.bad,0<=x/\x<=1000001):=(λx hx=>by have:=HK.bad x hx;omega);have HL:Hid (s.bad.length<=20001):=H (by have:=HL.out;omega);have HF:Hid (Nf 31):=.inl rfl;have t:=True.intro;generalize tell l=T at*;generalize s.bad=bL at*
 case' refine_2=>
  have⟨T,hT⟩:=Qa (joinL (m_ bL++yk s));rw[hT];have⟨HT,HK,e7,HL⟩:=Qf hT.symm k g1 g3;have j:=(Fu W.heap.size W).alloc gi (QL #[.bool bb,va,I cm,m1,m2,m3,m4,m5,m6,I us] 41);have x0:=ao W (QL #[.bool bb,va,I cm,m1,m2,m3,m4,m5,m6,I us] 41);clear hT g1 g3 k;go_enter func11,ntmps11;go_upto_region 1 with fail
  generalize W.alloc _=V1 at x0 j⊢;have⟨RB,b6,BV⟩:=Qe (IT x0 (rp.ky (Ky.below j) (j.mono rp.bel.size))) (hR.below j) j;have b7:=G_ x0;have b8:=rp.bel.size;have HS:Hid (∀d,D V1 d->∀i n,bL[i]?=some n->∃g,ba=some (Qz g 0)/\d.cell? (Qz g i)=some (I n)):=(λd hU i n hi=>by have⟨g,h1,h2⟩:=d5.cells i (Fz.1 hi).1;rw[hi]at h2;exact⟨g,h1,NI hU (NI j h2)⟩)
  have⟨X,m⟩:=Qa W.heap.size;rw[m]at RB b7 b8⊢;have HX:=H m;clear hR d5 rp j x0 m;have HF:Hid (Nf 30):=.inr rfl
 all_goals as_aux_lemma=>
  have i0:Hid (∀x∈m_ bL,x.length<=9000):=(λy hy=>by obtain⟨n9,d6,rfl⟩:=FQ.1 hy;have:=e7.out n9 d6;have:=kX n9.toNat Z;simp;omega)
  generalize j:bL.length=n at*;have HN:=H j;have k6:n<=20001:=HL.out;clear j;go_wp2_with fail
  first|(have:=t;go_loopw [6,27] (λlv i wr=>∃(j:Nat)(a9:QP)(m9 c9:Nat),j<=n/\i=I (j:Int)/\lv=.slice a9 m9 c9/\Hid (Oq V1.heap.size V1.heap.size V1 wr (.slice a9 m9 c9) (joinL (m_ (bL.take j))))) (λ_ i _=>n-(intOf i).toNat))|go_loopw [7,16] (λlv i wr=>∃(j:Nat)(a9:QP)(m9 c9:Nat),j<=n/\i=I (j:Int)/\lv=.slice a9 m9 c9/\Hid (Oq V1.heap.size V1.heap.size V1 wr (.slice a9 m9 c9) (joinL (m_ (bL.take j))))) (λ_ i _=>n-(intOf i).toNat)
  case atStart=>exact⟨0,_,_,_,aa,rfl,rfl,H (Oq.start (ObW.nil _ _) gi (λr hr=>by cases hr))⟩
  case round=>
   obtain⟨j,a,m,c,hj,rfl,rfl,HO⟩:=hrel;by_cases d7:j<n
   ·have j3:(j:Int)<(n:Int):=Z;obtain⟨x,hx⟩:∃x,bL[j]?=some x:=⟨bL[j]'(by have:=HN.out;omega),by simp[HN.out,d7]⟩;obtain⟨N,rfl,cx⟩:=HS.out wr HO.bel j x hx;have F:=e7.out x (FM hx);have G:IntKind.u64.wrap x=x:=(by rw[IntKind.wrap_u64];omega);have HJ:=H (show joinL (m_ (bL.take (j+1)))=joinL (m_ (bL.take j))++[63,32]++dec x.toNat++[10] by rw[F_,hx];simp[joinL,m_])
    have A:=sf (m_ (bL.take j)) λy hy=>by obtain⟨n9,d6,rfl⟩:=FQ.1 hy;have:=e7.out n9 (List.mem_of_mem_take d6);have:=kX n9.toNat Z;simp;omega
    have o:(joinL (m_ (bL.take j))).length<=1000000000:=by have:(m_ (bL.take j)).length*9001<=20001*9001:=Gm _ (by simp[m_];omega);omega
    have p:=kX x.toNat Z;have⟨a1,m1,c1,K,b2,o1,_⟩:=HO.str ⟨#[63,32]⟩ (by have:(⟨#[63,32]⟩:ByteArray).size=2:=rfl;omega);have w:=Co HF x.toNat Z K;rw[IK F.1]at w;have⟨H1,z⟩:=y7 o1 (IT o p);clear o1 hx F A o p HO hj
    go_wp2_with (at_builtin;refine up b2 ?_)
    refine w.mono ?_;rintro e U2⟨g2,c2,rfl,A,bt⟩;have⟨L,m2,c3,U3,b4,o2,_⟩:=(H1.below bt).row (c:=c2) (RowV.ofOwns A) (by have:=z.out;simp;omega);have⟨p,m3,c4,U4,o,F,_⟩:=o2.one [10] (by have:=z.out;simp;omega);have o:QI 22 (.slice L m2 c3) (Vl U3.heap.size 1 1) (U3.alloc (QL #[.int .u8 10] 5)) (.slice p m3 c4) U4:=o;have M:=H (show Oq V1.heap.size V1.heap.size V1 U4 (.slice p m3 c4) (joinL (m_ (bL.take (j+1)))) by rw[HJ];exact F);clear w o2 F A bt b2 cx
    go_wp2_with (at_builtin;first|refine up b4 ?_|refine up o ?_)
    go_roundw;(exact⟨j+1,p,m3,c4,Z,aY,rfl,M⟩);exact QE
   obtain rfl:j=n:=Z;have j3:¬(j:Int)<(j:Int):=Z;have HO:=H (show Oq V1.heap.size V1.heap.size V1 wr (.slice a m c) (joinL (m_ bL)) by have:=HO.out;rwa [Ge (by have:=HN.out;omega)]at this);obtain⟨WR,j4⟩:∃W9:QM,W9=wr:=⟨wr,rfl⟩;subst j4
   first
   |
    have:=t
    have b:=HO.bel.block f (G_ HC.1)
    have p:Hid (∀i,WR.cell? (Qz f i)=(OD s.cf (.slice da dn dc))[i]?):=(λi=>by rw[ac (b.trans HC.1),<-HC.2];simp)
    have G:WR.cell? (Qz f 0)=some (I s.cf.mix):=p.out 0
    have c1:WR.cell? (Qz f 1)=some (I s.cf.fifo):=p.out 1
    have c2:WR.cell? (Qz f 2)=some (I s.cf.large):=p.out 2
    have c3:WR.cell? (Qz f 3)=some (I s.cf.budget):=p.out 3
    have c4:WR.cell? (Qz f 4)=some (U (s.cf.key:Int)):=p.out 4
    have c5:WR.cell? (Qz f 5)=some (.slice da dn dc):=p.out 5
    have z:=az BV HO.bel
    have o:=My s W.heap.size (.slice da dn dc) ov (.slice ba j bc) ps WR HK (b6.below HO.bel) (HB.1.below z) (FG HB.2 z.size)
    unfold OD at o
    have K:=H z
    clear HS d7 hj z b p HC
    generalize s.cf.mix=x0 at G o
    generalize s.cf.fifo=x1 at c1 o
    generalize s.cf.large=x2 at c2 o
    generalize s.cf.budget=L at c3 o
    generalize (s.cf.key:Int)=M at c4 o
    go_upto_region 11 with fail
    refine o.mono ?_
    rintro e d⟨bb,l9,va,cm,us,m1,m2,m3,m4,m5,m6,rfl,rp⟩
    have z:=(Fu d.heap.size d).alloc gi (QL zR 41)
    have p:=ao d (QL zR 41)
    have F:=rp.ky (Ky.below z) (z.mono rp.bel.size)
    have RB:=H (Rb9.of p rp.bel.size F)
    have HA:=H F.all
    have HX:=H p
    clear o G c1 c2 c3 c4 c5 F z p
    go_upto_region 11 with(refine Gf rfl 41 _ _ rfl _ _ rfl rfl 41 _ HX E rfl HA ?_)
    have⟨U2,o⟩:=Qa ((d.alloc (QL zR 41)).setRow d.heap.size #[.bool bb,va,I cm,m1,m2,m3,m4,m5,m6,I us])
    rw[o]at RB
    refine Eq.mp (congrArg _ o.symm) ?_
    have b7:=G_ RB.1
    have b8:=rp.bel.size
    generalize d.heap.size=X at*
    clear o HA HX rp K HB
    have OS:=H (Oq.start (lo:=WR.heap.size) (HO.o.below RB.2.bel) (Fx HO.bel.size RB.2.bel.size) (λr hr=>(aF HO.o hr).2.elim λc hc=>G_ hc))
    have B2:=H (HO.bel.trans (RB.2.bel.mono HO.bel.size))
   |
    have B2:=H HO.bel
    have OS:=H (Oq.start (lo:=WR.heap.size) HO.o (Fx gi HO.bel.size) (λr hr=>(aF HO.o hr).2.elim λc hc=>G_ hc))
    obtain⟨U2,rfl⟩:∃d:QM,d=WR:=⟨_,rfl⟩
   obtain⟨W9,VR,YL,RB,OS,e4,b7,b8⟩:∃(W9 VR:QM)(YL:Nat),Hid (Rb9 s W9 X bb l9 va cm us m1 m2 m3 m4 m5 m6 VR)/\Hid (Oq V1.heap.size YL U2 U2 (.slice a m c) (joinL (m_ bL)))/\Hid (∀d v l,Oq V1.heap.size YL U2 d v l->∀k,W9.heap.size<=k->k<VR.heap.size->d.heap[k]?=VR.heap[k]?)/\X<VR.heap.size/\W9.heap.size<=X:=by first|exact⟨WR,U2,_,RB,OS,H (λd v l h k h1 h2=>h.win k ⟨h1,h2⟩),b7,b8⟩|exact⟨W0,V1,_,RB,OS,H (λd v l h k _ h2=>(B2.trans h.bel).block k h2),b7,b8⟩
   have q0:U2.cell? (Qz X 0)=some (.bool bb):=(by rw[nD (e4 _ _ _ OS X b8 b7),ac RB.1];rfl);have j5:(joinL (m_ bL)).length<=1000000000:=by have h1:=sf (m_ bL) i0;have:(m_ bL).length*9001<=20001*9001:=Gm _ (by simp[m_];have:=HN.out;omega);omega
   cases bb with
   |false=>
    have o:¬J7 s:=λh=>by have:=RB.2.ok.2 h;cases this
    have HE:=H (show T=joinL (m_ bL)++[63,32,104,101,97,112,10] by rw[HT,wh,yk,GO o];rfl);have⟨a1,m1,c1,U3,b2,o1,_⟩:=OS.str ⟨#[63,32,104,101,97,112,10]⟩ (by have:(⟨#[63,32,104,101,97,112,10]⟩:ByteArray).size=7:=rfl;omega);have H1:=H o1;clear o1 o
    go_wp2_with (at_builtin;refine up b2 ?_)
    go_ret;exact To9.of BV B2 (by rw[HE];exact H1) (by rw[HE];simp)
   | true =>
    have z:J7 s:=RB.2.ok.1 rfl;obtain⟨G,rfl,rfl⟩:=RB.2.run rfl;have⟨K,j6,i3,i4⟩:=CI HK z;have L:l9.length=s.ops.length:=(by rw[<-i4,<-G,Gz]);have HE:=H (show T=_ by rw[HT,wh,yk,GP z,wh]);have HD:Hid (∀y∈l9,Bd y.1):=(λy hy=>K y.1 (by rw[<-G];exact List.mem_map_of_mem hy));obtain⟨F,N,vc,rfl,M⟩:=Re RB.2.row;have HV:=H (IT M (IT G L));have l1:N<=300:=(by have:=z.2;omega);have q1:U2.cell? (Qz X 1)=some (.slice F N vc):=(by rw[nD (e4 _ _ _ OS X b8 b7),ac RB.1];rfl);have g4:Hid (∀j2,(joinL (m_ bL)++joinL (qY ((s.ops.map λo=>(o.kind:Int)).take j2) ((vX s).2.take j2))).length<=500000000):=(λj2=>by
     have h1:=sf (qY ((s.ops.map λo=>(o.kind:Int)).take j2) ((vX s).2.take j2)) (λx hx=>by obtain⟨y,hy,rfl⟩:=FQ.1 hx;exact AP _ (K _ (List.mem_of_mem_take (List.of_mem_zip hy).2)))
     have h2:(qY ((s.ops.map λo=>(o.kind:Int)).take j2) ((vX s).2.take j2)).length*9001<=300*9001:=Gm _ (by have:=z.2;simp[qY];omega);have h3:=sf (m_ bL) i0;have h4:(m_ bL).length*9001<=20001*9001:=Gm _ (by simp[m_];have:=HN.out;omega);rw[FC];omega)
    have HP:Hid (∀V,D V1 V->∀j p,ps[j]?=some p->∃g on oc,ov=Vl g on oc/\g<V1.heap.size/\j<on/\V.cell? (Qz g (j*6))=some (I (p.1.kind:Int))):=(λV hV j p hp=>by
     rcases b6.op.2 with⟨_,h0⟩|⟨g,i5,i6,h1,_,O,_⟩;·rw[Ik h0]at hp;cases hp
     have h4:=b6.op.cells (g:=g) (by rw[h1];rfl) (j*6) (I (p.1.kind:Int)) ((eC (λp:sT×QN=>opC p.1 p.2) 6 (λ_=>rfl) ps j p hp 0 Z).trans rfl);rw[Addr.add_mid,Oi]at h4;exact⟨g,_,_,h1,G_ O,(Fz.1 hp).1,NI hV h4⟩)
    clear z G L K j5 M;go_wp2_with fail
    first|(have:=t;go_loopw [6,51] (λlv i wv=>∃(j2:Nat)(a9:QP)(m9 c9:Nat),j2<=N/\i=I (j2:Int)/\lv=.slice a9 m9 c9/\Hid (Oq V1.heap.size YL U2 wv (.slice a9 m9 c9) (joinL (m_ bL)++joinL (qY ((s.ops.map λo=>(o.kind:Int)).take j2) ((vX s).2.take j2))))) (λ_ i _=>N-(intOf i).toNat))|go_loopw [7,37] (λlv i wv=>∃(j2:Nat)(a9:QP)(m9 c9:Nat),j2<=N/\i=I (j2:Int)/\lv=.slice a9 m9 c9/\Hid (Oq V1.heap.size YL U2 wv (.slice a9 m9 c9) (joinL (m_ bL)++joinL (qY ((s.ops.map λo=>(o.kind:Int)).take j2) ((vX s).2.take j2))))) (λ_ i _=>N-(intOf i).toNat)
    (case atStart=>exact⟨0,_,_,_,aa,rfl,rfl,H (by simpa[qY,joinL]using OS.out)⟩);case round=>
     clear OS q0 q1;obtain⟨k,a9,m9,c9,hk,rfl,rfl,b3⟩:=hrel;by_cases d7:k<N
     ·have j7:(k:Int)<(N:Int):=Z;obtain⟨y,hy⟩:∃y,l9[k]?=some y:=⟨l9[k]'(by have:=HV.1;omega),by simp[<-HV.1,d7]⟩;obtain⟨p,hp⟩:∃p,ps[k]?=some p:=by have h1:=congrArg List.length b6.eq;have h2:=HV.out;rw[Gz]at h1;exact⟨ps[k]' Z,bH⟩
      have K:=FM hy;have M:=FM hp;obtain⟨og,on,oc,rfl,l2,l3,O⟩:=HP.out wr (B2.trans b3.bel) k p hp;obtain⟨g0,rfl⟩:∃g,F=some (Qz g 0):=by
       rcases RB.2.row.2 with⟨h1,h2⟩|⟨g,i5,i6,h1,_⟩;·have:=HV.out;omega
       injection h1 with h1;exact⟨g,h1⟩
      have z:∀i,i<4->wr.cell? (Qz g0 (k*4+i))=(aC y)[i]?:=λi hi=>by have h5:=eC aC 4 (λ_=>rfl) l9 k y hy i hi;obtain⟨u,G⟩:∃u,(aC y)[i]?=some u:=⟨(aC y)[i]'(by simpa[aC]using hi),bH⟩;have h6:=RB.2.row.cells (g:=g0) rfl _ u (h5.trans G);have⟨h7,c7,L⟩:=aF RB.2.row rfl;rw[Addr.add_mid,Oi]at h6;rw[nD (e4 _ _ _ b3 g0 h7 (G_ L)),h6,G]
      have R:wr.cell? (Qz g0 (k*4))=some (I y.1.code):=z 0 Z;have d1:wr.cell? (Qz g0 (k*4+1))=some (U y.1.addr):=z 1 Z;have d2:wr.cell? (Qz g0 (k*4+2))=some (I y.1.size):=z 2 Z;have Q:wr.cell? (Qz g0 (k*4+3))=some y.2:=z 3 Z;have⟨ya,G,yc,L,j8⟩:=Re (RB.2.dat y K);subst j8;rw[L]at Q;have bd:=HD.out y K;have kd:=(HK.ops p.1 (by rw[<-b6.eq];exact List.mem_map_of_mem M)).kd;have d8:=H (show joinL (m_ bL)++joinL (qY ((s.ops.map λo=>(o.kind:Int)).take (k+1)) ((vX s).2.take (k+1)))=joinL (m_ bL)++joinL (qY ((s.ops.map λo=>(o.kind:Int)).take k) ((vX s).2.take k))++OI (p.1.kind:Int) y.1++[10] by rw[Ch (k:=(p.1.kind:Int)) (a:=y.1) (by rw[<-b6.eq];simp[hp]) (by rw[<-HV.2.1];simp[hy]),wh];simp[joinL])
      have a0:=H (g4 k);generalize joinL (m_ bL)++joinL (qY ((s.ops.map λo=>(o.kind:Int)).take k) ((vX s).2.take k))=T9 at b3 d8 a0;have DA:=H (show VR.ownsRow W9.heap.size 5 1 (.slice ya y.1.data.length yc) y.1.data.length (Ns .u8 y.1.data) by have:=RB.2.dat y K;rwa [L]at this);clear z hy hp K M
      first|(have:=t;go_upto_region 17 with fail)|go_upto_region 13 with fail
      have z:=ao wr (QL #[I y.1.code,U y.1.addr,I y.1.size,.slice ya y.1.data.length yc] 94);have b1:=(Fu wr.heap.size wr).alloc gi (QL #[I y.1.code,U y.1.addr,I y.1.size,.slice ya y.1.data.length yc] 94);generalize wr.alloc _=P1 at z b1⊢;have O1:=H (b3.below b1);have l4:=Fx B2.size b3.bel.size;have j9:=NI b1 O;generalize wr.heap.size=Y at*;have CN:Hid (∀V:QM,Ky (· =5) P1 V->V.cell? (Qz Y 0)=some (I y.1.code)/\V.cell? (Qz Y 1)=some (U y.1.addr)/\V.cell? (Qz Y 2)=some (I y.1.size)/\V.cell? (Qz Y 3)=some (.slice ya y.1.data.length yc)):=(λV K=>by have h:=K.XC z;rw[ac h,ac h,ac h,ac h];exact⟨rfl,rfl,rfl,rfl⟩)
      have⟨e0,e1,e2,e3⟩:=CN.out P1 (Ky.below th);clear R d1 d2 Q O z b1 b3 RB L;obtain⟨L,z⟩:∃L:Int,(p.1.kind:Int)=L:=⟨_,rfl⟩;have i7:0<=L/\L<=6:=Z;rw[z]at d8 j9;clear z kd;have⟨y,y2⟩:=y;have⟨M,O,S0,R⟩:=y;dsimp only at*;have g5:=H bd;have e8:=bd.c0;have g6:=bd.c1;have g7:=bd.ad;have g8:=bd.sz;dsimp only at e8 g6 g7 g8;clear bd;have i8:=H (AP L g5);rcases(show M≠0\/(M=0/\L<=2)\/(M=0/\L=4)\/(M=0/\L=5)\/(M=0/\L=3)\/(M=0/\L=6) by omega)with hc|⟨rfl,e6⟩|⟨rfl,rfl⟩|⟨rfl,rfl⟩|⟨rfl,rfl⟩|⟨rfl,rfl⟩
      case' inl=>have⟨a1,m1,c1,U3,b2,k1,w⟩:=(O1.below ld).num2 HF ⟨#[101,114,114,111,114,32]⟩ M.toNat Z (Fx a0 ar) ar;rw[IK e8]at w;have HEq:=H (show[101,114,114,111,114,32]++dec M.toNat=OI L ⟨M,O,S0,R⟩ by unfold OI;rw[GP hc]);have wc:IntKind.u64.wrap M=M:=by rw[IntKind.wrap_u64];omega
      case' inr.inl=>have⟨a1,m1,c1,U3,b2,k1,w⟩:=(O1.below ld).num2 HF ⟨#[97,116,32]⟩ O Z (Fx a0 ar) ar;have HEq:=H (show[97,116,32]++dec O=OI L ⟨0,O,S0,R⟩ by unfold OI;rw[GO bH,GO Z,GO Z,GO Z])
      case' inr.inr.inl=>have⟨a1,m1,c1,U3,b2,k1,w⟩:=(O1.below ld).num2 HF ⟨#[115,105,122,101,32]⟩ S0 Z (Fx a0 ar) ar;have HEq:=H (show[115,105,122,101,32]++dec S0=OI 4 ⟨0,O,S0,R⟩ by unfold OI;rw[GO bH,GO Z,GP rfl]);have wc:IntKind.u64.wrap (S0:Int)=(S0:Int):=by rw[IntKind.wrap_u64];omega
      case' inl|inr.inl|inr.inr.inl=>
       go_wp2_with fail
       first|(have:=hc;refine wp_region_held (S:=λV:QM=>V.cell? (Qz Y 0)=some (I M)/\V.cell? (Qz Y 1)=some (U O)/\V.cell? (Qz Y 2)=some (I S0)/\V.cell? (Qz Y 3)=some (.slice ya R.length yc)) E ?_)|refine wp_region_held (S:=λV:QM=>V.cell? (Qz Y 0)=some (I 0)/\V.cell? (Qz Y 1)=some (U O)/\V.cell? (Qz Y 2)=some (I S0)/\V.cell? (Qz Y 3)=some (.slice ya R.length yc)) E ?_
       simp only[FX,FN,F1,Nat.reduceAdd,FP,FO,FY,FV,F5];have kD:Ky (· =5) P1 P1.drew:=Ky.below ld;have hS:=(CN P1.drew kD);refine py hS ?_;simp only[f0,f1,Nat.reduceAdd,lz,l0,ls];refine pq 2 hS ?_;simp only[lz,l0,ls];refine pq 3 hS ?_;simp only[lz,l0,ls]
       first|(have:=e6;skip)|(refine pq 4 hS ?_;simp only[lz,l0,ls])
       have hS:=(CN U3 (kD.trans k1));refine gu 1 ?_;refine ur b2 ⟨hS,?_⟩
       first|(have:=e6;refine po 4 λK' hK=>?_)|refine po 5 λK' hK=>?_
       go_simp;refine w.mono ?_;rintro e U5⟨g2,c2,a6,m6,c6,U6,rfl,bt,b4,o2,k2⟩;have k5:=(kD.trans k1).trans (Ky.below bt);refine hK _ _ ⟨(CN U5 k5),?_⟩;clear hK K';have hS:=(CN U6 (k5.trans k2))
       first|(have:=e6;refine gu 5 ?_)|refine gu 6 ?_
       refine ur b4 ⟨hS,?_⟩
       first|(have:=e6;refine pk 6 (.slice a6 m6 c6) hS ?_)|refine pk 7 (.slice a6 m6 c6) hS ?_
       refine bY ?_;rw[GJ,HEq]at o2;have H6:=H o2;clear o2 b2 b4 k1 k2 k5 kD hS bt w
      case inr.inr.inr.inl=>
       have⟨a1,m1,c1,U3,b2,o1,k1⟩:=O1.str ⟨#[98,121,116,101,115]⟩ (by have:=a0.out;have:(⟨#[98,121,116,101,115]⟩:ByteArray).size=5:=rfl;omega);have e9:=(CN U3 k1).2.2.2;have H1:=H (show Oq V1.heap.size YL U2 U3 (.slice a1 m1 c1) (T9++[98,121,116,101,115]++Li R 0) by rw[Li,GP rfl,Gl];exact o1);have g9:Hid (∀V:QM,(∀k,W9.heap.size<=k->k<VR.heap.size->V.heap[k]?=VR.heap[k]?)->∀q z,R[q]?=some z->∃gd,ya=some (Qz gd 0)/\V.cell? (Qz gd q)=some (.int .u8 z)):=(λV hV q z hq=>by
        rcases DA.2 with⟨_,h0⟩|⟨gd,i5,i6,h1,h2,h3,_⟩;·rw[Ik h0]at hq;cases hq
        injection h1 with h1;subst h1;refine⟨gd,rfl,?_⟩;have d7:q<(Ns .u8 R).length:=(by rw[NM];exact(Fz.1 hq).1);rw[nD (hV gd h2 (G_ h3)),(RowV.ofOwns DA).cell q d7];simp[Ns,hq])
       have j0:=H g5.dl;dsimp only at j0;clear o1 k1 i7 e8 g6 g7 g8 e1 e2 e3;generalize d6:R.length=n9 at*;have d9:=H d6;have l5:n9<=4096:=j0.out;clear d6
       go_wp2_with (at_builtin;refine up b2 ?_)
       clear b2
       first|(have:=t;go_loopw [6,108] (λlv i wv=>∃(q:Nat)(a9:QP)(m9 c9:Nat),q<=n9/\i=I (q:Int)/\lv=.slice a9 m9 c9/\Hid (Oq V1.heap.size YL U2 wv (.slice a9 m9 c9) (T9++[98,121,116,101,115]++Li R q))) (λ_ i _=>n9-(intOf i).toNat))|go_loopw [7,99] (λlv i wv=>∃(q:Nat)(a9:QP)(m9 c9:Nat),q<=n9/\i=I (q:Int)/\lv=.slice a9 m9 c9/\Hid (Oq V1.heap.size YL U2 wv (.slice a9 m9 c9) (T9++[98,121,116,101,115]++Li R q))) (λ_ i _=>n9-(intOf i).toNat)
       (case atStart=>exact⟨0,_,_,_,aa,rfl,rfl,H1⟩);case round=>
        clear H1 e9;obtain⟨q,a5,m5,c5,hq,rfl,rfl,b9⟩:=hrel;by_cases j1:q<n9
        ·have k0:(q:Int)<(n9:Int):=Z;obtain⟨z,hz⟩:∃z,R[q]?=some z:=⟨R[q]'(by have:=d9.out;omega),by simp[d9.out,j1]⟩;obtain⟨gd,rfl,cz⟩:=g9.out wr (e4 _ _ _ b9) q z hz;have Q:=g5.by_ z (FM hz);have i1:=Jx (z.toNat/16) Z;have i2:=Jx (z.toNat%16) Z;have q1:z.tdiv 16=((z.toNat/16:Nat):Int):=(by rw[Ig Q.1];omega);have q2:z.tmod 16=((z.toNat%16:Nat):Int):=(by rw[GH Q.1];omega);have w1:IntKind.u8.wrap ((z.toNat/16:Nat):Int)=((z.toNat/16:Nat):Int):=(by rw[IntKind.wrap_u8];omega);have w2:IntKind.u8.wrap ((z.toNat%16:Nat):Int)=((z.toNat%16:Nat):Int):=(by rw[IntKind.wrap_u8];omega);have b5:=BR R q z hz;generalize IY (z.toNat/16)=x1 at*;generalize IY (z.toNat%16)=x2 at*;generalize ((z.toNat/16:Nat):Int)=Q1 at*;generalize ((z.toNat%16:Nat):Int)=Q2 at*;have HJ:=H b5;have k3:=H (show(uy (R.take q)).length<=8192 by rw[Di,Hm];have:=d9.out;omega);clear b5 Q hz;by_cases d4:q=0
         case' pos=>
          have k4:((q:Int)==0)=true:=(by simp[d4]);have⟨a4,m4,c4,U4,b5,o4,_⟩:=b9.one [32] (by rw[Li,GP d4];have:=a0.out;simp only[FC,FN,F1];omega);have b5:QI 22 (.slice a5 m5 c5) (Vl wr.heap.size 1 1) (wr.alloc (QL #[.int .u8 32] 5)) (.slice a4 m4 c4) U4:=b5;have Q:=H (show Oq V1.heap.size YL U2 U4 (.slice a4 m4 c4) (T9++[98,121,116,101,115]++[32]++uy (R.take q)) by rw[Li,GP d4]at o4;rw[d4];simpa[uy]using o4);clear o4 b9 d4
          first|(have:=t;go_upto_region 30 with(at_builtin;refine up b5 ?_))|go_upto_region 28 with(at_builtin;refine up b5 ?_)
         case' neg=>
          have k4:((q:Int)==0)=false:=(by rw[QF];omega);obtain⟨U4,a4,m4,c4,h4,h5,h6,h7⟩:∃U4 a4 m4 c4,wr=U4/\a5=a4/\m5=m4/\c5=c4:=⟨_,_,_,_,rfl,rfl,rfl,rfl⟩;subst h4 h5 h6 h7;have Q:=H (show Oq V1.heap.size YL U2 wr (.slice a5 m5 c5) (T9++[98,121,116,101,115]++[32]++uy (R.take q)) by have h:=b9.out;rw[Li,GO d4]at h;simpa using h);clear b9 d4
          first|(have:=t;go_upto_region 30 with fail)|go_upto_region 28 with fail
         all_goals
          have⟨a8,m8,c8,U8,b5,o8,_⟩:=(Q.below ld).one [x1,x2] (by have:=a0.out;have:=k3.out;simp only[FC,FN,F1];omega)
          have H8:=H (show Oq V1.heap.size YL U2 U8 (.slice a8 m8 c8) (T9++[98,121,116,101,115]++Li R (q+1)) by rw[Li,GO Z,HJ];simpa using o8)
          rw[show bv [x1,x2]=[.int .u8 (x1.toNat:Int),.int .u8 (x2.toNat:Int)]from rfl]at b5
          clear o8 Q
          refine wp_region_held (S:=λ_=>True) E ?_
          simp only[FX,FN,F1,Nat.reduceAdd,FP,FO,FY,FV,F5]
          have hS:True:=trivial
          iterate 7 (refine py (S:=λ_=>True) hS ?_;simp only[f0,f1,Nat.reduceAdd,lz,l0,ls])
          refine po 7 λK' hK=>?_
          go_simp
          refine hK _ _ ⟨trivial,?_⟩
          clear hK K'
          refine gu 8 ?_
          refine ur b5 ⟨trivial,?_⟩
          refine py (S:=λ_=>True) hS ?_;simp only[f0,f1,Nat.reduceAdd,lz,l0,ls]
          refine bY ?_
          go_wp2_with fail
          go_roundw
          exact⟨q+1,a8,m8,c8,Z,aY,rfl,H8⟩
          exact QE
        obtain rfl:q=n9:=Z;have k0:¬(q:Int)<(q:Int):=Z;have H6:=H (show Oq V1.heap.size YL U2 wr (.slice a5 m5 c5) (T9++OI 5 ⟨0,O,S0,R⟩) by
         have h:=b9.out;rw[GJ]at h;have e:[98,121,116,101,115]++Li R q=OI 5 ⟨0,O,S0,R⟩:=by
          have Q:OI 5 ⟨0,O,S0,R⟩=if R=[]then[98,121,116,101,115]else six++uy R:=by unfold OI;rw[GO bH,GO Z,GO Z,GP rfl]
          rw[Q];unfold Li;by_cases h0:R=[];·subst h0;rw[GP rfl,GP (by have:=d9.out;simpa using this.symm)];rfl
          rw[GO h0,GO (λe=>h0 (Ik (d9.trans e))),Ge (by have:=d9.out;omega)];rfl
         rw[<-e];exact h)
        clear b9 g9;have⟨a7,m7,c7,U7,Q,o7,_⟩:=H6.one [10] (by have:=a0.out;have:=i8.out;simp only[FC,FN,F1];omega);have Q:QI 22 (.slice a5 m5 c5) (Vl wr.heap.size 1 1) (wr.alloc (QL #[.int .u8 10] 5)) (.slice a7 m7 c7) U7:=Q;rw[<-d8.out]at o7;have H7:=H o7;clear o7
        go_wp2_with (at_builtin;refine up Q ?_)
        go_roundw;(exact⟨k+1,a7,m7,c7,Z,aY,rfl,H7⟩);exact QE
      case' inr.inr.inr.inr.inl|inr.inr.inr.inr.inr=>
       have⟨a6,m6,c6,U6,b2,o1,_⟩:=O1.str ⟨#[111,107]⟩ (by have:=a0.out;have:(⟨#[111,107]⟩:ByteArray).size=2:=rfl;omega);clear i7 e8 g6 g7 g8;have o1:Oq V1.heap.size YL U2 U6 (.slice a6 m6 c6) (T9++[111,107]):=o1;have H6:=H o1;have z:=d8.out;unfold OI at z;rw[GO bH,GP bH]at z;have d8:=H z;clear o1 z
       first|(have:=t;go_upto_region 32 with(at_builtin;refine up b2 ?_))|go_upto_region 30 with(at_builtin;refine up b2 ?_)
      all_goals
       have⟨a7,m7,c7,U7,Q,o7,_⟩:=H6.one [10] (by have:=a0.out;have:=i8.out;simp only[FC,FN,F1];omega)
       have Q:QI 22 (.slice a6 m6 c6) (Vl U6.heap.size 1 1) (U6.alloc (QL #[.int .u8 10] 5)) (.slice a7 m7 c7) U7:=Q
       rw[<-d8.out]at o7
       have H7:=H o7
       clear o7 H6
       go_wp2_with (at_builtin;refine up Q ?_)
       go_roundw
       exact⟨k+1,a7,m7,c7,Z,aY,rfl,H7⟩
       exact QE
     obtain rfl:k=N:=Z;have j7:¬(k:Int)<(k:Int):=Z;have hT:=HE.out;have M:=g4.out k;have O:=b3.out;rw[Ge (by rw[Gz];have:=HV.out;omega),Ge (by have:=HV.out;omega)]at M O;rw[<-GJ]at hT;generalize joinL (m_ bL)++joinL (qY (s.ops.map λo=>(o.kind:Int)) (vX s).2)=T9 at hT M O;generalize bz (vX s).1.m 283=z at*;generalize (vX s).1.used=G at*;have Q:joinL [JX z G]=[99,111,109,109,105,116,116,101,100,32]++dec z++[32,117,115,101,100,32]++dec G++[10]:=(by simp[joinL,JX]);have d4:=H (show T=T9++[99,111,109,109,105,116,116,101,100,32]++dec z++[32,117,115,101,100,32]++dec G++[10] by rw[hT,Q];simp);have wc:IntKind.u64.wrap (z:Int)=(z:Int):=(by rw[IntKind.wrap_u64];omega);have L:IntKind.u64.wrap (G:Int)=(G:Int):=(by rw[IntKind.wrap_u64];omega);have CN:Hid (∀V:QM,Ky (· =5) wr V->V.cell? (Qz X 2)=some (I (z:Int))/\V.cell? (Qz X 9)=some (I (G:Int))):=(λV K=>by have h:=K.XC ((e4 _ _ _ b3 X b8 b7).trans RB.1);rw[ac h,ac h];exact QB)
     have R:=kX z Z;have Y:=kX G Z;have⟨a1,m1,c1,U3,b2,k1,w⟩:=(O.below ld).num2 HF ⟨#[99,111,109,109,105,116,116,101,100,32]⟩ z Z (Fx M ar) ar;have HZ:=H (IT M (IT R (IT Y i3)));clear hT M O Q b3 RB R Y j6 i3 i4;generalize R:(z:Int)=M at*;generalize Q:(G:Int)=O at*;have d8:=H Q;clear R Q;go_wp2_with fail;have kD:Ky (· =5) wr wr.drew:=Ky.below ld;refine rh (S:=λV:QM=>V.cell? (Qz X 2)=some (I M)/\V.cell? (Qz X 9)=some (I O)) ?_;have hS:=CN.out _ kD;refine py hS ?_;simp only[f0,f1,Nat.reduceAdd,lz,l0,ls];refine pq 2 hS ?_;simp only[lz,l0,ls];refine pq 3 hS ?_;simp only[lz,l0,ls];refine pq 4 hS ?_;simp only[lz,l0,ls];refine pq 5 hS ?_;simp only[lz,l0,ls];have hS:=CN.out _ (kD.trans k1);refine gu 1 ?_;refine ur b2 ⟨hS,?_⟩;refine po 6 λK' hK=>?_;go_simp;refine w.mono ?_;rintro e U5⟨g2,c2,a6,m6,c6,U6,rfl,bt,b4,o2,k2⟩;have k5:=(kD.trans k1).trans (Ky.below bt);refine hK _ _ ⟨(CN U5 k5),?_⟩;clear hK K';have hS:=CN.out _ (k5.trans k2);refine gu 7 ?_;refine ur b4 ⟨hS,?_⟩
     refine pk 8 (.slice a6 m6 c6) hS ?_
     refine bY ?_;have o2:Oq V1.heap.size YL U2 U6 (.slice a6 m6 c6) (T9++[99,111,109,109,105,116,116,101,100,32]++dec z):=o2;have kD:Ky (· =5) wr U6.drew:=(k5.trans k2).trans (Ky.below ld)
     first
     |
      have:=t
      have⟨a1,m1,c1,U3,b2,k1,w⟩:=(o2.below ld).num2 HF ⟨#[32,117,115,101,100,32]⟩ G (by have:=HZ.out;omega) (by have:=HZ.out;simp only[FC,FN,F1];omega) ar
      rw[d8]at w
      clear o2 b4 k2 k5 hS bt
      go_wp2_with fail
      refine wp_region_held (S:=λV:QM=>V.cell? (Qz X 2)=some (I M)/\V.cell? (Qz X 9)=some (I O)) E ?_
      simp only[FX,FN,F1,Nat.reduceAdd,FP,FO,FY,FV,F5]
      have hS:=CN.out _ kD
      refine py hS ?_;simp only[f0,f1,Nat.reduceAdd,lz,l0,ls]
      refine pq 2 hS ?_;simp only[lz,l0,ls]
      refine pq 3 hS ?_;simp only[lz,l0,ls]
      refine pq 4 hS ?_;simp only[lz,l0,ls]
      refine pq 5 hS ?_;simp only[lz,l0,ls]
      have hS:=CN.out _ (kD.trans k1)
      refine gu 1 ?_
      refine ur b2 ⟨hS,?_⟩
      refine po 6 λK' hK=>?_
      go_simp
      refine w.mono ?_
      rintro e U5⟨g2,c2,a7,m7,c7,U7,rfl,bt,b4,o2,k2⟩
      have k5:=(kD.trans k1).trans (Ky.below bt)
      refine hK _ _ ⟨(CN U5 k5),?_⟩
      clear hK K'
      have hS:=CN.out _ (k5.trans k2)
      refine gu 7 ?_
      refine ur b4 ⟨hS,?_⟩
      refine pk 8 (.slice a7 m7 c7) hS ?_
      refine bY ?_
      have o2:Oq V1.heap.size YL U2 U7 (.slice a7 m7 c7) (T9++[99,111,109,109,105,116,116,101,100,32]++dec z++[32,117,115,101,100,32]++dec G):=o2
      have⟨a8,m8,c8,U8,b5,o8,_⟩:=o2.one [10] (by have:=HZ.out;simp only[FC,FN,F1];omega)
      have b5:QI 22 (.slice a7 m7 c7) (Vl U7.heap.size 1 1) (U7.alloc (QL #[.int .u8 10] 5)) (.slice a8 m8 c8) U8:=b5
      have H8:=H o8
      clear o8 o2 b2 b4 k1 k2 k5 kD hS bt w
      go_wp2_with (at_builtin;refine up b5 ?_)
      go_ret
      exact To9.of BV B2 (by rw[d4];exact H8) (by rw[d4];simp)
     |
      have e8:=H (o2.below ld)
      have e6:=H (show(T9++[99,111,109,109,105,116,116,101,100,32]++dec z).length<=1000000000 by have:=HZ.out;simp only[FC,FN,F1];omega)
      have d9:=H (show G<18446744073709551616 by have:=HZ.out;omega)
      have Q:=H (kX G d9)
      have⟨a1,m1,c1,U3,b2,o1,k1⟩:=(o2.below ld).str ⟨#[32,117,115,101,100,32]⟩ (by have:=e6.out;have:(⟨#[32,117,115,101,100,32]⟩:ByteArray).size=6:=rfl;omega)
      have w:=Co HF G d9 U3
      rw[d8]at w
      have H1:=H o1
      clear o2 b4 k2 k5 hS bt o1
      go_wp2_with fail
      refine wp_region_held (S:=λV:QM=>V.cell? (Qz X 2)=some (I M)/\V.cell? (Qz X 9)=some (I O)) E ?_
      simp only[FX,FN,F1,Nat.reduceAdd,FP,FO,FY,FV,F5]
      have hS:=CN.out _ kD
      refine py hS ?_;simp only[f0,f1,Nat.reduceAdd,lz,l0,ls]
      refine pq 2 hS ?_;simp only[lz,l0,ls]
      refine pq 3 hS ?_;simp only[lz,l0,ls]
      refine pq 4 hS ?_;simp only[lz,l0,ls]
      refine pq 5 hS ?_;simp only[lz,l0,ls]
      refine lZ [1,8] λi9 b3=>?_
      rcases(by simpa using b3:i9=1\/i9=8)with b3|b3
      case' inr=>
       subst b3;refine cw λK' hK=>?_;go_simp;have⟨O8,B8,R8⟩:=e8.al10 B2;have R:=kD.trans (Ky.below ((Fu _ U6.drew).alloc gi (QL #[.int .u8 10] 5)));refine hK _ _ ⟨CN _ R,?_⟩;clear hK K';have⟨b1,n1,d1,V3,g5,p1,q1⟩:=O8.str ⟨#[32,117,115,101,100,32]⟩ (by have:=e6.out;have:(⟨#[32,117,115,101,100,32]⟩:ByteArray).size=6:=rfl;omega);have Y:=Co HF G d9 V3;rw[d8]at Y;refine gu 1 ?_;refine ur g5 ⟨CN _ (R.trans q1),?_⟩;refine po 6 λK' hK=>?_
       go_simp;refine Y.mono ?_;rintro e V5⟨g2,c2,rfl,A,bt⟩;have K5:=(R.trans q1).trans (Ky.below bt);refine hK _ _ ⟨CN V5 K5,?_⟩;clear hK K';have⟨a7,m7,c7,V7,b9,o7,k7⟩:=(p1.below bt).row (c:=c2) (RowV.ofOwns A) (by have:=HZ.out;have:=Q.out;simp only[FC,FN,F1];omega);refine gu 7 ?_;refine ur b9 ⟨CN V7 (K5.trans k7),?_⟩;have k9:=K5.trans k7;have⟨a8,m8,c8,V8,b5,o8,k8⟩:=o7.row (c:=1) (o7.rk2 R8 gi) (by have:=HZ.out;have:=Q.out;simp only[FC,FN,F1];omega);have a0:=k9.trans k8;have H8:=H o8
      case' inl=>
       subst b3;refine ur b2 ⟨CN _ (kD.trans k1),?_⟩;refine lZ [6,8] λi9 b3=>?_;rcases(by simpa using b3:i9=6\/i9=8)with b3|b3
       case' inl.inr=>
        subst b3;refine cw λK' hK=>?_;go_simp;have⟨O8,B8,R8⟩:=H1.al10 B2;have R:=(kD.trans k1).trans (Ky.below ((Fu _ U3).alloc gi (QL #[.int .u8 10] 5)));refine hK _ _ ⟨CN _ R,?_⟩;clear hK K';have Y:=Co HF G d9 (U3.alloc (QL #[.int .u8 10] 5));rw[d8]at Y;refine po 6 λK' hK=>?_
        go_simp;refine Y.mono ?_;rintro e V5⟨g2,c2,rfl,A,bt⟩;have K5:=R.trans (Ky.below bt);refine hK _ _ ⟨CN V5 K5,?_⟩;clear hK K';have⟨a7,m7,c7,V7,b9,o7,k7⟩:=(O8.below bt).row (c:=c2) (RowV.ofOwns A) (by have:=HZ.out;have:=Q.out;simp only[FC,FN,F1];omega);refine gu 7 ?_;refine ur b9 ⟨CN V7 (K5.trans k7),?_⟩;have k9:=K5.trans k7;have⟨a8,m8,c8,V8,b5,o8,k8⟩:=o7.row (c:=1) (o7.rk2 R8 gi) (by have:=HZ.out;have:=Q.out;simp only[FC,FN,F1];omega);have a0:=k9.trans k8;have H8:=H o8
       case' inl.inl=>
        subst b3;refine cw λK' hK=>?_;go_simp;refine w.mono ?_;rintro e V5⟨g2,c2,rfl,A,bt⟩;have K5:=(kD.trans k1).trans (Ky.below bt);refine hK _ _ ⟨CN V5 K5,?_⟩;clear hK K';refine lZ [7,8] λi9 b3=>?_
        rcases(by simpa using b3:i9=7\/i9=8)with b3|b3
        case' inl.inl.inr=>subst b3;refine cw λK' hK=>?_;go_simp;have⟨O8,B8,R8⟩:=(H1.below bt).al10 B2;have R:=K5.trans (Ky.below ((Fu _ V5).alloc gi (QL #[.int .u8 10] 5)));refine hK _ _ ⟨CN _ R,?_⟩;clear hK K';have⟨a7,m7,c7,V7,b9,o7,k7⟩:=O8.row (c:=c2) (RowV.ofOwns (A.below ((Fu _ V5).alloc gi (QL #[.int .u8 10] 5)))) (by have:=HZ.out;have:=Q.out;simp only[FC,FN,F1];omega);refine gu 7 ?_;refine ur b9 ⟨CN V7 (R.trans k7),?_⟩;have k9:=R.trans k7;have⟨a8,m8,c8,V8,b5,o8,k8⟩:=o7.row (c:=1) (o7.rk2 R8 gi) (by have:=HZ.out;have:=Q.out;simp only[FC,FN,F1];omega);have a0:=k9.trans k8;have H8:=H o8
        case' inl.inl.inl=>subst b3;have⟨a7,m7,c7,V7,b9,o7,k7⟩:=(H1.below bt).row (c:=c2) (RowV.ofOwns A) (by have:=HZ.out;have:=Q.out;simp only[FC,FN,F1];omega);refine ur b9 ⟨CN V7 (K5.trans k7),?_⟩;refine po 8 λK' hK=>?_;go_simp;have⟨O8,B8,R8⟩:=o7.al10 B2;have R:=(K5.trans k7).trans (Ky.below ((Fu _ V7).alloc gi (QL #[.int .u8 10] 5)));refine hK _ _ ⟨CN _ R,?_⟩;clear hK K';have⟨a8,m8,c8,V8,b5,o8,k8⟩:=O8.row (c:=1) R8 (by have:=HZ.out;have:=Q.out;simp only[FC,FN,F1];omega);have a0:=R.trans k8;have H8:=H o8
      all_goals
       refine gu 9 ?_
       refine ur b5 ⟨CN V8 a0,?_⟩
       have hS:=CN.out V8 a0
       refine pk 10 (.slice a8 m8 c8) hS ?_
       refine bY ?_
       go_wp2_with fail
       go_ret
       exact To9.of BV B8 (by rw[d4];exact H8) (by rw[d4];simp)
def Res.mono{b:Nat}{s dv ov bd ps}(h:Res B W s dv ov bd ps)(a:b<=B):Res b W s dv ov bd ps:=
 ⟨dm h.dt a,dm h.op a,h.eq,λp c=>dm (h.dd p c) a,dm h.bdo a,h.ap,h.pw⟩
def NE{n:Nat}{l:List UInt8}(b:l.length=n)(a:RowV w g 5 (bv l)):(convert 22 9 (Vl g n c)).run prog w=.ok (.string (bs l)) w:=by have h:=I5 a 0 n c Z;rw[IE,Ge Z]at h;exact h
def Res.row{B W s dv ov bd ps R cs}(h:Res B W s dv ov bd ps)(a:Bx W R 27 cs)(c:Array QN):Res B (W.setRow R c) s dv ov bd ps:=by let b:=K2.row a ar c;exact⟨dG h.dt (a.apart h.dt ar) _,dG h.op (a.apart h.op ar) _,h.eq,λp d=>b.own (h.dd p d) ar,dG h.bdo (a.apart h.bdo ar) _,h.ap,h.pw⟩
def GN(g){n:Nat}(c)(l:List UInt8)(N a1:Addr)(mx w)(m:l.length=n)(a8:n<=1048576)(k:RowV w g 5 (bv l))(o:QG w 0 0 (.iface 399 (.pointer (some N))))(p:QG w 1 0 (.iface 399 (.pointer (some a1))))(q:QG w 3 0 (I mx)):
  Calls prog 5 #[Vl g n c] w λe w'=>∃P Q T ps,e=QJ (.tuple #[.agg (OD (kI l).cf P).toArray,Q,T])/\Res w.heap.size w' (kI l) P Q T ps/\D w w':=by
 have⟨K,f⟩:=Qb (w.alloc (QL jx.toArray 27));have d:D w K:=by rw[f];exact(Fu _ w).alloc gi _
 have j:Bx K w.heap.size 27 jx:=by rw[f];exact XD
 have a:=NE (c:=c) m (k.below d k.lt);have i:=NI d o;have TN:=H (λF:20000<n=>Jq (bs l) (.iface 399 (.pointer (some N))) K (by rw[gz];omega) (by rw[gz];omega) i);have TY:=H (λF:¬20000<n=>Lu (bs l) a1 mx K (by rw[gz];omega) (NI d p) (NI d q));rw[kO]at TY;have HZ:=H (λF:20000<n=>show kI l=BK by rw[kI,GP Z]);generalize kI l=s at*;generalize bs l=b at*;have⟨v,t⟩:=y7 d j;have L:=H (show K.heap.size=w.heap.size+1 by rw[f];simp);clear k d j o p q m;go_in;go_upto_region 1 with fail
 refine Eq.mp (congrArg _ f) ?_;clear f;have⟨R,d⟩:=Qb w.heap.size;rw[<-d];have O:=H d;clear d;go_wp2_with fail;by_cases F:20000<n;·refine(TN F).mono ?_;rintro e V⟨rfl,k⟩;have hI:=Jt N V;have x:=NI k i;have u:=H k;clear a i k;go_wp2_with fail;refine hI.mono ?_;rintro e o⟨rfl,rfl⟩;clear hI x;have j:=t.below u t.lt;rw[<-O.out]at j;have G:Hid (o.heap[R]?=some (QL jx.toArray 27)):=H j;have⟨d,X⟩:=y7 (setRow_self o R jx.toArray 27 (0,0) G) (show D w o from v.trans (u.mono v.size));clear j;go_wp2_with (refine Gf rfl 27 _ _ rfl R _ rfl rfl 27 _ G E rfl mL ?_);refine Eq.mp (congrArg _ d.symm) ?_;refine GX (wV dU R 27 (0,0) dU G underlying27 rfl E) dU ?_;rw[HZ F];exact⟨Ef,Ef,Ef,[],rfl,⟨⟨by simp[BK,iv],.inl ⟨rfl,rfl⟩⟩,⟨by simp[wX],.inl ⟨rfl,rfl⟩⟩,rfl,bH,⟨by simp[BK,iv],.inl ⟨rfl,rfl⟩⟩,(λr h=>by cases h),.nil⟩,X⟩
 refine(TY F).mono ?_;rintro e V⟨S,B,P,Q,T,ps,rfl,d,k,f⟩;have hI:=Ko N V;have x:=NI k i;have⟨u,m,Y⟩:=Qe k f d;have a2:=H (show S≠R by have:=L.out;have:=O.out;omega);clear a i k f d;go_wp2_with fail;refine hI.mono ?_;rintro e o⟨rfl,rfl⟩;clear hI x;have j:=t.below u t.lt;rw[<-O.out]at j;have G:Hid (o.drew.heap[R]?=some (QL jx.toArray 27)):=H j;obtain⟨p,a,q,rfl,a3⟩:=Re m.res.dt;obtain⟨r,d,y,rfl,a4⟩:=Re m.res.op;obtain⟨z,f,A,rfl,a5⟩:=Re m.res.bdo;have X:=H (below_setRow (show D w o.drew from(v.trans (u.mono v.size)).drew) (by rw[O];exact gi) (OD s.cf (.slice p a q)).toArray (g:=R));have IY:Bx o.drew R 27 jx:=j;have M:Res B o.drew s (.slice p a q) (.slice r d y) (.slice z f A) ps:=m.res.below ld;have a6:=H (setRow_heap o.drew R _ (OD s.cf (.slice p a q)).toArray 27 (0,0) G);have a7:Hid (Res w.heap.size (o.drew.setRow R (OD s.cf (.slice p a q)).toArray) s (.slice p a q) (.slice r d y) (.slice z f A) ps):=((M.mono (by have:=m.sb;have:=Y.out;have:=L.out;omega)).row IY _);have⟨CN,K0⟩:=y7 (show∀i,Bx i S 57 (OD s.cf (.slice p a q)++[.slice r d y,.slice z f A])->QG i S 0 (I s.cf.mix)/\QG i S 1 (I s.cf.fifo)/\QG i S 2 (I s.cf.large)/\QG i S 3 (I s.cf.budget)/\QG i S 4 (U (s.cf.key:Int))/\QG i S 5 (.slice p a q)/\QG i S 6 (.slice r d y)/\QG i S 7 (.slice z f A)from λi b=>⟨b.cell 0,b.cell 1,b.cell 2,b.cell 3,b.cell 4,b.cell 5,b.cell 6,b.cell 7⟩) (show Bx o.drew S 57 (OD s.cf (.slice p a q)++[.slice r d y,.slice z f A])from m.bx);have K1:=H (show Bx (o.drew.setRow R (OD s.cf (.slice p a q)).toArray) S 57 (OD s.cf (.slice p a q)++[.slice r d y,.slice z f A])from by unfold Bx;rw[setRow_other _ _ _ _ a2];exact K0)
 clear j IY M a3 a4 a5 t;go_wp2_with fail;refine rh (S:=λi=>QG i S 0 (I s.cf.mix)/\QG i S 1 (I s.cf.fifo)/\QG i S 2 (I s.cf.large)/\QG i S 3 (I s.cf.budget)/\QG i S 4 (U (s.cf.key:Int))/\QG i S 5 (.slice p a q)/\QG i S 6 (.slice r d y)/\QG i S 7 (.slice z f A)) ?_;have t:=CN.out _ K0;iterate 12 (refine py t ?_;simp only[f0,f1,Nat.reduceAdd,lz,l0,ls])
 refine gu 12 ?_;refine fB rfl rfl 27 rfl R (OD s.cf (.slice p a q)).toArray rfl rfl 27 G E rfl (nF) ⟨CN _ K1,?_⟩;replace t:=CN.out _ K1;iterate 2 (refine py t ?_;simp only[f0,f1,Nat.reduceAdd,lz,l0,ls])
 refine bY ?_;go_wp2_with fail;refine GX (wV dU R 27 (0,0) dU a6 underlying27 rfl E) dU ?_;exact⟨_,_,_,_,rfl,a7,X⟩
def Np(s:rP):rP:={s with bad:=1::s.bad.map (· + 1)}
def JG(i:Nat)(l s):rZ (i+1) l (Np s)=Np (rZ i l s):=by
 unfold rZ;split;·rfl
 cases tu (cE l [])with
 |some o=>rfl
 |none=>
  show(match ij s.cf (cE l [])with|some c=>_|none=>_)=_;cases ij s.cf (cE l [])with
  |some c=>rfl
  |none=>simp[Np]
def y6:∀(ls:List (List UInt8))(i:Nat)(s:rP),gJ ls (i+1) (Np s)=Np (gJ ls i s)
 |[],_,_=>rfl
 |l::r,i,s=>by rw[gJ,gJ,JG];exact y6 r (i+1) _
def Lv(l:List UInt8)(h:l.length+2<=20000):tell ([63,10]++l)=joinL (m_ (1::(kI l).bad.map (· + 1))++yk (kI l)):=by
 have e:kI ([63,10]++l)=Np (kI l):=by rw[kI,kI,GO bG,GO Z,show kn ([63,10]++l) []=[63]::kn l [] by simp[kn],gJ,show rZ 0 [63] ik=Np ik from rfl];exact y6 _ 0 _
 rw[tell,GO bG,e];rfl
def vZ{g1 g2}{c1 c2}{l}(a:RowM W g1 (bv l))(d:RowM W g2 (bv l)):
  Calls prog 9 #[Vl g1 l.length c1,Vl g2 l.length c2] W λe f=>e=QJ Ql/\f=W:=by
 have b:=λg c(h:RowM W g (bv l))=>run_convert_bytes_back (P:=prog) W 22 9 5 (Qz g 0) c l underlying22 underlying5 underlying9 (λj e=>by rw[Lib.add_plain,Oi];obtain⟨c,k,a,_,i,_⟩:=h;simp[QC,a,i j (by rw[rb];exact e),uE _ _ e])
 have i:=b g1 c1 a;have j:=b g2 c2 d;go_wp2;go_ret;exact QB
def Pq{a1 a2}{g k:Nat}{zs}(b:Sl w a1 zs)(c:Sl w a2 zs)(l:zs.length<=1048576):Calls prog 7 #[.slice a1 zs.length g,.slice a2 zs.length k] w λe m=>e=QJ Ql/\D w m:=by
 have⟨o,p⟩:=y7 b.cells c.cells;have⟨n,a⟩:=Qa zs.length;rw[a]at l⊢;have f:=H a;clear b c a;go_in;go_wp2_with fail;go_loopw [13] (λi wr=>∃j:Nat,j<=n/\i=I j/\Hid (D w wr)) (λi _=>n-(intOf i).toNat);case atStart=>exact⟨0,aa,rfl,H th⟩
 case round=>
  obtain⟨j,q,rfl,b⟩:=hrel;by_cases a:j<n
  ·obtain⟨r,rfl,c⟩:=o.out j (by rw[f];exact a);obtain⟨s,rfl,d⟩:=p.out j (by rw[f];exact a);replace c:=NI b c;replace d:=NI b d;generalize zs[j]?.getD 0=z at c d;(go_upto_region 6 with fail);go_quiet (fail);go_wp2;go_roundw;(exact⟨j+1,Z,aY,H (az b ⟨rfl,rfl,rfl,gi,λ_ _=>rfl⟩)⟩);exact QE
  go_wp2;go_ret;exact⟨rfl,b⟩
