import Derived.Test.YtbcacchkcedffaaGreatDoorM04
import Derived.Test.YtbcacchkcedffaaGreatDoorM06
set_option linter.all false
set_option maxRecDepth 20000
set_option maxHeartbeats 0
namespace Go.Proofs.YtbcacchkcedffaaGreatDoor
open Go.Proofs.Tryz Go.RowKit Go.Maps Go.Shelf Go.ChangeShapes Go.WideShapes Go.ChangeAt
section
variable {W W' w w':World}{B M O S b k n p:Nat}{bd dv ov v:Value}{fs:List Nat}
def PartT(f:Nat)(c:UInt8)(i:Nat):Prop:=∀(j:Addr)(O:Nat)(o:sT)(s:ByteArray)(w:World),s.size<=1048576->0<s.size->w.cell? ⟨1,0,none⟩=some (.iface 399 (.pointer (some j)))->O≠1->Bx w O 63 (opC o OL)->o.data=[]->o.ref=0->o.p=0 ->
 QA f #[J O 0,.string s] w λe w'=>K_ j O w w' (mX c s.data.toList i o) e
def wG{W:QM}{B:Nat}:W.ownsRow B 5 1 OL 0 (xe []):=⟨by simp[xe],.inl ⟨rfl,rfl⟩⟩
def En:PartT 90 80 0:=by
 intro M O o s w hs b3 Y hO r hd b0 iF;let a:mX 80 s.data.toList 0 o=(d_ s.data.toList).map (λx=>{o with ref:=x.1,p:=x.2}):=by rw[mX,GO ar,GP ar]
 rw[a];clear a;let⟨l,N⟩:=Qb s.data.toList;rw[<-N];by_cases x:C5 l=36
 ·have hcut:=λP=>E6 s 36 P (by rw[<-N];exact x) ar
  have⟨t,a⟩:=Qb (s.extract 1 s.size);have a2:t.size<=1048576:=by rw[a,ext_size];omega
  have Q:t.data.toList=l.tail:=by rw[a,sD,N]
  rw[<-a]at hcut;have z:=H (show d_ l=wj l.tail by rw[d_,GP x]);have⟨m,b⟩:=Qb l.tail;rw[<-b]at Q z;have b5:m.length=t.size:=by rw[<-Q];simp
  have d:=Mn t w a2;rw[Q]at d;have R:=H Q;clear a N b x;let b6:=Lh m;by_cases A:OY m<m.length
  .let HA:=H (show yr m=(OY m:Int) by unfold yr;rw[GP A]);rw[HA]at d;let S:=H (show wj m=(dL 10 3 (m.take (OY m))).bind λq=>if q=0 then none else(x7 (m.drop (OY m))).map (λn:Nat=>(q,n)) by
    unfold wj x7;congr 1;funext q;by_cases y:q=0;.rw[GP y,GP y]
    rw[GO y,GO y,GO Z,List.tail_drop,Option.map_map];rfl)
   let⟨c,a⟩:=Qb (OY m);rw[<-a]at d S A;have b4:c<t.size:=Z;refine(let_mvar%?A:=t.extract c t.size;?_);have a6:(?A).data.toList=m.drop c:=by rw[ext_list,R,Ge bG]
   have a7:0<(?A).size:=(by rw[ext_size];omega);clear a A;cases T:x7 (m.drop c)with
   | none=>
    let k:=H (show d_ l=none by
     rw[z,S];cases dL 10 3 (m.take c)with
     |none=>rfl
     |some q=>rw[Option.bind_some,T];split<;>rfl)
    go_enter func90,ntmps90;go_wp2_with fail;apply (hcut _).mono;rintro e w0⟨rfl,rfl⟩;go_wp2_with fail;apply d.mono;rintro e V⟨rfl,j⟩;have B:=Bt ?A M V (by rw[ext_size];omega) a7 (NI j Y) (by rwa[a6]);let G1:=H (gS (O:=some O) j);clear d hcut;go_wp2_with fail;apply B.mono;rintro e w2⟨v,rfl,a,W⟩;let G2:=H (fW G1 (gS W));clear B;rcases a with rfl|⟨b,rfl⟩;.go_wp2_with fail;go_ret;rw[k];exact⟨G2,_,rfl,.inl rfl⟩
    unfold wE;go_wp2_with fail;go_ret;rw[k];exact⟨G2,_,rfl,.inr ⟨b,rfl⟩⟩
   | some p=>
    have B:=λV F=>Bz ?A p M V (by rw[ext_size];omega) a7 F (by rwa[a6])
    refine(let_mvar%?B:=t.extract 0 c;?_);let a8:(?B).data.toList=m.take c:=(by rw[ext_list,R,IE,Nat.sub_zero]);let a9:(?B).size<=1048576:=(by rw[ext_size];omega);go_enter func90,ntmps90;go_wp2_with fail;refine(hcut _).mono ?_;rintro e w0⟨rfl,rfl⟩;go_wp2_with fail;refine d.mono ?_;rintro e V⟨rfl,j⟩;have a:=B V (NI j Y);have a0:=r.below j r.lt;have G1:=H (gS (O:=some O) j);clear d hcut B;go_wp2_with fail;apply a.mono;rintro e w2⟨rfl,W⟩;let G:=a0.below W a0.lt;let G2:=fW G1 (gS W);have c2:w2.cell? (Qz O 2)=some (U (o.p:Int)):=G.cell 2;let f2:=G.free 2;let f:=G.set 2 (U (p:Int));let G3:=au G2 2 (U (p:Int));let K:=OZ G3 Y (by simpa using Iq hO);generalize o.p=b7 at c2;cases g:dL 10 3 (m.take c)with
    |none=>let a:=iT ?B 10 3 M (w2.setCell (Qz O 2) (U (p:Int))) a9 Z Z Z K (by rwa[a8]);unfold wE at a;let k:=H (show d_ l=none by rw[z,S,g];rfl);go_wp2_with fail;apply a.mono;rintro e X⟨rfl,i⟩;let b:=f.below i f.lt;let u:=fW G3 (gS i);have c1:X.cell? (Qz O 1)=some (I (o.ref:Int)):=b.cell 1;let f1:=b.free 1;generalize o.ref=a3 at c1;let L:=H (au u 1 (I 0));go_wp2_with fail;go_ret;rw[k];exact⟨L,_,rfl,.inr ⟨_,rfl⟩⟩
    |some q=>
     let a:=jA ?B 10 3 q M (w2.setCell (Qz O 2) (U (p:Int))) a9 Z Z Z K (by rwa[a8]);let b1:q<1000:=sO g;go_wp2_with fail;apply a.mono;rintro e X⟨rfl,i⟩;let b:=f.below i f.lt;let u:=fW G3 (gS i);let a4:=OZ u Y (by simpa using Iq hO);by_cases y:q=0
     .let a5:((q:Int)==0)=true:=(by rw[beq_iff_eq];omega);let k:=H (show d_ l=none by rw[z,S,g,Option.bind_some,GP y]);let hU:=OE s M X a4;unfold wE at hU;let L:=H u;go_wp2_with (go_at_call 93;apply hU.mono;rintro e P⟨rfl,rfl⟩);go_ret;rw[k];exact⟨L,_,rfl,.inr ⟨_,rfl⟩⟩
     let a5:((q:Int)==0)=false:=(by rw[QF];omega);let k:=H (show d_ l=some (q,p) by rw[z,S,g,Option.bind_some,GO y,T];rfl);let⟨B5,L⟩:=y7 (b.set 1 (I (q:Int))) (au u 1 (I (q:Int)));have c1:X.cell? (Qz O 1)=some (I (o.ref:Int)):=b.cell 1;let f1:=b.free 1;generalize o.ref=a3 at c1;go_wp2_with fail;go_ret;rw[k];refine⟨L,rfl,OL,?_,?_,λ_=>rfl⟩;.exact B5
     show World.ownsRow _ _ _ _ _ (List.length o.data) (xe o.data);rw[hd];exact wG
  let HA:=H (show yr m = -1 by unfold yr;rw[GO A]);rw[HA]at d;let c:OY m=m.length:=Z;let S:=H (show wj m=(dL 10 3 m).bind λq=>if q=0 then none else some (q,0) by unfold wj;rw[c,G9];congr 1;funext q;simp)
  go_enter func90,ntmps90;go_wp2_with fail;apply (hcut _).mono;rintro e w0⟨rfl,rfl⟩;go_wp2_with fail;apply d.mono;rintro e c⟨rfl,j⟩;let f:=r.below j r.lt;let G3:=gS (O:=some O) j;let K:=NI j Y;cases g:dL 10 3 m with
  |none=>let a:=iT t 10 3 M c a2 Z Z Z K (by rwa[R]);unfold wE at a;let k:=H (show d_ l=none by rw[z,S,g];rfl);go_wp2_with fail;apply a.mono;rintro e X⟨rfl,i⟩;let b:=f.below i f.lt;let u:=fW G3 (gS i);have c1:X.cell? (Qz O 1)=some (I (o.ref:Int)):=b.cell 1;let f1:=b.free 1;generalize o.ref=a3 at c1;let L:=H (au u 1 (I 0));go_wp2_with fail;go_ret;rw[k];exact⟨L,_,rfl,.inr ⟨_,rfl⟩⟩
  |some q=>
   let a:=jA t 10 3 q M c a2 Z Z Z K (by rwa[R]);let b1:q<1000:=sO g;go_wp2_with fail;apply a.mono;rintro e X⟨rfl,i⟩;let b:=f.below i f.lt;let u:=fW G3 (gS i);let a4:=OZ u Y (by simpa using Iq hO);by_cases y:q=0
   .let a5:((q:Int)==0)=true:=(by rw[beq_iff_eq];omega);let k:=H (show d_ l=none by rw[z,S,g,Option.bind_some,GP y]);let hU:=OE s M X a4;unfold wE at hU;let L:=H u;go_wp2_with (go_at_call 93;apply hU.mono;rintro e P⟨rfl,rfl⟩);go_ret;rw[k];exact⟨L,_,rfl,.inr ⟨_,rfl⟩⟩
   let a5:((q:Int)==0)=false:=(by rw[QF];omega);let⟨k,B5,L⟩:=Qe (show d_ l=some (q,0) by rw[z,S,g,Option.bind_some,GO y]) (b.set 1 (I (q:Int))) (au u 1 (I (q:Int)));have c1:X.cell? (Qz O 1)=some (I (o.ref:Int)):=b.cell 1;let f1:=b.free 1;generalize o.ref=a3 at c1;go_wp2_with fail;go_ret;rw[k];refine⟨L,rfl,OL,?_,?_,λ_=>rfl⟩
   .let F:=B5.out;let A:(opC o OL).set 1 (I (q:Int))=opC {o with ref:=q,p:=0} OL:=(by rw[<-iF];rfl);rw[A]at F;exact F
   rw[hd];exact wG
 let hcut:=λP=>I9 s 36 P (by rwa[<-N])
 let z:=H (show d_ l=(dL 10 20 l).map (λn:Nat=>(0,n)) by rw[d_,GO x]);cases f:dL 10 20 l with
 |none=>
  let a:=λP F=>iT s 10 20 M P hs Z Z Z F (by rwa[<-N])
  unfold wE at a;let k:=H (show d_ l=none by rw[z,f];rfl);go_enter func90,ntmps90;go_wp2_with fail;apply (hcut _).mono;rintro e w0⟨rfl,rfl⟩;let b:=a _ Y;go_wp2_with fail;apply b.mono;rintro e V⟨rfl,d⟩;let c:=r.below d r.lt;have c2:V.cell? (Qz O 2)=some (U (o.p:Int)):=c.cell 2;let f2:=c.free 2;generalize o.p=g at c2;go_wp2_with fail;go_ret;rw[k];exact⟨au (gS d) 2 _,_,rfl,.inr ⟨_,rfl⟩⟩
 |some n=>
  let a:=λP F=>jA s 10 20 n M P hs Z Z Z F (by rwa[<-N])
  let k:=H (show d_ l=some (0,n) by rw[z,f];rfl);go_enter func90,ntmps90;go_wp2_with fail;apply (hcut _).mono;rintro e w0⟨rfl,rfl⟩;let b:=a _ Y;go_wp2_with fail;apply b.mono;rintro e V⟨rfl,d⟩;let c:=r.below d r.lt;let i:=H (c.set 2 (U (n:Int)));have c2:V.cell? (Qz O 2)=some (U (o.p:Int)):=c.cell 2;let f2:=c.free 2;generalize o.p=g at c2;go_wp2_with fail;go_ret;rw[k];refine⟨au (gS d) 2 _,rfl,OL,?_,?_,λ_=>rfl⟩
  .let F:=i.out;let A:(opC o OL).set 2 (U (n:Int))=opC {o with ref:=0,p:=n} OL:=(by rw[<-b0];rfl);rw[A]at F;exact F
  rw[hd];exact wG
def wx(s:rP)(ws:List (List UInt8)):Option rP:=(dw ws).bind λns=>if ns.length=4 then some {s with cf:={s.cf with mix:=ns.getD 0 0,fifo:=ns.getD 1 0,large:=ns.getD 2 0,budget:=ns.getD 3 0}}else none
def Jk(B S)(P:Addr)(sa)(m c:Nat)(n:List (List UInt8))(s dv ov bd ps w)(b:Ss B S w s dv ov bd ps)(d:m=n.length)(f:Wd w sa n)(Q:m<=1048576)(a:∀x∈n,x.length<=1048576)(h1:QG w 1 0 (.iface 399 (.pointer (some P)))):
  QA 84 #[.pointer (some (Qz S 0)),.slice sa m c] w λe w'=>OrdP B S P w w' s (wx s n) e:=by
 have hI:=xV sa m c n P w d f Q a h1;have o:=H b;clear f a b d;cases q:dw n with
 |none=>
  rw[q]at hI;have A:=H (show wx s n=none by rw[wx,q];rfl);clear q;go_enter func84,ntmps84;go_wp2_with fail;refine hI.mono ?_;rintro e k⟨l,v,rfl,a⟩;let O:=H (o.below l);clear hI;rcases a with rfl|⟨b,rfl⟩
  .go_wp2_with fail;go_ret;rw[A];exact OrdP.no (Gb.below l o.bw) (.inl rfl) O
  ·unfold wE;go_wp2_with fail;go_ret;rw[A];exact OrdP.no (Gb.below l o.bw) (.inr ⟨b,rfl⟩) O
 |some f=>
 rw[q]at hI;by_cases F:f.length=4
 ·refine(let_mvar%?A:=f.getD 0 0;let_mvar%?B:=f.getD 1 0;let_mvar%?C:=f.getD 2 0;let_mvar%?D:=f.getD 3 0;?_);have A:=H (show wx s n=some {s with cf:={s.cf with mix:=?A,fifo:=?B,large:=?C,budget:=?D}} by rw[wx,q,Option.bind_some,GP F]);clear q;go_enter func84,ntmps84;go_wp2_with fail;apply hI.mono;rintro e k⟨l,a,rfl,g⟩;let d:=o.below l;obtain⟨b,t,rfl,a2⟩:∃b t,a=.slice (some (Qz b 0)) 4 t/\w.heap.size<=b:=by
   rcases g.2 with⟨G,h8⟩|⟨g9,c9,a3,G,R,_⟩;.omega
   .rw[F]at G;exact⟨g9,c9,G,R⟩
  let x:RowV k b 3 (iv f):=by rw[<-F]at g;exact RowV.ofOwns g
  have r:b≠S:=by have:=o.bw;have:=o.sb;omega
  have R0:=x;have K:Hid (∀j,RowV j b 3 (iv f)->QG j b 0 (.int .i64 (?A))/\QG j b 1 (.int .i64 (?B))/\QG j b 2 (.int .i64 (?C))/\QG j b 3 (.int .i64 (?D))):=(λj G=>by
   have u:∀i,i<4->j.cell? (Qz b i)=some (.int .i64 (f.getD i 0)):=λi q=>by rw[G.cell i (by simp[iv];omega)];have y:i<f.length:=Z;simp[iv,y]
   exact⟨u 0 Z,u 1 Z,u 2 Z,u 3 Z⟩)
  have i:=d.below ld;have S4:=H ((((i.cf 0 (.int .i64 (?A)) {s.cf with mix:=?A} rfl rfl).cf 1 (.int .i64 (?B)) {s.cf with mix:=?A,fifo:=?B} rfl rfl).cf 2 (.int .i64 (?C)) {s.cf with mix:=?A,fifo:=?B,large:=?C} rfl rfl).cf 3 (.int .i64 (?D)) {s.cf with mix:=?A,fifo:=?B,large:=?C,budget:=?D} rfl rfl);have u:Gb B S w k.drew:=(Gb.below l o.bw).trans ⟨rfl,rfl,rfl,gi,λ_ _ _=>rfl⟩;have G4:=H ((((u.set 0 (.int .i64 (?A))).set 1 (.int .i64 (?B))).set 2 (.int .i64 (?C))).set 3 (.int .i64 (?D)));have c0:k.cell? (Qz S 0)=some (.int .i64 s.cf.mix):=d.bx.cell 0;have c1:k.cell? (Qz S 1)=some (.int .i64 s.cf.fifo):=d.bx.cell 1;have c2:k.cell? (Qz S 2)=some (.int .i64 s.cf.large):=d.bx.cell 2;have c3:k.cell? (Qz S 3)=some (.int .i64 s.cf.budget):=d.bx.cell 3;have f0:=d.bx.free 0;have f1:=d.bx.free 1;have f2:=d.bx.free 2;have f3:=d.bx.free 3;generalize ?A=T at*;generalize ?B=V at*;generalize ?C=X at*;generalize ?D=Y at*;let R1:=H (R0.other (p:=(Qz S 0)) r (.int .i64 T));let R2:=H (R1.other (p:=(Qz S 1)) r (.int .i64 V));let R3:=H (R2.other (p:=(Qz S 2)) r (.int .i64 X));generalize s.cf.mix=m0 at c0;generalize s.cf.fifo=m1 at c1;generalize s.cf.large=m2 at c2;generalize s.cf.budget=m3 at c3;clear hI d g x i u F;go_wp2_with fail;refine wp_region_held (S:=λj=>QG j b 0 (.int .i64 T)/\QG j b 1 (.int .i64 V)/\QG j b 2 (.int .i64 X)/\QG j b 3 (.int .i64 Y)) E ?_;simp[FX,FN,F1,Nat.reduceAdd,FP,FO,FY,FV,F5];let d:=K.out _ R0;(iterate 5 apply PX 0 d);refine pf 5 (.pointer (some (Qz b 0))) rfl d (λW d=>by obtain⟨u,x,y,z⟩:=d;first|(go_simp;done)|(go_simp;omega)) ?_;refine pf 6 (.int .i64 T) rfl d (λW d=>by obtain⟨u,x,y,z⟩:=d;first|(go_simp;done)|(go_simp;omega)) ?_;apply PX 7 d;refine pf 8 (.pointer (some (Qz b 1))) rfl d (λW d=>by obtain⟨u,x,y,z⟩:=d;first|(go_simp;done)|(go_simp;omega)) ?_;refine pf 9 (.int .i64 V) rfl d (λW d=>by obtain⟨u,x,y,z⟩:=d;first|(go_simp;done)|(go_simp;omega)) ?_;apply PX 10 d;refine pf 11 (.pointer (some (Qz b 2))) rfl d (λW d=>by obtain⟨u,x,y,z⟩:=d;first|(go_simp;done)|(go_simp;omega)) ?_;refine pf 12 (.int .i64 X) rfl d (λW d=>by obtain⟨u,x,y,z⟩:=d;first|(go_simp;done)|(go_simp;omega)) ?_;apply PX 13 d;refine pf 14 (.pointer (some (Qz b 3))) rfl d (λW d=>by obtain⟨u,x,y,z⟩:=d;first|(go_simp;done)|(go_simp;omega)) ?_;refine pf 15 (.int .i64 Y) rfl d (λW d=>by obtain⟨u,x,y,z⟩:=d;first|(go_simp;done)|(go_simp;omega)) ?_;(iterate 2 apply PX 16 d);refine po 18 λK' i=>?_;go_simp
  let L:=K.out _ R1;refine i _ _ ⟨L,?_⟩;clear d;let d:=L;clear i K';(iterate 2 apply PX 19 d);refine po 21 λK' i=>?_;go_simp
  let M:=K.out _ R2;refine i _ _ ⟨M,?_⟩;clear d;let d:=M;clear i K';(iterate 2 apply PX 22 d);refine po 24 λK' i=>?_;go_simp
  let N:=K.out _ R3;refine i _ _ ⟨N,?_⟩;clear d;let d:=N;clear i K';(iterate 2 apply PX 25 d);refine po 27 λK' i=>?_;go_simp
  have a0:=K.out _ (H (R3.other (p:=(Qz S 3)) r (.int .i64 Y)));refine i _ _ ⟨a0,?_⟩;clear d;clear i K';refine bY ?_;go_wp2_with fail;go_ret;rw[A];exact OrdP.yes G4 S4
 ·have A:=H (show wx s n=none by rw[wx,q,Option.bind_some,GO F]);clear q;go_enter func84,ntmps84;go_wp2_with fail;refine hI.mono ?_;rintro e k⟨l,a,rfl,g⟩;have O:=H (o.below l);obtain⟨r,d,t,rfl,b⟩:=Re g;have i:((d:Int) !=4)=true:=bG;have j:=NI l h1;clear hI g b F;go_wp2_with fail;go_ret;rw[A];exact OrdP.no (Gb.below l o.bw) (.inl rfl) O
structure ClS(B S:Nat)(W:QM)(Pb Kb Sb Pr k:Nat)(fs:List Nat):Prop where
 pb:W.cell? (Qz Pb 0)=some (Vl Pr fs.length fs.length)
 kb:W.cell? (Qz Kb 0)=some (I (k:Int))
 sb:W.cell? (Qz Sb 0)=some (J S 0)
 pr:∀j f,fs[j]?=some f->W.cell? (Qz Pr j)=some (.func (.func f) #[] #[])
 lt:(Pb<B/\Kb<B/\Sb<B/\Pr<B)/\Pb≠S/\Kb≠S/\Sb≠S/\Pr≠S
def LR{g i:Nat}{v:QN}(h:g≠S):(W.setCell (Qz S i) v).cell? (Qz g 0)=W.cell? (Qz g 0):=by unfold World.cell?;rw[XB h]
def L8(fs:List Nat)(form:List UInt8)(k:Nat)(s:rP)(ws:List (List UInt8)):Option rP:=if ws.length=fs.length then(eD form ws 0 ⟨k,0,0,0,0,[]⟩).map (λo=>{s with ops:=s.ops++[o]})else none
def J3{c l o}{d:sT}(h:mX c l n o=some d)(a:c.toNat=78\/c.toNat=80):d.data=o.data:=by
 unfold mX at h;rcases a with a|a
 .rw[GP a]at h;cases b:dL 10 20 l with
  |none=>rw[b]at h;cases h
  |some q=>rw[b]at h;simp at h;subst h;split<;>rfl
 rw[GO Z,GP a]at h;cases b:d_ l with
 |none=>rw[b]at h;cases h
 |some q=>rw[b]at h;simp at h;subst h;rfl
def yw{e sz:Nat}{a:List QN}(h:W.ownsRow B e sz v n a)(g:W.grownBy W' (some O))(b:∀r,v.ownBlock=some r->r≠O):W'.ownsRow B e sz v n a:=h.kept g (by
 cases c:v.ownBlock with
 |none=>exact .inl rfl
 |some r=>exact .inr (λa=>b r c (by cases a;rfl)))
def Ss.off{s ps cs}(h:Ss B S W s dv ov bd ps)(g:W.grownBy W' (some O))(k:B<=O)(b:O=W.heap.size\/Bx W O 63 cs)(d:ov.ownBlock≠some O):Ss B S W' s dv ov bd ps:=by
 have a:∀{e sz n:Nat}{v:QN}{c:List QN},W.ownsRow B e sz v n c->e≠63->∀r,v.ownBlock=some r->r≠O:=λf j r c e=>by
  rcases b with b|b;·have:=(f.lt r c).2;omega
  exact b.apart f (Iq j) (by rw[c,e])
 exact⟨(g.block S h.bx.lt (by have:=h.sb;simp;omega)).trans h.bx,⟨yw h.res.dt g (a h.res.dt ar),yw h.res.op g (λr c e=>d (by rw[c,e])),h.res.eq,λp i=>yw (h.res.dd p i) g (a (h.res.dd p i) ar),yw h.res.bdo g (a h.res.bdo ar),h.res.ap,h.res.pw⟩,h.sb,Fx h.bw g.size⟩
def Gb.ofG(g:W.grownBy W' (some O))(a:B<=O)(b:B<=W.heap.size):Gb B S W W':=⟨g.os,g.tape,g.output,g.size,λk c _=>g.block k Z bG⟩
def Ss.opMore{s ps}(h:Ss B S W s dv ov bd ps)(o:sT)(b:QN)(l:Nat)(n:W.ownsRow l 5 1 b o.data.length (xe o.data))(t:B<=l)(i:∀p∈ps,∀r,p.2.ownBlock=some r->r<l)(K:s.ops.length<=2000000):
  ∃d W',QI 28 ov (Vl W.heap.size 1 1) (W.alloc (QL (opC o b).toArray 63)) d W'/\Bx W' S 57 (OD s.cf dv++[ov,bd])/\Gb B S W W'/\W.grownBy W' ov.ownBlock/\(∃a m c,d=.slice a m c)/\Ss B S (W'.setCell (Qz S 6) d) {s with ops:=s.ops++[o]} dv d bd (ps++[(o,b)]):=by
 have⟨d,W',z,v,f⟩:=DL Nj h.res.op h.bw (opC o b).toArray (by simp[opC]) (by obtain⟨a,m,c,rfl,_⟩:=Re n;intro u e;simp[opC]at e;rcases e with rfl|rfl|rfl|rfl|rfl|rfl<;>rfl) (by have:=congrArg List.length h.res.eq;simp at this;omega)
 have w:K2 W W':=K2.grown f h.res.op ar;have g:=h.bx.grown f (h.bx.apart h.res.op ar);have A:=(Gb.refl B S W).grown f (λr e=>(h.res.op.lt r e).1) h.bw;have⟨a,m,c,hv,_⟩:=Re v;have j:=h.res.dt.kept f (OH h.res.dt h.res.op ar);have k:=h.res.bdo.kept f (OH h.res.bdo h.res.op ar);have x:W'.ownsRow B 63 6 d (ps++[(o,b)]).length (wX (ps++[(o,b)])):=by rw[zE,FC];exact v
 refine⟨d,W',z,g,A,f,⟨a,m,c,hv⟩,⟨by simpa[OD]using g.set 6 d,⟨fY j (g.apart j ar) d,fY x (g.apart x ar) d,by simp[h.res.eq],λp e=>?_,fY k (g.apart k ar) d,h.res.ap,?_⟩,h.sb,by have:=h.bw;have:=f.size;simp[World.setCell];omega⟩⟩
 ·have q:W'.ownsRow B 5 1 p.2 p.1.data.length (xe p.1.data):=by
   rcases F8.1 e with e|e;·exact w.own (h.res.dd p e) ar
   simp at e;subst e;exact ia (w.own n ar) t
  exact fY q (g.apart q ar) d
 refine Is.2 ⟨h.res.pw,List.pairwise_singleton _ _,λp e q y r F G=>?_⟩;simp at y;subst y;have:=i p e r F;have:=(n.lt r G).1;omega
structure KX(f:Nat)(c:UInt8)(nums j:Nat):Prop where
 go:∀(a1:Addr)(O:Nat)(o:sT)(s:ByteArray)(w:QM),s.size<=1048576->0<s.size->w.cell? (Qz 1 0)=some (.iface 399 (.pointer (some a1)))->O≠1->Bx w O 63 (opC o OL)->o.data=[]->(j=0->o.ref=0/\o.p=0) ->
 QA f #[J O 0,.string s] w λe w'=>K_ a1 O w w' (mX c s.data.toList nums o) e
def PartC.g{f c nums}(h:PartC f c nums)(j):KX f c nums j:=⟨λa O o s w b d e g i k _=>h a O o s w b d e g i k⟩
def PartT.g{f c nums}(h:PartT f c nums):KX f c nums 0:=⟨λb O o s w d e g i j k a=>h b O o s w d e g i j k (a rfl).1 (a rfl).2⟩
def yq:List (List Nat):=[[88],[88,89],[90,88],[90],[90],[90,88],[90,91]]
def Eb(k j:Nat):Nat:=((cF.getD k []).take j).countP (λc=>decide (c.toNat=78))
def Md(f:Nat):Prop:=∀args w,(callFunc f args).run prog w=.ok (.enter f args) w
def LQ(k j:Nat)(f:k<7)(d:j<(yq.getD k []).length):∃f c,(yq.getD k [])[j]?=some f/\(cF.getD k []).drop j=c::(cF.getD k []).drop (j+1)/\Eb k (j+1)=(if c.toNat=78 then Eb k j+1 else Eb k j)/\KX f c (Eb k j) j/\(j+1<(yq.getD k []).length->c.toNat=78\/c.toNat=80)/\Md f:=by
 let c:=enters_of func91 E rfl;rcases k with _|_|_|_|_|_|_|k<;>(try omega)<;>rcases j with _|_|j<;>first
  |exact⟨_,_,rfl,rfl,rfl,Mb.g _,ar,(enters_of func88 E rfl)⟩
  |exact⟨_,_,rfl,rfl,rfl,Ll.g _,ar,(enters_of func89 E rfl)⟩
  |exact⟨_,_,rfl,rfl,rfl,En.g,ar,(enters_of func90 E rfl)⟩
  |exact⟨_,_,rfl,rfl,rfl,Jf.g _,ar,c⟩
  |(simp[yq]at d;omega)
  |(simp[yq]at d)
def Mu(k:Nat)(a:k<7):(cF.getD k []).drop (yq.getD k []).length=[]/\(yq.getD k []).length<=2/\0<(yq.getD k []).length:=by rcases k with _|_|_|_|_|_|_|k<;>first|omega|exact⟨rfl,ar,ar⟩
def Nl(B S)(a1:Addr)(k:Nat){Pb Kb Sb Pr}(b4:k<7)(sa)(m c:Nat)(G:List (List UInt8))(s dv ov bd ps w)(hs:Ss B S w s dv ov bd ps)(M:ClS B S w Pb Kb Sb Pr k (yq.getD k []))(hm:m=G.length)(hw:Wd w sa G)(i7:m<=1048576)(c7:∀x∈G,0<x.length/\x.length<=1048576)(h1:QG w 1 0 (.iface 399 (.pointer (some a1))))(e8:s.ops.length<=2000000):
  QA 138 #[.slice sa m c,J Pb 0,J Kb 0,J Sb 0] w λe w'=>OrdP B S a1 w w' s (L8 (yq.getD k []) (cF.getD k []) k s G) e:=by
 let⟨HS,c8⟩:=y7 hs (λj=>LQ k j b4);let⟨d0,g0,g1⟩:=Mu k b4;have d1:=H d0;clear d0 b4;generalize yq.getD k []=fs at*;let⟨n,hn⟩:=Qb fs.length;rw[<-hn]at g0 g1 d1 c8;let c1:=M.pb;rw[<-hn]at c1;have c2:=M.kb;have d2:=H M;by_cases d3:m=n
 ·subst d3;have d4:=H (show G.length=fs.length by omega);obtain⟨g,V,rfl,X⟩:∃g V,sa=some (Qz g V)/\∀j,j<G.length->w.cell? (Qz g (V+j))=some (.string (bs (G.getD j []))):=by
   rcases hw with K|⟨g,V,K,h8⟩;·rw[K]at hm;simp at hm;omega
   exact⟨g,V,K,h8⟩
  have g3:Hid (∀j,j<m->0<(G.getD j []).length/\(G.getD j []).length<=1048576):=(λj hj=>by
   have K:j<G.length:=Z;have:G.getD j []=G[j]:=by simp[K]
   rw[this];exact c7 _ (Iw K))
  obtain⟨o0,Y⟩:∃o0:sT,o0=⟨k,0,0,0,0,[]⟩:=⟨_,rfl⟩;have⟨W4,a4⟩:=Qb (w.alloc (QL (opC ⟨k,0,0,0,0,[]⟩ OL).toArray 63));have N:D w W4:=by rw[a4];exact(Fu _ w).alloc gi _
  have L:Bx W4 w.heap.size 63 (opC o0 OL):=by rw[a4,Y];exact XD
  have a0:=H (hs.below N);have g4:=NI N h1;have b5:∀{a:Addr}{v:QN},w.cell? a=some v->a.block<w.heap.size:=λK=>by
   unfold World.cell? at K;split at K;·rename_i h8;exact G_ h8
   cases K
  have b6:w.heap.size≠1:=by have:1<w.heap.size:=b5 h1;omega
  have G4:=H (Gb.below (B:=B) (S:=S) N hs.bw);refine(let_mvar%?C:=some w.heap.size;?_);have a5:Hid (∀F,W4.grownBy F (?C)->∀a v,w.cell? a=some v->F.cell? a=some v):=(λF K a v h8=>OZ K (NI N h8) (by have:=b5 h8;omega));have⟨d5,d6,d7⟩:=Qe (show∀F,W4.grownBy F (?C)->∀j,j<m->QG F g (V+j) (.string (bs (G.getD j [])))from λF K j hj=>a5.out F K _ _ (X j Z)) (show∀F,W4.grownBy F (?C)->∀j f,fs[j]?=some f->QG F Pr j (.func (.func f) #[] #[])from λF K j f hf=>a5.out F K _ _ (M.pr j f hf)) (show∀F,W4.grownBy F (?C)->QG F Sb 0 (J S 0)from λF K=>a5.out F K _ _ M.sb);have T:Hid (ov.ownBlock≠?C):=(λe9=>by have:=(hs.res.op.lt _ e9).2;omega);have⟨b1,P,b2⟩:=Qe (show∀p∈ps,∀r,p.2.ownBlock=some r->r<w.heap.size from λp hp r hr=>((hs.res.dd p hp).lt r hr).2) (show B<=w.heap.size from hs.bw) (show w.heap.size<=W4.heap.size from N.size);have i8:=NI N c1;clear hm hn b5;go_enter func138,ntmps138;go_upto_region 4 with fail
  rw[Y]at L;apply Eq.mp (congrArg _ a4);have⟨O,hO⟩:=Qb w.heap.size;rw[<-hO]at L b6 d5 d6 d7 P b2 T b1⊢;rw[<-Y]at L;have⟨b7,a6⟩:=y7 L Y;clear a4 N L hO Y hs M X hw c7 c1 c2 h1;go_wp2;refine(let_mvar%?B:=cF.getD k [];?_);go_loopw [20] (λi wr=>∃(j:Nat)(o:sT)(Q:QN),j<=m/\i=I (j:Int)/\Hid (eD ?B G 0 o0=eD ((?B).drop j) (G.drop j) (Eb k j) o)/\Hid (Bx wr O 63 (opC o Q))/\Hid (wr.ownsRow O 5 1 Q o.data.length (xe o.data))/\Hid (W4.grownBy wr (some O))/\Hid (j<m->o.data=[]/\Q=OL/\(j=0->o.ref=0/\o.p=0))) (λi _=>m-(intOf i).toNat);exact⟨0,o0,OL,Z,rfl,H rfl,b7,H (by rw[a6];exact wG),H (Q6 W4 O),H (λ_=>by rw[a6];exact⟨rfl,rfl,λ_=>⟨rfl,rfl⟩⟩)⟩
  obtain⟨j,o,Q,hj,rfl,HE,HB,HO,HG,HD⟩:=hrel;by_cases a7:j<m
  ·have⟨f,c9,hf,d8,b8,d9,e0,b⟩:=c8.out j a7;obtain⟨e1,rfl,e3⟩:=HD.out a7;have d:=d5.out wr HG j a7;have cf:=d6.out wr HG j f hf;have g6:=OZ HG g4 (by simpa using Iq b6);have b9:=g3.out j a7;have⟨l,a2⟩:=Qb (bs (G.getD j []));rw[<-a2]at d;have hP:=d9.go a1 O o l wr (by rw[a2,gz];exact b9.2) (by rw[a2,gz];exact b9.1) g6 b6 HB e1 e3;have a8:=H (show eD ?B G 0 o0=(mX c9 (G.getD j []) (Eb k j) o).bind (eD ((?B).drop (j+1)) (G.drop (j+1)) (Eb k (j+1))) by rw[HE,d8,b8];have hh:(G.drop j).headD []=G.getD j []:=(by rw[List.headD_eq_head?_getD,List.head?_drop];simp);show(mX c9 ((G.drop j).headD []) _ o).bind (eD _ (G.drop j).tail _)=_;rw[hh,List.tail_drop])
   rw[show l.data.toList=G.getD j [] by rw[a2,kO]]at hP;have g7:(j:Int)<(m:Int):=Z;have⟨g8,j0⟩:=y7 e0 b8;unfold Md at b;clear a2 b9 HE hf d8 b8 d9 e0;cases R:mX c9 (G.getD j []) (Eb k j) o with
   | none=>
    rw[R]at hP;have HN:=H (show L8 fs ?B k s G=none by rw[L8,GP d4.out,<-a6.out,a8,R];rfl);clear R;go_wp2;apply hP.mono;rintro e w5⟨g5,v,rfl,hu⟩;have⟨SS,q,HU⟩:=Qe (a0.off (fW HG g5) P (.inr b7) T) (G4.trans (Gb.ofG (fW HG g5) P a0.bw)) hu;clear hP;rcases hu with rfl|⟨s9,rfl⟩
    all_goals
     try unfold wE
     go_wp2
     go_ret
     rw[HN]
     exact OrdP.no q HU SS
   | some o2=>
    rw[R]at hP;have g9:=H (show eD ?B G 0 o0=eD ((?B).drop (j+1)) (G.drop (j+1)) (Eb k (j+1)) o2 by rw[a8,R];rfl);have HX:=H (J3 R);clear R;go_wp2;apply hP.mono;rintro e w5⟨g5,rfl,Q,e4,e5,e6⟩;have⟨h0,h2,h3⟩:=Qe e4 (ia e5 (Fx b2 HG.size)) (fW HG g5);have h4:Hid (j+1<m->o2.data=[]/\Q=OL/\(j+1=0->o2.ref=0/\o2.p=0)):=(λh=>by have h7:=HX.out (g8 h);rw[e1]at h7;exact⟨h7,e6 h7,λh=>Z⟩)
    clear hP e4 e5 g5 e6;go_wp2;go_roundw;(exact⟨j+1,o2,Q,Z,aY,g9,h0,h2,h3,h4⟩);exact QE
  obtain rfl:j=m:=Z;have g7:¬(j:Int)<(j:Int):=Z;have HN:=H (show L8 fs ?B k s G=some {s with ops:=s.ops++[o]} by rw[L8,GP d4.out,<-a6.out,HE,d1];rfl);have a9:=a0.off HG P (.inr b7) T;obtain⟨da,u,dc,rfl,h5⟩:=Re HO;obtain⟨v2,w2,e2,c0,g2,k2,⟨ea,y,ec,rfl⟩,s2⟩:=(a9.below ld).opMore o (.slice da u dc) O (own_below HO ld) P b1 e8;have i0:S≠O:=(by have:=a0.sb;have:=P.out;omega);have b3:Sb≠S:=d2.lt.2.2.2.1;refine(let_mvar%?A:=opC o (.slice da u dc);?_);have z:∀F,(QG F Sb 0 (J S 0)/\Bx F O 63 ?A)->QG F Sb 0 (J S 0)/\QG F O 0 (I (o.kind:Int))/\QG F O 1 (I (o.ref:Int))/\QG F O 2 (U (o.p:Int))/\QG F O 3 (U (o.a:Int))/\QG F O 4 (U (o.b:Int))/\F.cell? (Qz O 5)=some (.slice da u dc):=λF K=>⟨K.1,K.2.cell 0,K.2.cell 1,K.2.cell 2,K.2.cell 3,K.2.cell 4,K.2.cell 5⟩
  have CN:=H z;have c3:=d7.out wr HG;have a3:Bx wr.drew O 63 ?A:=HB.out;have K0:=H (show wr.drew.cell? (Qz Sb 0)=some (J S 0)/\Bx wr.drew O 63 ?A from⟨c3,a3⟩);have b0:Below wr.drew.heap.size wr.drew (wr.drew.alloc (QL (?A).toArray 63)):=ph;have KA:=H (IT (NI b0 K0.1) (a3.below b0 a3.lt));have c4:w2.cell? (Qz Sb 0)=some (J S 0):=(by rw[g2.cell d2.lt.1.2.2.1 b3];exact c3);have c5:=a3.grown k2 (λe9=>T.out e9.symm);have KB:=H (IT c4 c5);refine(let_mvar%?D:=w2.setCell (Qz S 6) (.slice ea y ec);?_);have KC:=H (show (?D).cell? (Qz Sb 0)=some (J S 0)/\Bx ?D O 63 ?A from⟨by rw[LR b3];exact c4,c5.other (Iq i0) _⟩);have S5:=H s2;have G5:=H ((((G4.trans (Gb.ofG HG P a0.bw)).trans (⟨rfl,rfl,rfl,gi,λ_ _ _=>rfl⟩:Gb B S wr wr.drew)).trans g2).set 6 (.slice ea y ec));obtain⟨oa,A,oc,rfl,i1⟩:=Re a9.res.op;have c6:wr.cell? (Qz S 6)=some (.slice oa A oc):=a9.bx.cell 6;have i2:(wr.alloc (QL (?A).toArray 63)).cell? (Qz S 6)=some (.slice oa A oc):=NI ((Fu wr.heap.size wr).alloc gi _) c6;have i3:(wr.drew.alloc (QL (?A).toArray 63)).cell? (Qz S 6)=some (.slice oa A oc):=NI b0 c6;have j1:w2.cell? (Qz S 6)=some (.slice oa A oc):=c0.cell 6;have f6:=c0.free 6;unfold opC at e2 i2 i3;clear a9 h5 c0 g2 k2 s2 z c3 a3 b0 c4 c5 i1 HE;go_wp2;refine rh (S:=λF=>QG F Sb 0 (J S 0)/\QG F O 0 (I (o.kind:Int))/\QG F O 1 (I (o.ref:Int))/\QG F O 2 (U (o.p:Int))/\QG F O 3 (U (o.a:Int))/\QG F O 4 (U (o.b:Int))/\QG F O 5 (.slice da u dc)) ?_;have hS:=CN.out _ K0;(iterate 4 (refine py hS ?_;simp[f0,f1,Nat.reduceAdd,lz,l0,ls]));apply PX 5 hS;refine lZ [4,6] λi9 i4=>?_;rcases(by simpa using i4:i9=4\/i9=6)with rfl|rfl
  case' inl=>refine cw λK' hK=>?_;go_simp;refine hK _ _ ⟨hS,?_⟩;refine gu 6 ?_
  all_goals
   refine cw λK' hK=>?_
   go_simp
   have h6:=CN.out _ KA
   refine hK _ _ ⟨h6,?_⟩
   clear hS
   have hS:=h6
   clear hK K'
  case' inr=>refine po 4 λK' hK=>?_;go_simp;refine hK _ _ ⟨hS,?_⟩
  all_goals
   refine gu 7 ?_
   have h7:=CN.out _ KB
   refine ur e2 ⟨h7,?_⟩
   clear hS
   have hS:=h7
   iterate 2 (refine py hS ?_;simp[f0,f1,Nat.reduceAdd,lz,l0,ls])
   refine po 10 λK' hK=>?_
   go_simp
   have i5:=CN.out _ KC
   refine hK _ _ ⟨i5,?_⟩
   clear hS
   clear hK K'
   refine bY ?_
   go_wp2
   go_ret
   rw[HN]
   exact OrdP.yes G5 S5
 have HN:=H (show L8 fs (cF.getD k []) k s G=none by rw[L8,GO Z]);go_enter func138,ntmps138;go_wp2;go_ret;rw[HN];exact OrdP.no (Gb.refl _ _ _) (.inl rfl) HS
def tj(S){k}{a:QP}{m c:Nat}{w:QM}:
  Calls prog 87 #[J S 0,I k,.slice a m c] w λe w'=>e=QJ (.func (.func 138) #[] #[J (w.heap.size+1+1) 0,J (w.heap.size+1) 0,J w.heap.size 0])/\w'=((w.alloc (QL #[J S 0] 50)).alloc (QL #[I k] 3)).alloc (QL #[.slice a m c] 250):=by
 go_wp2;go_ret;exact QB
def Mp(W:World)(M:Nat)(l:List (List UInt8×Value)):Prop:=∃j i,W.heap[M]?=some (.map j i)/\j.toList.map (λe=>(e.key,e.val))=l.map (λe=>(Value.string (bs e.1),e.2))
def lk(l:List UInt8):List (List UInt8×Value)->Option Value
 |[]=>none
 |e::r=>if e.1=l then some e.2 else lk l r
def M6(a b):(bs a==bs b)=decide (a=b):=by rw[Bool.eq_iff_iff,MapKept.bytes_beq,Hj];exact⟨λh=>by have:=congrArg (λs:ByteArray=>s.data.toList) h;exact this,λh=>by rw[h]⟩
def AQ(l):∀(L:List MapEntry)(a:List (List UInt8×QN))(i:Nat),L.map (λe=>(e.key,e.val))=a.map (λe=>(Value.string (bs e.1),e.2))->∃r,Instr.findNow .string (.string (bs l)) L i=some r/\r.map (·.2)=lk l a
 |[],[],i,h=>⟨none,rfl,rfl⟩
 |[],_::_,i,h=>by cases h
 |_::_,[],i,h=>by cases h
 | x::L,e::a,i,h=>by
  simp[It,List.cons.injEq,Prod.mk.injEq]at h
  obtain⟨⟨d,f⟩,g⟩:=h
  let c:Instr.sameNow .string (.string (bs l)) x.key=some (decide (l=e.1)):=by rw[d];show some (bs l==bs e.1)=_;rw[M6]
  by_cases b:l=e.1
  .refine⟨some (i,x.val),?_,?_⟩
   .unfold Instr.findNow;rw[c];simp[b]
   simp[lk,b,f]
  let⟨r,j,k⟩:=AQ l L a (i+1) g;refine⟨r,?_,?_⟩
  .unfold Instr.findNow;rw[c];simp[b];exact j
  rw[k,lk,GO (Iq b)]
def Kh{es}(h:Mp W M es)(l):
  (Instr.lookup 100 (.map (some M)) (.string (bs l)) true).run prog W=.ok (match lk l es with|some v=>.tuple #[v,.bool true]|none=>.tuple #[.nilFunc,.bool false]) W:=by
 have⟨b,c,d,e⟩:=h;have⟨r,f,g⟩:=AQ l b.toList es 0 e;have i:(zeroValue 155).run prog W=.ok .nilFunc W:=E;have j:=MapKept.run_getObj_map (P:=prog) d;have m:=λa=>MapKept.run_checkKey (P:=prog) (w:=W) (k:=.string (bs l)) underlying9 trivial a 9999
 have n:=MapKept.run_findKey (P:=prog) (w:=W) underlying9 f;rw[<-g];unfold Instr.lookup;simp only[Sem.run_bind,run_underlying underlying100,Result.andThen,j,Sem.run_pure,m,n];cases r with
 |none=>simp[i,Result.andThen]
 |some q=>simp[Result.andThen]
def yK{es}(h:Mp W M es)(l)(v:QN)(i:lk l es=none):
  ∃W',(Instr.mapUpdate 100 (.map (some M)) (.string (bs l)) v).run prog W=.ok () W'/\Mp W' M (es++[(l,v)])/\W.grownBy W' (some M):=by
 let⟨b,a,c,f⟩:=h;let⟨r,j,g⟩:=AQ l b.toList es 0 f;rw[i]at g;cases r with
 |some q=>cases g
 | none=>
  refine⟨{W with heap:=W.heap.setIfInBounds M (.map (b.push ⟨.string (bs l),v,a⟩) (a+1))},?_,⟨b.push ⟨.string (bs l),v,a⟩,a+1,by simp[G_ c],by simp[f]⟩,⟨rfl,rfl,rfl,bH,λk s d=>?_⟩⟩
  .let e:=MapKept.run_getObj_map (P:=prog) c;let q:=λo=>MapKept.run_setObj_map (P:=prog) o c
   unfold Instr.mapUpdate;simp[Sem.run_bind,run_underlying underlying100,Result.andThen,e,MapKept.run_checkKey (P:=prog) (w:=W) (k:=.string (bs l)) underlying9 trivial false 9999,MapKept.run_findKey (P:=prog) (w:=W) underlying9 j,q]
  have:k≠M:=λe=>d (by rw[e])
  simp[FK,Iq this]
def pY{P:Program}{t:QO}{c:Array Oper}{b:List Oper}{o:Oper}{a:Act}{Q:Exit->Act->QM->Prop}(d:o.guard=none)(m x v:Operand)(e:o.op=.insert t m x v)
  {vm vx vv:QN} (f:a.eval m=vm) (g:a.eval x=vx) (hv:a.eval v=vv)
  (i:(Instr.mapUpdate t vm vx vv).run P w=.ok () w') (h:wpList P c Q b (a.put o.dst undef) w'):wpList P c Q (o::b) a w:=by
 refine IA d λK j=>?_;unfold Oper.wp;simp[execOp,e,f,g,hv,i,Result.andThen];exact j _ _ h
def fv(f:Nat):Value:=.func (.func f) #[] #[]
def Ji(fs:List Nat):Array Value:=(fs.map fv).toArray
def Kz(W:World)(S k:Nat)(fs:List Nat):World:=(((W.alloc (.cells (Ji fs) 251)).alloc (.cells #[J S 0] 50)).alloc (.cells #[I (k:Int)] 3)).alloc (.cells #[Vl W.heap.size fs.length fs.length] 250)
def J6(p:Nat):Value:=.func (.func 138) #[] #[J (p+1+1+1) 0,J (p+1+1) 0,J (p+1) 0]
structure ClF(W:QM)(S p k:Nat)(fs:List Nat):Prop where
 b0:W.heap[p]?=some (QL (Ji fs) 251)
 b1:W.heap[p+1]?=some (QL #[J S 0] 50)
 b2:W.heap[p+1+1]?=some (QL #[I (k:Int)] 3)
 b3:W.heap[p+1+1+1]?=some (QL #[Vl p fs.length fs.length] 250)
def MJ(W S k fs):ClF (Kz W S k fs) S W.heap.size k fs:=by
 let a:(W.alloc (.cells (Ji fs) 251)).heap.size=W.heap.size+1:=bH;refine(let_mvar%?A:=(W.alloc (.cells (Ji fs) 251)).alloc (.cells #[J S 0] 50);?_);let b:(?A).heap.size=W.heap.size+1+1:=bH;let c:((?A).alloc (.cells #[I (k:Int)] 3)).heap.size=W.heap.size+1+1+1:=bH;refine⟨?_,?_,?_,?_⟩;.unfold Kz;rw[eg _ _ _ Z,eg _ _ _ Z,eg _ _ _ Z,ao]
 .unfold Kz;rw[eg _ _ _ Z,eg _ _ _ Z,<-a,ao]
 .unfold Kz;rw[eg _ _ _ Z,<-b,ao]
 unfold Kz;rw[<-c,ao]
def J5(W S k fs):D W (Kz W S k fs):=by unfold Kz;exact((((Fu _ W).alloc gi _).alloc bH _).alloc bG _).alloc bG _
def Mp.below{es}(h:Mp W M es)(d:D W W'):Mp W' M es:=by let⟨a,c,b,e⟩:=h;exact⟨a,c,by rwa[d.block M (G_ b)],e⟩
def Mp.lt{es}(h:Mp W M es):M<W.heap.size:=by let⟨a,c,b,d⟩:=h;exact G_ b
def ClF.keep(h:ClF W S p k fs)(g:W.grownBy W' (some M))(a:M<p):ClF W' S p k fs:=
 ⟨(g.block _ (G_ h.b0) bG).trans h.b0,(g.block _ (G_ h.b1) bG).trans h.b1,(g.block _ (G_ h.b2) bG).trans h.b2,(g.block _ (G_ h.b3) bG).trans h.b3⟩
def Ja{es}(h:Mp W M es)(S k fs nm)(c:lk nm es=none):
  ∃W',(Instr.mapUpdate 100 (.map (some M)) (.string (bs nm)) (J6 W.heap.size)).run prog (Kz W S k fs)=.ok () W'/\Mp W' M (es++[(nm,J6 W.heap.size)])/\W.grownBy W' (some M)/\ClF W' S W.heap.size k fs:=by
 let a:=J5 W S k fs;let⟨W',d,e,b⟩:=yK (h.below a) nm (J6 W.heap.size) c;exact⟨W',d,e,fW (gS a) b,(MJ W S k fs).keep b h.lt⟩
def Je(S:Nat)(p:Nat->Nat):List (List UInt8×Value):=[([104,101,97,112],.func (.func 84) #[J S 0] #[]),([107,101,121],.func (.func 85) #[J S 0] #[]),([100,114,97,119,115],.func (.func 86) #[J S 0] #[]),([109,97,108,108,111,99],J6 (p 0)),([99,97,108,108,111,99],J6 (p 1)),([114,101,97,108,108,111,99],J6 (p 2)),([102,114,101,101],J6 (p 3)),([117,115,97,98,108,101],J6 (p 4)),([108,111,97,100],J6 (p 5)),([115,116,111,114,101],J6 (p 6))]
def JQ(S)(w:QM):
  Calls prog 35 #[J S 0] w λe w'=>e=QJ (.map (some w.heap.size))/\D w w'/\∃p:Nat->Nat,Mp w' w.heap.size (Je S p)/\(∀i,i<7->w.heap.size<p i)/\∀i fs,yq[i]?=some fs->ClF w' S (p i) i fs:=by
 have L:Mp (w.alloc (.map #[] 0)) w.heap.size []:=⟨#[],0,XD,rfl⟩;have a0:=@run_makeMap prog;have⟨W1,M,N,O⟩:=yK L [104,101,97,112] (.func (.func 84) #[J S 0] #[]) (by simp[lk]);have⟨W2,P,Q,R⟩:=yK N [107,101,121] (.func (.func 85) #[J S 0] #[]) (by simp[lk]);have⟨T,V,r,W⟩:=yK Q [100,114,97,119,115] (.func (.func 86) #[J S 0] #[]) (by simp[lk]);have⟨X,Y,v,g4,c4⟩:=Ja r S 0 [88] [109,97,108,108,111,99] (by simp[lk]);have⟨W5,e5,z,A,c5⟩:=Ja v S 1 [88,89] [99,97,108,108,111,99] (by simp[lk]);have⟨W6,e6,B,s,c6⟩:=Ja z S 2 [90,88] [114,101,97,108,108,111,99] (by simp[lk]);have⟨W7,e7,F,m,c7⟩:=Ja B S 3 [90] [102,114,101,101] (by simp[lk]);have⟨W8,e8,G,j,c8⟩:=Ja F S 4 [90] [117,115,97,98,108,101] (by simp[lk]);have⟨W9,e9,K,f,c9⟩:=Ja G S 5 [90,88] [108,111,97,100] (by simp[lk]);have⟨a1,n,o,c,q⟩:=Ja K S 6 [90,91] [115,116,111,114,101] (by simp[lk]);have q3:=r.lt;have d:w.heap.size<T.heap.size:=r.lt;have g:w.heap.size<X.heap.size:=v.lt;have l:w.heap.size<W5.heap.size:=z.lt;have z6:w.heap.size<W6.heap.size:=B.lt;have u:w.heap.size<W7.heap.size:=F.lt;have a:w.heap.size<W8.heap.size:=G.lt;have z9:w.heap.size<W9.heap.size:=K.lt;simp only[Kz,Ji,fv,J6,It,List.map_nil,FN,F1,Oi,Nat.reduceAdd,bs,show((0:Nat):Int)=0 from rfl,show((1:Nat):Int)=1 from rfl,show((2:Nat):Int)=2 from rfl,show((3:Nat):Int)=3 from rfl,show((4:Nat):Int)=4 from rfl,show((5:Nat):Int)=5 from rfl,show((6:Nat):Int)=6 from rfl]at M P V Y e5 e6 e7 e8 e9 n;have k0:=H ((((((c4.keep A d).keep s d).keep m d).keep j d).keep f d).keep c d);have k1:=H (((((c5.keep s g).keep m g).keep j g).keep f g).keep c g);have⟨k2,k3,k4,k5,k6⟩:=Qg ((((c6.keep m l).keep j l).keep f l).keep c l) (((c7.keep j z6).keep f z6).keep c z6) ((c8.keep f u).keep c u) (c9.keep c a) q;have b:=H (fW (fW (fW (fW (fW (fW (fW (fW (fW O R) W) g4) A) s) m) j) f) c);have MM:=H o;have ZZ:=H (IT d (IT g (IT l (IT z6 (IT u (IT a z9))))));go_in;go_wp2_with (first|(go_at_call 87;apply(tj S).mono;rintro e w9⟨rfl,rfl⟩)|(refine pY (t:=100) (vm:=?vm) (vx:=?vx) (vv:=?vv) (w':=?w9) ?h1 (.tmp 3) ?x ?y ?h2 ?h3 ?h4 ?h5 ?h6 ?h7;(case h2=>with_reducible rfl);(case h1=>rfl);(case h3=>rfl);(case h4=>rfl);(case h5=>rfl);(case h6=>first|exact M|exact P|exact V|exact Y|exact e5|exact e6|exact e7|exact e8|exact e9|exact n)));go_ret;refine⟨rfl,?_,λi=>match i with|0=>T.heap.size|1=>X.heap.size|2=>W5.heap.size|3=>W6.heap.size|4=>W7.heap.size|5=>W8.heap.size|_=>W9.heap.size,MM,?_,?_⟩;·have a:=(Fu w.heap.size w).alloc gi (.map #[] 0);exact⟨b.os.trans a.os,b.tape.trans a.tape,b.output.trans a.output,Fx a.size b.size,λk c=>(b.block k (FG c a.size) bG).trans (a.block k c)⟩
 ·intro i a;have⟨c,d,f,g,j,l,m⟩:=ZZ.out;rcases i with _|_|_|_|_|_|_|i<;>first|assumption|omega
 intro i fs a;rcases i with _|_|_|_|_|_|_|i<;>cases a<;>first|exact k0.out|exact k1.out|exact k2.out|exact k3.out|exact k4.out|exact k5.out|exact k6
section
open Go.ChangeShapes Go.WideShapes Go.ChangeAt Go.RowKit Go.Lib
def pc(l:List UInt8)(a b:Nat):List UInt8:=(l.take b).drop a
def JH(l a):pc l a a=[]:=by unfold pc;apply List.drop_eq_nil_of_le;simp;omega
def CJ(l:List UInt8)(a b:Nat)(h:b<l.length)(c:a<=b):pc l a (b+1)=pc l a b++[l[b]]:=by unfold pc;rw[F_,Fy h,List.drop_append_of_le_length bG];rfl
def Ks(l:List UInt8)(a b:Nat)(h:b<=l.length)(c:a<b):pc l a b≠[]:=by unfold pc;intro e;have:=congrArg List.length e;simp at this;omega
def Cd{l:List UInt8}(h:b<l.length){a:List UInt8}(c:l[b].toNat≠32):cE (l.drop b) a=cE (l.drop (b+1)) (a++[l[b]]):=by
 rw[List.drop_eq_getElem_cons h]
 conv=>lhs;unfold cE
 rw[GO c]
def K8{l:List UInt8}(h:b<l.length){a:List UInt8}(c:l[b].toNat=32):cE (l.drop b) a=(if a=[]then cE (l.drop (b+1)) []else a::cE (l.drop (b+1)) []):=by
 rw[List.drop_eq_getElem_cons h]
 conv=>lhs;unfold cE
 rw[GP c]
def uY(l:List UInt8)(a:Nat):∀(n b:Nat),a<=b->b+n<=l.length->(∀k(f:b+k<l.length),k<n->l[b+k].toNat≠32)->cE (l.drop b) (pc l a b)=cE (l.drop (b+n)) (pc l a (b+n))
 |0,b,_,_,_=>rfl
 | n+1,b,c,g,h=>by
  let d:b<l.length:=Z
  rw[Cd d (h 0 d Z),<-CJ l a b d c,uY l a n (b+1) Z Z (λk f a=>by
   have:=h (k+1) Z Z
   let e:b+1+k=b+(k+1):=Z
   simp[e];exact this)]
  rw[show b+1+n=b+(n+1) by omega]
def uz(r:Nat):Bool:=r==32
def ED(l:List UInt8)(st:Option Nat)(pos:Nat):List UInt8:=match st with|some a=>pc l a pos|none=>[]
def Jp(s:ByteArray)(l:List UInt8)(u:l=s.data.toList):∀(f c:Nat)(g:Option Nat)(d:List (Nat×Nat)),s.size<=c+f->c<=s.size->(∀a,g=some a->a<c) ->
  (closeSpans s (spansFromP uz s f c g d)).map (λx=>pc l x.1 x.2)=d.map (λx=>pc l x.1 x.2)++cE (l.drop c) (ED l g c):=by
 have q:s.size=l.length:=by rw[u];exact size_eq s
 intro f;induction f with
 |zero=>
  intro c g d z A m;have e:c=l.length:=Z;subst e;have v:cE (l.drop l.length) (ED l g l.length)=if ED l g l.length=[]then[]else[ED l g l.length]:=by rw[List.drop_length];rfl
  rw[v];cases g with
  |none=>simp[spansFromP,closeSpans,ED]
  |some a=>simp[spansFromP,closeSpans,ED,Ks l a _ gi (m a rfl),q]
 | succ f p=>
  intro c g d z A m;by_cases o:c<s.size
  ·have i:c<l.length:=Z;have y:s[c]'(o)=l[c]:=(by subst u;rfl);unfold spansFromP;rw[GP o];by_cases ha:(s[c]'(o)).toNat<128
   ·rw[decode_ascii s c o ha];by_cases j:l[c].toNat=32
    ·rw[GP (by rw[y,j];rfl),K8 i j];cases g with
     |none=>show(closeSpans s (spansFromP uz s f (c+1) none d)).map _=_;rw[p _ _ _ Z Z (λa h=>by cases h)];simp[ED]
     |some a=>show(closeSpans s (spansFromP uz s f (c+1) none (d++[(a,c)]))).map _=_;rw[p _ _ _ Z Z (λa h=>by cases h)];simp[ED,Ks l a c Z (m a rfl)]
    rw[GO (by rw[y];simp[uz];exact j),Cd i j];cases g with
    |none=>show(closeSpans s (spansFromP uz s f (c+1) (some c) d)).map _=_;rw[p _ _ _ Z Z (λa h=>by cases h;omega)];simp only[ED];rw[CJ l c c i gi,JH]
    |some a=>show(closeSpans s (spansFromP uz s f (c+1) (some a) d)).map _=_;rw[p _ _ _ Z Z (λb h=>by cases h;have:=m a rfl;omega)];simp only[ED];rw[CJ l a c i (by have:=m a rfl;omega)]
   have F:=vL s c o ha;have G:=AN s c;have r:=xO s c o ha;have j:c+(Utf8.decode s c).2<=l.length:=by have:=(r ((Utf8.decode s c).2-1) Z).1;omega
   have t:∀k(B:c+k<l.length),k<(Utf8.decode s c).2->l[c+k].toNat≠32:=λk B w=>by have:=r k w;have e:s.get! (c+k)=l[c+k]:=(by rw[get_at s _ this.1];subst u;rfl);rw[e]at this;omega
   rw[GO (by simp[uz];omega)];generalize (Utf8.decode s c).2=n at*;cases g with
   |none=>show(closeSpans s (spansFromP uz s f (c+n) (some c) d)).map _=_;rw[p _ _ _ Z Z (λa h=>by cases h;omega)];simp only[ED];rw[<-uY l c n c gi j t,JH]
   |some a=>have:=m a rfl;show(closeSpans s (spansFromP uz s f (c+n) (some a) d)).map _=_;rw[p _ _ _ Z Z (λb h=>by cases h;omega)];simp only[ED];rw[<-uY l a n c Z j t]
  rw[spansFromP_end uz s _ _ _ _ o];have e:c=l.length:=Z;subst e;have v:cE (l.drop l.length) (ED l g l.length)=if ED l g l.length=[]then[]else[ED l g l.length]:=by rw[List.drop_length];rfl
  rw[v];cases g with
  |none=>simp[closeSpans,ED]
  |some a=>simp[closeSpans,ED,Ks l a _ gi (m a rfl),q]
def MN{s t:ByteArray}(h:s.data.toList=t.data.toList):s=t:=by rw[<-DJ s,h,DJ]
def AJ(s:ByteArray):goFieldsP uz s=(cE s.data.toList []).map bs:=by let h:=Jp s s.data.toList rfl s.size 0 none [] Z Z (λa h=>by cases h);rw[List.map_nil,FV,IE]at h;show(closeSpans s (spansFromP uz s s.size 0 none [])).map (λx=>s.extract x.1 x.2)=(cE s.data.toList (ED s.data.toList none 0)).map bs;rw[<-h,List.map_map];apply List.map_congr_left;intro x _;apply MN;show(s.extract x.1 x.2).data.toList=pc s.data.toList x.1 x.2;rw[ByteArray.data_extract,Array.toList_extract,List.extract_eq_take_drop,pc,List.drop_take]
def ME(w:QM):PredAt prog 95 #[] encR uz w:=by
 intro W x _;let a:(((x:Nat):Int)==32)=uz x:=by rw[Bool.eq_iff_iff];simp[uz];omega
 go_enter func95,ntmps95;go_wp2;go_ret;exact⟨rfl,0,rfl⟩
def Ka(w w':World)(l:List UInt8)(e:Ending):Prop:=D w w'/\∃A,w.heap.size<=A/\e=.returned (Vl A (cE l []).length (cE l []).length)/\∀k,k<(cE l []).length->w'.cell? ⟨A,k,none⟩=some (.string (bs ((cE l []).getD k [])))
def Jn(s:ByteArray)(w:QM)(q:s.size<=1048576):Calls prog 38 #[.string s] w λe w'=>Ka w w' s.data.toList e:=by
 have a:=Any.strings_FieldsFunc Tryz.lays229 95 #[] (enters_of func95 E rfl) uz s w Z (ME w) E E;rw[AJ]at a;replace a:QA 94 #[.string s,.func (.func 95) #[] #[]] w λe w'=>Ka w w' s.data.toList e:=a.mono (by
  rintro e w'⟨A,rfl,f,i,j⟩;refine⟨j,A,f,bH,λk c=>?_⟩;rcases i.2 with⟨l,_⟩|⟨g,m,b,hv,r,n,t,u,v,o⟩;·cases l
  cases hv;have p:b.toList.take ((cE s.data.toList []).map bs).length=((cE s.data.toList []).map bs).map Value.string:=by simpa using o
  rw[GT _ _ k _ _ _ n,<-Gg];have d:=congrArg (λl=>l[k]?) p;rw[Hf (by simpa using c)]at d;rw[d];simp[c])
 go_in;go_wp2_with fail;refine a.mono ?_;rintro e f⟨b,A,c,rfl,d⟩;go_wp2_with fail;go_ret;exact⟨b,A,c,rfl,d⟩
end
def JE(M A n:Nat){f}{i g:Array QN}(x)(w:QM){Q:Ending->QM->Prop}(j:∀e w',Q e w'->∃v,e=QJ v)(s:0<n)(m:n<=1048576)(o:QG w A 0 (.string (bs x)))(a:Md f)(p:(Instr.lookup 100 (.map (some M)) (.string (bs x)) true).run prog w=.ok (.tuple #[.func (.func f) i g,.bool true]) w)(b:∀d c,(n=1\/d=some (Qz A 1))->QA f (i++#[.slice d (n-1) c]++g) w Q):
  Calls prog 37 #[.map (some M),Vl A n n] w Q:=by
 generalize bs x=d at o p;have t:((n:Int)==0)=false:=bG;have⟨k,q⟩:=y7 b j;unfold Md at a;clear b j;by_cases l:n=1
 case' pos=>have b:=k.out (some (Qz A 0)) 0 (.inl l);subst l;simp only[Nat.sub_self]at b
 case' neg=>have b:=k.out (some (Qz A 1)) (n-1) (.inr rfl);have j:¬n-1=0:=Z
 all_goals
  go_in
  go_wp2
  apply b.mono
  rintro e u j
  obtain⟨v,rfl⟩:=q.out _ _ j
  have r:=H j
  clear b j
  go_wp2
  exact r
def Nn(M A n:Nat)(x)(c:Addr)(w:QM)(j:0<n)(d:n<=1048576)(f:QG w A 0 (.string (bs x)))(g:QG w 1 0 (.iface 399 (.pointer (some c))))(i:(Instr.lookup 100 (.map (some M)) (.string (bs x)) true).run prog w=.ok (.tuple #[.nilFunc,.bool false]) w):
  Calls prog 37 #[.map (some M),Vl A n n] w λe w'=>e=QJ (wE (bs x) c)/\w'=w:=by
 have⟨a,b⟩:=Qb (bs x);rw[<-b]at f i⊢;clear b;have k:((n:Int)==0)=false:=bG;have b:=OE a c w g;go_in;go_wp2_with fail;refine b.mono ?_;rintro e l⟨rfl,rfl⟩;unfold wE;clear b;go_wp2_with fail;go_ret;exact QB
def Na(M A:Nat)(w:QM):
  Calls prog 37 #[.map (some M),Vl A 0 0] w λe w'=>e=QJ .nilIface/\w'=w:=by
 go_wp2;go_ret;exact QB
def OJ(s:rP)(q:List (List UInt8)):Option rP:=if q=[]then some s else match tu q with
 |some o=>some {s with ops:=s.ops++[o]}
 |none=>(ij s.cf q).map (λc=>{s with cf:=c})
def L3(i l s):rZ i l s=(match OJ s (cE l [])with|some s'=>s'|none=>{s with bad:=s.bad++[((i+1:Nat):Int)]}):=by
 unfold rZ OJ;split;·rfl
 cases tu (cE l [])with
 |some o=>rfl
 |none=>cases ij s.cf (cE l [])<;>rfl
def uw:∀(l cur x:List UInt8),x∈cE l cur->0<x.length
 |[],cur,x,h=>by
  unfold cE at h
  split at h
  .cases h
  rename_i a;simp at h;subst h;exact List.length_pos_iff.2 a
 | c::r,cur,x,h=>by
  unfold cE at h
  split at h
  .split at h
   .exact uw r [] x h
   rename_i a
   rcases F4.1 h with h|h
   .subst h;exact List.length_pos_iff.2 a
   exact uw r [] x h
  exact uw r _ x h
def Sq:∀k,k<7->∀j,j<7->j≠k->ga.getD k []≠ga.getD j []:=ar
def MF:∀k,k<7->(cF.getD k []).length=(yq.getD k []).length:=ar
def No(s)(r:List (List UInt8))(k:Nat)(c:k<7):OJ s (ga.getD k []::r)=L8 (yq.getD k []) (cF.getD k []) k s r:=by
 have a:ij s.cf (ga.getD k []::r)=none:=by unfold ij;rcases k with _|_|_|_|_|_|_|k<;>first|omega|(rw[GO (by simp[qT,ga])];show(dw r).bind _=_;cases dw r<;>simp[pH,mu,ga])
 have d:∀j,j<7->OV j (ga.getD k []::r)=decide (j=k/\r.length=(yq.getD k []).length):=λj b=>by
  unfold OV;by_cases e:j=k;·subst e;rw[MF j b];simp
  have:=Sq k c j b e;rw[decide_eq_decide];exact⟨λh=>absurd h.1 this,λh=>absurd h.1 e⟩
 rw[OJ,GO bH,a];unfold L8;by_cases h:r.length=(yq.getD k []).length
 ·rw[CF c (λj b=>by rw[d j Z];simp;omega) (by rw[d k c];simp[h]),GP h];show(match eD _ r 0 _ with|some o=>_|none=>_)=_;cases eD (cF.getD k []) r 0 ⟨k,0,0,0,0,[]⟩<;>rfl
 rw[wU (λj b=>by rw[d j b];exact GR λa=>h a.2),GO h];rfl
def tW{x:List UInt8}{r:List (List UInt8)}(h:∀k,k<7->x≠ga.getD k []):tu (x::r)=none:=wU λj a=>by
 unfold OV
 have:=h j a
 simp at this
 simp[this]
def LK(s)(r:List (List UInt8)):OJ s (qT::r)=C6 s r:=by
 rw[OJ,GO bH,tW (λk a=>by rcases k with _|_|_|_|_|_|_|k<;>first|omega|simp[qT,ga])];unfold ij C6;by_cases h:r.length=1;.rw[GP ⟨rfl,by simp[h]⟩,GP h];simp[Option.map_map];rfl
 rw[GO (by simp;exact h),GO h];cases dw (qT::r).tail with
 |none=>rfl
 |some a=>simp[pH,mu,qT]
def KJ(s)(r:List (List UInt8)):OJ s (pH::r)=wx s r:=by
 rw[OJ,GO bH,tW (λk a=>by rcases k with _|_|_|_|_|_|_|k<;>first|omega|simp[pH,ga])];unfold ij wx;rw[GO (by simp[pH,qT])];show Option.map _ ((dw r).bind _)=_;cases dw r with
 |none=>rfl
 |some a=>
  by_cases h:a.length=4;.simp[h]
  simp[h,pH,mu]
def JL(s)(r:List (List UInt8)):OJ s (mu::r)=AD s r:=by
 rw[OJ,GO bH,tW (λk a=>by rcases k with _|_|_|_|_|_|_|k<;>first|omega|simp[mu,ga])];unfold ij AD;rw[GO (by simp[mu,qT])];show Option.map _ ((dw r).bind _)=_;cases dw r with
 |none=>rfl
 |some a=>simp[pH,mu]
def J0(s)(x:List UInt8)(r:List (List UInt8))(h:∀k,k<7->x≠ga.getD k [])(a:x≠qT)(b:x≠pH)(c:x≠mu):OJ s (x::r)=none:=by
 rw[OJ,GO bH,tW h];unfold ij;rw[GO (by simp[a])];show Option.map _ ((dw r).bind _)=_;cases dw r with
 |none=>rfl
 |some d=>simp[b,c]
def ClS.of(h:ClF W S p k fs)(b:S<p)(c:p+3<B):ClS B S W (p+1+1+1) (p+1+1) (p+1) p k fs:=by
 refine⟨?_,?_,?_,λj f a=>?_,Z,Z,Z,Z,Z⟩;·unfold World.cell?;rw[h.b3];rfl
 ·unfold World.cell?;rw[h.b2];rfl
 ·unfold World.cell?;rw[h.b1];rfl
 rw[GT _ _ j _ _ _ h.b0];simp[Ji,a,fv]
def OrdP.ret{a1 s r e}(h:OrdP B S a1 w w' s r e):∃v,e=QJ v:=by
 unfold OrdP at h;cases r with
 |none=>obtain⟨_,⟨v,a,_⟩,_⟩:=h;exact⟨v,a⟩
 |some q=>obtain⟨_,a,_⟩:=h;exact⟨_,a⟩
def Lk(B S M p)(o:Addr)(A n:Nat)(q:List (List UInt8))(s dv ov bd ps w)(u:Ss B S w s dv ov bd ps)(hM:Mp w M (Je S p))(L:∀i fs,yq[i]?=some fs->ClF w S (p i) i fs)(v:∀i,i<7->S<p i/\p i+3<B)(N:n=q.length)(X:∀k,k<q.length->QG w A k (.string (bs (q.getD k []))))(d:n<=1048576)(O:∀x∈q,0<x.length/\x.length<=1048576)(z:QG w 1 0 (.iface 399 (.pointer (some o))))(P:s.cf.draws.length<=1000000000)(Q:s.ops.length<=2000000):
  QA 37 #[.map (some M),Vl A n n] w λe w'=>OrdP B S o w w' s (OJ s q) e:=by
 cases q with
 |nil=>subst N;apply(Na M A w).mono;rintro e w1⟨rfl,rfl⟩;exact OrdP.yes (Gb.refl _ _ _) u
 | cons x r=>
  have f:0<n:=by simp at N;omega
  have F:w.cell? (Qz A 0)=some (.string (bs x)):=X 0 bH;have i:=Kh hM x;have G:n-1=r.length:=by simp at N;omega
  have K:∀a:QP,(n=1\/a=some (Qz A 1))->Wd w a r:=λa b=>by
   rcases b with b|b;·exact .inl (Ik Z)
   exact .inr ⟨A,1,b,λk t=>by have:=X (k+1) bG;rw[Nat.add_comm 1 k];simpa using this⟩
  have j:n-1<=1048576:=Z;have l:∀y∈r,0<y.length/\y.length<=1048576:=λy R=>O y (Ij _ R)
  have g:∀y∈r,y.length<=1048576:=λy R=>(l y R).2
  by_cases T:x=pH;·subst T;rw[show lk pH (Je S p)=some (.func (.func 84) #[J S 0] #[])from rfl]at i;rw[KJ s r];exact JE M A n pH w (λe w' h=>h.ret) f d F (enters_of func84 E rfl) i (λa c b=>Jk B S o a (n-1) c r s dv ov bd ps w u G (K a b) j g z)
  by_cases V:x=qT;·subst V;rw[show lk qT (Je S p)=some (.func (.func 85) #[J S 0] #[])from rfl]at i;rw[LK s r];exact JE M A n qT w (λe w' h=>h.ret) f d F (enters_of func85 E rfl) i (λa c b=>JR B S o a (n-1) c r s dv ov bd ps w u G (K a b) j g z)
  by_cases W:x=mu;·subst W;rw[show lk mu (Je S p)=some (.func (.func 86) #[J S 0] #[])from rfl]at i;rw[JL s r];exact JE M A n mu w (λe w' h=>h.ret) f d F (enters_of func86 E rfl) i (λa c b=>E5 B S o a (n-1) c r s dv ov bd ps w u G (K a b) j g z P)
  by_cases Y:∃k,k<7/\x=ga.getD k []
  ·obtain⟨k,t,rfl⟩:=Y;have m:yq[k]?=some (yq.getD k [])/\lk (ga.getD k []) (Je S p)=some (J6 (p k)):=(by rcases k with _|_|_|_|_|_|_|k<;>first|omega|exact QB);rw[m.2]at i;rw[No s r k t];exact JE M A n (ga.getD k []) w (λe w' h=>h.ret) f d F (enters_of func138 E rfl) i (λa c b=>Nl B S o k t a (n-1) c r s dv ov bd ps w u (ClS.of (L k _ m.1) (v k t).1 (v k t).2) G (K a b) j l z Q)
  have m:∀k,k<7->x≠ga.getD k []:=λk t h=>Y ⟨k,t,h⟩
  rw[show lk x (Je S p)=none from(GO (Iq T)).trans <|(GO (Iq V)).trans <|(GO (Iq W)).trans <|(GO (Iq (m 0 ar))).trans <|(GO (Iq (m 1 ar))).trans <|(GO (Iq (m 2 ar))).trans <|(GO (Iq (m 3 ar))).trans <|(GO (Iq (m 4 ar))).trans <|(GO (Iq (m 5 ar))).trans <|(GO (Iq (m 6 ar))).trans rfl]at i;rw[J0 s x r m V T W];apply(Nn M A n x o w f d F z i).mono;rintro e w1⟨rfl,rfl⟩;exact OrdP.no (Gb.refl _ _ _) (.inr ⟨_,rfl⟩) u
def gH:List UInt8->List UInt8->List (List UInt8)
 |[],cur=>[cur]
 |c::r,cur=>if c.toNat=10 then cur::gH r []else gH r (cur++[c])
def JD(b:UInt8)(l:List UInt8):(([10]:List UInt8).isPrefixOf (b::l)=true)↔b.toNat=10:=by simp only[List.isPrefixOf,Bool.and_true,beq_iff_eq];exact⟨λh=>by rw[<-h];rfl,λh=>UInt8.toNat_inj.1 h.symm⟩
def Bh:∀(l cur:List UInt8),Lib.index l [10] = -1->gH l cur=[cur++l]
 |[],cur,_=>by simp[gH]
 | b::l,cur,h=>by
  unfold Lib.index at h
  by_cases a:b.toNat=10
  ·rw[GP ((JD b l).2 a)]at h;cases h
  rw[GO (λe=>a ((JD b l).1 e))]at h
  have d:Lib.index l [10] = -1:=by
   by_cases c:(Lib.index l [10] == -1)=true
   ·exact beq_iff_eq.1 c
   rw[GO c]at h;have:=Lib.index_ge l [10];omega
  unfold gH;rw[GO a,Bh l _ d];simp
def Cj:∀(l cur:List UInt8)(i:Nat),Lib.index l [10]=i->gH l cur=(cur++l.take i)::gH (l.drop (i+1)) []
 |[],cur,i,h=>by simp[Lib.index]at h
 | b::l,cur,i,h=>by
  unfold Lib.index at h
  by_cases a:b.toNat=10
  ·rw[GP ((JD b l).2 a)]at h
   have:i=0:=Z
   subst this
   conv=>lhs;unfold gH
   rw[GP a]
   simp
  rw[GO (λe=>a ((JD b l).1 e))]at h
  by_cases c:(Lib.index l [10] == -1)=true
  ·rw[GP c]at h;omega
  rw[GO c]at h
  obtain⟨j,rfl⟩:∃j,i=j+1:=⟨i-1,by
   have:=Lib.index_ge l [10]
   have:Lib.index l [10] ≠ -1:=λe=>c (beq_iff_eq.2 e)
   omega⟩
  conv=>lhs;unfold gH
  rw[GO a,Cj l _ j Z]
  simp
def nl:ByteArray:=⟨#[10]⟩
def A3:∀(k:Nat)(s:ByteArray),Lib.countB s nl=k->(Lib.splitB nl 0 k s).map (λt=>t.data.toList)=gH s.data.toList []
 |0,s,b=>by
  rcases Lib.indexB_cases s nl with a|⟨i,a,_⟩
  ·rw[Bh _ _ a];simp[Lib.splitB]
  have:=Lib.countB_hit s nl i ar a;omega
 |k+1,s,b=>by
  rcases Lib.indexB_cases s nl with a|⟨i,a,_⟩
  ·rw[Lib.countB_miss s nl a]at b;omega
  rw[Lib.splitB_hit nl 0 k s i a,It,A3 k _ (by have:=Lib.countB_hit s nl i ar a;omega),Cj _ _ i a]
  rw[Lib.extract_to_end]
  congr 1
  rw[ByteArray.data_extract,Array.toList_extract,List.extract_eq_take_drop]
  simp
def Rf:∀(l cur:List UInt8),(l≠[]\/cur=[])->gH l cur=kn l cur\/gH l cur=kn l cur++[[]]
 |[],cur,h=>by
  have:cur=[]:=by rcases h with h|h<;>simp_all
  subst this
  exact .inr rfl
 | c::r,cur,_=>by
  rw[OW]
  unfold gH
  by_cases a:c.toNat=10
  ·rw[GP a,GP a]
   rcases Rf r [] (.inr rfl)with h|h
   ·exact .inl (by rw[h])
   exact .inr (by rw[h];rfl)
  rw[GO a,GO a]
  by_cases b:r=[]
  ·subst b
   exact .inl rfl
  rw[GO b]
  exact Rf r _ (.inl b)
def xU:∀(a:List (List UInt8))(i:Nat)(s:rP),gJ (a++[[]]) i s=gJ a i s
 |[],i,s=>rfl
 |x::a,i,s=>xU a (i+1) _
def Jm(l:List UInt8)(h:l.length<=20000):kI l=gJ (gH l []) 0 ik:=by
 rw[kI,GO Z];rcases Rf l [] (.inr rfl)with e|e;·rw[e]
 rw[e,xU]
def xJ:∀(l cur:List UInt8),(gH l cur).length<=l.length+1
 |[],cur=>by simp[gH]
 |c::r,cur=>by
  have a:=xJ r []
  have b:=xJ r (cur++[c])
  unfold gH
  split<;>simp<;>omega
def xh:∀(l cur x:List UInt8),x∈gH l cur->x.length<=l.length+cur.length
 |[],cur,x,h=>by simp[gH]at h;subst h;simp
 | c::r,cur,x,h=>by
  unfold gH at h
  split at h
  ·rcases F4.1 h with h|h
   ·subst h;simp
   have:=xh r [] x h;simp at this⊢;omega
  have:=xh r _ x h;simp at this⊢;omega
def JV(ls:List (List UInt8))(k:Nat)(s:rP)(h:k<ls.length):gJ (ls.drop k) k s=gJ (ls.drop (k+1)) (k+1) (rZ k ls[k] s):=by rw[List.drop_eq_getElem_cons h];rfl
def Jj{s}{a:rP}{q}(h:OJ s q=some a):a.ops.length<=s.ops.length+1/\a.cf.draws.length<=s.cf.draws.length+q.length/\a.bad=s.bad:=by
 unfold OJ at h;split at h;·cases h;exact⟨Z,Z,rfl⟩
 cases d:tu q with
 |some o=>rw[d]at h;cases h;exact⟨bH,bH,rfl⟩
 |none=>
  rw[d]at h;cases b:ij s.cf q with
  |none=>rw[b]at h;cases h
  |some c=>rw[b]at h;cases h;exact⟨bH,AC b,rfl⟩
def KH(s:ByteArray)(m)(w:QM)(g:s.size<=1048576)(b:QG w 3 0 (I m)):
  QA 36 #[.string s,.string nl] w λe w'=>e=QJ (Vl w.heap.size (gH s.data.toList []).length (gH s.data.toList []).length)/\w'=w.alloc (QL ((gH s.data.toList []).map wg).toArray 9):=by
 have h:=Any.strings_Split Tryz.lays146 E s nl m w Z b ar;have c:=Lib.splitB_all nl ar 0 _ s rfl;have a:=A3 _ s rfl;have d:(gH s.data.toList []).length=Lib.countB s nl+1:=by rw[<-a,Gz,c]
 have f:(gH s.data.toList []).map wg=(Lib.splitB nl 0 (Lib.countB s nl) s).map Value.string:=by rw[<-a,List.map_map];rfl
 rw[d,f];exact h
def Ss.badMore{s ps}(h:Ss B S W s dv ov bd ps)(i)(q:s.bad.length<=2000000):
  ∃b W',QI 25 bd (Vl W.heap.size 1 1) (W.alloc (QL #[I i] 3)) b W'/\Bx W' S 57 (OD s.cf dv++[ov,bd])/\Gb B S W W'/\(∃a m c,b=.slice a m c)/\Ss B S (W'.setCell (Qz S 7) b) {s with bad:=s.bad++[i]} dv ov b ps:=by
 have⟨b,W',t,l,d,g⟩:=Ni tE h.res.bdo h.bw #[I i] rfl mL q;have f:=h.bx.grown d (h.bx.apart h.res.bdo ar);have u:=(Gb.refl B S W).grown d (λr e=>(h.res.bdo.lt r e).1) h.bw;have v:K2 W W':=K2.grown d h.res.bdo ar;have⟨a,m,c,hv,_⟩:=Re l;have n:W'.ownsRow B 3 1 b (s.bad++[i]).length (iv (s.bad++[i])):=by rw[show iv (s.bad++[i])=iv s.bad++[I i] by simp[iv],FC];exact l
 have e:=h.res.op.kept d (OH h.res.op h.res.bdo ar);have j:=h.res.dt.kept d (A5 h.res.ap);refine⟨b,W',t,f,u,⟨a,m,c,hv⟩,⟨by simpa[OD]using f.set 7 b,⟨fY j (f.apart j ar) b,fY e (f.apart e ar) b,h.res.eq,λp w=>?_,fY n (f.apart n ar) b,?_,h.res.pw⟩,h.sb,?_⟩⟩;·have:=v.own (h.res.dd p w) ar;exact fY this (f.apart this ar) b
 ·intro r o k;rcases g with g|g;·exact h.res.ap r o (g▸k)
  rw[g]at k;cases k;have:=(h.res.dt.lt _ o).2;omega
 have:=h.bw;have:=d.size;simp[World.setCell];omega
def Km:List Value:=OD ik.cf OL++[OL,OL]
def Ss.start(h:Bx W S 57 Km)(a:S<B)(b:B<=W.heap.size):Ss B S W ik OL OL OL []:=
 ⟨h,⟨⟨by simp[ik,iv],.inl ⟨rfl,rfl⟩⟩,⟨by simp[wX],.inl ⟨rfl,rfl⟩⟩,rfl,bH,⟨by simp[ik,iv],.inl ⟨rfl,rfl⟩⟩,(λr h=>by cases h),.nil⟩,a,b⟩
def Jq(s:ByteArray)(a:QN)(w:QM)(c:20000<s.size)(b:s.size<=1048576)(d:QG w 0 0 a):
  Calls prog 15 #[.string s] w λe w'=>e=QJ (.tuple #[.pointer none,a])/\D w w':=by
 have f:decide ((s.size:Int) > 20000)=true:=bG;go_wp2;go_quiet (fail);go_wp2
 go_ret2
 exact⟨rfl,below_drewN' th _⟩
def Lz(i l s):rZ i l s=(OJ s (cE l [])).getD {s with bad:=s.bad++[((i+1:Nat):Int)]}:=by rw[L3];cases OJ s (cE l [])<;>rfl
def ClF.keepG(h:ClF W S p k fs)(g:Gb B S W W')(a:S<p)(b:p+3<B):ClF W' S p k fs:=
 ⟨by rw[g.block _ Z Z];exact h.b0,by rw[g.block _ Z Z];exact h.b1,by rw[g.block _ Z Z];exact h.b2,by rw[g.block _ Z Z];exact h.b3⟩
def Mp.keepG{es}(h:Mp W M es)(g:Gb B S W W')(b:M<B)(d:M≠S):Mp W' M es:=by have⟨a,c,e,f⟩:=h;exact⟨a,c,by rw[g.block _ b d];exact e,f⟩
def Jw(h:Gb B S w w')(b:k<B)(c:k≠S){a:Nat}(d:QG w k a v):w'.cell? (Qz k a)=some v:=by rw[h.cell b c];exact d
def Lj{g a:Nat}(h:w.cell? (Qz g a)=some v):g<w.heap.size:=by
 unfold World.cell? at h;split at h;·rename_i b;exact G_ b
 cases h
def Lu(s:ByteArray)(V:Addr)(mx)(w:QM)(hs:s.size<=20000)(i:w.cell? (Qz 1 0)=some (.iface 399 (.pointer (some V))))(l:w.cell? (Qz 3 0)=some (I mx)):
  Calls prog 15 #[.string s] w λe w'=>∃S B dv ov bd ps,e=QJ (.tuple #[J S 0,.nilIface])/\w.heap.size<=S/\D w w'/\Ss B S w' (kI s.data.toList) dv ov bd ps:=by
 have h9:decide ((s.size:Int) > 20000)=false:=bG;have⟨W1,a⟩:=Qb (w.alloc (QL #[I 2,I 4,I 2,I 100,U 1,C,C,C] 57));have b:D w W1:=by rw[a];exact(Fu _ w).alloc gi _
 have c:Bx W1 w.heap.size 57 Km:=by rw[a];exact XD
 have d:=Lj i;have⟨S,j⟩:=Qb w.heap.size;have r:=JQ S W1;have b1:=H (Jm s.data.toList (by rw[<-Lib.size_eq];exact hs));have a0:=H (show(gH s.data.toList []).length<=20001 by have:=xJ s.data.toList [];rw[<-Lib.size_eq]at this;omega);have b2:Hid (∀x∈gH s.data.toList [],x.length<=20000):=(λx hx=>by have:=xh s.data.toList [] x hx;rw[<-Lib.size_eq]at this;simp at this;omega);have f:=NI b i;have g:=NI b l;have⟨b3,m,u⟩:=Qe b c j;have a2:W1.heap.size=w.heap.size+1:=by rw[a];simp
 have⟨a3,o⟩:=y7 a2 d;clear b c a2 d i l;go_in;go_upto_region 4 with fail
 refine Eq.mp (congrArg _ a) ?_;rw[<-j];clear a j;go_wp2_with fail;refine r.mono ?_;rintro e w1⟨rfl,b,p,l,t,d⟩;have i:=NI b g;have j:=NI b f;have a:=KH s mx w1 Z i;unfold nl at a;have⟨c,L,O,q,P⟩:=Qg b l t d j;clear r b l t d i j f g;go_wp2_with fail;refine a.mono ?_;rintro e K⟨rfl,f⟩;have⟨ls,g⟩:=Qb (gH s.data.toList []);rw[<-g]at b1 a0 b2 f⊢;have⟨N,G⟩:=Qb ls.length;rw[<-G]at a0⊢;have c9:N<=20001:=a0.out;have⟨R,j⟩:=Qb w1.heap.size;rw[<-j];have b:D w1 K:=by rw[f];exact(Fu _ w1).alloc gi _
 have b4:Hid (∀k,k<N->K.cell? (Qz R k)=some (.string (bs (ls.getD k [])))):=(λk hk=>by
  have i:K.heap[R]?=some (QL (ls.map wg).toArray 9):=by rw[f,j];exact XD
  have d:k<ls.length:=Z;rw[GT _ _ k _ _ _ i];simp[d,wg])
 have r:∃B,B=K.heap.size:=⟨_,rfl⟩;have⟨B,r⟩:=r;have t:B=R+1:=by rw[r,f,j];simp
 have z:S<R:=by rw[j];have:=c.size;have:=a3.out;have:=u.out;omega
 have c0:=H (show∃dv ov bd ps,Ss B S K ik dv ov bd ps from⟨OL,OL,OL,[],Ss.start (by have l:=m.out;rw[<-u.out]at l;exact(l.below c l.lt).below b (by have:=l.lt;have:=c.size;omega)) Z Z⟩)
 have a4:=H (L.below b);have X:Hid (∀i fs,yq[i]?=some fs->ClF K S (p i) i fs/\p i+3<R):=(λi fs hf=>by
  have l:=q.out i fs hf;refine⟨⟨?_,?_,?_,?_⟩,?_⟩;·rw[b.block _ (G_ l.b0)];exact l.b0
  ·rw[b.block _ (G_ l.b1)];exact l.b1
  ·rw[b.block _ (G_ l.b2)];exact l.b2
  ·rw[b.block _ (G_ l.b3)];exact l.b3
  have:=G_ l.b3;rw[j];omega)
 have A:=NI b P;have⟨c1,c2,HN,d⟩:=Qf A (show D w K from b3.trans ((c.trans (b.mono c.size)).mono b3.size)) G (IT t (IT z (IT r j)));have a5:Hid (∀i,i<7->S<p i/\p i+3<B):=(λi l=>by have h7:=O.out i l;have h6:=a3.out;have y:=u.out;obtain⟨fs,hf⟩:∃fs,yq[i]?=some fs:=⟨yq[i]'(by simp[yq];omega),bH⟩;have:=(X i fs hf).2;omega)
 have⟨M,F⟩:=Qb W1.heap.size;have b5:=H (show M<B/\M≠S from by have:=a4.lt;have:=a3.out;have:=u.out;omega);rw[<-F]at a4⊢;have d0:=H g;clear a g G f b r t z A F j;go_wp2_with fail;go_loopw [21] (λi wr=>∃(j:Nat)(f:rP),j<=N/\i=I (j:Int)/\Hid (∃dv ov bd ps,Ss B S wr f dv ov bd ps)/\Hid (Gb B S K wr)/\Hid (gJ ls 0 ik=gJ (ls.drop j) j f)/\Hid (f.ops.length<=j/\f.cf.draws.length<=j*20001/\f.bad.length<=j)) (λi _=>N-(intOf i).toNat);exact⟨0,ik,Z,rfl,c0,H (Gb.refl _ _ _),H rfl,H (by simp[ik])⟩
 obtain⟨j,f,hj,rfl,P,HG,r,HZ⟩:=hrel;by_cases g:j=N
 ·subst g;have a:=H (show kI s.data.toList=f by rw[b1,r,HN,List.drop_length];rfl);clear r;go_wp2_with fail
  go_ret2
  have⟨dv,ov,bd,ps,c⟩:=P.out;refine⟨S,B,dv,ov,bd,ps,rfl,by rw[u];exact gi,?_,by rw[a];exact c⟩;have b:=HG.out;have m:=c2.out;have q:=d.out;have a2:=u.out;refine⟨b.os.trans m.os,b.tape.trans m.tape,b.ou.trans m.output,Fx m.size b.size,λk hk=>(b.block k Z Z).trans (m.block k hk)⟩
 have a6:j<N:=Z;have c8:decide ((j:Int)<(N:Int))=true:=bG;have m:=Jw HG (show R<B by have:=d.out;omega) (by have:=d.out;omega) (b4 j a6);have F:=Jw HG (show 1<B by have:=d.out;have:=o.out;have:=u.out;omega) (by have:=o.out;have:=u.out;omega) c1;refine(let_mvar%?C:=ls.getD j [];?_);have⟨sl,a⟩:=Qb (bs ?C);rw[<-a]at m;have b:?C∈ls:=by have h7:j<ls.length:=(by rw[<-HN.out];exact a6);simp[h7]
 have z:=b2.out _ b;have Q:=Jn sl wr (by rw[a,gz];omega);rw[a,kO,<-a]at Q;have⟨q,G⟩:=Qb (cE ?C []);refine(let_mvar%?A:=gJ (ls.drop (j+1)) (j+1);let_mvar%?B:=((j+1:Nat):Int);?_);have L:=H (show gJ ls 0 ik=?A ((OJ f q).getD {f with bad:=f.bad++[?B]}) by have h7:j<ls.length:=(by rw[<-HN.out];exact a6);rw[r,JV ls j f h7,Lz,G];simp[h7])
 have b6:=H (show q.length<=20001 by rw[G];have:=O4 ?C [];omega);have c3:Hid (∀x∈q,0<x.length/\x.length<=1048576):=(λx hx=>by rw[G]at hx;exact⟨uw _ _ _ hx,by have y:=r_ _ _ _ hx;rw[F1]at y;omega⟩)
 have HJ:=H g;clear b z r g a;go_wp2_with fail;refine Q.mono ?_;rintro e w3⟨a,A,T,rfl,g⟩;rw[<-G]at g⊢;have⟨n,O⟩:=Qb q.length;rw[<-O];have b:Gb B S K w3:=HG.trans (Gb.below a (by have y:=HG.size;have h6:=d.out;omega));have⟨dv,ov,bd,ps,c⟩:=P.out;have z:=NI a F;have r:=Lk B S M p V A n q f dv ov bd ps w3 (c.below a) (a4.keepG b b5.1 b5.2) (λi fs hf=>(X i fs hf).1.keepG b (a5 i (by have y:=(Fz.1 hf).1;simpa[yq]using y)).1 (a5 i (by have y:=(Fz.1 hf).1;simpa[yq]using y)).2) a5 O g (by have:=b6.out;omega) c3 z (by have y:=HZ.2.1;have h6:j*20001<=20001*20001:=Gm _ Z;omega) (by have y:=HZ.1;omega)
 have⟨b7,d1⟩:=y7 b O;clear Q a g b c O G P F m T;cases hL:OJ f q with
 | some m=>
  rw[hL]at r;have F:=H (show gJ ls 0 ik=?A m by rw[L,hL];rfl);have a7:=H (show m.ops.length<=j+1/\m.cf.draws.length<=(j+1)*20001/\m.bad.length<=j+1 from by have y:=Jj hL;have h6:=HZ.out;have h7:=b6.out;refine⟨Z,Z,by rw[y.2.2];omega⟩)
  clear hL L HZ;go_wp2_with fail;refine r.mono ?_;rintro e Y⟨g,rfl,G⟩;have a8:Y.cell? (Qz 1 0)=some (.iface 399 (.pointer (some V))):=Jw g (show 1<B by have:=d.out;have:=o.out;have:=u.out;omega) (by have:=o.out;have:=u.out;omega) z;have⟨O,P⟩:=y7 G (b7.trans g);have hI:=Ko V Y;clear r g G z;go_wp2_with fail;refine hI.mono ?_;rintro e w5⟨rfl,rfl⟩;clear hI a8;go_wp2_with fail;go_roundw;(exact⟨j+1,m,Z,aY,O,P,F,a7⟩);exact QE
 | none=>
  rw[hL]at r;obtain⟨m,Q⟩:∃m:rP,m={f with bad:=f.bad++[?B]}:=⟨_,rfl⟩;have F:=H (show gJ ls 0 ik=?A m by rw[L,hL,Q];rfl);have a7:=H (show m.ops.length<=j+1/\m.cf.draws.length<=(j+1)*20001/\m.bad.length<=j+1 from by have h6:=HZ.out;rw[Q];simp;omega)
  clear hL L;go_wp2_with fail;refine r.mono ?_;rintro e Y⟨g,⟨v,rfl,a⟩,G⟩;have a8:Y.cell? (Qz 1 0)=some (.iface 399 (.pointer (some V))):=Jw g (show 1<B by have:=d.out;have:=o.out;have:=u.out;omega) (by have:=o.out;have:=u.out;omega) z;have⟨O,P⟩:=y7 G (b7.trans g);have hI:QA 16 #[v,.iface 399 (.pointer (some V))] Y λe w'=>e=QJ Ql/\D Y w':=by
   rcases a with rfl|⟨b,rfl⟩;·refine(Jt V Y).mono ?_;rintro e T⟨rfl,rfl⟩;exact⟨rfl,th⟩
   exact L4 b V Y
  clear r g G z a;go_wp2_with fail;refine hI.mono ?_;rintro e w5⟨rfl,a9⟩;have⟨dv,ov,bd,ps,c⟩:=O.out;have b8:=P.trans (Gb.below a9 c.bw);have T:=c.below a9;obtain⟨v6,w6,e6,b0,g6,⟨ea,a,ec,rfl⟩,b9⟩:=T.badMore (?B) (by have:=HZ.out;omega);have⟨c4,c5⟩:=y7 ((b8.trans g6).set 7 (.slice ea a ec)) (show∃dv ov bd ps,Ss B S (w6.setCell (Qz S 7) (.slice ea a ec)) m dv ov bd ps from⟨_,_,_,_,Q▸b9⟩);obtain⟨ba,b,bc,rfl,c6⟩:=Re T.res.bdo;have c7:w5.cell? (Qz S 7)=some (.slice ba b bc):=T.bx.cell 7;have d2:w6.cell? (Qz S 7)=some (.slice ba b bc):=b0.cell 7;have f7:=b0.free 7;rw[show(?B)=(j:Int)+1 by omega]at e6;clear hI a8 a9 c b8 T b0 g6 b9 c6 Q;go_wp2_with (at_builtin;refine up e6 ?_);go_roundw;(exact⟨j+1,m,Z,aY,c5,c4,F,a7⟩);exact QE
structure Bd(a:An4):Prop where
 c0:0<=a.code
 c1:a.code<=6
 ad:a.addr<18446744073709551616
 sz:a.size<=1000000
 by_:okB a.data
 dl:a.data.length<=4096
def Bd.no{c:Int}(a:0<=c)(b:c<=6):Bd (.no c):=⟨a,b,by simp[An4.no],by simp[An4.no],(λy h=>by cases h),by simp[An4.no]⟩
def Bd.at{q:Nat}(h:q<18446744073709551616):Bd ⟨0,q,0,[]⟩:=⟨bH,bH,h,bH,(λy h=>by cases h),bH⟩
def J_(m a n):0<=ci m a n/\ci m a n<=6:=by
 unfold ci jk
 repeat' split
 all_goals omega
def Db{h p}{c:Int}(e:aB h p=.no c):0<=c/\c<=6:=by
 unfold aB at e
 repeat' split at e
 all_goals first|(cases e;omega)|cases e
def Jg{cf h}(i:Inv cf h)(a):Bd (mQ (av cf h a).1):=by
 cases e:av cf h a with
 | mk x m=>
  cases x with
  |none=>exact Bd.no Z Z
  |some q=>
   apply Bd.at;have g:=i.gave e;rcases g.area with⟨c,s,j,b,d,f,k,_,_⟩|⟨r,l,k,_,_⟩;·have:=ca b d f;omega
   have:=g.inv.rgs r l;unfold Rg9.ext at this;unfold Rg9.base at*;omega
def Mc{cf h}(i:Inv cf h)(b:Byt h.m)(o){p:Nat}(v:p<18446744073709551616):Bd (NQ cf h o p).1:=by
 by_cases g:o.kd=0;·rw[Ea _ _ _ _ g];exact Jg i _
 by_cases k:o.kd=1
 ·rw[Ej _ _ _ _ k];unfold mB;split;·exact Bd.no Z Z
  exact Jg i _
 by_cases l:o.kd=2
 ·rw[Dj _ _ _ _ l];have d:=Jg i o.a;unfold a_;dsimp only;have e:=@Db h p;cases f:av cf h o.a with
  |mk x m=>rw[f]at d;cases x<;>(repeat' split)<;>first|exact d|exact Bd.at v|(rename_i a;exact Bd.no (e a).1 (e a).2)|(rename_i a;cases a;done)|(rename_i a;cases a;exact d)|exact Bd.no Z Z
 by_cases n:o.kd=3
 ·rw[C_ _ _ _ _ n];have e:=@Db h p;cases a:aB h p with
  |no c=>exact Bd.no (e a).1 (e a).2
  |range r=>exact Bd.no Z Z
  |slot c s j=>unfold dR;dsimp only;cases sound cf h c s j<;>exact Bd.no Z Z
 by_cases q:o.kd=4
 ·rw[D_ _ _ _ _ q];have e:=@Db h p;cases a:aB h p with
  |no c=>exact Bd.no (e a).1 (e a).2
  | range r=>
   refine⟨bH,bH,bH,?_,(λy h=>by cases h),bH⟩;have w:r∈h.rg:=by
    unfold aB at a
    repeat' split at a
    all_goals first|cases a|skip
    rename_i m A;exact Ip m
   have:=i.rgs r w;unfold Rg9.ext at this;show r.pages*1024<=1000000;omega
  |slot c s j=>refine⟨bH,bH,bH,?_,(λy h=>by cases h),bH⟩;show eV c<=1000000;unfold eV cy;rcases c with _|_|_|_|_|_|_|_|_|_|_|_|c<;>simp
 by_cases t:o.kd=5
 ·rw[De _ _ _ _ t];split;·exact Bd.no Z Z
  have:=J_ h.m p (o.a:Int);refine⟨this.1,this.2,bH,bH,?_,?_⟩
  ·dsimp only;split;·exact b.load _ _
   intro y z;cases z
  dsimp only;split;·simp[aH];omega
  simp
 by_cases u:o.kd=6;·rw[Dq _ _ _ _ u];have:=J_ h.m p (o.ys.length:Int);exact Bd.no this.1 this.2
 rw[Dk _ _ _ _ g k l n q t u];exact Bd.no Z Z
def Ku(c:Cf)(j:1<=c.fifo):∀(l:List fL)(h:Hs)(a:List An4)(k:Nat),Inv c h->Few k h->Byt h.m->(∀o∈l,okB o.ys/\o.p<18446744073709551616)->(∀x∈a,Bd x)->∀x∈(NJ c l h a).2,Bd x
 |[],h,a,k,i,f,b,g,ha=>ha
 |o::r,h,a,k,i,f,b,g,ha=>by
  have d:=g o bH
  have l:=jp c j [o] h a k i f
  unfold NJ
  refine Ku c j r _ _ _ l.1 l.2 (b.step a o d.1) (λa c=>g a (by simp[c])) λx e=>?_
  rcases F8.1 e with e|e
  ·exact ha x e
  rw[List.mem_singleton.1 e]
  unfold bU
  split
  ·exact Mc i b o d.2
  split
  ·exact Bd.no Z Z
  exact Mc i b o Z
def six:List UInt8:=[98,121,116,101,115,32]
def IY(n:Nat):UInt8:=UInt8.ofNat (if n<10 then 48+n else 87+n)
def uy(ys:List Int):List UInt8:=ys.flatMap λy=>[IY (y.toNat/16),IY (y.toNat%16)]
def OI(kd:Int)(a:An4):List UInt8:=
 if a.code≠0 then[101,114,114,111,114,32]++dec a.code.toNat
 else if kd=3\/kd=6 then[111,107]
 else if kd=4 then[115,105,122,101,32]++dec a.size
 else if kd=5 then(if a.data=[]then[98,121,116,101,115]else six++uy a.data)
 else[97,116,32]++dec a.addr
def m_(bad:List Int):List (List UInt8):=bad.map λn=>[63,32]++dec n.toNat
def qY(ks:List Int)(an:List An4):List (List UInt8):=(ks.zip an).map λx=>OI x.1 x.2
def JX(c u:Nat):List UInt8:=[99,111,109,109,105,116,116,101,100,32]++dec c++[32,117,115,101,100,32]++dec u
def joinL(ls:List (List UInt8)):List UInt8:=ls.flatMap λl=>l++[10]
structure Mv(o:sT):Prop where
 kd:o.kind<7
 p:o.p<18446744073709551616
 a:o.a<18446744073709551616
 b:o.b<18446744073709551616
 by_:∀d∈o.data,d<256
def EE:∀l:List Nat,(∀x∈l,x<16)->∀d∈mN l,d<256
 |[],_,d,h=>by cases h
 |[_],_,d,h=>by cases h
 |x::y::r,a,d,h=>by
  let b:=a x bH
  let c:=a y bH
  rcases F4.1 h with rfl|h
  .omega
  exact EE r (λz b=>a z (by simp[b])) d h
def LI{c l o}{i:sT}(h:mX c l n o=some i)(b:Mv o):Mv i:=by
 unfold mX at h;split at h
 .obtain⟨q,j,rfl⟩:=Option.map_eq_some_iff.1 h;have:=tR j;split;.exact⟨b.kd,b.p,this,b.b,b.by_⟩
  exact⟨b.kd,b.p,b.a,this,b.by_⟩
 split at h
 .obtain⟨x,a,rfl⟩:=Option.map_eq_some_iff.1 h;refine⟨b.kd,?_,b.a,b.b,b.by_⟩;unfold d_ at a;split at a
  .unfold wj at a;let⟨k,_,a⟩:=Option.bind_eq_some_iff.1 a;split at a;.cases a
   split at a;.cases a;show 0<_;omega
   obtain⟨m,g,rfl⟩:=Option.map_eq_some_iff.1 a;have:=tR g;dsimp only;split;.unfold yZ;omega
   exact this
  obtain⟨m,g,rfl⟩:=Option.map_eq_some_iff.1 a;exact tR g
 obtain⟨d,f,rfl⟩:=Option.map_eq_some_iff.1 h;refine⟨b.kd,b.p,b.a,b.b,λy e=>?_⟩;rcases F8.1 e with e|e;.exact b.by_ y e
 unfold qG at f;split at f
 .rename_i p;cases f;refine EE _ (λx a=>?_) y e;obtain⟨z,r,rfl⟩:=FQ.1 a;have:=List.all_eq_true.1 p.2.1 z r;simpa using this
 cases f
def IU:∀(f:List UInt8)(ws:List (List UInt8))(n:Nat)(o a:sT),eD f ws n o=some a->Mv o->Mv a
 |[],ws,n,o,a,h,b=>by cases h;exact b
 |c::f,ws,n,o,a,h,b=>by
  unfold eD at h
  let⟨g,d,e⟩:=Option.bind_eq_some_iff.1 h
  exact IU f _ _ _ _ e (LI d b)
def M_{q}{o:sT}(h:tu q=some o):Mv o:=by unfold tu at h;let⟨k,a,b⟩:=Option.bind_eq_some_iff.1 h;exact IU _ _ _ _ _ b ⟨(Gh.1 (Ip a)),bH,bH,bH,λd e=>by cases e⟩
def MO{l}{n:Int}(h:tJ l=some n): -1000000000<n/\n<1000000000:=by
 unfold tJ at h;split at h
 all_goals
  obtain⟨m,a,rfl⟩:=Option.map_eq_some_iff.1 h
  have:=sO a
  omega
def JB:∀(ws:List (List UInt8))(ns:List Int),dw ws=some ns->∀n∈ns,-1000000000<n/\n<1000000000
 |[],ns,h,n,a=>by cases h;cases a
 |w::r,ns,h,n,a=>by
  unfold dw at h
  let⟨x,b,c⟩:=Option.bind_eq_some_iff.1 h
  obtain⟨m,d,rfl⟩:=Option.map_eq_some_iff.1 c
  rcases F4.1 a with rfl|a
  .exact MO b
  exact JB r m d n a
structure J8(s:rP):Prop where
 ops:∀o∈s.ops,Mv o
 key:s.cf.key<18446744073709551616
 dr:∀d∈s.cf.draws,-1000000000<d/\d<1000000000
 bad:∀n∈s.bad,0<=n/\n<=1000000
def Ms{c}{e:Jh}{q}(h:ij c q=some e)(i:c.key<18446744073709551616)(f:∀d∈c.draws,-1000000000<d/\d<1000000000):e.key<18446744073709551616/\∀d∈e.draws,-1000000000<d/\d<1000000000:=by
 unfold ij at h;split at h;.obtain⟨k,g,rfl⟩:=Option.map_eq_some_iff.1 h;exact⟨tR g,f⟩
 let⟨j,g,a⟩:=Option.bind_eq_some_iff.1 h;split at a;.cases a;exact⟨i,f⟩
 split at a
 .cases a;refine⟨i,λd b=>?_⟩;rcases F8.1 b with b|b;.exact f d b
  exact JB _ _ g d b
 cases a
def Lx(i:Nat)(l s)(j:i<1000000)(b:J8 s):J8 (rZ i l s):=by
 unfold rZ;split;.exact b
 cases d:tu (cE l [])with
 |some o=>
  refine⟨λx a=>?_,b.key,b.dr,b.bad⟩;rcases F8.1 a with a|a;.exact b.ops x a
  rw[List.mem_singleton.1 a];exact M_ d
 | none=>
  cases e:ij s.cf (cE l [])with
  |some c=>obtain⟨f,g⟩:=Ms e b.key b.dr;exact⟨b.ops,f,g,b.bad⟩
  |none=>
   refine⟨b.ops,b.key,b.dr,λx a=>?_⟩;rcases F8.1 a with a|a;.exact b.bad x a
   rw[List.mem_singleton.1 a];omega
def IX:∀(ls:List (List UInt8))(i:Nat)(s:rP),i+ls.length<=1000000->J8 s->J8 (gJ ls i s)
 |[],i,s,a,b=>b
 |l::r,i,s,a,b=>IX r (i+1) _ (by simp at a;omega) (Lx i l s (by simp at a;omega) b)
def Jy(t):J8 (kI t):=by
 unfold kI;split;.exact⟨λo h=>(by cases h),by simp[BK],λd h=>(by cases h),λd h=>(by cases h)⟩
 have:=OX t [];exact IX _ 0 _ Z ⟨λo h=>(by cases h),by simp[ik],λd h=>(by cases h),λd h=>(by cases h)⟩
def EJ:∀(ls:List (List UInt8))(i:Nat)(s:rP),s.bad.length<=i->(gJ ls i s).bad.length<=i+ls.length
 |[],i,s,h=>h
 | l::r,i,s,h=>by
  let a:(rZ i l s).bad.length<=i+1:=by
   unfold rZ
   repeat' split
   all_goals try simp
   all_goals omega
  have:=EJ r (i+1) _ a;simp[gJ,FN];omega
def Ju(t):(kI t).bad.length<=20000:=by
 unfold kI;split;.simp[BK]
 let a:=OX t [];let b:=EJ (kn t []) 0 ik (by simp[ik]);omega
def Nf(f:FuncId):Prop:=f=31\/f=30
def Co{f}(p:Nf f)(n:Nat):n<18446744073709551616->∀w,QA f #[U (n:Int)] w λe w'=>∃g c,e=QJ (Vl g (dec n).length c)/\ObW w.heap.size w' (Vl g (dec n).length c) (dec n)/\D w w':=by
 induction n using Nat.strongRecOn with
 | ind n d=>
  intro j w;by_cases h:n<10
  ·rw[K6,GP h];have y:(n:Int)<10:=Z;have s:IntKind.u64.wrap (48+(n:Int))=((48+n:Nat):Int):=(by rw[IntKind.wrap_u64];omega);have a:IntKind.u8.wrap ((48+n:Nat):Int)=((48+n:Nat):Int):=(by rw[IntKind.wrap_u8];omega);have m:=H (show 48+n<256 by omega);clear d h;generalize 48+n=q at*;rcases p with rfl|rfl
   case' inl=>go_enter func31,ntmps31
   case' inr=>go_enter func30,ntmps30
   all_goals go_wp2
   all_goals go_ret
   all_goals have O:=ObW.new w [UInt8.ofNat q] bH
   all_goals rw[NA m]at O
   all_goals exact⟨_,_,rfl,O,ph⟩
  rw[K6,GO h];have a:=d (n/10) Z Z w;have⟨m,z⟩:=y7 (show 48+n%10<256 by omega) (kX (n/10) Z);have b:(n:Int).tdiv 10=((n/10:Nat):Int):=by rw[Ig Z];omega
  have i:(n:Int).tmod 10=((n%10:Nat):Int):=by rw[GH Z];omega
  have s:48+((n%10:Nat):Int)=((48+n%10:Nat):Int):=Z;have f0:IntKind.u64.wrap ((n/10:Nat):Int)=((n/10:Nat):Int):=by rw[IntKind.wrap_u64];omega
  have f1:IntKind.u64.wrap ((n%10:Nat):Int)=((n%10:Nat):Int):=by rw[IntKind.wrap_u64];omega
  have f2:IntKind.u64.wrap ((48+n%10:Nat):Int)=((48+n%10:Nat):Int):=by rw[IntKind.wrap_u64];omega
  have f3:IntKind.u8.wrap ((48+n%10:Nat):Int)=((48+n%10:Nat):Int):=by rw[IntKind.wrap_u8];omega
  have y:¬(n:Int)<10:=Z;clear d h j;generalize (n:Int)=N at*;generalize 48+n%10=q at*;generalize ((n%10:Nat):Int)=r at*;generalize n/10=d at*;obtain⟨j,o⟩:∃j:Int,j=(d:Int):=⟨_,rfl⟩;obtain⟨k,l⟩:∃k:Int,k=(q:Int):=⟨_,rfl⟩;rw[<-o]at b f0 a;rw[<-l]at s f2 f3;have A:=H l;clear o l;rcases p with rfl|rfl
  case' inl=>go_enter func31,ntmps31
  case' inr=>go_enter func30,ntmps30
  all_goals go_wp2_with fail
  all_goals refine a.mono ?_
  all_goals rintro e V⟨g,c,rfl,t,o⟩
  all_goals obtain⟨B,F,K,L,l,u,G,v⟩:=t.one [UInt8.ofNat q] o.size (by have:=z.out;simp;omega)
  all_goals rw[NA m,<-A.out]at l
  all_goals have x:=H u
  all_goals have B9:=H ((o.trans (((Fu _ V).alloc gi _).mono o.size)).trans v)
  all_goals clear a G v u t
  all_goals go_wp2_with (at_builtin;refine up l ?_)
  all_goals go_ret
  all_goals obtain⟨a,rfl,rfl⟩:∃a,B=some (Qz a 0)/\F=(dec d++[UInt8.ofNat q]).length:=ObW.isS x bH
  all_goals exact⟨_,_,rfl,x,B9⟩
def Bu(B b:Nat)(l:List UInt8)(W:World):Prop:=∃p v,(p=.pointer none\/p=J b 0)/\W.heap[b]?=some (.cells #[p,v] 70)/\ObW B W v l/\B<=b
def MH:(prog.info? 70).map (·.size)=some 2:=E
def Mw:liesAt prog prog.depth 70 (2/prog.cellsOf 70) 0 70 1=true:=E
def Mi(b)(p v:QN)(W:QM)(g:p=.pointer none\/p=J b 0)(h:W.heap[b]?=some (QL #[p,v] 70)):
  QA 47 #[J b 0] W λe W'=>e=QJ (.tuple #[])/\W'.heap[b]?=some (QL #[J b 0,v] 70)/\W.grownBy W' (some b):=by
 let⟨j,c,d⟩:=Option.map_eq_some_iff.1 MH;let k:W.cell? (Qz b 0)=some p:=bJ h;let f:=H h;rcases g with rfl|rfl
 .let a:W.shape? b=some (70,2):=by simp[World.shape?,h]
  let i:W.frozen? (Qz b 0)=false:=by simp[QD,h]
  go_enter func47,ntmps47;go_wp2;rw[Lib.run_to_unsafe W (Qz b 0) underlying68 underlying176 c (by rw[d];decide) a (Nat.zero_lt_succ 1)];simp[Result.andThen];rw[Oper.upon_value];go_wp2;rw[run_callFunc_extern func99 E E E (e:=Extern.AbiNoEscape.same) E];rw[Lib.run_noEscape];simp[Result.andThen];rw[Oper.upon_value];go_wp2;rw[Lib.run_from_unsafe W (Qz b 0) underlying176 underlying68 c a Mw];simp[Result.andThen];rw[Oper.upon_value];go_wp2;go_end0;exact⟨rfl,Bx.set (cs:=[.pointer none,v]) f 0 _,au (Q6 W b) 0 _⟩
 go_enter func47,ntmps47;go_wp2;rw[Lib.run_neq_ptr_same W _ underlying68 c];go_wp2;go_end0;exact⟨rfl,f,Q6 W b⟩
def ObW.set57{l}{cs:List QN}(h:ObW B W v l)(a:W.heap[b]?=some (QL cs.toArray 70))(c:B<=b)(i:Nat)(u:QN):ObW B (W.setCell (Qz b i) u) v l/\Ky (· =70) W (W.setCell (Qz b i) u)/\Below B W (W.setCell (Qz b i) u):=
 let k:Ky (· =70) W (W.setCell (Qz b i) u):=Ky.grown a rfl (au (Q6 W b) i u)
 ⟨h.ky k ar,k,(Fu B W).setCell (p:=(Qz b i)) c _⟩
def Bw9(B b:Nat)(W:World)(l:List UInt8)(W':World):Prop:=Bu B b l W'/\Ky (λt=>t=5\/t=70) W W'/\Below B W W'
def Bw9.of{V d:QM}{a:QP}{m c:Nat}{l i:List UInt8}(j:B<=b)(p:V.heap[b]?=some (QL #[J b 0,v] 70))(f:Ky (λt=>t=5\/t=70) W V)(g:Below B W V)(o:ObW B d (.slice a m c) i)(k:Ky (· =5) V d)(bu:Below B V d):Bw9 B b W i (d.setCell (Qz b 1) (.slice a m c)):=by let n:=k.XC p;let⟨q,r,s⟩:=ObW.set57 (cs:=[J b 0,v]) o n j 1 (.slice a m c);exact⟨⟨_,_,.inr rfl,Bx.set (cs:=[J b 0,v]) n 1 _,q,j⟩,(f.trans (k.more λt e=>.inl e)).trans (r.more λt e=>.inr e),(g.trans bu).trans s⟩
def Lt(B b l)(s:ByteArray)(W)(h:Bu B b l W)(u:B<=W.heap.size)(z:l.length+s.size<=2000000000):
  Calls prog 23 #[J b 0,.string s] W λe W'=>e=QJ (.tuple #[I s.size,.nilIface])/\Bw9 B b W (l++s.data.toList) W':=by
 let⟨p,v,c,a,f,n⟩:=h;have d:=Mi b p v W c a;let⟨w,q⟩:=y7 a f;let F:IntKind.i64.wrap (s.size:Int)=(s.size:Int):=by rw[Hh];omega
 clear c a f;go_in;go_wp2_with fail;apply d.mono;rintro e V⟨rfl,o,f⟩;let g:Ky (· =70) W V:=Ky.grown w rfl f;let i:=(Fu B W).grown f u (λr a=>by cases a;exact n);obtain⟨a,m,c,rfl,j⟩:=Re q;clear j;let⟨G,K,L,j,k,x,r,y⟩:=(q.ky g ar).str s (Fx u i.size) z;have A:=H (Bw9.of (l:=l) n o (g.more λt e=>.inr e) i x r y);have M:V.cell? (Qz b 1)=some (.slice a m c):=bJ o;have t:=r.XC o;have N:j.cell? (Qz b 1)=some (.slice a m c):=bJ t;have f2:j.frozen? (Qz b 1)=false:=by simp[QD,t]
 clear d g i x r y q w o f t;go_wp2_with (at_builtin;refine up k ?_)
 go_ret2
 exact⟨rfl,A⟩
def K9(B b){l}(x:UInt8)(W)(h:Bu B b l W)(s:B<=W.heap.size)(G:l.length<=1999999999):
  Calls prog 24 #[J b 0,.int .u8 ((x.toNat:Nat):Int)] W λe W'=>e=QJ .nilIface/\Bw9 B b W (l++[x]) W':=by
 let⟨p,v,c,a,f,n⟩:=h;have d:=Mi b p v W c a;let⟨y,u⟩:=y7 a f;clear c a f;go_in;go_wp2_with fail;apply d.mono;rintro e V⟨rfl,o,f⟩;let g:Ky (· =70) W V:=Ky.grown y rfl f;let i:=(Fu B W).grown f s (λr a=>by cases a;exact n);obtain⟨a,m,c,rfl,j⟩:=Re u;clear j;let⟨K,L,M,j,k,z,r,A⟩:=(u.ky g ar).one [x] (Fx s i.size) bG;have q:=(Fu V.heap.size V).alloc gi (QL (bv [x]).toArray 5);have w:=(Bx.below (cs:=[J b 0,.slice a m c]) o q (G_ o));have F:=H (Bw9.of (l:=l) n w ((g.more λt e=>.inr e).trans (Ky.below q)) (i.trans (q.mono i.size |>.mono (Nat.le_of_lt_succ (Nat.lt_succ_of_le s)))) z r A);have N:V.cell? (Qz b 1)=some (.slice a m c):=bJ o;have t:=r.XC w;have O:j.cell? (Qz b 1)=some (.slice a m c):=bJ t;have f2:j.frozen? (Qz b 1)=false:=by simp[QD,t]
 clear d g i z r A u y o f t w q;go_wp2_with (at_builtin;refine up k ?_);go_ret;exact⟨rfl,F⟩
def NF:Builder.Extra prog Tryz.lays169_ren where
 sizeBuilder:=E
 liesBuilder:=E
 t5:=underlying5
 a5:=Tryz.isAgg5
 z5:=Tryz.sizeOf5
 v5:=Tryz.zeroValue5
 infoByte:=E
 cellsByte:=E
 sizeByte:=E
 neB5:=ar
def LL(B b l W)(h:Bu B b l W)(j:B<=W.heap.size):
  QA 25 #[J b 0] W λe W'=>e=QJ (.string (bs l))/\Below B W W':=by
 let⟨p,v,k,d,f,a⟩:=h;let g:Lib.BuilderAt 70 5 B b p (Lib.byteCells l) W:=⟨a,v,d,by rwa[Lib.byteCells_length],λe=>by let⟨_,c,i⟩:=aF f e;rw[d]at i;cases i⟩
 exact Any.Builder_String_any Tryz.lays169 NF B b l W (by rcases k with rfl|rfl;exact .inl g;exact .inr g) j
def Jx(q:Nat)(a:q<16)(W:QM):(Instr.index 9 (.string ⟨#[48,49,50,51,52,53,54,55,56,57,97,98,99,100,101,102]⟩) (.int .u8 (q:Int))).run prog W=.ok (.int .u8 ((IY q).toNat:Int)) W:=by rcases q with _|_|_|_|_|_|_|_|_|_|_|_|_|_|_|_|q<;>first|omega|kernel_rfl
def Lm(B:Nat)(W:World)(v:Value)(l:List UInt8):Prop:=ObW B W v l\/(l=six/\∃g,v=Vl g 6 6/\B<=g/\W.heap[g]?=some (.cells (bv six).toArray 5 (6,7)))
def Lm.two{l}(h:Lm B W v l)(x y:UInt8)(c:B<=W.heap.size)(t:l.length<=1000000000):ApW B (W.alloc (QL (bv [x,y]).toArray 5)) 22 v (Vl W.heap.size 2 2) (l++[x,y]):=by
 rcases h with h|⟨rfl,g,rfl,w,m⟩;·exact h.one [x,y] c bG
 have⟨o,d,f,a,i⟩:=G0 ql.info;have r:=Jd W [x,y];have k:=(Fu W.heap.size W).alloc gi (QL (bv [x,y]).toArray 5);generalize W.alloc (QL (bv [x,y]).toArray 5)=V at*;have p:V.heap[g]?=some (.cells (bv six).toArray 5 (6,7)):=(k.block g (G_ m)).trans m;have e:=run_append_grow (P:=prog) V 22 22 5 o _ ql.und d f (Qz g 0) 6 6 (bv six) (by rw[a];rfl) (λj u b=>by rw[Addr.add_mid,Oi,ac p];simpa using b) (Qz W.heap.size 0) 2 2 (bv [x,y]) (by rw[a];rfl) (λj u b=>by rw[Addr.add_mid,Oi,r.cell j (Fz.1 b).1];exact b) Z Z (by rw[i];decide)
 have q:=grownCap_ge V 8 6 5;have s:=grownCap_le_maxLen V 8 6 5 (by unfold maxLen;omega);have n:=((Fu V.heap.size V).drew).alloc gi (QL ((bv six).toArray++(bv [x,y]).toArray++Builtin.zeroCells (Value.int .u8 0).cells (grownCap V 8 6 5-8)) 5);refine⟨_,_,_,_,e,⟨rfl,.inr ⟨_,_,_,rfl,Fx c k.size,XD,q,s,?_,?_⟩⟩,Ky.below n,n.mono (Fx c k.size)⟩;·simp[size_zeroCells,bv,six,Value.cells];omega
 simp[bv,six]
def Lm.cell{B W v l}(h:Lm B W v l)(d:l≠[]):∃g c,v=Vl g l.length c/\∀j,(a:j<l.length)->W.cell? (Qz g j)=some (.int .u8 (l[j].toNat:Int)):=by
 rcases h with h|⟨rfl,g,rfl,k,c⟩
 ·rcases h.2 with⟨_,e⟩|⟨g,b,f,i,_⟩;·exact absurd (Ik e) d
  subst i;exact⟨g,b,rfl,λj a=>by rw[(RowV.ofOwns h).cell j (by rw[rb];exact a),uE _ _ a]⟩
 exact⟨g,6,rfl,λj a=>by rw[ac c,List.getElem?_toArray,uE _ _ a]⟩
def BR(a:List Int)(k:Nat)(y:Int)(h:a[k]?=some y):uy (a.take (k+1))=uy (a.take k)++[IY (y.toNat/16),IY (y.toNat%16)]:=by rw[F_,h];simp[uy]
def Di(ys):(uy ys).length=2*ys.length:=by
 unfold uy;induction ys with
 |nil=>rfl
 |cons y r a=>simp at a⊢;omega
def KE(B:Nat)(a:QP)(m c:Nat)(l:List Int)(W:QM)(i:W.ownsRow B 5 1 (.slice a m c) l.length (Ns .u8 l))(j:okB l)(Q:l.length<=4096):
  QA 97 #[.slice a m c] W λe W'=>e=QJ (.string (bs (if l=[]then[98,121,116,101,115]else six++uy l)))/\D W W':=by
 by_cases f:l=[]
 ·subst f;rw[GP rfl];have b:m=0:=by rcases i.2 with⟨o,_⟩|⟨g,v,w,o,_⟩<;>injection o with _ R
  subst b;clear i j Q;go_enter func97,ntmps97;go_wp2;go_ret;exact⟨rfl,th⟩
 rw[GO f];obtain⟨g,rfl,rfl,T⟩:∃g,a=some (Qz g 0)/\m=l.length/\Hid (RowV W g 5 (Ns .u8 l)):=by
  rcases i.2 with⟨_,o⟩|⟨g,v,w,o,R⟩;·exact absurd (Ik o) f
  injection o with o b d;subst o b d;exact⟨g,rfl,rfl,H (RowV.ofOwns i)⟩
 have hp:((l.length:Int)==0)=false:=by have:=List.length_pos_iff.2 f;simp;omega
 have X:=H j;have Y:Hid (∀V,D W V->∀k y,l[k]?=some y->QG V g k (.int .u8 y)):=(λV b k y x=>by
  apply NI b;have q:k<(Ns .u8 l).length:=by rw[NM];exact(Fz.1 x).1
  rw[T.cell k q];simp[Ns,x])
 have b:=Lib.run_convert_bytes_const (P:=prog) W 22 5 #[.int .u8 98,.int .u8 121,.int .u8 116,.int .u8 101,.int .u8 115,.int .u8 32] 6 6 underlying22 underlying5;have⟨K,d⟩:=Qa (W.alloc (.cells #[.int .u8 98,.int .u8 121,.int .u8 116,.int .u8 101,.int .u8 115,.int .u8 32] 5 (6,7)));have s:Hid (Lm W.heap.size K (Vl W.heap.size 6 6) (six++uy (l.take 0))):=(.inr ⟨rfl,_,rfl,gi,by rw[<-d];exact XD⟩);have p:=H (show D W K by rw[<-d];exact ph);rw[show(#[.int .u8 98,.int .u8 121,.int .u8 116,.int .u8 101,.int .u8 115,.int .u8 32]:Array QN).size=6 from rfl,d]at b;have HY:=H f;clear i j f d;generalize d:l.length=n at*;have z:=H d;clear d;go_enter func97,ntmps97;go_wp2;go_loopw [3,13] (λa i wr=>∃(k:Nat)(A:QP)(F t:Nat),k<=n/\i=I (k:Int)/\a=.slice A F t/\Hid (Lm W.heap.size wr (.slice A F t) (six++uy (l.take k)))/\Hid (D W wr)) (λ_ i _=>n-(intOf i).toNat);exact⟨0,_,_,_,aa,rfl,rfl,s,p⟩
 obtain⟨k,A,F,t,x,rfl,rfl,s,p⟩:=hrel;by_cases q:k<n
 ·have G:(k:Int)<(n:Int):=Z;obtain⟨y,u⟩:∃y,l[k]?=some y:=⟨l[k]'(by have:=z.out;omega),by simp[z.out,q]⟩;have d:=Y.out wr p k y u;have r:=X.out y (FM u);refine(let_mvar%?A:=y.toNat/16;let_mvar%?B:=y.toNat%16;?_);have L:=(show Lm W.heap.size wr.drew _ _ from s).two (IY (?A)) (IY (?B)) p.size (by rw[FC,Di,Hm];simp[six];omega);rw[GJ,<-BR l k y u]at L;have i1:=Jx (?A) Z;have i2:=Jx (?B) Z;have q1:y.tdiv 16=((?A:Nat):Int):=(by rw[Ig r.1];omega);have q2:y.tmod 16=((?B:Nat):Int):=(by rw[GH r.1];omega);have w1:IntKind.u8.wrap ((?A:Nat):Int)=((?A:Nat):Int):=(by rw[IntKind.wrap_u8];omega);have w2:IntKind.u8.wrap ((?B:Nat):Int)=((?B:Nat):Int):=(by rw[IntKind.wrap_u8];omega);have⟨a8,m8,M,f,j,N,k8,O⟩:=L;rw[show bv [IY (?A),IY (?B)]=[.int .u8 ((IY (?A)).toNat:Int),.int .u8 ((IY (?B)).toNat:Int)]from rfl]at j;have O8:Hid (Lm _ _ _ _):=.inl N;have W8:=H ((p.drew.alloc p.size (QL #[.int .u8 ((IY (?A)).toNat:Int),.int .u8 ((IY (?B)).toNat:Int)] 5)).trans O);generalize ((IY (?A)).toNat:Int)=H1 at*;generalize ((IY (?B)).toNat:Int)=H2 at*;generalize ((?A:Nat):Int)=Q1 at*;generalize ((?B:Nat):Int)=Q2 at*;clear u r N k8 O s p;go_wp2;refine rh (S:=λ_=>True) ?_;have r:True:=trivial;(iterate 7 (refine py (S:=λ_=>True) r ?_;simp only[f0,f1,Nat.reduceAdd,lz,l0,ls]));refine po 7 λK' u=>?_;go_simp;refine u _ _ ⟨trivial,?_⟩;clear u K';refine gu 8 ?_;refine ur j ⟨trivial,?_⟩;refine py (S:=λ_=>True) r ?_;simp only[f0,f1,Nat.reduceAdd,lz,l0,ls];refine bY ?_;go_wp2;go_roundw
  (exact⟨k+1,a8,m8,M,Z,aY,rfl,O8,W8⟩);exact QE
 obtain rfl:k=n:=Z;have G:¬(k:Int)<(k:Int):=Z;have⟨j,M,f,d⟩:=s.cell (by simp[six]);injection f with u r L;subst u L;have N:=run_convert_bytes_back (P:=prog) wr 22 9 5 (Qz j 0) t (six++uy (l.take k)) underlying22 underlying5 underlying9 (λj a=>by rw[Lib.add_plain,Oi];exact d j a);rw[<-r,Ge (by have:=z.out;omega)]at N;clear d s r;go_wp2;go_ret;exact⟨rfl,p⟩
def Ri(a l:List UInt8){R:List UInt8}(h:a++l=R):bs a++bs l=bs R:=by subst h;apply ByteArray.ext;simp[bs]
def ER(k:Nat)(n:Nat)(a:k<=1000)(h:n<18446744073709551616):¬9223372036854775807<k+(bs (dec n)).size:=by have:=kX n h;rw[show(bs (dec n)).size=(dec n).length by simp[bs,ByteArray.size]];omega
def Kd(B:Nat)(q:Int)(an)(a:QP)(m c:Nat)(W)(bd:Bd an)(z:0<=q/\q<=6)(r:PtW W)(t:W.ownsRow B 5 1 (.slice a m c) an.data.length (Ns .u8 an.data)):
  Calls prog 46 #[I q,.agg #[I an.code,U an.addr,I an.size,.slice a m c]] W λe W'=>e=QJ (.string (bs (OI q an)))/\D W W':=by
 have⟨d,f⟩:=Qa an.code;have s:=bd.c0;have u:=bd.c1;rw[f]at s u⊢;refine(let_mvar%?A:=QL #[I d,U an.addr,I an.size,.slice a m c] 94;?_);have⟨V,y⟩:=Qa (W.alloc ?A);have g:D W V:=by rw[<-y];exact ph
 have i:=ao W ?A;rw[y]at i;refine(let_mvar%?B:=Qz W.heap.size;?_);have L:V.cell? (?B 0)=some (I d):=bJ i;have M:V.cell? (?B 1)=some (U an.addr):=bJ i;have N:V.cell? (?B 2)=some (I an.size):=bJ i;have O:V.cell? (?B 3)=some (.slice a m c):=bJ i;have j:=r.below g;have v:=H g;have k:=wT d.toNat Z V j;rw[IK s]at k;have l:=wT an.size (by have:=bd.sz;omega) V j;have n:=Lr an.addr bd.ad V j;have o:=KE B a m c an.data V (ax t g) bd.by_ bd.dl;have⟨R,p⟩:=Qa (OI q an);rw[p];unfold OI at p;rw[f]at p;have F:=bd.ad;have G:=bd.sz;generalize (an.addr:Int)=A at*;generalize (an.size:Int)=S at*;by_cases t:d=0
 case' neg=>
  have j:(d !=0)=true:=by simp[t]
  rw[GP t]at p;have g:(⟨#[101,114,114,111,114,32]⟩:ByteArray)++bs (dec d.toNat)=bs R:=Ri [101,114,114,111,114,32] (dec d.toNat) p;have i:=ER 6 d.toNat Z Z
 case' pos=>
  subst t;rw[GO Z]at p;by_cases r:q=3\/q=6
  case' pos=>rw[GP r]at p;subst p;rcases r with rfl|rfl
  case' neg=>
   have j:¬q=3:=λh=>r (.inl h)
   have K:¬q=6:=λh=>r (.inr h)
   rw[GO r]at p;by_cases w:q=4
   case' pos=>have k:=l;rw[GP w]at p;have g:(⟨#[115,105,122,101,32]⟩:ByteArray)++bs (dec an.size)=bs R:=Ri [115,105,122,101,32] (dec an.size) p;have i:=ER 5 an.size Z Z
   case' neg=>
    rw[GO w]at p;by_cases x:q=5
    case' pos=>have k:=o;rw[GP x]at p;rw[p]at k
    case' neg=>have k:=n;rw[GO x]at p;have g:(⟨#[97,116,32]⟩:ByteArray)++bs (dec an.addr)=bs R:=Ri [97,116,32] (dec an.addr) p;have i:=ER 3 an.addr Z Z
 all_goals
  clear n l o z F G
  try clear r
  try clear p
  try subst w
  try subst x
  go_in
  go_wp2_with fail
  try(refine k.mono ?_;rintro e j⟨rfl,b⟩;go_wp2_with fail)
  go_ret
  first|exact⟨rfl,v⟩|exact⟨rfl,v.trans (b.mono v.size)⟩
