import Derived.Test.YtbcacchkcedffaaGreatDoorM10
set_option linter.all false
set_option maxRecDepth 20000
set_option maxHeartbeats 0
namespace Go.Proofs.YtbcacchkcedffaaGreatDoor
open Go.Proofs.Tryz Go.RowKit Go.Maps Go.Shelf Go.ChangeShapes Go.WideShapes Go.ChangeAt
section
variable {B:Nat}{P:Nat->Prop}{W0:World}
def NG{e:QO}{sz n:Nat}{c:List QN}{W W':QM}{v:QN}(h:W.ownsRow B e sz v n c)(k:∀r,v.ownBlock=some r->W'.heap[r]?=W.heap[r]?):W'.ownsRow B e sz v n c:=by
 refine⟨h.1,?_⟩;rcases h.2 with a|⟨g,cap,b,d,a,f,i⟩;·exact .inl a
 exact .inr ⟨g,cap,b,d,a,(k g (by rw[d];rfl)).trans f,i⟩
section
variable {p:Nat}{w b0:World}{a:Option Addr}{len cap R:Nat}{v:Value}{l:List UInt8}{W W':World}
def Rp.low9(h:Rp p w a len cap R b0 W)(b:Below b0.heap.size W W')(d:R<b0.heap.size):Rp p w a len cap R b0 W':=by have e:=h.new;refine⟨by rw[b.block R d];exact h.box,h.pl,⟨b.os.trans h.bel.os,b.tape.trans h.bel.tape,b.output.trans h.bel.output,Fx h.bel.size b.size,λk f=>(b.block k Z).trans (h.bel.block k f)⟩,e,⟨b.os.trans h.g.os,b.tape.trans h.g.tape,b.output.trans h.g.output,Fx h.g.size b.size,λk c g=>(b.block k c).trans (h.g.block k c g)⟩⟩
structure Sr(p:Nat)(w:QM)(a:QP)(len cap R:Nat)(b0:QM)(v:QN)(l:List UInt8)(W:QM):Prop where
 rd:Rp p w a len cap R b0 W
 o:ObW b0.heap.size W v l
 rn:R<b0.heap.size
def Sr.next(h:Sr p w a len cap R b0 v l W){p'}(b:Rp p' w a len cap R W W'):Sr p' w a len cap R b0 v l W':=
 ⟨h.rd.of b,h.o.kept b.g (.inr λe=>by have:=(h.o.lt R e).1;have:=h.rn;omega),h.rn⟩
def Sr.below(h:Sr p w a len cap R b0 v l W)(b:D W W'):Sr p w a len cap R b0 v l W':=h.next (h.rd.at.below b)
def Sr.put{v' l'}(h:Sr p w a len cap R b0 v l W)(o:Oy b0.heap.size P W W' v' l'):Sr p w a len cap R b0 v' l' W':=⟨h.rd.low9 o.bel h.rn,o.o,h.rn⟩
def ObW.oy(h:ObW B W v l)(a:B<=W.heap.size):Oy B (λ_=>False) W W v l:=⟨h,λ_ _ h=>h,λ_ _=>rfl,th,a,λ_ h=>h.elim⟩
def Oy.flip{B'}{u:QN}{l2}(h:Oy B' (λr=>u.ownBlock=some r) W0 W v l)(b:ObW B W0 u l2)(d:B<=B'):Oy B (λr=>v.ownBlock=some r) W W u l2:=
 ⟨NG b (λr a=>h.win r a),λr e f=>h.ap r f e,λ_ _=>rfl,th,Fx d (Fx h.hB h.bel.size),λr a=>(aF h.o a).2.elim λc g=>G_ g⟩
def Oy.ch{x:UInt8}{i:Int}(h:Oy B P W0 W v l)(e:(x.toNat:Int)=i)(a:l.length<=1000000000):Ny B P W0 (W.alloc (QL #[.int .u8 i] 5)) 22 v (Vl W.heap.size 1 1) (l++[x]):=by subst e;exact h.one [x] (by rw[List.length_singleton];omega)
def Sr.ow(h:Sr p w a len cap R b0 v l W):Oy b0.heap.size (λ_=>False) W W v l:=h.o.oy h.rd.g.size
def Oy.rk{g xs}(h:Oy B P W0 W v l)(r:RowV W0 g 5 xs)(a:P g):RowV W g 5 xs:=by have⟨c,b,d⟩:=r;exact⟨c,(h.win g a).trans b,d⟩
def Sr.al(h:Sr p w a len cap R b0 v l W)(xs):Sr p w a len cap R b0 v l (W.alloc (QL (bv xs).toArray 5))/\Oy b0.heap.size (· =W.heap.size) (W.alloc (QL (bv xs).toArray 5)) (W.alloc (QL (bv xs).toArray 5)) v l/\RowV (W.alloc (QL (bv xs).toArray 5)) W.heap.size 5 (bv xs):=by have b:=(Fu W.heap.size W).alloc gi (QL (bv xs).toArray 5);have s:=h.below b;exact⟨s,⟨s.o,λr d e=>(aF h.o d).2.elim λc f=>by have:=G_ f;omega,λ_ _=>rfl,th,s.rd.g.size,λk e=>by rw[e];simp⟩,Jd W xs⟩
end
def PI{b:QM}{Y:Nat}{q}(h:b.heap[Y]?=some (.cells (fH q).toArray 63)):b.cell? (Qz Y 0)=some (I q.o.kd)/\b.cell? (Qz Y 1)=some (I q.o.ref)/\b.cell? (Qz Y 2)=some (U q.o.p)/\b.cell? (Qz Y 3)=some (U q.o.a)/\b.cell? (Qz Y 4)=some (U q.o.b)/\b.cell? (Qz Y 5)=some (.slice q.d q.o.ys.length q.dc):=by simp[QC,h,fH]
def Oy.tx{W v l}(h:Oy B P W0 W v l)(n:Nat)(o:n<18446744073709551616)(s:l.length<=1000000000):QA 31 #[U (n:Int)] W λe a=>∃g d i j k f,e=QJ (Vl g (dec n).length d)/\D W a/\QI 22 v (Vl g (dec n).length d) a (.slice i j k) f/\Oy B P W0 f (.slice i j k) (l++dec n)/\Ky (· =5) a f:=by apply(Co (.inl rfl) n o W).mono;rintro e t⟨g,d,rfl,b,p⟩;have u:=kX n o;have⟨i,j,k,f,m,q,r⟩:=(h.below p).row (c:=d) (RowV.ofOwns b) Z;exact⟨g,d,i,j,k,f,rfl,p,m,q,r⟩
def Q3(j:List Int)(p i:Nat)(r:fL×Nat):Prop:=∀(w0:World)(a:Option Addr)(len cap:Nat),Cb j w0 a len cap->∀(R:Nat)(W:World),Rp p w0 a len cap R W W ->
 QA 33 #[J R 0,I i,.bool false] W λe W'=>∃d dc,e=.returned (.agg (fH ⟨r.1,d,dc⟩).toArray)/\Od6 W.heap.size ⟨r.1,d,dc⟩ W'/\Rp r.2 w0 a len cap R W W'
def Ps(zs):∃F:Nat->Nat->fL×Nat,∀q j,j<=400->Q3 zs q j (F q j):=by
 have h:∀q j,∃r,j<=400->Q3 zs q j r:=λq j=>by
  by_cases a:j<=400;·have⟨o,b,h⟩:=PT zs q j a;exact⟨(o,b),λ_=>h⟩
  exact⟨(⟨0,0,0,1,0,[]⟩,0),λh=>absurd h a⟩
 exact⟨λq j=>(h q j).choose,λq j=>(h q j).choose_spec⟩
def Pn(zs):∃A:Nat->Nat×Nat,∀q,Gt zs 34 q (U ((A q).1:Nat)) (A q).2/\(A q).1<18446744073709551616:=by
 have h:∀q,∃r:Nat×Nat,Gt zs 34 q (U r.1) r.2/\r.1<18446744073709551616:=λq=>by have⟨c,a,g,b,d⟩:=Nr zs q;obtain⟨n,rfl⟩:=Ha b;exact⟨(n,a),g,by show n<_;omega⟩
 exact⟨λq=>(h q).choose,λq=>(h q).choose_spec⟩
def Ei:List ByteArray:=[⟨#[109,97,108,108,111,99,32]⟩,⟨#[99,97,108,108,111,99,32]⟩,⟨#[114,101,97,108,108,111,99,32]⟩,⟨#[102,114,101,101,32]⟩,⟨#[117,115,97,98,108,101,32]⟩,⟨#[108,111,97,100,32]⟩,⟨#[115,116,111,114,101,32]⟩,⟨#[100,114,97,119,115,32]⟩,⟨#[104,101,97,112,32]⟩,⟨#[107,101,121,32]⟩]
def J2:ByteArray:=⟨#[48,49,50,51,52,53,54,55,56,57,97,98,99,100,101,102]⟩
def Pf:ByteArray:=⟨#[48,49,50,51,52,53,54,55,56,57,65,66,67,68,69,70]⟩
def Em:ByteArray:=⟨#[48,49,50,51,52,53,54,55,56,57,97,98,99,100,101,102,65,66,67,68,69,70]⟩
def Oj(s:ByteArray)(q:Nat):UInt8:=s.data.getD q 0
def PN(s:ByteArray)(K:IntKind)(q:Nat)(h:q<s.size)(W:QM):(Instr.index 9 (.string s) (.int K (q:Int))).run prog W=.ok (.int .u8 ((Oj s q).toNat:Int)) W:=by
 rw[run_index_string W 9 s K _ underlying9,dif_pos ⟨Z,Z⟩];have:Oj s q=s[q]'h:=by unfold Oj;exact Array.getElem_eq_getD 0 |>.symm
 rw[this];rfl
def PH(A:Nat->Nat×Nat)(o:fL)(k p:Nat):List UInt8×Nat:=
 if k%16=6 then(dec (A p).1,(A p).2)else([36]++dec (IntKind.u64.wrap o.ref).toNat++(if k%4=1 then[43]++dec (o.p%100)else if k%16=2 then[45]++dec (o.p%100)else[]),p)
def Ot(o:fL)(k:Nat):Nat:=if k%12<10 then k%12 else o.kd.toNat%7
def Ox(e:List Int)(p:Nat):Nat->List UInt8×Nat
 |0=>([],p)
 |j+1=>((Ox e p j).1++dec (mg e (Ox e p j).2)++[32],Sw e (Ox e p j).2)
def Pj(l:List UInt8):List UInt8:=(l.map λy=>[Oj J2 (y.toNat/16),Oj Pf (y.toNat%16)]).flatten
def Ov(l):(Pj l).length=2*l.length:=by
 induction l with
 |nil=>rfl
 |cons x l a=>simp only[Pj,It,List.flatten_cons,FC,FN,F1]at*;omega
def Pi(l:List UInt8)(t:Nat)(z:UInt8)(h:l[t]?=some z):Pj (l.take (t+1))=Pj (l.take t)++[Oj J2 (z.toNat/16),Oj Pf (z.toNat%16)]:=by rw[F_,h];simp[Pj]
def Po(ys:List Int):List UInt8:=ys.map λy=>UInt8.ofNat y.toNat
def Om(e:List Int)(o:fL)(k:Nat)(pl:List UInt8×Nat):Nat->List UInt8×Nat
 |0=>(dec o.a,pl.2)
 |1=>(dec o.a++[32]++dec o.b,pl.2)
 |2|5=>(pl.1++[32]++dec o.a,pl.2)
 |3|4=>(pl.1,pl.2)
 |6=>(pl.1++[32]++Pj (Po o.ys++[UInt8.ofNat k]),pl.2)
 |7=>Ox e pl.2 (k/16+1)
 |8=>([48+k%5,32,49+k/8%8,32,48+k/64,32,49+k%9,48+k%10].map UInt8.ofNat,pl.2)
 |_=>([Oj Em (k%22),Oj J2 (k/16)],pl.2)
def w8(k:Nat)(a:k<=255):∃i l m a b c d j e f g:Int,((k:Int)/8=i/\(k:Int)%5=l/\i%8=m/\(k:Int)/64=a/\(k:Int)%9=b/\(k:Int)%10=c)/\((k:Int).tdiv 8=i/\(k:Int).tmod 5=l/\i.tmod 8=m/\(k:Int).tdiv 64=a/\(k:Int).tmod 9=b/\(k:Int).tmod 10=c)/\(48+l=d/\49+m=j/\48+a=e/\49+b=f/\48+c=g)/\(IntKind.i64.wrap i=i/\IntKind.i64.wrap l=l/\IntKind.i64.wrap m=m/\IntKind.i64.wrap a=a/\IntKind.i64.wrap b=b/\IntKind.i64.wrap c=c)/\(IntKind.i64.wrap d=d/\IntKind.i64.wrap j=j/\IntKind.i64.wrap e=e/\IntKind.i64.wrap f=f/\IntKind.i64.wrap g=g)/\(IntKind.u8.wrap d=d/\IntKind.u8.wrap j=j/\IntKind.u8.wrap e=e/\IntKind.u8.wrap f=f/\IntKind.u8.wrap g=g)/\bv (([48+k%5,32,49+k/8%8,32,48+k/64,32,49+k%9,48+k%10]:List Nat).map UInt8.ofNat)=[.int .u8 d,.int .u8 32,.int .u8 j,.int .u8 32,.int .u8 e,.int .u8 32,.int .u8 f,.int .u8 g]:=by
 refine⟨_,_,_,_,_,_,_,_,_,_,_,⟨rfl,rfl,rfl,rfl,rfl,rfl⟩,?_,⟨rfl,rfl,rfl,rfl,rfl⟩,?_,?_,?_,?_⟩;·refine⟨?_,?_,?_,?_,?_,?_⟩<;>first|rw[Ig Z]|rw[GH Z]
 ·simp only[Hh];omega
 ·simp only[Hh];omega
 ·simp only[IntKind.wrap_u8];omega
 simp[bv];omega
def DX:List (List UInt8):=[[32,120],[45],[],[36],[32,49,32,50]]
def Ec(V:World):World:=(((((V.alloc (.cells #[.int .u8 32,.int .u8 120] 5 (2,3))).alloc (.cells #[.int .u8 45] 5 (1,2))).alloc (.cells #[] 5)).alloc (.cells #[.int .u8 36] 5 (1,2))).alloc (.cells #[.int .u8 32,.int .u8 49,.int .u8 32,.int .u8 50] 5 (4,5))).alloc (.cells #[Vl V.heap.size 2 2,Vl (V.heap.size+1) 1 1,Vl (V.heap.size+2) 0 0,Vl (V.heap.size+3) 1 1,Vl (V.heap.size+4) 4 4] 22)
def PO(V):D V (Ec V):=by
 have a:∀{b:QM}(h:D V b)(o:Obj),D V (b.alloc o):=λh o=>h.alloc h.size o
 exact a (a (a (a (a (a th _) _) _) _) _) _
def Pz(V)(i:Nat)(n:i<5):(Ec V).cell? ⟨V.heap.size+5,i,none⟩=some (Vl (V.heap.size+i) (DX.getD i []).length (DX.getD i []).length)/\V.heap.size+i<(Ec V).heap.size/\V.heap.size+5<(Ec V).heap.size/\(DX.getD i []).length<=4/\∀j,j<(bv (DX.getD i [])).length->(Ec V).cell? ⟨V.heap.size+i,j,none⟩=(bv (DX.getD i []))[j]?:=by
 have b:∀{w:QM}{g:Nat}{x:Obj}(o:Obj),w.heap[g]?=some x->(w.alloc o).heap[g]?=some x:=λ{w g x}o h=>(eg w o g (ag h)).trans h
 have d:∀(w:QM)(o:Obj)(g:Nat),g=w.heap.size->(w.alloc o).heap[g]?=some o:=λw o g h=>by rw[h];exact ao w o
 have e:(Ec V).heap[V.heap.size+0]?=_:=b _ (b _ (b _ (b _ (b _ (d V _ _ rfl)))));have f:(Ec V).heap[V.heap.size+1]?=_:=b _ (b _ (b _ (b _ (d _ _ _ (by simp only[aO])))));have l:(Ec V).heap[V.heap.size+2]?=_:=b _ (b _ (b _ (d _ _ _ (by simp only[aO]))));have k:(Ec V).heap[V.heap.size+3]?=_:=b _ (b _ (d _ _ _ (by simp only[aO])));have a:(Ec V).heap[V.heap.size+4]?=_:=b _ (d _ _ _ (by simp only[aO]));have c:(Ec V).heap[V.heap.size+5]?=_:=d _ _ _ (by simp only[aO]);rcases(show i=0\/i=1\/i=2\/i=3\/i=4 by omega)with rfl|rfl|rfl|rfl|rfl;·exact⟨(ac c).trans rfl,ag e,ag c,ar,λj _=>(ac e).trans (List.getElem?_toArray (xs:=bv [32,120]))⟩
 ·exact⟨(ac c).trans rfl,ag f,ag c,ar,λj _=>(ac f).trans (List.getElem?_toArray (xs:=bv [45]))⟩
 ·exact⟨(ac c).trans rfl,ag l,ag c,ar,λj m=>absurd m (by simp[DX,bv])⟩
 ·exact⟨(ac c).trans rfl,ag k,ag c,ar,λj _=>(ac k).trans (List.getElem?_toArray (xs:=bv [36]))⟩
 exact⟨(ac c).trans rfl,ag a,ag c,ar,λj _=>(ac a).trans (List.getElem?_toArray (xs:=bv [32,49,32,50]))⟩
def PM:ByteArray:=⟨#[10,32,32,10,102,114,101,101,32,36,49,43,10,107,101,121,10,108,111,97,100,32,48,32,49,56,52,52,54,55,52,52,48,55,51,55,48,57,53,53,49,54,49,54]⟩
def P6(e:List Int)(k p:Nat):List UInt8×Nat:=
 if k=255 then(DX.getD (mg e p%5) []++[10],Sw e p)else if k=254 then(PM.data.toList++[10],p)else if k=253 then([],p)else([10],p)
def Pk:∀w<10,1<=(Ei.getD w ⟨#[]⟩).size/\(Ei.getD w ⟨#[]⟩).size<=8:=ar
def Pe(o k):Ot o k<10:=by unfold Ot;split<;>omega
def P2(e:List Int)(F:Nat->Nat->fL×Nat)(A:Nat->Nat×Nat)(s:List UInt8×Nat×Nat):List UInt8×Nat×Nat:=
 let k:=mg e s.2.1
 let f:=F (Sw e s.2.1) s.2.2
 let w:=Ot f.1 k
 let b:=Om e f.1 k (PH A f.1 k f.2) w
 let t:=P6 e k b.2
 (s.1++(Ei.getD w ⟨#[]⟩).data.toList++b.1++t.1,t.2,if w<7 then s.2.2+1 else s.2.2)
def O5(e:List Int)(F:Nat->Nat->fL×Nat)(A:Nat->Nat×Nat)(p:Nat):Nat->List UInt8×Nat×Nat
 |0=>([],p,0)
 |j+1=>P2 e F A (O5 e F A p j)
def qX(n:Nat):Code->Option Code
 | .region k c d=>if k=n then some (.region k c d)else none
 | .block _ c=>qX n c
 | .seq a b=>(qX n a).or (qX n b)
 | .scope c=>qX n c
 | .loop c=>qX n c
 | .cond _ a b=>(qX n a).or (qX n b)
 |_=>none
def Ro{k:Nat}(n:k<=255){m q:QM}{r s:QP}{t u v w:Nat}{Q:Exit->Act->QM->Prop}{zs o p}(a:QI 22 (.slice r t u) (Vl m.heap.size 8 8) (m.alloc (QL (bv (Om zs o k p 8).1).toArray 5)) (.slice s v w) q){À Á Â Ã Ä Å Æ Ç È É Ê Ë Ì Í Î Ï Ð Ñ Ò Ó Ô Õ Ö Ø Ù Ú Û Ü Ý Þ ß à á â ã ä å æ ç è é ê ë ì í î ï ð ñ ò ó ô õ ö ø ù ú û ü ý þ ÿ Ā ā Ă ă Ą ą Ć ć Ĉ ĉ Ċ ċ Č č Ď ď Đ đ Ē ē Ĕ ĕ Ė ė Ę ę Ě ě Ĝ ĝ Ğ ğ Ġ ġ Ģ ģ Ĥ ĥ Ħ ħ Ĩ ĩ Ī ī Ĭ ĭ Į į İ ı Ĳ ĳ Ĵ ĵ Ķ ķ Ĺ ĺ Ļ ļ Ľ ľ Ŀ ŀ Ł ł Ń ń Ņ ņ Ň ň Ŋ ŋ Ō ō Ŏ ŏ Ő ő Œ œ Ŕ ŕ Ŗ ŗ Ř ř Ś ś Ŝ ŝ Ş ş Š š Ţ ţ Ť ť Ŧ ŧ Ũ ũ Ū ū Ŭ ŭ Ů ů Ű ű Ų ų Ŵ ŵ Ŷ ŷ Ÿ Ź ź Ż ż Ž ž ſ γ δ ε ζ η θ ι κ μ ν ξ ο π ς σ τ υ φ χ ψ ω Α Β Γ Δ Ε Ζ Η Θ Ι Κ Λ Μ Ν Ξ Ο Ρ Τ Υ Φ Χ Ψ:QN}(x:∀Ť ť Ŧ ŧ Ũ ũ Ū ū Ŭ ŭ Ů ů Ű ű Ų ų Ŵ ŵ Ŷ ŷ Ÿ Ź ź Ż,Q .normal ⟨#[À,Á,Â,.slice s v w,Ã,Ä,Å,I (k:Int),Æ,Ç,È,É,Ê,Ë,Ì,Í,Î,Ï,Ð,Ñ,Ò,Ó,Ô,Õ,Ö,Ø,Ù,Ú,Û,Ü,Ý,Þ,ß,à,á,â,ã,ä,å,æ,ç,è,é,ê,ë,ì,í,î,ï,ð,ñ,ò,ó,ô,õ,ö,ø,ù,ú,û,ü,ý,þ,ÿ,Ā,ā,Ă,ă,Ą,ą,Ć,ć,Ĉ,ĉ,Ċ,ċ,Č,č,Ď,ď,Đ,đ,Ē,ē,Ĕ,ĕ,Ė,ė,Ę,ę,Ě,ě,Ĝ,ĝ,Ğ,ğ,Ġ,ġ,Ģ,ģ,Ĥ,ĥ,Ħ,ħ,Ĩ,ĩ,Ī,ī,Ĭ,ĭ,Į,į,İ,ı,Ĳ,ĳ,Ĵ,ĵ,Ķ,ķ,Ĺ,ĺ,Ļ,ļ,Ľ,ľ,Ŀ,ŀ,Ł,ł,Ń,ń,Ņ,ņ,Ň,ň,Ŋ,ŋ,Ō,ō,Ŏ,ŏ,Ő,ő,Œ,œ,Ŕ,ŕ,Ŗ,ŗ,Ř,ř,Ś,ś,Ŝ,ŝ,Ş,ş,Š,š,Ţ,ţ,Ť,ť,Ŧ,ŧ,Ũ,ũ,Ū,ū,Ŭ,ŭ,Ů,ů,Ű,ű,Ų,ų,Ŵ,ŵ,Ŷ,ŷ,Ÿ,Ź,ź,Ż,ż,Ž,ž,ſ,γ,δ,ε,ζ,η,θ,ι,κ,μ,ν,ξ,ο,π,ς,σ,τ,υ,φ,χ,ψ,ω,Α,Β,Γ,Δ,Ε,Ζ,Η,Θ,Ι,Κ,Λ,Μ,Ν,Ξ,Ο,Ρ,Τ,Υ,Φ,Χ,Ψ],[]⟩ q):Code.wp prog ((Tryz.f14.body.bind (qX 44)).getD .skip) Q ⟨#[À,Á,Â,.slice r t u,Ã,Ä,Å,I (k:Int),Æ,Ç,È,É,Ê,Ë,Ì,Í,Î,Ï,Ð,Ñ,Ò,Ó,Ô,Õ,Ö,Ø,Ù,Ú,Û,Ü,Ý,Þ,ß,à,á,â,ã,ä,å,æ,ç,è,é,ê,ë,ì,í,î,ï,ð,ñ,ò,ó,ô,õ,ö,ø,ù,ú,û,ü,ý,þ,ÿ,Ā,ā,Ă,ă,Ą,ą,Ć,ć,Ĉ,ĉ,Ċ,ċ,Č,č,Ď,ď,Đ,đ,Ē,ē,Ĕ,ĕ,Ė,ė,Ę,ę,Ě,ě,Ĝ,ĝ,Ğ,ğ,Ġ,ġ,Ģ,ģ,Ĥ,ĥ,Ħ,ħ,Ĩ,ĩ,Ī,ī,Ĭ,ĭ,Į,į,İ,ı,Ĳ,ĳ,Ĵ,ĵ,Ķ,ķ,Ĺ,ĺ,Ļ,ļ,Ľ,ľ,Ŀ,ŀ,Ł,ł,Ń,ń,Ņ,ņ,Ň,ň,Ŋ,ŋ,Ō,ō,Ŏ,ŏ,Ő,ő,Œ,œ,Ŕ,ŕ,Ŗ,ŗ,Ř,ř,Ś,ś,Ŝ,ŝ,Ş,ş,Š,š,Ţ,ţ,Ť,ť,Ŧ,ŧ,Ũ,ũ,Ū,ū,Ŭ,ŭ,Ů,ů,Ű,ű,Ų,ų,Ŵ,ŵ,Ŷ,ŷ,Ÿ,Ź,ź,Ż,ż,Ž,ž,ſ,γ,δ,ε,ζ,η,θ,ι,κ,μ,ν,ξ,ο,π,ς,σ,τ,υ,φ,χ,ψ,ω,Α,Β,Γ,Δ,Ε,Ζ,Η,Θ,Ι,Κ,Λ,Μ,Ν,Ξ,Ο,Ρ,Τ,Υ,Φ,Χ,Ψ],[]⟩ m:=by
 obtain⟨y,z,A,b,c,d,e,B,f,g,i,⟨f1,f2,f3,f4,f5,f6⟩,_,⟨F,G,K,L,M⟩,⟨N,O,P,R,S,T⟩,⟨V,W,X,Y,j5⟩,⟨v1,v2,v3,v4,v5⟩,l⟩:=w8 k n;rw[show bv (Om zs o k p 8).1=_ from l]at a;have j:=H x
 conv=>arg 2;whnf
 go_wp2_with (at_builtin;refine up a ?_);exact j _ _ _ _ _ _ _ _ _ _ _ _ _ _ _ _ _ _ _ _ _ _ _ _
def Ph(zs p):∃(T:List UInt8)(b:Nat),∀(w0:QM)(a:QP)(len cap:Nat),Cb zs w0 a len cap->∀(R:Nat)(W:QM),Rp p w0 a len cap R W W ->
  QA 14 #[J R 0] W λe W'=>∃v,e=QJ v/\(T.length<=30000/\0<T.length)/\ObW W.heap.size W' v T/\Rp b w0 a len cap R W W':=by
 have⟨F,b⟩:=Ps zs;have⟨A,d⟩:=Pn zs;have N0:=H (Su zs p);have i5:=gx zs p;generalize mg zs p=k0 at i5 N0;generalize Sw zs p=p0 at N0;obtain⟨n,hn,en⟩:∃n:Nat,(2<=n/\n<=25)/\2+(k0:Int)%24=(n:Int):=⟨2+k0%24,Z,Z⟩;have⟨HF,HA⟩:=y7 b d;clear b d;refine⟨(O5 zs F A p0 n).1,(O5 zs F A p0 n).2.1,?_⟩;intro w0 a len cap b R W d;have⟨HC,HR⟩:=y7 b d;clear b d;go_enter func14,ntmps14;go_wp2_with fail;generalize d:W.alloc _=V1;have f:=H (show Rp p w0 a len cap R W V1 by rw[<-d];exact HR.below ph);have b:V1.heap[W.heap.size]?=some (QL (Ei.map Value.string).toArray 9):=by rw[<-d];exact ao W _
 refine(N0 w0 a len cap HC R V1 _ f.at).mono ?_;rintro e V2⟨rfl,j⟩;have R2:=H (f.of j);have HP:=H (show(some W.heap.size≠some R/\V2.heap[W.heap.size]?=some (QL (Ei.map Value.string).toArray 9))/\W.heap.size<V2.heap.size from by
  have h1:=HR.lt;have h2:some W.heap.size≠some R:=λe=>by injection e;omega
  have h3:=(j.g.block _ (G_ b) h2).trans b;exact⟨⟨h2,h3⟩,G_ h3⟩)
 clear j d b f;go_wp2_with fail;go_loopw [3,5,6] (λv g i wr=>∃(j:Nat)(a9:QP)(m9 c9:Nat),j<=n/\v=.slice a9 m9 c9/\i=I ((n:Int)-(j:Int))/\g=I ((O5 zs F A p0 j).2.2:Nat)/\Hid (((O5 zs F A p0 j).1.length<=j*1000/\(O5 zs F A p0 j).2.2<=j/\j<=(O5 zs F A p0 j).1.length)/\Sr (O5 zs F A p0 j).2.1 w0 a len cap R V2 v (O5 zs F A p0 j).1 wr)) (λ_ _ i _=>(intOf i).toNat);case atStart=>exact⟨0,_,_,_,aa,rfl,bH,rfl,H ⟨⟨aa,aa,aa⟩,R2.at,ObW.nil _ _,R2.lt⟩⟩
 case round=>
  obtain⟨j,a9,m9,c9,hj,rfl,rfl,rfl,HS⟩:=hrel;by_cases j3:j<n
  ·have i6:(n:Int)-(j:Int) > 0:=Z;have HN:Hid (O5 zs F A p0 (j+1)=P2 zs F A (O5 zs F A p0 j)):=rfl;generalize O5 zs F A p0 j=s at HS HN⊢;have⟨l,q,gv⟩:=s;simp only[P2]at HN;dsimp only at HS;have b:=H (Su zs q);have hk:=gx zs q;generalize mg zs q=k at hk b HN;generalize Sw zs q=q1 at b HN;have w:=H (HF q1 gv (by have:=HS.1;omega));generalize F q1 gv=f at w HN;have⟨o,q2⟩:=f;have⟨d,HB⟩:=y7 HS.2 HS.1;clear HS;go_wp2_with fail;refine(b w0 a len cap HC R wr _ d.rd.at).mono ?_;rintro e V3⟨rfl,m⟩;have S3:=H (d.next m);clear m;go_wp2_with fail;refine(w w0 a len cap HC R _ S3.rd.at).mono ?_;rintro e V4⟨d,dc,rfl,od,B⟩;have⟨y,z⟩:=y7 (S3.next B) (ao V4 (QL #[I 0,I 0,U 0,U 0,U 0,C] 63));go_upto_region 9 with(refine Gf rfl 63 _ _ rfl _ _ rfl rfl 63 _ z E rfl (by simp[fH,Value.oneCell']) ?_)
   have t:D V4 ((V4.alloc (QL #[I 0,I 0,U 0,U 0,U 0,C] 63)).setRow V4.heap.size (fH ⟨o,d,dc⟩).toArray):=((Fu V4.heap.size V4).alloc gi _).grown (aj _ V4.heap.size _) bH (λq e=>by cases e;exact gi);have b:=H (aw z (fH ⟨o,d,dc⟩).toArray);generalize (V4.alloc (QL #[I 0,I 0,U 0,U 0,U 0,C] 63)).setRow V4.heap.size (fH ⟨o,d,dc⟩).toArray=b1 at t b⊢;have⟨S5,m⟩:=y7 (y.below t) (show Od6 V3.heap.size ⟨o,d,dc⟩ b1 from⟨od.p,od.a,od.b,ax od.d t,od.r,od.y⟩);have⟨u,g3⟩:=y7 (show Oq V2.heap.size V3.heap.size b1 b1 (.slice a9 m9 c9) l from Oq.start S5.o S5.rd.g.size (λr hr=>(aF S3.o hr).2.elim λc hc=>G_ hc)) (show R<V4.heap.size from y.rd.lt);generalize V4.heap.size=Y at b t g3⊢;clear od B t;have⟨c0,c1,c2,c3,c4,c5⟩:=PI b;have c7:=Pe o k;have w:b1.cell? ⟨W.heap.size,Ot o k,none⟩=some (.string (Ei.getD (Ot o k) ⟨#[]⟩)):=by have h:=(S5.rd.g.block W.heap.size HP.2 HP.1.1).trans HP.1.2;rw[ac h];simp[List.getElem?_toArray,List.getD_eq_getElem?_getD,show Ot o k<Ei.length from c7]
   have g4:=Pk _ c7;have⟨B,e9⟩:=Ha m.r.1;dsimp only at e9 c0 c1 c2 c3 c4 c5;rw[e9]at c0;(go_upto_if 33 with fail);go_cut [9] (λv w'=>v=I (Ot o k:Nat)/\w'=b1)
   case first=>as_aux_lemma=>
    by_cases t:k%12<10
    ·have y:¬(k:Int)%12≥10:=Z;go_wp2;go_meet;exact⟨by rw[Ot,GP t];rfl,rfl⟩
    have y:(k:Int)%12≥10:=Z;go_wp2;go_meet;exact⟨by rw[Ot,GO t,e9];rfl,rfl⟩
   case rest=>
    obtain⟨rfl,rfl⟩:=hcut;have⟨a1,m1,e1,U1,t,o1,y⟩:=u.str (Ei.getD (Ot o k) ⟨#[]⟩) (by have:=HB.out;omega);have⟨S6,O6,X,x1⟩:=Qf (S5.put o1) o1 g4 (y.XC b);clear o1 y c0 c1 c2 c3 c4 c5 g4;go_upto_region 13 with(at_builtin;refine up t ?_)
    clear t w;have bA:=(Fu U1.heap.size U1).alloc gi (QL #[.int .u8 36] 5);have⟨_,c1,_⟩:=PI ((bA.block Y (G_ x1)).trans x1);dsimp only at c1;have y:=ObW.new U1 [36] ar;have t:IntKind.u64.wrap o.ref=((IntKind.u64.wrap o.ref).toNat:Int)/\(IntKind.u64.wrap o.ref).toNat<18446744073709551616:=(by rw[IntKind.wrap_u64];omega);have HW:=H t.1;have c7:=t.2;generalize z:(IntKind.u64.wrap o.ref).toNat=rf at t c7;have Q:=H z;clear z;have G:=Co (.inl rfl) rf c7 (U1.alloc (QL #[.int .u8 36] 5));rw[<-t.1]at G;have g5:=kX rf c7;clear t c7;go_wp2_with fail;refine G.mono ?_;rintro e U3⟨g2,d2,rfl,K,bt⟩;have⟨a2,m2,e2,U4,z,o2,_,b2⟩:=(y.below bt).row (c:=d2) (RowV.ofOwns K) (Fx bA.size bt.size) (by simp only[FN,F1];omega);have t:=H (show ObW U1.heap.size U4 (.slice a2 m2 e2) ([36]++dec rf)/\Rp q2 w0 a len cap R U1 U4 from⟨o2,S6.rd.at.low9 ((bA.trans (bt.mono bA.size)).trans b2) S6.rd.lt⟩);clear G y K bt o2 b2 bA c1;go_upto_if 51 with(at_builtin;refine up z ?_)
    clear z;have z:=H (show Y<U1.heap.size/\some Y≠some R from⟨G_ x1,λe=>by injection e;have:=g3.out;omega⟩);have⟨L0,hL⟩:=Qb ([36]++dec rf);have T:=H hL;have y:=H (show(0<L0.length/\L0.length<=25)/\ObW U1.heap.size U4 (.slice a2 m2 e2) L0/\Rp q2 w0 a len cap R U1 U4 from by rw[hL];exact⟨by simp only[FC,FN,F1];omega,t⟩);obtain⟨PV,M,pm,N,h1,h2,h3,h4⟩:∃PV M pm N,PV=U4/\M=a2/\pm=m2/\N=e2:=⟨_,_,_,_,rfl,rfl,rfl,rfl⟩;subst h1 h2 h3 h4;have d3:=H (show o.p<18446744073709551616/\o.a<18446744073709551616/\o.b<18446744073709551616 from⟨m.p,m.a,m.b⟩);clear hL g5;refine let_mvar% ?zc:=λ(n:Nat)(l:List UInt8)(q:Nat)(v:QN)(w':QM)=>∃a5 m5 e5,v=.slice a5 m5 e5/\Hid ((0<l.length/\l.length<=n)/\ObW U1.heap.size w' v l/\Rp q w0 a len cap R U1 w');?_
    go_cut [10] (?zc 50 (L0++if k%4=1 then[43]++dec (o.p%100)else[]) q2)
    case' first=>obtain⟨L,hL⟩:∃L',L'=L0:=⟨_,rfl⟩;subst hL;obtain⟨x,hx⟩:∃x:UInt8,x=43:=⟨_,rfl⟩;have hh:(k%4=1/\((k:Int)%4==1)=true)\/(¬k%4=1/\((k:Int)%4==1)=false):=bG;have i7:0<L.length/\L.length<=25:=y.1
    case' rest=>
     clear y;obtain⟨M,pm,N,rfl,y⟩:=hcut;obtain⟨O,t⟩:∃L',L'=(L0++if k%4=1 then[43]++dec (o.p%100)else[]):=⟨_,rfl⟩;rw[<-t]at y;have g6:=H t;clear t;(go_upto_if 62 with fail);obtain⟨PV,d6⟩:∃V:QM,V=wc:=⟨_,rfl⟩;subst d6;go_cut [10] (?zc 75 (O++if k%16=2 then[45]++dec (o.p%100)else[]) q2)
     case' first=>obtain⟨L,hL⟩:∃L',L'=O:=⟨_,rfl⟩;subst hL;obtain⟨x,hx⟩:∃x:UInt8,x=45:=⟨_,rfl⟩;have hh:(k%16=2/\((k:Int)%16==2)=true)\/(¬k%16=2/\((k:Int)%16==2)=false):=bG;have i7:0<L.length/\L.length<=50:=y.1
    rotate_right 1
    iterate 2
     rcases hh with⟨h4,h5⟩|⟨h4,h5⟩
     ·as_aux_lemma=>
      have hB:=FG z.1 y.2.2.g.size;have⟨a5,m5,e5,U5,t,o5,k5⟩:=((y.2.1.oy y.2.2.g.size).below ld).one [x] (by simp only[FN,F1];omega);have G:=o5.tx (o.p%100) Z (by simp only[FC,FN,F1];omega);have g5:=kX (o.p%100) Z;have t:QI 22 (.slice M pm N) (Vl PV.drew.heap.size 1 1) (PV.drew.alloc (QL (bv [x]).toArray 5)) (.slice a5 m5 e5) U5:=t;have CN:Hid (∀V,Ky (· =5) PV V->QG V Y 2 (U o.p)):=λV O=>(PI (O.XC ((y.2.2.g.block Y z.1 z.2).trans x1))).2.2.1;have kD:Ky (· =5) PV PV.drew:=Ky.below ld;have kA:=kD.trans (Ky.below ((Fu _ PV.drew).alloc gi (QL (bv [x]).toArray 5)));clear o5 hB;subst hx;go_wp2_with fail;refine rh (S:=λV:QM=>QG V Y 2 (U o.p)) ?_;have hS:=CN.out _ kD;refine py hS ?_;simp only[f0,f1,Nat.reduceAdd,lz,l0,ls];refine pq 3 hS ?_;simp only[lz,l0,ls];refine pq 4 hS ?_;simp only[lz,l0,ls];refine pq 5 hS ?_;simp only[lz,l0,ls];refine po 1 λK' hK=>?_;go_simp;refine hK _ _ ⟨CN _ kA,?_⟩;clear hK K';refine gu 2 ?_;refine ur t ⟨CN _ (kA.trans k5),?_⟩;refine po 6 λK' hK=>?_
      go_simp;refine G.mono ?_;rintro e U6⟨g2,d2,a6,m6,e6,U7,rfl,bt,b6,o6,k6⟩;have k7:=(kA.trans k5).trans (Ky.below bt);refine hK _ _ ⟨CN _ k7,?_⟩;clear hK K';refine gu 7 ?_;refine ur b6 ⟨CN _ (k7.trans k6),?_⟩;refine pk 8 (.slice a6 m6 e6) (CN _ (k7.trans k6)) ?_;refine bY ?_;go_wp2;go_meet;exact⟨_,_,_,rfl,H (by rw[GP h4,<-GJ];exact⟨by simp only[FC,FN,F1];omega,o6.o,y.2.2.low9 o6.bel S6.rd.lt⟩)⟩
     case _=>as_aux_lemma=>go_wp2;go_meet;exact⟨_,_,_,rfl,H (by rw[GO h4,Gl];exact⟨Z,y.2⟩)⟩
    clear y;obtain⟨M,pm,N,rfl,y⟩:=hcut;(go_upto_if 73 with fail);go_cut [10] (?zc 75 (PH A o k q2).1 (PH A o k q2).2)
    case first=>as_aux_lemma=>
     by_cases h6:k%16=6
     ·have h7:((k:Int)%16==6)=true:=bG;have t:=HA.out q2;have G:=λV=>Co (.inl rfl) (A q2).1 t.2 V
      have hd:=kX _ t.2;go_wp2_with fail;refine(t.1 w0 a len cap HC R U1 _ y.2.2).mono ?_;rintro e U5⟨rfl,r5⟩;go_wp2_with fail;refine(G _).mono ?_;rintro e U6⟨g2,d2,rfl,K,bt⟩;go_wp2;go_meet;exact⟨_,_,_,rfl,H (by rw[PH,GP h6];exact⟨by show 0<(dec (A q2).1).length/\(dec (A q2).1).length<=75;omega,dm K r5.g.size,r5.below bt⟩)⟩
     have h7:((k:Int)%16==6)=false:=bG;go_wp2;go_meet;case rel=>
      refine⟨_,_,_,rfl,H ?_⟩;have h:=y.out;rw[g6,T]at h;rw[PH,GO h6,Q];by_cases h1:k%4=1;·rw[GP h1]at h⊢;rw[GO Z,Gl]at h;exact h
      rw[GO h1]at h⊢;rw[Gl]at h;exact h
    clear y T g6 Q;obtain⟨M,pm,N,rfl,y⟩:=hcut;obtain⟨PV,d6⟩:∃V:QM,V=wc:=⟨_,rfl⟩;subst d6;generalize PH A o k q2=pl at y HN;have⟨PL,q3⟩:=pl;dsimp only at y HN;have⟨S7,t⟩:=y7 (S6.next y.2.2) ((y.2.2.g.block Y z.1 z.2).trans x1);have DA:Hid (PV.ownsRow V3.heap.size 5 1 (.slice d o.ys.length dc) o.ys.length (Ns .u8 o.ys)):=((NG m.d λr hr=>O6.win r ⟨(aF m.d hr).1,(aF m.d hr).2.elim λc hc=>G_ hc⟩).kept y.2.2.g (.inr λe=>by have:=(aF m.d e).1;have:=S3.rd.lt;omega));have Q:Hid (∀r,(Value.slice a1 m1 e1).ownBlock=some r->(Value.slice d o.ys.length dc).ownBlock≠some r):=λr h1 h2=>O6.ap r h1 ⟨(aF m.d h2).1,(aF m.d h2).2.elim λc hc=>G_ hc⟩;obtain⟨pg,rfl,rfl⟩:=y.2.1.isS (λe=>by have:=y.1;rw[e]at this;simp at this);have⟨RP,g7,b8,g8,i8⟩:=Qg (RowV.ofOwns y.2.1) y.2.1 y.1 m.r.2 m.y;have a0:=X.out;have d7:(l++(Ei.getD (Ot o k) ⟨#[]⟩).data.toList).length=l.length+(Ei.getD (Ot o k) ⟨#[]⟩).size:=(by rw[FC];rfl);generalize l++(Ei.getD (Ot o k) ⟨#[]⟩).data.toList=l1 at S7 HN d7;have g9:=H (show j+1<=l1.length/\l1.length<=j*1000+8/\l1.length<=30000 by have:=HB.out;omega);have c7:=Pe o k;generalize Ot o k=T at HN c7⊢;have CN:Hid (∀V,Ky (· =5) PV V->QG V Y 3 (U o.a)/\QG V Y 4 (U o.b)):=(λV O=>by have⟨_,_,_,h3,h4,_⟩:=PI (O.XC t);exact⟨h3,h4⟩)
    have⟨CD,j0⟩:=y7 (show∀V,Ky (· =5) PV V->QG V Y 5 (.slice d o.ys.length dc)from λV O=>(PI (O.XC t)).2.2.2.2.2) (show V2.heap.size<=V3.heap.size from S3.rd.g.size);have⟨_,_,_,c3,c4,c5⟩:=PI t;dsimp only at c3 c4 c5;clear y a0 d7;(go_upto_block 2 with fail);go_cut [3] (λv w'=>∃a7 m7 e7,v=.slice a7 m7 e7/\Hid ((Om zs o k (PL,q3) T).1.length<=500/\Sr (Om zs o k (PL,q3) T).2 w0 a len cap R V2 v (l1++(Om zs o k (PL,q3) T).1) w'))
    case first=>as_aux_lemma=>
     refine let_mvar% ?zl:=λ(n:Nat)(h:n<18446744073709551616)=>kX n h;?_
     have X:=kX o.a d3.2.1;have a0:=kX o.b d3.2.2;have j1:=g9.2.2;rcases(show T=0\/(T=3\/T=4)\/T=1\/(T=2\/T=5)\/T=6\/T=7\/T=8\/T=9 by omega)with rfl|hw|rfl|hw|rfl|rfl|rfl|rfl
     ·go_wp2_with fail;refine(S7.ow.tx o.a d3.2.1 Z).mono ?_;rintro e U5⟨g2,d2,a6,m6,e6,U6,rfl,bt,b6,o6,k6⟩;go_wp2_with (at_builtin;refine up b6 ?_);go_meet;exact⟨_,_,_,rfl,H ⟨by show(dec o.a).length<=500;omega,S7.put o6⟩⟩
     ·rcases hw with rfl|rfl
      all_goals
       have⟨a6,m6,e6,U6,b6,o6,k6⟩:=S7.ow.row (c:=N) RP (by have:=b8.out;omega)
       go_wp2_with (at_builtin;refine up b6 ?_)
       go_meet
       exact⟨_,_,_,rfl,H ⟨by show PL.length<=500;have:=b8.out;omega,S7.put o6⟩⟩
     case' inr.inr.inl=>
      (go_upto_region 24 with fail);refine rh (S:=λV:QM=>QG V Y 3 (U o.a)/\QG V Y 4 (U o.b)) ?_;have kD:Ky (· =5) PV PV.drew:=Ky.below ld;have SD:=H (S7.below ld);have hS:=CN.out _ kD;refine py hS ?_;simp only[f0,f1,Nat.reduceAdd,lz,l0,ls];refine pq 1 hS ?_;simp only[lz,l0,ls];refine pq 2 hS ?_;simp only[lz,l0,ls];refine pq 7 hS ?_;simp only[lz,l0,ls];refine pq 8 hS ?_;simp only[lz,l0,ls];refine lZ [3,5] λi9 b7=>?_;rcases(by simpa using b7:i9=3\/i9=5)with b7|b7
      case' inr=>
       subst b7;refine cw λK' hK=>?_;go_simp;have⟨S8,O8,R8⟩:=SD.al [32];have a3:=kD.trans (Ky.below ((Fu _ PV.drew).alloc gi (QL (bv [32]).toArray 5)));refine hK _ _ ⟨CN _ a3,?_⟩;clear hK K';refine po 3 λK' hK=>?_
       go_simp;refine(O8.tx o.a d3.2.1 Z).mono ?_;rintro e U5⟨g2,d2,a6,m6,e6,U6,rfl,bt,b6,o6,k6⟩;have t:=a3.trans (Ky.below bt);refine hK _ _ ⟨CN _ t,?_⟩;clear hK K';refine gu 4 ?_;refine ur b6 ⟨CN _ (t.trans k6),?_⟩;have a4:=t.trans k6;have⟨SZ,RZ⟩:=y7 (S8.put o6) (o6.rk R8 rfl);clear b6 o6 k6 t a3 S8 O8 R8 hS bt
      case' inl=>
       subst b7;refine cw λK' hK=>?_;go_simp;refine(Co (.inl rfl) o.a d3.2.1 _).mono ?_;rintro e U5⟨g2,d2,rfl,K,bt⟩;have t:=kD.trans (Ky.below bt);have S8:=H (SD.below bt);refine hK _ _ ⟨CN _ t,?_⟩;clear hK K';refine lZ [4,5] λi9 b7=>?_
       rcases(by simpa using b7:i9=4\/i9=5)with b7|b7
       case' inr=>subst b7;refine cw λK' hK=>?_;go_simp;have⟨S9,O9,y⟩:=S8.al [32];have bA:=(Fu U5.heap.size U5).alloc gi (QL (bv [32]).toArray 5);have a3:=t.trans (Ky.below bA);refine hK _ _ ⟨CN _ a3,?_⟩;clear hK K';have⟨a6,m6,e6,U6,b6,o6,k6⟩:=O9.row (c:=d2) (RowV.ofOwns (K.below bA)) Z;refine gu 4 ?_;refine ur b6 ⟨CN _ (a3.trans k6),?_⟩;have a4:=a3.trans k6;have⟨SZ,RZ⟩:=y7 (S9.put o6) (o6.rk y rfl);clear b6 o6 k6 t a3 S9 O9 y bA hS bt K
       case' inl=>subst b7;have⟨a6,m6,e6,U6,b6,o6,k6⟩:=S8.ow.row (c:=d2) (RowV.ofOwns K) Z;refine ur b6 ⟨CN _ (t.trans k6),?_⟩;refine po 5 λK' hK=>?_;go_simp;have⟨sz,_,b4⟩:=(S8.put o6).al [32];have a4:=(t.trans k6).trans (Ky.below ((Fu _ U6).alloc gi (QL (bv [32]).toArray 5)));refine hK _ _ ⟨CN _ a4,?_⟩;clear hK K';have⟨SZ,RZ⟩:=y7 sz b4;clear b6 o6 k6 t sz b4 hS bt K
     case' inr.inr.inr.inl=>
      rcases hw with rfl|rfl
      all_goals
       go_upto_region 27 with fail
       refine wp_region_held (S:=λV:QM=>QG V Y 3 (U o.a)/\QG V Y 4 (U o.b)) E ?_
       simp only[FX,FN,F1,Nat.reduceAdd,FP,FO,FY,FV,F5]
       have kD:Ky (· =5) PV PV.drew:=Ky.below ld
       have SD:=H (S7.below ld)
       have hS:=CN.out _ kD
       refine py hS ?_;simp only[f0,f1,Nat.reduceAdd,lz,l0,ls]
       refine pq 1 hS ?_;simp only[lz,l0,ls]
       refine pq 5 hS ?_;simp only[lz,l0,ls]
       refine pq 6 hS ?_;simp only[lz,l0,ls]
       refine lZ [2,3] λi9 b7=>?_
       rcases(by simpa using b7:i9=2\/i9=3)with b7|b7
       case' inr=>subst b7;refine cw λK' hK=>?_;go_simp;have⟨S8,O8,R8⟩:=SD.al [32];have bA:=(Fu PV.drew.heap.size PV.drew).alloc gi (QL (bv [32]).toArray 5);have a3:=kD.trans (Ky.below bA);refine hK _ _ ⟨CN _ a3,?_⟩;clear hK K';have⟨a6,m6,e6,U6,b6,o6,k6⟩:=O8.row (c:=N) (RowV.ofOwns ((g7.below ld).below bA)) (by have:=b8.out;omega);refine gu 2 ?_;refine ur b6 ⟨CN _ (a3.trans k6),?_⟩;have a4:=a3.trans k6;have⟨SZ,RZ⟩:=y7 (S8.put o6) (o6.rk R8 rfl);clear b6 o6 k6 a3 S8 O8 R8 bA hS
       case' inl=>subst b7;have⟨a6,m6,e6,U6,b6,o6,k6⟩:=SD.ow.row (c:=N) (RowV.ofOwns (g7.below ld)) (by have:=b8.out;omega);refine ur b6 ⟨CN _ (kD.trans k6),?_⟩;refine po 3 λK' hK=>?_;go_simp;have⟨sz,_,b4⟩:=(SD.put o6).al [32];have a4:=(kD.trans k6).trans (Ky.below ((Fu _ U6).alloc gi (QL (bv [32]).toArray 5)));refine hK _ _ ⟨CN _ a4,?_⟩;clear hK K';have⟨SZ,RZ⟩:=y7 sz b4;clear b6 o6 k6 sz b4 hS
     iterate 7
      case _=>as_aux_lemma=>
       have⟨a7,m7,e7,U7,d0,o7,k7⟩:=SZ.ow.row (c:=1) RZ (by have:=b8.out;simp only[FC,FN,F1];omega);have S9:=H (SZ.put o7)
       first
        |(refine gu 6 ?_;refine ur d0 ⟨CN _ (a4.trans k7),?_⟩;refine po 9 λK' hK=>?_;go_simp;refine(S9.ow.tx o.b d3.2.2 (by have:=b8.out;simp only[FC,FN,F1];omega)).mono ?_)
        |(refine gu 4 ?_;refine ur d0 ⟨CN _ (a4.trans k7),?_⟩;refine po 7 λK' hK=>?_;go_simp;refine(S9.ow.tx o.a d3.2.1 (by have:=b8.out;simp only[FC,FN,F1];omega)).mono ?_)
       rintro e U8⟨g2,d2,a8,m8,e8,t,rfl,bt,d1,o8,k8⟩;have a3:=(a4.trans k7).trans (Ky.below bt);have hS:=CN.out _ (a3.trans k8);refine hK _ _ ⟨CN _ a3,?_⟩;clear hK K'
       first
        |(refine gu 10 ?_;refine ur d1 ⟨hS,?_⟩;refine pk 11 (.slice a8 m8 e8) hS ?_)
        |(refine gu 8 ?_;refine ur d1 ⟨hS,?_⟩;refine pk 9 (.slice a8 m8 e8) hS ?_)
       refine bY ?_;go_wp2;go_meet;exact⟨_,_,_,rfl,H ⟨by have:=b8.out;simp only[Om,FC,FN,F1];omega,by simp only[Om,<-GJ];exact S9.put o8⟩⟩
     case inr.inr.inr.inr.inr.inr.inl=>as_aux_lemma=>have⟨a6,m6,e6,U6,b6,o6,k6⟩:=S7.ow.one (Om zs o k (PL,q3) 8).1 (by rw[show(Om zs o k (PL,q3) 8).1.length=8 from rfl];omega);have S9:=H (S7.put o6);clear o6 k6 X a0 j1;(go_upto_region 44 with fail);refine Ro hk b6 ?_;intros;go_wp2_with fail;go_meet;exact⟨_,_,_,rfl,H ⟨by rw[show(Om zs o k (PL,q3) 8).1.length=8 from rfl];omega,S9⟩⟩
     case inr.inr.inr.inr.inr.inl=>as_aux_lemma=>
      obtain⟨y,t⟩:∃y:Nat,y=k/16:=⟨_,rfl⟩;have d8:(k:Int)/16=(y:Int):=Z;have c6:=H (show Om zs o k (PL,q3) 7=Ox zs q3 (y+1)from by rw[t];rfl);have d9:y<=15:=Z;clear t;go_wp2_with fail;go_loopw [3,13] (λlv i wv=>∃(t:Nat)(a9:QP)(m9 c9:Nat),t<=y+1/\i=I ((y:Int)-(t:Int))/\lv=.slice a9 m9 c9/\Hid ((Ox zs q3 t).1.length<=t*21/\Sr (Ox zs q3 t).2 w0 a len cap R V2 (.slice a9 m9 c9) (l1++(Ox zs q3 t).1) wv)) (λ_ i _=>(intOf i+1).toNat);(case atStart=>exact⟨0,_,_,_,aa,bH,rfl,H ⟨aa,by simpa[Ox]using S7.out⟩⟩);case round=>
       obtain⟨t,b9,n8,c9,ht,rfl,rfl,b5⟩:=hrel;by_cases e4:t<=y;case neg=>have g0:¬(y:Int)-(t:Int)≥0:=Z;obtain rfl:t=y+1:=Z;go_wp2;go_meet;exact⟨_,_,_,rfl,H (by rw[c6];exact⟨by have:=b5.1;omega,b5.2⟩)⟩
       case pos=>have g0:(y:Int)-(t:Int)≥0:=Z;have d4:Hid (Ox zs q3 (t+1)=((Ox zs q3 t).1++dec (mg zs (Ox zs q3 t).2)++[32],Sw zs (Ox zs q3 t).2)):=rfl;generalize Ox zs q3 t=dd at d4 b5;have⟨z,q5⟩:=dd;dsimp only at d4 b5;have N5:=H (Su zs q5);have h8:=gx zs q5;generalize mg zs q5=x5 at h8 N5 d4;generalize Sw zs q5=q6 at N5 d4;have w5:IntKind.u64.wrap (x5:Int)=(x5:Int):=(by rw[IntKind.wrap_u64];omega);have d5:=kX x5 Z;have e0:=b5.1;have S5:=H b5.2;clear b5;go_wp2_with fail;refine(N5 w0 a len cap HC R _ _ S5.rd.at).mono ?_;rintro e U5⟨rfl,r5⟩;have S6:=H (S5.next r5);clear r5;go_wp2_with fail;refine(S6.ow.tx x5 Z (by simp only[FC];omega)).mono ?_;rintro e U6⟨g2,d2,a6,m6,e6,U7,rfl,bt,b6,o6,k6⟩;have⟨a7,m7,e7,U8,d0,o7,k7⟩:=o6.ch (x:=32) (i:=32) rfl (by simp only[FC];omega);have S8:=H (S6.put o7);clear o6 o7 bt k6 k7;go_wp2_with (at_builtin;first|(refine up b6 ?_;clear b6)|refine up d0 ?_);go_roundw;(exact⟨t+1,a7,m7,e7,Z,by push_cast;go_num,rfl,H (by rw[d4];exact⟨by simp only[FC,FN,F1];omega,by simp only[<-GJ];exact S8⟩)⟩);exact QE
     case' inr.inr.inr.inr.inl=>
      have z:Oy V2.heap.size (λr=>(Value.slice d o.ys.length dc).ownBlock=some r) PV PV (.slice a1 m1 e1) l1:=⟨S7.o,Q,λ_ _=>rfl,th,S7.rd.g.size,λr hr=>(aF DA hr).2.elim λc hc=>G_ hc⟩;have⟨a6,m6,e6,U6,b6,o6,k6⟩:=z.row (c:=N) RP (by have:=b8.out;omega);have⟨a7,m7,e7,U7,d0,o7,k7⟩:=o6.ch (x:=32) (i:=32) rfl (by have:=b8.out;simp only[FC];omega);have S9:=H (S7.put o7);have i3:U7.cell? (Qz Y 5)=some (.slice d o.ys.length dc):=CD.out _ ((k6.trans (Ky.below ((Fu _ U6).alloc gi (QL #[.int .u8 32] 5)))).trans k7);have d9:Ns .u8 o.ys=bv (Po o.ys):=by simp only[Ns,bv,Po,List.map_map];refine List.map_congr_left λy hy=>?_;have:=i8.out y hy;simp only[Function.comp,UInt8.toNat_ofNat',Hy,true_and];omega
      have e0:(Po o.ys).length=o.ys.length:=(by simp[Po]);have y:ObW V2.heap.size PV (.slice d o.ys.length dc) (Po o.ys):=by unfold ObW;rw[e0,<-d9];exact dm DA j0
      have O8:=o7.flip y gi;have⟨a8,m8,e8,U8,d1,o8,k8⟩:=O8.ch (x:=UInt8.ofNat k) (i:=(k:Int)) bG (by have:=g8.out;dsimp only at this;omega);have O9:=o8.flip S9.o gi;have h9:(Po o.ys++[UInt8.ofNat k]).length<=101:=(by have:=g8.out;dsimp only at this;simp only[FC,FN,F1];omega);have c6:Hid ((Om zs o k (PL,q3) 6).1=PL++[32]++Pj (Po o.ys++[UInt8.ofNat k])):=rfl;generalize e3:Po o.ys++[UInt8.ofNat k]=b5 at o8 h9 c6;obtain⟨dg,rfl,rfl⟩:=o8.o.isS (by rw[<-e3];simp);have⟨i0,d8,g1⟩:=Qe (RowV.ofOwns o8.o) (show Sr q3 w0 a len cap R V2 _ _ U8 from⟨S9.rd.low9 o8.bel S9.rn,O9.o,S9.rn⟩) O9;have wk:IntKind.u8.wrap (k:Int)=(k:Int):=(by rw[IntKind.wrap_u8];omega);generalize hn:b5.length=n9 at h9 d1 g1 i0;have d4:=H hn;clear z o6 o7 d9 e0 y O8 o8 O9 k6 k7 k8 e3 hn;go_wp2_with (at_builtin;first|(refine up b6 ?_;clear b6)|(refine up d0 ?_;clear d0)|refine up d1 ?_);clear d1 i3 wk;go_loopw [3,130] (λlv i wv=>∃(t:Nat)(a9:QP)(m9 c9:Nat),t<=n9/\i=I (t:Int)/\lv=.slice a9 m9 c9/\Hid (Oy V2.heap.size (λr=>(Value.slice (some (Qz dg 0)) n9 e8).ownBlock=some r) U8 wv (.slice a9 m9 c9) (l1++PL++[32]++Pj (b5.take t)))) (λ_ i _=>n9-(intOf i).toNat);case atStart=>exact⟨0,_,_,_,aa,rfl,rfl,H (by simpa[Pj]using g1.out)⟩
      case' round=>
       clear g1;obtain⟨t,b9,n8,c9,ht,rfl,rfl,e3⟩:=hrel;by_cases e4:t<n9
       case' neg=>obtain rfl:t=n9:=Z;have g0:¬(t:Int)<(t:Int):=Z;go_wp2;go_meet;case rel=>have h:=e3.out;rw[Ge (by have:=d4.out;omega)]at h;exact⟨_,_,_,rfl,H ⟨by rw[c6];have:=b8.out;simp only[FC,FN,F1,Ov];have:=d4.out;omega,by rw[c6,<-GJ,<-GJ];exact d8.put h⟩⟩
       case' pos=>have g0:(t:Int)<(n9:Int):=Z;obtain⟨z,hz⟩:∃z,b5[t]?=some z:=⟨b5[t]'(by have:=d4.out;omega),by simp[d4.out,e4]⟩;have cz:wr.cell? (Qz dg t)=some (.int .u8 (z.toNat:Int)):=(by rw[(e3.rk i0 rfl).cell t (by rw[rb];have:=d4.out;omega),uE _ _ (by have:=d4.out;omega),(Fz.1 hz).2]);have j2:=z.toNat_lt;have HJ:=H (Pi b5 t z hz);generalize z.toNat=y at cz j2 HJ;have⟨x1,d9⟩:=Qb (Oj J2 (y/16));have⟨x2,e0⟩:=Qb (Oj Pf (y%16));have i1:=PN J2 .u8 (y/16) (by show y/16<16;omega);have i2:=PN Pf .u8 (y%16) (by show y%16<16;omega);rw[<-d9]at i1 HJ;rw[<-e0]at i2 HJ;unfold J2 at i1;unfold Pf at i2;have q1:(y:Int)/16=((y/16:Nat):Int):=Z;have q2:(y:Int).tmod 16=((y%16:Nat):Int):=(by rw[GH Z];omega);have w1:IntKind.u8.wrap ((y/16:Nat):Int)=((y/16:Nat):Int):=(by rw[IntKind.wrap_u8];omega);have w2:IntKind.u8.wrap ((y%16:Nat):Int)=((y%16:Nat):Int):=(by rw[IntKind.wrap_u8];omega);have i3:=H (e3.below ld);have i4:=H (show(l1++PL++[32]++Pj (b5.take t)).length<=40000 by have:=b8.out;simp only[FC,FN,F1,Ov,Hm];omega);clear e3 hz d9 e0;generalize ((y/16:Nat):Int)=Q1 at i1 q1 w1;generalize ((y%16:Nat):Int)=Q2 at i2 q2 w2;go_upto_region 36 with fail
     case' inr.inr.inr.inr.inr.inr.inr=>have c6:Hid ((Om zs o k (PL,q3) 9).1=[Oj Em (k%22),Oj J2 (k/16)]):=rfl;have⟨x1,d9⟩:=Qb (Oj Em (k%22));have⟨x2,e0⟩:=Qb (Oj J2 (k/16));have i1:=PN Em .i64 (k%22) (by show k%22<22;omega);have i2:=PN J2 .i64 (k/16) (by show k/16<16;omega);rw[<-d9]at i1 c6;rw[<-e0]at i2 c6;unfold Em at i1;unfold J2 at i2;clear d9 e0;have q1:(k:Int).tmod 22=((k%22:Nat):Int):=(by rw[GH Z];omega);have q2:(k:Int).tdiv 16=((k/16:Nat):Int):=(by rw[Ig Z];omega);have q3:(k:Int)/16=((k/16:Nat):Int):=Z;have y:IntKind.i64.wrap ((k/16:Nat):Int)=((k/16:Nat):Int):=(by rw[Hh];omega);have⟨i3,i4⟩:=y7 (S7.ow.below ld) (show l1.length<=40000 by omega);generalize ((k%22:Nat):Int)=Q1 at i1 q1;generalize ((k/16:Nat):Int)=Q2 at i2 q2 q3 y;go_upto_region 46 with fail
     iterate 2
      case _=>
       have⟨a8,m8,y,U8,d1,o8,_⟩:=i3.one [x1,x2] (by have:=i4.out;simp only[FN,F1];omega);rw[show bv [x1,x2]=[.int .u8 (x1.toNat:Int),.int .u8 (x2.toNat:Int)]from rfl]at d1;refine rh (S:=λ_=>True) ?_;have hS:True:=trivial;refine pq (S:=λ_=>True) 0 hS ?_;simp only[lz,l0,ls];refine pq (S:=λ_=>True) 1 hS ?_;simp only[lz,l0,ls];refine pq (S:=λ_=>True) 2 hS ?_;simp only[lz,l0,ls];refine pq (S:=λ_=>True) 3 (v:=.int .u8 (x1.toNat:Int)) (h2:=.inl ⟨E,λ_ _=>by go_simp⟩) hS ?_;simp only[lz,l0,ls];refine pq (S:=λ_=>True) 4 hS ?_;simp only[lz,l0,ls];refine pq (S:=λ_=>True) 5 hS ?_;simp only[lz,l0,ls];refine pq (S:=λ_=>True) 6 (v:=.int .u8 (x2.toNat:Int)) (h2:=.inl ⟨E,λ_ _=>by go_simp⟩) hS ?_;simp only[lz,l0,ls];refine po 7 λK' hK=>?_;go_simp;refine hK _ _ ⟨trivial,?_⟩;clear hK K';refine gu 8 ?_;refine ur d1 ⟨trivial,?_⟩;refine pk (S:=λ_=>True) 9 (.slice a8 m8 y) hS ?_;refine bY ?_;go_wp2_with fail
       first
        |(go_meet;(exact⟨_,_,_,rfl,H ⟨by rw[c6,FN,List.length_singleton];omega,by rw[c6];exact S7.put o8⟩⟩))
        |(go_roundw;(exact⟨t+1,a8,m8,y,Z,aY,rfl,H (by rw[HJ,<-GJ];exact o8)⟩);(exact QE))
    clear S7 DA Q RP c3 c4 c5 CN;obtain⟨a1,m1,e1,rfl,y⟩:=hcut;obtain⟨PV,d6⟩:∃V:QM,V=wc:=⟨_,rfl⟩;subst d6;generalize Om zs o k (PL,q3) T=bd at y HN;have⟨t,q4⟩:=bd;dsimp only at y HN;have S8:=H y.2;have a0:=H (show j+1<=(l1++t).length/\(l1++t).length<=j*1000+510/\(l1++t).length<=40000 by have:=y.1;have:=g9.out;rw[FC];omega);generalize l1++t=l2 at S8 HN a0;have N5:=H (Su zs q4);have h8:=gx zs q4;clear y;have c6:gv<=j:=HB.2.1;obtain⟨G,hG⟩:∃G:Nat,Hid (G=if T<7 then gv+1 else gv):=⟨_,rfl⟩;rw[<-hG]at HN;(go_upto_if 198 with fail);go_cut [5] (λv w'=>v=I (G:Nat)/\PV=w')
    case first=>as_aux_lemma=>
     by_cases a4:T<7
     ·have b5:(T:Int)<7:=Z;go_wp2;go_meet;exact⟨by rw[hG,GP a4];rfl,rfl⟩
     have b5:¬(T:Int)<7:=Z;go_wp2;go_meet;exact⟨by rw[hG,GO a4],rfl⟩
    obtain⟨rfl,rfl⟩:=hcut;have c6:G<=j+1:=by rw[hG];split<;>omega
    clear hG
    go_upto_block 7 with fail
    rcases(show k=255\/k=254\/k=253\/(k≠255/\k≠254/\k≠253) by omega)with rfl|rfl|rfl|⟨h1,h2,h3⟩
    case' inl=>
     have y:∀(V:QM)(z:Array QN)(n c g:Nat),g=V.heap.size->(convert 22 22 (Vl g n c)).run prog (V.alloc (QL z 5))=.ok (Vl g n c) (V.alloc (.cells z 5 (z.size,z.size+1))):=λV z n c g h=>by rw[h];exact Lib.run_convert_bytes_const (P:=prog) V 22 5 z n c underlying22 underlying5
     go_wp2_with fail;have S9:=H (S8.below (PO PV));refine(N5 w0 a len cap HC R (Ec PV) _ S9.rd.at).mono ?_;rintro e U5⟨rfl,r5⟩;have d8:=H (S9.next r5);have d1:R<PV.heap.size:=S8.rd.lt;obtain⟨Q,b4⟩:∃Q:Nat,Q=mg zs q4%5:=⟨_,rfl⟩;have⟨o1,o2,o3,o4,o5⟩:=Pz PV Q Z;have X:U5.cell? ⟨PV.heap.size+1+1+1+1+1,Q,none⟩=some (Vl (PV.heap.size+Q) (DX.getD Q []).length (DX.getD Q []).length):=(nD (r5.g.block _ o3 (λe=>by injection e;omega)) Q).trans o1;have⟨a6,m6,e6,U6,b6,o6,_⟩:=d8.ow.rowC (c:=(DX.getD Q []).length) (g:=PV.heap.size+Q) (l2:=DX.getD Q []) (λj hj=>(nD (r5.g.block _ o2 (λe=>by injection e;omega)) j).trans (o5 j hj)) (by have:=a0.out;omega);have HT:=H (show P6 zs 255 q4=(DX.getD Q []++[10],Sw zs q4) by rw[P6,GP rfl,b4]);have b7:(mg zs q4:Int)%5=(Q:Int):=Z;have d4:Q<5:=Z;generalize DX.getD Q []=od at HT o4 X b6 o6;generalize mg zs q4=x4 at b7;rw[HT]at HN;have a3:=H (d8.put o6);clear r5 o1 o2 o3 o5 o6 b4 y;go_upto_region 53 with(at_builtin;refine up b6 ?_)
     have y:=H (show od.length<=44 by omega)
    case' inr.inl=>have d7:l2.length+PM.size<=2000000000:=(by rw[show PM.size=44 from rfl];have:=a0.out;omega);have⟨a6,m6,e6,U6,b6,o6,_⟩:=S8.ow.str PM d7;have⟨a3,z⟩:=y7 (S8.put o6) (show P6 zs 254 q4=(PM.data.toList++[10],q4)from rfl);rw[z]at HN;have y:Hid (PM.data.toList.length<=44):=gi;generalize PM.data.toList=od at HN a3 y;unfold PM at b6;clear o6 d7;go_upto_region 53 with(at_builtin;refine up b6 ?_)
    case' inr.inr.inr=>have b1:((k:Int)==255)=false:=(by rw[QF];omega);have b2:((k:Int)==254)=false:=(by rw[QF];omega);have Q:((k:Int) !=253)=true:=(by rw[bne_iff_ne];omega);rw[P6,GO h1,GO h2,GO h3]at HN;obtain⟨od,z⟩:∃od:List UInt8,od=[]:=⟨_,rfl⟩;have a3:=H (show Sr q4 w0 a len cap R V2 (.slice a1 m1 e1) (l2++od) PV by rw[z,Gl];exact S8);have y:=H (show od.length<=44 by rw[z];exact aa);rw[show([10]:List UInt8)=od++[10] by rw[z];rfl]at HN;clear z;go_upto_region 53 with fail
    case inr.inr.inl=>as_aux_lemma=>rw[show P6 zs 253 q4=([],q4)from rfl,Gl]at HN;go_wp2;go_roundw;(exact⟨j+1,_,_,_,Z,rfl,aY,by(rw[HN])<;>first|rfl|(simp;done),H (by rw[HN];dsimp only;exact⟨⟨by have:=a0.out;omega,Z,a0.1⟩,S8⟩)⟩);exact QE
    all_goals as_aux_lemma=>
     rw[<-GJ]at HN
     have⟨a7,m7,e7,U7,d0,o7,_⟩:=a3.ow.ch (x:=10) (i:=10) rfl (by have:=a0.out;have:=y.out;rw[FC];omega)
     have z:=H (a3.put o7)
     clear o7 a3 S8
     go_wp2_with (at_builtin;refine up d0 ?_)
     go_roundw
     exact⟨j+1,a7,m7,e7,Z,rfl,aY,by(rw[HN])<;>first|rfl|(simp;done),H (by rw[HN];dsimp only;exact⟨⟨by have:=a0.out;have:=y.out;simp only[FC,FN,F1];omega,Z,by have:=a0.out;simp only[FC,FN,F1];omega⟩,z⟩)⟩
     exact QE
  have i6:¬(n:Int)-(j:Int) > 0:=Z;have⟨d,f⟩:=HS.out;have e:j=n:=Z;rw[e]at d f;have b:=H (IT d f);clear d f e HS;go_wp2;go_ret;exact⟨_,rfl,⟨by have:=b.1;omega,by have:=b.1;omega⟩,dm b.2.o R2.g.size,R2.of b.2.rd⟩
def Pl(e:List Int):Nat->List UInt8->Nat->List UInt8
 |0,l,_=>l
 |f+1,l,p=>if l.length<20000+mg e p%2 then Pl e f (l++[32]) (Sw e p)else l
def Q5:Value->Nat
 | .slice _ m _=>m
 |_=>0
def P_(zs):∃T:List UInt8,∀(w:QM)(a:QP)(len cap:Nat),Cb zs w a len cap ->
  QA 4 #[.slice a len cap] w λe M=>∃v,e=QJ v/\(T.length<=30000/\0<T.length)/\ObW w.heap.size M v T/\D w M:=by
 have s:=H (Su zs 0);have S:=gx zs 0;generalize mg zs 0=k at S s;generalize Sw zs 0=V at s;have⟨n,t,b⟩:=Ph zs V;have W:=H b;clear b;obtain⟨T,X⟩:∃T,Hid ((k=255/\T=Pl zs 20002 n t)\/(¬k=255/\T=n)):=by
  by_cases h:k=255;·exact⟨_,H (.inl ⟨h,rfl⟩)⟩
  ·exact⟨_,H (.inr ⟨h,rfl⟩)⟩
 refine⟨T,?_⟩;intro w a len cap d;have u:=H d;have b:=(Fu w.heap.size w).alloc gi (QL #[.slice a len cap,.int .i64 0] 47);have c:=H (show Rp 0 w a len cap w.heap.size w (w.alloc (QL #[.slice a len cap,.int .i64 0] 47))from⟨XD,aa,b,gi,⟨b.os,b.tape,b.output,b.size,λg f _=>b.block g f⟩⟩);clear d b;go_enter func4,ntmps4;go_wp2_with fail;generalize w.alloc (QL #[.slice a len cap,.int .i64 0] 47)=O at c⊢;refine(s w a len cap u w.heap.size O O c.at).mono ?_;rintro e y⟨rfl,b⟩;have o:=H (c.of b);clear b;go_wp2_with fail;refine(W w a len cap u w.heap.size y o.at).mono ?_;rintro e Y⟨v,rfl,hT,b,c⟩;obtain⟨a3,m3,c3,rfl,-⟩:=Re b;have z:=H (show Sr t w a len cap w.heap.size y (.slice a3 m3 c3) n Y from⟨c,b,o.lt⟩);clear b c;rcases X with⟨A,j⟩|⟨A,rfl⟩
 ·have hb:((k:Int)==255)=true:=by simp[A]
  have m:=H (IT j hT);clear j hT;go_wp2_with fail;go_loopw [5] (λp wv=>∃(l:List UInt8)(q f:Nat)(P:QP)(r Q:Nat),p=.slice P r Q/\Hid ((T=Pl zs f l q/\(1<=f/\20002<=f+l.length)/\l.length<=30000/\0<l.length)/\Sr q w a len cap w.heap.size y p l wv)) (λp _=>40000-Q5 p);case atStart=>exact⟨n,t,20002,_,_,_,rfl,H ⟨⟨m.1,Z,m.2⟩,z⟩⟩
  case round=>
   obtain⟨l,q,f,P,r,Q,rfl,g⟩:=hrel;have N:=H (Su zs q);have hc:=gx zs q;obtain⟨f,rfl⟩:∃b,f=b+1:=⟨f-1,by have:=g.1.2;omega⟩;have b:=g.1.1;rw[Pl]at b;have d:=H (CQ g.2.o);generalize mg zs q=c at hc N b;generalize Sw zs q=q1 at N b;have⟨B,F⟩:=y7 g.1.2 g.2;clear g;go_wp2_with fail;refine(N w a len cap u w.heap.size _ _ F.rd.at).mono ?_;rintro e U1⟨rfl,G⟩;have g:=H (F.next G);clear G;by_cases R:l.length<20000+c%2
   ·have F:(r:Int)<20000+(c:Int)%2:=(by have:=d.out;omega);rw[GP R]at b;have⟨a6,m6,c6,U6,G,K,k6⟩:=g.ow.ch (x:=32) (i:=32) rfl Z;have⟨S6,L⟩:=y7 (g.put K) (CQ K.o);have H7:=H (show(1<=f/\20002<=f+(l++[32]).length)/\(l++[32]).length<=30000/\0<(l++[32]).length by have:=B.out;rw[FC,List.length_singleton];omega)
    clear K k6 g;go_wp2_with (at_builtin;refine up G ?_);go_roundw;(exact⟨l++[32],q1,f,a6,m6,c6,rfl,H ⟨⟨b,H7⟩,S6⟩⟩);case measure=>have K:=L.out;have A:=d.out;rw[FC,List.length_singleton]at K;simp only[Q5];have:=B.out;omega
   ·have F:¬(r:Int)<20000+(c:Int)%2:=(by have:=d.out;omega);rw[GO R]at b;subst b;go_wp2;go_ret;exact⟨_,rfl,B.2,dm g.o o.g.size,g.rd.bel⟩
 ·have hb:((k:Int)==255)=false:=by rw[QF];omega
  go_wp2;go_ret;exact⟨_,rfl,hT,dm z.o o.g.size,(z.rd.bel)⟩
