import Derived.OpenShut
import Derived.ProofKit
import Derived.Shelf.Bits.Mul64
import Derived.Test.YtbcacchkcedffaaGreatDoorProg
import Derived.WalkLawsBesides
import Derived.Conc.MuLone
import Derived.Deep.AppendLies
import Derived.Deep.OwnRows
import Derived.Laws.CopyOwn
import Derived.LoopIn
import Derived.LoopNIn
import Derived.OrdersHeld
import Derived.OwnWalkIn
import Derived.RangeFuncBound
import Derived.RangeFuncNested
import Derived.Shelf.RegionOpen
set_option linter.all false
set_option maxRecDepth 20000
set_option maxHeartbeats 0
namespace Go.Proofs.YtbcacchkcedffaaGreatDoor
open Go.Proofs.Tryz Go.RowKit Go.Maps Go.Shelf Go.ChangeShapes Go.WideShapes Go.ChangeAt
section
variable {W W1 W2 a w w':World}{M S b cap g i k:Nat}{e:TypeId}{xs:List Value}{bud n st:Int}{zs:List Int}{v:Value}{f:Nat->Option Nat}{m:Nat->Option (Bool×List Int)}
section
open Go.RowKit Go
def Qa{α}(x:α):∃y,x=y:=⟨_,rfl⟩
def Qb{α}(x:α):∃y,y=x:=⟨_,rfl⟩
def y7{p q:Prop}(a:p)(b:q):Hid p/\Hid q:=⟨a,b⟩
def Qe{p q r:Prop}(a:p)(b:q)(c:r):Hid p/\Hid q/\Hid r:=⟨a,b,c⟩
def Qf{p q r s:Prop}(a:p)(b:q)(c:r)(d:s):Hid p/\Hid q/\Hid r/\Hid s:=⟨a,b,c,d⟩
def Qg{p q r s t:Prop}(a:p)(b:q)(c:r)(d:s)(e:t):Hid p/\Hid q/\Hid r/\Hid s/\Hid t:=⟨a,b,c,d,e⟩
def Qh{p q r s t u:Prop}(a:p)(b:q)(c:r)(d:s)(e:t)(f:u):Hid p/\Hid q/\Hid r/\Hid s/\Hid t/\Hid u:=⟨a,b,c,d,e,f⟩
def Qi{p q r s t u v:Prop}(a:p)(b:q)(c:r)(d:s)(e:t)(f:u)(g:v):Hid p/\Hid q/\Hid r/\Hid s/\Hid t/\Hid u/\Hid v:=⟨a,b,c,d,e,f,g⟩
def Qj{p q r s t u v w:Prop}(a:p)(b:q)(c:r)(d:s)(e:t)(f:u)(g:v)(h:w):Hid p/\Hid q/\Hid r/\Hid s/\Hid t/\Hid u/\Hid v/\Hid w:=⟨a,b,c,d,e,f,g,h⟩
abbrev Qz(g i:Nat):Addr:=⟨g,i,none⟩
abbrev QA:=Calls prog
def QB{α β}{a:α}{b:β}:a=a/\b=b:=⟨rfl,rfl⟩
abbrev QC:=@World.cell?.eq_1
abbrev QD:=@World.frozen?.eq_1
abbrev QF:=@beq_eq_false_iff_ne
def QE{p:Prop}(h:p:=by(simp[intOf];try omega)):p:=h
abbrev QG(W:World)(g i:Nat)(v:Value):Prop:=W.cell? ⟨g,i,none⟩=some v
abbrev QH(W:World)(x:Nat)(c:Array Value)(t:TypeId):Prop:=W.heap[x]?=some (.cells c t)
abbrev QI(t:TypeId)(a b:Value)(W:World)(v:Value)(V:World):Prop:=(Builtin.append_ #[t,t] t #[a,b]).run prog W=.ok v V
abbrev QJ:=Ending.returned
abbrev QK:=Value.slice
abbrev QL(c:Array Value)(t:TypeId):Obj:=.cells c t
abbrev QM:=World
abbrev QN:=Value
abbrev QO:=TypeId
abbrev QP:=Option Addr
abbrev Qk:Value:=.bool false
abbrev Ql:Value:=.bool true
abbrev Fu:=@Below.refl
abbrev Fv:=@Nat.le_refl
abbrev Fw:=@List.setIfInBounds_toArray
abbrev Fx:=@Nat.le_trans
abbrev Fy:=@List.getElem?_eq_getElem
abbrev Fz:=@List.getElem?_eq_some_iff
abbrev FA:=@List.set_cons_zero
abbrev FB:=@List.set_cons_succ
abbrev FC:=@List.length_append
abbrev FD:=@Array.getElem?_modify
abbrev FG:=@Nat.lt_of_lt_of_le
abbrev FH:=@Nat.zero_le
abbrev FJ:=@List.getElem?_eq_none
abbrev FK:=@Array.getElem?_setIfInBounds
abbrev FM:=@List.mem_of_getElem?
abbrev FN:=@List.length_cons
abbrev FO:=@Array.replicate_zero
abbrev FP:=@Array.replicate_succ
abbrev FQ:=@List.mem_map
abbrev FV:=@List.nil_append
abbrev FX:=@List.size_toArray
abbrev FY:=@List.push_toArray
abbrev F0:=@Int.toNat_natCast
abbrev F1:=@List.length_nil
abbrev F4:=@List.mem_cons
abbrev F5:=@List.cons_append
abbrev F8:=@List.mem_append
abbrev F_:=@List.take_add_one
abbrev Ga:=@List.getElem?_append_left
abbrev Oi:=@Nat.zero_add
abbrev Gc:=@List.length_replicate
abbrev Ge:=@List.take_of_length_le
abbrev Gf:=@wpList_store_row
abbrev Gg:=@Array.getElem?_toList
abbrev Gh:=@List.mem_range
abbrev Gi:=@Bool.and_eq_true
abbrev Gj:=@List.length_set
abbrev Gk:=@List.mem_filter
abbrev Gl:=@List.append_nil
abbrev Gm:=@Nat.mul_le_mul_right
abbrev Gn:=@List.getElem?_append_right
abbrev Gp:=@List.not_mem_nil
abbrev Gq:=@results_cell_row
abbrev Gr:=@List.getElem?_set
abbrev Gs:=@List.range_succ
abbrev Rl:=@wpList_load_row
abbrev Gu:=@List.flatMap_append
abbrev Gv:=@List.getElem?_map
abbrev Gx:=@List.getElem?_take
abbrev Gy:=@Nat.add_mul
abbrev Gz:=@List.length_map
abbrev GB:=@Option.some.inj
abbrev GF:=@Nat.one_mul
abbrev GG:=@List.length_range
abbrev GH:=@Int.tmod_eq_emod_of_nonneg
abbrev GI:=@List.nodup_cons
abbrev GJ:=@List.append_assoc
abbrev GK:=@Nat.add_zero
abbrev GL:=@Nat.mul_comm
abbrev GO:=@if_neg
abbrev GP:=@if_pos
abbrev GQ:=@Below.heap_setCell
abbrev GR:=@decide_eq_false
abbrev GT:=@cell_of_row
abbrev GW:=@Calls.quiet_of_same
abbrev GX:=@bodyPost_ret
abbrev GY:=@frozen_of_row
abbrev GZ:=@World.grownBy_alloc
abbrev G0:=@info_parts
abbrev G8:=@decide_eq_true
abbrev G9:=@List.take_length
abbrev G_:=@lt_of_block
abbrev Ha:=@Int.eq_ofNat_of_zero_le
abbrev Hb:=@List.length_filter_le
abbrev Hc:=@wp_loop_rounds
abbrev Hd:=@Array.getElem?_eq_none
abbrev He:=@List.getElem?_of_mem
abbrev Hf:=@List.getElem?_take_of_lt
abbrev Hh:=@IntKind.wrap_i64
abbrev Hi:=@Option.map_some
abbrev Hj:=@decide_eq_true_eq
abbrev Hk:=@Option.some.injEq
abbrev Hl:=@List.filter_append
abbrev Hm:=@List.length_take
abbrev Hn:=@List.filter_cons_of_pos
abbrev Ho:=@List.ext_getElem?
abbrev Hq:=@MapKept.heap_alloc
abbrev Hr:=@List.map_append
abbrev Ht:=@Option.getD_some
abbrev Hu:=@rounds_succ
abbrev Hv:=@Mul64.wrapN
abbrev Hw:=@Array.getElem?_eq_getElem
abbrev Hy:=@Value.int.injEq
abbrev Hz:=@Nat.min_eq_left
abbrev H4:=@Nat.mod_eq_of_lt
abbrev H_:=@Nat.add_assoc
abbrev Ia:=@run_append_own
abbrev Ib:=@wpList_append_own
abbrev Ic:=@heap_setCell_same
abbrev Ie:=@Nat.lt_trichotomy
abbrev If:=@List.flatMap_cons
abbrev Ig:=@Int.tdiv_eq_ediv_of_nonneg
abbrev Ih:=@wp_store_row
abbrev Ii:=@toList_madeCells_one
abbrev Ij:=@List.mem_cons_of_mem
abbrev Ik:=@List.eq_nil_of_length_eq_zero
abbrev Il:=@List.filter_eq_self
abbrev Io:=@World.cell?_setCell_other
abbrev Ip:=@List.mem_of_find?_eq_some
abbrev Iq:=@Ne.symm
abbrev Ir:=@results_none
abbrev Is:=@List.pairwise_append
abbrev It:=@List.map_cons
abbrev Iu:=@List.find?_range_eq_some
abbrev Iv:=@List.append_toArray
abbrev Iw:=@List.getElem_mem
abbrev Ix:=@List.filter_cons_of_neg
abbrev Iy:=@leaves_cons
abbrev Iz:=@List.take_append_of_le_length
abbrev IA:=@wpList_plain
abbrev IB:=@Int.emod_lt_of_pos
abbrev IC:=@List.filter_eq_nil_iff
abbrev ID:=@Nat.lt_irrefl
abbrev IE:=@List.drop_zero
abbrev IF:=@List.mem_append_left
abbrev IG:=@WalkArith.wf_i64
abbrev II:=@List.pairwise_iff_getElem
abbrev IJ:=@Nat.mul_le_mul_left
abbrev IK:=@Int.toNat_of_nonneg
abbrev IL:=@if_false
abbrev IM:=@if_true
abbrev CT:=@Lib.half_mul_le
abbrev IP:=@Int.emod_nonneg
abbrev IQ:=@Option.toList_some
abbrev IR:=@List.getElem?_drop
abbrev IS:=@Bool.true_eq_false
abbrev IT:=@And.intro
end
abbrev D(a b:World):Prop:=Below a.heap.size a b
section
open Go.RowKit Go
def bG{p:Prop}(h:p:=by simp;omega):p:=h
def Z{p:Prop}(h:p:=by omega):p:=h
def E{p:Prop}(h:p:=by kernel_rfl):p:=h
def aY{p:Prop}(h:p:=by go_num):p:=h
def ar{p:Prop}(h:p:=by decide):p:=h
def bH{p:Prop}(h:p:=by simp):p:=h
def dU{p:Prop}(h:p:=by rfl):p:=h
def mL{p:Prop}(h:p:=by simp[Value.oneCell']):p:=h
def iM{p:Prop}(h:p:=by dsimp only;omega):p:=h
def up{P:Program}{t u:TypeId}{c:Array Oper}{b:List Oper}{o:Oper}{a:Act}{w g:World}{Q:Exit->Act->World->Prop}{s x:Operand}{v e f:Value}(m:(Builtin.append_ #[t,u] t #[v,e]).run P w=.ok f g)(h:wpList P c Q b (a.put o.dst f) g)(d:o.guard=none:=by exact rfl)(i:o.op=.call {callee:=.builtin .append,args:=#[s,x],argTypes:=#[t,u]}:=by first|with_reducible rfl|exact rfl)(j:o.type=t:=by exact rfl)(k:a.eval s=v:=by exact rfl)(l:a.eval x=e:=by exact rfl):wpList P c Q (o::b) a w:=by
 refine IA d λK n=>?_;unfold Oper.wp;simp[execOp,i,j,resolve,invoke,builtin,k,l,m,Result.andThen];exact n _ _ h
def th{B w}:Below B w w:=.refl B w
def ph{w:World}{o}:D w (w.alloc o):=(Fu _ _).alloc (Fv _) o
def ld{B w}:Below B w w.drew:=(Fu _ _).drew
def gi{n:Nat}:n<=n:=Fv n
def aa{n:Nat}:0<=n:=FH n
def ac{w:World}{g j:Nat}{c:Array Value}{t:TypeId}{f:Nat×Nat}(h:w.heap[g]?=some (.cells c t f)):w.cell? ⟨g,j,none⟩=c[j]?:=GT _ _ _ _ _ _ h
def ah{w:World}{g j:Nat}{c:Array Value}{t:TypeId}(h:w.heap[g]?=some (.cells c t)):w.frozen? ⟨g,j,none⟩=false:=GY _ _ _ _ _ h
def XB{w:World}{a:Addr}{u:Value}{k:Nat}(h:k≠a.block):(w.setCell a u).heap[k]?=w.heap[k]?:=GQ _ _ _ _ h
def bJ{w:QM}{g j t:Nat}{a:Array QN}{b:Nat×Nat}{v:QN}(c:w.heap[g]?=some (.cells a t b))(e:a[j]?=some v:=by rfl):w.cell? (Qz g j)=some v:=(ac c).trans e
def AV{P:Program}{e:Func}{p:Tmp}{b:TypeId}{a:Array Value}{w:World}{g t:Nat}{c:Array Value}{f:Nat×Nat}{d:TypeDesc}(i:w.heap[g]?=some (.cells c t f))(j:P.underlying b=some d)(h:e.results=#[.cell p b]:=by rfl)(k:a.getD p undef=.pointer (some ⟨g,0,none⟩):=by rfl)(l:(match d with|.struct _|.array _ _=>true|_=>false)=true:=by rfl)(m:(P.info? b).map (·.size)=some c.size:=by kernel_rfl):(results e a).run P w=.ok (.agg c) w:=Gq h _ _ _ _ _ _ _ k i j l m
def fM{P:Program}{e:Func}{p:Tmp}{b:TypeId}{R:Ending->World->Prop}{a:Act}{w:World}{g t:Nat}{c:Array Value}{f:Nat×Nat}{d:TypeDesc}(i:w.heap[g]?=some (.cells c t f))(j:P.underlying b=some d)(k:R (.returned (.agg c)) w)(h:e.results=#[.cell p b]:=by rfl)(l:a.tmps.getD p undef=.pointer (some ⟨g,0,none⟩):=by rfl)(m:(match d with|.struct _|.array _ _=>true|_=>false)=true:=by rfl)(n:(P.info? b).map (·.size)=some c.size:=by kernel_rfl)(o:a.defers=[]:=by rfl):bodyPost P e R .ret a w:=GX (Gq h _ _ _ _ _ _ _ l i j m n) o k
def eG{P:Program}{ops:Array Oper}{rest:List Oper}{o:Oper}{a:Act}{w:QM}{Q:Exit->Act->QM->Prop}{e:QO}{x y:Operand}{g:Nat}{b:Array QN}{t:QO}{c:Array QN}(i:w.heap[g]?=some (.cells c t (0,0)))(h:wpList P ops Q rest (a.put o.dst undef) (w.setRow g b))(f:o.guard=none:=by rfl)(j:o.op=.store e x y:=by with_reducible rfl)(k:a.eval x=.pointer (some (Qz g 0)):=by rfl)(l:a.eval y=.agg b:=by rfl)(m:(P.info? e).map (·.size)=some b.size:=by kernel_rfl)(d:c.size=b.size:=by rfl)(n:b.all (·.oneCell')=true:=by simp[Value.oneCell']):wpList P ops Q (o::rest) a w:=Gf f e x y j g b k l t c i m d n h
end
abbrev I(x:Int):Value:=.int .i64 x
abbrev U(x:Int):Value:=.int .u64 x
abbrev J(g i:Nat):Value:=.pointer (some ⟨g,i,none⟩)
abbrev Vl(g n c:Nat):Value:=.slice (some ⟨g,0,none⟩) n c
abbrev C:Value:=.slice none 0 0
abbrev Qq:Obj:=.cells #[.bool false,C,I 0,C,C,C,C,C,C,I 0] 43
abbrev Qt:Obj:=.cells #[I 0,U 0,I 0,C] 46
abbrev Qv:Obj:=.cells #[I 0,C,C,C,C,C,C,I 0] 41
abbrev Qw:Obj:=.cells #[I 0,C] 172
def H{p:Prop}(h:p):Hid p:=h
def cX{k:IntKind}{a b:Int}(h:a=b):Ending.returned (.int k a)=QJ (.int k b):=by rw[h]
def cQ{a b:Bool}(h:a=b):Ending.returned (.bool a)=QJ (.bool b):=by rw[h]
def qb{k:IntKind}{a b:Int}(h:a=b):Value.int k a=.int k b:=by rw[h]
def RowV(w:World)(g:Nat)(e:TypeId)(xs:List Value):Prop:=
 ∃c:Array Value,w.heap[g]?=some (.cells c e)/\xs.length<=c.size/\∀i,i<xs.length->c[i]?=xs[i]?
def RowV.lt(h:RowV w g e xs):g<w.heap.size:=by let⟨c,a,_⟩:=h;exact G_ a
def RowV.cell{w g e xs}(h:RowV w g e xs)(i:Nat)(a:i<xs.length):w.cell? (Qz g i)=xs[i]?:=by let⟨c,b,_,d⟩:=h;simp[QC,b,d i a]
def RowV.free(h:RowV w g e xs)(i:Nat):w.frozen? (Qz g i)=false:=by let⟨c,a,_⟩:=h;simp[QD,a]
def RowV.below{B:Nat}(h:RowV w g e xs)(a:Below B w w')(b:g<B):RowV w' g e xs:=by let⟨c,d,f⟩:=h;exact⟨c,by rwa[a.block g b],f⟩
def RowV.drew{w g e xs}(h:RowV w g e xs):RowV w.drew g e xs:=h
def RowV.set{w g e xs}(h:RowV w g e xs)(i:Nat)(b:i<xs.length)(v:QN):RowV (w.setCell (Qz g i) v) g e (xs.set i v):=by
 let⟨c,d,f,k⟩:=h;refine⟨c.setIfInBounds i v,?_,by simpa using f,?_⟩;.simp[World.setCell,FD,d]
 intro j a;simp at a;rw[FK,Gr];by_cases e:i=j;.subst e;simp[b,show i<c.size by omega]
 simp[e,k j a]
def RowV.other(h:RowV w g e xs){p:Addr}(a:g≠p.block)(v:QN):RowV (w.setCell p v) g e xs:=by let⟨c,b,d⟩:=h;exact⟨c,by rwa[XB a],d⟩
def RowV.grown{b:Nat}(h:RowV w g e xs)(f:w.grownBy w' (some b))(a:g≠b):RowV w' g e xs:=by let⟨c,d,i⟩:=h;exact⟨c,by rwa[f.block g (G_ d) (by simpa using a)],i⟩
def RowV.ofOwns{n base:Nat}(h:w.ownsRow base e 1 (Vl g n cap) n xs):RowV w g e xs:=by
 let⟨k,a⟩:=h;rcases a with a|⟨l,c,b,hv,m,d,o,p,q,f⟩;.simp at a
 simp at hv;obtain⟨rfl,rfl⟩:=hv;subst f;refine⟨b,d,bG,?_⟩;intro i j;simp at j;simp[Gx];omega
def Ns(k:IntKind)(zs:List Int):List Value:=zs.map (Value.int k)
def NM(k zs):(Ns k zs).length=zs.length:=by simp[Ns]
def wQ(k zs)(i:Nat)(v:Int):(Ns k zs).set i (.int k v)=Ns k (zs.set i v):=by simp[Ns,List.map_set]
def jZ{k}(h:RowV w g e (Ns k zs))(i:Nat)(a:i<zs.length):w.cell? (Qz g i)=some (.int k (zs[i]?.getD 0)):=by rw[h.cell i (by simpa[Ns]using a)];simp[Ns,a]
def getD_some(zs:List Int)(k:Nat)(h:k<zs.length):zs[k]?=some (zs[k]?.getD 0):=by simp[h]
def IsRow(k:IntKind)(w:World)(a:Option Addr)(len cap:Nat)(zs:List Int):Prop:=
 (a=none/\len=0/\cap=0/\zs=[]) \/
 ∃x,a=some x/\len<=cap/\cap<=maxLen/\zs.length=cap/\(∀i,i<zs.length->w.cell? (x.add i)=some (.int k (zs.getD i 0)))/\∀n∈zs,(Lit.int k n).wf=true
def NI(a:D w w'){x:Addr}(h:w.cell? x=some v):w'.cell? x=some v:=by
 let b:x.block<w.heap.size:=by
  unfold World.cell? at h;split at h;.rename_i c;exact G_ c
  cases h
 rwa[a.cell b]
def IsRow.below{k a len}(h:IsRow k w a len cap zs)(b:D w w'):IsRow k w' a len cap zs:=by
 rcases h with h|⟨x,c,d,e,f,g,j⟩;.exact .inl h
 exact .inr ⟨x,c,d,e,f,λi l=>NI b (g i l),j⟩
def IsRow.len{k a len}(h:IsRow k w a len cap zs):(zs.take len).length=len:=by
 rcases h with⟨_,rfl,_,rfl⟩|⟨x,b,c,d,e,f,g⟩;.simp
 simp;omega
def az{b c}(d:D a b)(e:D b c):D a c:=d.trans (e.mono d.size)
def Agree{α:Type}(ys zs:List α)(k:Nat):Prop:=ys.length=zs.length/\∀j,j<k->ys[j]?=zs[j]?
def Agree.zero{α:Type}{a zs:List α}(h:a.length=zs.length):Agree a zs 0:=⟨h,λj b=>Z⟩
def Agree.succ{α:Type}{a zs:List α}(h:Agree a zs k)(b:k<zs.length)(v:α)(hv:zs[k]?=some v):Agree (a.set k v) zs (k+1):=by
 refine⟨by simp[h.1],λj c=>?_⟩;rw[Gr];by_cases e:k=j;.subst e;simp[h.1,b]at*;exact hv.symm
 rw[GO e];exact h.2 j Z
def Agree.all{α:Type}{a zs:List α}(h:Agree a zs k)(c:zs.length<=k):a=zs:=by
 apply Ho;intro j;by_cases b:j<k;.exact h.2 j b
 rw[FJ (by have:=h.1;omega),FJ Z]
def Q6(w:QM)(g:Nat):w.grownBy w (some g):=⟨rfl,rfl,rfl,gi,λ_ _ _=>rfl⟩
def au{b:QM}(h:w.grownBy b (some g))(i:Nat)(v:QN):w.grownBy (b.setCell (Qz g i) v) (some g):=
 ⟨h.os,h.tape,h.output,by simp[World.setCell];exact h.size,λk c a=>by rw[XB (by intro e;exact a (by rw[e]))];exact h.block k c a⟩
def rW{a:QM}{g:Option Nat}(h:W.grownBy a g):W.grownBy a.drew g:=⟨h.os,h.tape,h.output,h.size,h.block⟩
def below_grown(h:D a w)(b:w.grownBy w' (some g))(c:a.heap.size<=g):D a w':=
 h.grown b h.size (λk e=>by cases e;exact c)
def ev:Value->Option (DataW Unit×List MemPlace)
 | .pointer (some ⟨b,0,none⟩)=>some (.lit (.int .i64 b),[])
 | .pointer none=>some (.nil,[])
 |_=>none
def ol(b:Nat):ev (.pointer (some (Qz b 0)))=some (.lit (.int .i64 b),[]):=rfl
def hF{z:DataW Unit×List MemPlace}(h:ev v=some z):(∃b:Nat,v=.pointer (some (Qz b 0))/\z=(.lit (.int .i64 b),[]))\/(v=.pointer none/\z=(.nil,[])):=by
 unfold ev at h;split at h;.left;exact⟨_,rfl,by simpa using h.symm⟩
 .right;exact⟨rfl,by simpa using h.symm⟩
 cases h
def sG:Option Nat->DataW Unit
 |some b=>.lit (.int .i64 b)
 |none=>.nil
def bm(f:Nat->Option Nat)(first:Nat):Nat->Nat
 |0=>0
 |k+1=>bm f first k+(f (first+k)).isSome.toNat
def ep(f first):∀k,bm f first k<=k
 |0=>gi
 |k+1=>by have:=ep f first k;let a:=Bool.toNat_le (f (first+k)).isSome;simp[bm];omega
def upd(f:Nat->Option Nat)(k:Nat)(v:Option Nat):Nat->Option Nat:=λj=>if j=k then v else f j
def upd_same{f k v}:upd f k v k=v:=by simp[upd]
def aI(f)(k j:Nat)(v)(h:j≠k):upd f k v j=f j:=by simp[upd,h]
def iR(f)(k:Nat)(v)(first:Nat):∀N,k<first\/first+N<=k->bm (upd f k v) first N=bm f first N
 |0,_=>rfl
 |N+1,h=>by
  simp[bm]
  rw[iR f k v first N Z,aI f k _ v Z]
def j_(f)(k:Nat)(v)(first:Nat):∀N,first<=k->k<first+N->bm (upd f k v) first N+(f k).isSome.toNat=bm f first N+v.isSome.toNat
 |0,h,a=>by omega
 | N+1,h,a=>by
  simp[bm]
  by_cases e:k=first+N
  .subst e
   rw[iR f _ v first N Z,upd_same]
   omega
  have:=j_ f k v first N h Z
  rw[aI f k (first+N) v Z]
  omega
structure Im(S M:Nat)(st n bud:Int)(f:Nat->Option Nat)(W:QM):Prop where
 box:W.heap[S]?=some (.cells #[.int .i32 st,.int .u32 0,.int .i64 n,.int .i64 bud,.map (some M)] 187)
 map:∃D:DataW Unit,W.ownsMap prog 3 ev M 4096 D/\Maps.size D=bm f 0 4096/\(∀k:Nat,k<4611686018427387904->D.atKey (.int .i64 k) .nil=sG (f k))/\∀k:Nat,k<4611686018427387904->has D (.int .i64 k)=(f k).isSome
def g_:Keyed prog 3:=int_keyed underlying3
def A_(w:QM):(zeroValue 217).run prog w=.ok (.pointer none) w:=E
def Bo(k:Nat)(h:k<4611686018427387904):keyOf prog 3 (.int .i64 k)=some (.int .i64 k):=keyOf_int_mk underlying3 (IG Z)
def Im.look(h:Im S M st n bud f W)(k:Nat)(j:k<4611686018427387904):
  (Instr.lookup 178 (.map (some M)) (.int .i64 k) false).run prog W=.ok (.pointer ((f k).map λb=>(Qz b 0))) W:=by
 let⟨a,d,_,i,_⟩:=h.map;let⟨v,ps,e,hv⟩:=d.lookup g_ underlying178 (A_ W) (show ev (.pointer none)=some (.nil,[])from rfl) (Bo k j);rw[i k j]at hv;rw[e];rcases hF hv with⟨b,rfl,c⟩|⟨rfl,c⟩
 .cases g:f k with
  |none=>rw[g]at c;simp[sG]at c
  |some l=>rw[g]at c;simp[sG]at c;have:l=b:=Z;subst this;rfl
 cases g:f k with
 |none=>rfl
 |some l=>rw[g]at c;simp[sG]at c
def Im.c(h:Im S M st n bud f W):
  W.cell? (Qz S 0)=some (.int .i32 st)/\W.cell? (Qz S 2)=some (I n)/\W.cell? (Qz S 3)=some (I bud)/\W.cell? (Qz S 4)=some (.map (some M)):=by
 simp[QC,h.box]
def ef(S M st n bud f)(first a:Nat)(w)(h:Im S M st n bud f w)(p:first<=4096)(q:a<=4096):
  Calls prog 282 #[J S 0,I first,I a] w λe w'=>e=QJ (I (bm f first a))/\w'=w:=by
 let⟨_,_,_,r⟩:=h.c;go_wp2;go_loop [7,8,10] (λc _ i=>∃k:Nat,k<=a/\i=I k/\c=I (bm f first k)) (λ_ _ i=>a-(intOf i).toNat);exact⟨0,aa,rfl,rfl⟩
 obtain⟨k,s,rfl,rfl⟩:=hrel;by_cases m:k<a
 .let d:=(H h).look (first+k) Z;let g:((first+k:Nat):Int)=(first:Int)+(k:Int):=Z;rw[g]at d;have o:=ep f first k
  have g:Hid (bm f first (k+1)=bm f first k+(f (first+k)).isSome.toNat):=rfl;generalize bm f first k=c at*
  cases j:f (first+k)with
  |none=>
   rw[j]at d g;simp[Option.map_none]at d;go_wp2
   go_round
   (exact⟨k+1,Z,aY,by rw[g];rfl⟩);exact QE
  |some b=>
   rw[j]at d g;simp[Hi]at d;go_wp2
   go_round
   (exact⟨k+1,Z,aY,by rw[g];rfl⟩);exact QE
 have d:k=a:=Z;subst d;go_wp2;go_ret;exact QB
def bI(n first e:Int):Bool:=decide (1<=e/\0<=first/\e<=n-first)
def c_(S M st n bud f)(first:Int)(count w)(h:Im S M st n bud f w)(b:0<=n)(a:n<=4096)(c:first<=9223372036854775807):
  QA 281 #[J S 0,I first,I count] w λe w'=>e=QJ (.bool (bI n first count))/\w'=w:=by
 let⟨_,d,_,_⟩:=h.c;by_cases g:1<=count
 .by_cases i:0<=first
  .by_cases j:count<=n-first
   .go_enter func281,ntmps281;go_wp2;go_ret;exact⟨cQ (by simp[bI];omega),rfl⟩
   go_enter func281,ntmps281;go_wp2;go_ret;exact⟨cQ (by simp[bI];omega),rfl⟩
  go_enter func281,ntmps281;go_wp2;go_ret;exact⟨cQ (by simp[bI];omega),rfl⟩
 go_enter func281,ntmps281;go_wp2;go_ret;exact⟨cQ (by simp[bI];omega),rfl⟩
def tight{n:Nat}{a:DataW Unit}{R:QN->Option (DataW Unit×List MemPlace)}(h:W.ownsMap prog 3 R b n a){d:Nat}(e:Maps.size a<=d):W.ownsMap prog 3 R b d a:=by obtain⟨f,c,g,F,i,rfl⟩:=h;exact⟨f,c,g,F,by simpa[Maps.size,length_sorted]using e,rfl⟩
def dQ(h:w.mapTurned w' M)(a:b≠M):w'.heap[b]?=w.heap[b]?:=by obtain⟨f,c,d,g,e,rfl⟩:=h;exact ChangeMaps.heap_setBlock_other e _ a
def Im.ne(h:Im S M st n bud f W):S≠M:=by intro e;subst e;obtain⟨a,⟨d,c,b,_⟩,_⟩:=h.map;rw[h.box]at b;cases b
def oR{j:Nat}(h:j≠k):(Lit.int .i64 (j:Int))≠.int .i64 (k:Int):=by intro e;injection e with _ e;omega
def Im.del{S M st n bud f W}(h:Im S M st n bud f W)(k:Nat)(s:k<4096)(o:QO):
  ∃g,(Builtin.delete_ #[178,3] o #[.map (some M),.int .i64 k]).run prog W=.ok (.tuple #[]) g/\Im S M st n bud (upd f k none) g/\W.mapTurned g M:=by
 let⟨a,b,q,l,c⟩:=h.map;let⟨g,i,d,p⟩:=b.drop g_ underlying178 (Bo k Z) o;refine⟨g,i,⟨by rw[dQ p h.ne];exact h.box,a.del (.int .i64 k),d,?_,?_,?_⟩,p⟩
 .let j:=Maps.size_del (k:=.int .i64 k) (b.tidy g_);let m:=j_ f k none 0 4096 Z Z;rw[c k Z]at j;cases r:f k<;>rw[r]at j m<;>simp at j m<;>omega
 .intro j m;by_cases e:j=k;.subst e;rw[Maps.atKey_del_same,upd_same];rfl
  rw[Maps.atKey_del_other (oR e),aI f k j _ e];exact l j m
 intro j m;by_cases e:j=k;.subst e;rw[Maps.has_del_same,upd_same];rfl
 rw[Maps.has_del_other (oR e),aI f k j _ e];exact c j m
def Im.put{S M st n bud f W}(h:Im S M st n bud f W)(k b:Nat)(u:k<4096):
  ∃l,(Instr.mapUpdate 178 (.map (some M)) (.int .i64 k) (.pointer (some (Qz b 0)))).run prog W=.ok () l/\Im S M st n bud (upd f k (some b)) l/\W.mapTurned l M:=by
 let⟨a,c,s,o,d⟩:=h.map;let⟨l,m,i,q⟩:=c.store g_ underlying178 ar (Bo k Z) (ol b);let g:WideAt.IsKeyLit (.int .i64 (k:Int)):=by simp[WideAt.IsKeyLit]
 let r:Maps.size (a.put (.int .i64 k) (.lit (.int .i64 b)))=bm (upd f k (some b)) 0 4096:=by let j:=Maps.size_put (k:=.int .i64 k) (c.tidy g_) (.lit (.int .i64 b));let p:=j_ f k (some b) 0 4096 Z Z;rw[d k Z]at j;cases t:f k<;>rw[t]at j p<;>simp at j p<;>omega
 refine⟨l,m,⟨by rw[dQ q h.ne];exact h.box,_,tight i (by rw[r];exact ep _ _ _),r,?_,?_⟩,q⟩
 .intro j p;by_cases e:j=k;.subst e;rw[Maps.atKey_put_same c.isMap g,upd_same];rfl
  rw[Maps.atKey_put_other (oR e),aI f k j _ e];exact o j p
 intro j p;by_cases e:j=k;.subst e;rw[Maps.has_put_same c.isMap g,upd_same];rfl
 rw[Maps.has_put_other (oR e),aI f k j _ e];exact d j p
def Im.len{S M st n bud f W}(h:Im S M st n bud f W)(d:QO):
  (Builtin.len_ #[178] d #[.map (some M)]).run prog W=.ok (I (bm f 0 4096)) W:=by
 let⟨a,b,c,_⟩:=h.map;rw[b.len underlying178 d,c]
section
variable {ops:Array Oper}{rest:List Oper}{o:Oper}{a:Act}{Q:Exit->Act->World->Prop}
def jD{w}(e:o.guard=none){m x:Operand}(c:o.op=Op.call {callee:=Callee.builtin Builtin.delete,args:=#[m,x],argTypes:=#[178,3]})(h:Im S M st n bud f w)(k:Nat)(g:k<4096)(i:a.eval m=.map (some M))(j:a.eval x=I k)(l:∀w',Im S M st n bud (upd f k none) w'->w.mapTurned w' M->wpList prog ops Q rest (a.put o.dst (.tuple #[])) w'):
  wpList prog ops Q (o::rest) a w:=by
 refine IA e λK' d=>?_;let⟨w',b,p,q⟩:=h.del k g o.type;unfold Oper.wp;simp[execOp,c,resolve,invoke,builtin,i,j,b,Result.andThen];exact d _ _ (l w' p q)
def nd{w}(g:o.guard=none){m x v:Operand}(d:o.op=Op.mapUpdate 178 m x v)(h:Im S M st n bud f w)(k:Nat){b}(i:k<4096)(j:a.eval m=.map (some M))(l:a.eval x=I k)(hv:a.eval v=J b 0)(p:∀w',Im S M st n bud (upd f k (some b)) w'->w.mapTurned w' M->wpList prog ops Q rest (a.put o.dst undef) w'):
  wpList prog ops Q (o::rest) a w:=by
 refine IA g λK' e=>?_;let⟨w',c,q,r⟩:=h.put k b i;unfold Oper.wp;simp[execOp,d,j,l,hv,c,Result.andThen];exact e _ _ (p w' q r)
def nj{w}(d:o.guard=none){m:Operand}(b:o.op=Op.call {callee:=Callee.builtin Builtin.len,args:=#[m],argTypes:=#[178]})(h:Im S M st n bud f w)(e:a.eval m=.map (some M))(g:wpList prog ops Q rest (a.put o.dst (I (bm f 0 4096))) w):
  wpList prog ops Q (o::rest) a w:=by
 refine IA d λK' c=>?_;unfold Oper.wp;simp[execOp,b,resolve,invoke,builtin,e,h.len o.type,Result.andThen];exact c _ _ g
end
def without(f:Nat->Option Nat)(first:Nat):Nat->(Nat->Option Nat)
 |0=>f
 |k+1=>upd (without f first k) (first+k) none
def turned_refl(h:Im S M st n bud f W):W.mapTurned W M:=by let⟨a,b,_⟩:=h.map;exact b.turned_refl
def rL(S M st n bud f)(first:Int)(count w)(h:Im S M st n bud f w)(d:0<=n)(b:n<=4096)(g:first<=9223372036854775807)(a:bI n first count=false):
  Calls prog 215 #[J S 0,I first,I count] w λe w'=>e=QJ (I 6)/\w'=w:=by
 let c:=H (c_ S M st n bud f first count w h d b g);rw[a]at c;go_in;go_wp2_with fail;apply c.mono;rintro _ _⟨rfl,rfl⟩;go_wp2_with fail;go_ret;exact QB
def ni(S M st n bud f)(first a g:Nat)(w)(h:Im S M st n bud f w)(k:0<=n)(d:n<=4096)(b:bI n first a=true)(c:bm f first a=g)(l:g<a):
  Calls prog 215 #[J S 0,I first,I a] w λe w'=>e=QJ (I 6)/\w'=w:=by
 let m:1<=a/\first+a<=4096:=by simp[bI]at b;omega
 let i:=H (c_ S M st n bud f first a w h k d Z);rw[b]at i;let j:=H (ef S M st n bud f first a w h Z Z);rw[c]at j;go_in;go_wp2_with fail;apply i.mono;rintro _ _⟨rfl,rfl⟩;go_wp2_with fail;apply j.mono;rintro _ b⟨rfl,rfl⟩;go_wp2_with fail;go_ret;exact QB
def oJ(S M st n bud f)(first a:Nat)(w)(h:Im S M st n bud f w)(s:0<=n)(l:n<=4096)(c:bI n first a=true)(b:bm f first a=a):
  Calls prog 215 #[J S 0,I first,I a] w λe w'=>e=QJ (I 0)/\Im S M st n bud (without f first a) w'/\w.mapTurned w' M:=by
 have v:1<=a/\first+a<=4096:=by simp[bI]at c;omega
 let m:=H (c_ S M st n bud f first a w h s l Z);rw[c]at m;let o:=H (ef S M st n bud f first a w h Z Z);rw[b]at o;have p:=H h;let⟨_,_,_,q⟩:=h.c;clear c b h;go_in;go_wp2_with fail;apply m.mono;rintro _ _⟨rfl,rfl⟩;go_wp2_with fail;apply o.mono;rintro _ t⟨rfl,rfl⟩;go_wp2_with fail;go_loopw [22] (λi wr=>∃k:Nat,k<=a/\i=I k/\Im S M st n bud (without f first k) wr/\t.mapTurned wr M) (λi _=>a-(intOf i).toNat);exact⟨0,aa,rfl,p,turned_refl p⟩
 obtain⟨k,x,rfl,b,j⟩:=hrel;by_cases u:k<a
 ·have⟨_,_,_,q⟩:=b.c;have d:=H (IT b j);clear b j;go_wp2_with (at_delete;apply jD rfl rfl d.1 (first+k) Z rfl aY);intro y c g;have r:=H (IT c (d.2.trans g));clear c g q;go_wp2_with fail;go_roundw;(exact⟨k+1,Z,aY,r.1,r.2⟩);exact QE
 have c:k=a:=Z;subst c;have d:=H (IT b j);clear b j;go_wp2_with fail;go_ret;exact⟨rfl,d⟩
def eh(l:Bool)(xs:List Int):Array Value:=(Ns .u8 xs++[Value.bool l]).toArray
structure Pg(f:Nat->Option Nat)(m:Nat->Option (Bool×List Int))(W:QM):Prop where
 at':∀k,(f k=none/\m k=none)\/∃b l xs,f k=some b/\m k=some (l,xs)/\xs.length=1024/\W.heap[b]?=some (.cells (eh l xs) 220)
 inj:∀j k b,f j=some b->f k=some b->j=k
structure Fr(S M:Nat)(f f':Nat->Option Nat)(W W':QM):Prop where
 os:W'.os=W.os
 tape:W'.tape=W.tape
 output:W'.output=W.output
 size:W.heap.size<=W'.heap.size
 block:∀g,g<W.heap.size->g≠S->g≠M->(∀k,f k≠some g)->W'.heap[g]?=W.heap[g]?
 made:∀k g,f' k=some g->(∃j,f j=some g)\/W.heap.size<=g
def Fr.refl(S M f W):Fr S M f f W W:=⟨rfl,rfl,rfl,gi,λ_ _ _ _ _=>rfl,λk g h=>.inl ⟨k,h⟩⟩
def Fr.trans{S M f f' f'' W W' W''}(h:Fr S M f f' W W')(a:Fr S M f' f'' W' W''):Fr S M f f'' W W'':=by
 refine⟨a.os.trans h.os,a.tape.trans h.tape,a.output.trans h.output,Fx h.size a.size,?_,?_⟩
 .intro g c d i l;rw[a.block g (FG c h.size) d i ?_];.exact h.block g c d i l
  intro k e;rcases h.made k g e with⟨j,b⟩|b;.exact l j b
  omega
 intro k g e;rcases a.made k g e with⟨j,b⟩|b;.exact h.made j g b
 right;have:=h.size;omega
def Pg.none_iff(h:Pg f m W)(k:Nat):(f k).isSome=(m k).isSome:=by rcases h.at' k with⟨a,c⟩|⟨b,l,xs,a,c,_⟩<;>rw[a,c]<;>rfl
def Pg.cell(h:Pg f m W)(a:f k=some b):
  ∃l xs,m k=some (l,xs)/\xs.length=1024/\W.heap[b]?=some (.cells (eh l xs) 220):=by
 rcases h.at' k with⟨c,d⟩|⟨g,l,xs,c,d,e⟩;.rw[c]at a;cases a
 rw[c]at a;cases a;exact⟨l,xs,d,e⟩
def mP{l}{xs:List Int}(h:xs.length=1024):(eh l xs)[1024]?=some (.bool l):=by simp[eh,Ns,h]
def ja(l)(xs:List Int)(i:Nat)(h:i<xs.length):(eh l xs)[i]?=some (.int .u8 (xs[i]?.getD 0)):=by simp[eh,Ns,List.getElem?_append,h]
def Pg.lockCell(h:Pg f m W)(d:f k=some b){l:Bool}{xs:List Int}(e:m k=some (l,xs)):
  W.cell? (Qz b 1024)=some (.bool l)/\W.frozen? (Qz b 1024)=false:=by
 let⟨j,g,a,i,c⟩:=h.cell d;rw[e]at a;cases a;exact⟨by simp[QC,c,mP i],by simp[QD,c]⟩
def lX(S M st n bud f)(first:Int)(count)(v:Bool)(w)(h:Im S M st n bud f w)(d:0<=n)(b:n<=4096)(g:first<=9223372036854775807)(a:bI n first count=false):
  Calls prog 216 #[J S 0,I first,I count,.bool v] w λe w'=>e=QJ (I 6)/\w'=w:=by
 let c:=H (c_ S M st n bud f first count w h d b g);rw[a]at c;go_in;go_wp2_with fail;apply c.mono;rintro _ _⟨rfl,rfl⟩;go_wp2_with fail;go_ret;exact QB
def jl(S M st n bud f)(first a g:Nat)(v:Bool)(w)(h:Im S M st n bud f w)(k:0<=n)(d:n<=4096)(b:bI n first a=true)(c:bm f first a=g)(l:g<a):
  Calls prog 216 #[J S 0,I first,I a,.bool v] w λe w'=>e=QJ (I 6)/\w'=w:=by
 let m:1<=a/\first+a<=4096:=by simp[bI]at b;omega
 let i:=H (c_ S M st n bud f first a w h k d Z);rw[b]at i;let j:=H (ef S M st n bud f first a w h Z Z);rw[c]at j;go_in;go_wp2_with fail;apply i.mono;rintro _ _⟨rfl,rfl⟩;go_wp2_with fail;apply j.mono;rintro _ b⟨rfl,rfl⟩;go_wp2_with fail;go_ret;exact QB
def dT(m:Nat->Option (Bool×List Int))(k:Nat)(v:Option (Bool×List Int)):Nat->Option (Bool×List Int):=λj=>if j=k then v else m j
def bV{m k v}:dT m k v k=v:=by simp[dT]
def aW(m)(k j:Nat)(v)(h:j≠k):dT m k v j=m j:=by simp[dT,h]
def gU(m:Nat->Option (Bool×List Int))(first:Nat)(v:Bool):Nat->(Nat->Option (Bool×List Int))
 |0=>m
 |k+1=>dT (gU m first v k) (first+k) ((gU m first v k (first+k)).map λp=>(v,p.2))
def Im.setCell{S M st n bud f W}(h:Im S M st n bud f W){p:Addr}(c:p.block≠S)(d:p.block≠M)(v:QN):Im S M st n bud f (W.setCell p v):=by let⟨a,b,r⟩:=h.map;exact⟨by rw[XB (Iq c)];exact h.box,a,b.setCell (Iq d) v,r⟩
def Pg.apart(h:Pg f m W)(g:Im S M st n bud f W)(i:f k=some b):b≠S/\b≠M:=by
 let⟨l,xs,_,_,d⟩:=h.cell i;constructor;.intro e;subst e;rw[g.box]at d;simp at d
 intro e;subst e;obtain⟨a,⟨o,c,j,_⟩,_⟩:=g.map;rw[j]at d;cases d
def NZ(l v:Bool)(xs:List Int)(h:xs.length=1024):(eh l xs).setIfInBounds 1024 (.bool v)=eh v xs:=by
 apply Array.ext_getElem?;intro i;rw[FK];by_cases e:1024=i;.subst e;rw[GP rfl,GP (by simp[eh,Ns,h]),mP h]
 rw[GO e];by_cases a:i<xs.length;.rw[ja _ _ _ a,ja _ _ _ a]
 rw[Hd (by simp[eh,Ns];omega),Hd (by simp[eh,Ns];omega)]
def bj{c:Array QN}{t:QO}(h:W.heap[b]?=some (.cells c t))(v:QN):(W.setCell (Qz b i) v).heap[b]?=some (.cells (c.setIfInBounds i v) t):=by simp[World.setCell,FD,h]
def Pg.set(h:Pg f m W)(g:f k=some b){l n:Bool}{xs a:List Int}
  (s:m k=some (l,xs)) (t:a.length=1024) (u:(eh l xs).setIfInBounds i v=eh n a):Pg f (dT m k (some (n,a))) (W.setCell (Qz b i) v):=by
 refine⟨?_,h.inj⟩;intro j;by_cases e:j=k
 .subst e;let⟨p,d,c,q,o⟩:=h.cell g;rw[s]at c;cases c;exact .inr ⟨b,n,a,g,bV,t,by rw[bj o,u]⟩
 rw[aW m k j _ e];rcases h.at' j with c|⟨w,p,d,c,q,o,x⟩;.exact .inl c
 refine .inr ⟨w,p,d,c,q,o,?_⟩;rw[XB ?_];.exact x
 intro r;simp at r;subst r;exact e (h.inj j k _ c g)
def Fr.set{W'}(h:Fr S M f f W W')(c:f k=some b)(v:QN):Fr S M f f W (W'.setCell (Qz b i) v):=by
 refine⟨h.os,h.tape,h.output,by simp[World.setCell];exact h.size,?_,h.made⟩;intro g d j l a;rw[XB ?_];.exact h.block g d j l a
 intro e;simp at e;subst e;exact a k c
def oe{f first}: ∀{N:Nat},bm f first N=N->∀k,k<N->∃b,f (first+k)=some b
 |0,_,k,c=>by omega
 | N+1,h,k,c=>by
  let d:=ep f first N
  simp[bm]at h
  cases a:f (first+N)with
  |none=>rw[a]at h;simp at h;omega
  |some b=>
   rw[a]at h
   simp at h
   by_cases e:k=N
   .subst e;exact⟨b,a⟩
   exact oe h k Z
def ki(S M st n bud f m)(first a:Nat)(v:Bool)(w)(h:Im S M st n bud f w)(l:Pg f m w)(F:0<=n)(u:n<=4096)(d:bI n first a=true)(c:bm f first a=a):
  Calls prog 216 #[J S 0,I first,I a,.bool v] w λe w'=>e=QJ (I 0)/\Im S M st n bud f w'/\Pg f (gU m first v a) w'/\Fr S M f f w w':=by
 have N:1<=a/\first+a<=4096:=by simp[bI]at d;omega
 let g:=H (c_ S M st n bud f first a w h F u Z);rw[d]at g;let j:=H (ef S M st n bud f first a w h Z Z);rw[c]at j;have G:=H (oe c);have x:=H (IT h l);have⟨_,_,_,K⟩:=h.c;clear d c h l;go_in;go_wp2_with fail;apply g.mono;rintro _ _⟨rfl,rfl⟩;go_wp2_with fail;apply j.mono;rintro _ L⟨rfl,rfl⟩;go_wp2_with fail;clear g j;go_loopw [24] (λi wr=>∃k:Nat,k<=a/\i=I k/\Im S M st n bud f wr/\Pg f (gU m first v k) wr/\Fr S M f f L wr) (λi _=>a-(intOf i).toNat);exact⟨0,aa,rfl,x.1,x.2,Fr.refl S M f _⟩
 obtain⟨k,O,rfl,c,d,j⟩:=hrel;by_cases y:k<a
 .have⟨_,_,_,K⟩:=c.c;have⟨b,o⟩:=G.out k y;have⟨l,xs,t,z,_⟩:=d.cell o;have⟨P,Q⟩:=d.lockCell o t;have⟨r,s⟩:=d.apart c o;have g:=c.look (first+k) Z;rw[o]at g;simp only[Hi]at g;have A:((first+k:Nat):Int)=(first:Int)+(k:Int):=Z;rw[A]at g;have q:=H (IT (c.setCell (p:=(Qz b 1024)) r s (.bool v)) (IT (d.set o t z (NZ l v xs z)) (IT t (j.set (i:=1024) o (.bool v)))));clear c d j A r s t z o x;go_wp2;go_roundw;case rel=>refine⟨k+1,Z,aY,q.1,?_,q.2.2.2⟩;simp[gU];rw[q.2.2.1];exact q.2.1
  exact QE
 have g:k=a:=Z;subst g;have q:=H (IT c (IT d j));clear c d j;go_wp2_with fail;go_ret;exact⟨rfl,q⟩
def Im.drew{S M st n bud f W}(h:Im S M st n bud f W):Im S M st n bud f W.drew:=⟨h.box,h.map⟩
def iL:Array Value:=eh false (List.replicate 1024 0)
def zN(w:QM):(Instr.build 220 #[]).run prog w=.ok (.agg iL) w:=E
def DC(w:QM):(Instr.box 220 (.agg iL)).run prog w=.ok (J w.heap.size 0) (w.alloc (.cells iL 220)):=E
section
variable {ops:Array Oper}{rest:List Oper}{o:Oper}{a:Act}{Q:Exit->Act->World->Prop}
def ab{w:QM}(d:o.guard=none)(b:o.op=Op.build 220 #[])
  (e:∀v,Hid (v=.agg iL)->wpList prog ops Q rest (a.put o.dst v) w):
  wpList prog ops Q (o::rest) a w:=by
 refine IA d λK' c=>?_;unfold Oper.wp;simp[execOp,b,zN w,Result.andThen];exact c _ _ (e _ (H rfl))
def kQ{w:QM}(d:o.guard=none){x:Operand}(b:o.op=Op.box 220 x){v:QN}(e:a.eval x=v)(hv:Hid (v=.agg iL))
  (f:∀w',Hid (w'=w.alloc (.cells iL 220))->wpList prog ops Q rest (a.put o.dst (J w.heap.size 0)) w'):
  wpList prog ops Q (o::rest) a w:=by
 refine IA d λK' c=>?_;unfold Oper.wp;simp[execOp,b,e,hv.out,DC w,Result.andThen];exact c _ _ (f _ (H rfl))
end
def Im.alloc{S M st n bud f W}(h:Im S M st n bud f W)(o:Obj):Im S M st n bud f (W.alloc o):=by let⟨a,b,r⟩:=h.map;exact⟨by rw[(GZ W o none).block S (G_ h.box) bH];exact h.box,a,b.alloc o,r⟩
def Pg.drew{f m W}(h:Pg f m W):Pg f m W.drew:=⟨h.at',h.inj⟩
def Fr.drew{S M f f' W W'}(h:Fr S M f f' W W'):Fr S M f f' W W'.drew:=⟨h.os,h.tape,h.output,h.size,h.block,h.made⟩
def aT(m:Nat->Option (Bool×List Int))(first:Nat):Nat->(Nat->Option (Bool×List Int))
 |0=>m
 |k+1=>dT (aT m first k) (first+k) (some (false,List.replicate 1024 0))
def Pg.made(h:Pg f m W)(p:Im S M st n bud f W)(k)(r:W1=W.alloc (.cells iL 220))(q:W1.mapTurned W2 M):
  Pg (upd f k (some W.heap.size)) (dT m k (some (false,List.replicate 1024 0))) W2:=by
 subst r;let u:M<W.heap.size:=by obtain⟨a,c,_⟩:=p.map;exact c.lt
 let a:∀j b,f j=some b->b<W.heap.size:=by intro j b e;let⟨l,xs,_,_,o⟩:=h.cell e;exact G_ o
 constructor
 .intro j;by_cases e:j=k;.subst e;refine .inr ⟨W.heap.size,false,List.replicate 1024 0,upd_same,bV,Gc,?_⟩;rw[dQ q Z];exact(Hq W _).1
  rw[aW m k j _ e,aI f k j _ e];rcases h.at' j with c|⟨g,s,d,c,t,o,l⟩;.exact .inl c
  refine .inr ⟨g,s,d,c,t,o,?_⟩;rwa[dQ q (h.apart p c).2,(GZ W _ none).block g (G_ l) bH]
 intro i j b d c;by_cases e:i=k
 .subst e;rw[upd_same]at d;cases d;by_cases g:j=i;.exact g.symm
  rw[aI f i j _ g]at c;have:=a j _ c;omega
 rw[aI f k i _ e]at d;by_cases g:j=k
 .subst g;rw[upd_same]at c;cases c;have:=a i _ d;omega
 rw[aI f k j _ g]at c;exact h.inj i j b d c
def Fr.turned{f'}(h:Fr S M f f' W W1)(b:W1.mapTurned W2 M):Fr S M f f' W W2:=by let a:=b.grown;refine⟨a.os.trans h.os,a.tape.trans h.tape,a.output.trans h.output,Fx h.size a.size,?_,h.made⟩;intro g d e c i;rw[dQ b c];exact h.block g d e c i
def Fr.fresh{f'}{b:QM}(h:Fr S M f f' W W1)(k)(d:W2=W1.alloc (.cells iL 220))(i:W2.mapTurned b M):Fr S M f (upd f' k (some W1.heap.size)) W b:=by
 subst d;refine Fr.turned ?_ i;let a:=GZ W1 (.cells iL 220) none;refine⟨a.os.trans h.os,a.tape.trans h.tape,a.output.trans h.output,Fx h.size a.size,?_,?_⟩;.intro g c j l m;rw[a.block g (FG c h.size) bH];exact h.block g c j l m
 intro j g e;by_cases c:j=k
 .subst c;rw[upd_same]at e;cases e;exact .inr h.size
 rw[aI f' k j _ c]at e;exact h.made j g e
def uV(S M st n bud f)(first:Int)(count w)(h:Im S M st n bud f w)(d:0<=n)(b:n<=4096)(g:first<=9223372036854775807)(a:bI n first count=false):
  Calls prog 214 #[J S 0,I first,I count] w λe w'=>e=QJ (I 6)/\w'=w:=by
 let c:=H (c_ S M st n bud f first count w h d b g);rw[a]at c;go_in;go_wp2_with fail;apply c.mono;rintro _ _⟨rfl,rfl⟩;go_wp2_with fail;go_ret;exact QB
def qh(S M st n bud f)(first a g:Nat)(w)(h:Im S M st n bud f w)(k:0<=n)(d:n<=4096)(b:bI n first a=true)(c:bm f first a=g)(l:0<g):
  Calls prog 214 #[J S 0,I first,I a] w λe w'=>e=QJ (I 6)/\w'=w:=by
 let m:1<=a/\first+a<=4096:=by simp[bI]at b;omega
 let i:=H (c_ S M st n bud f first a w h k d Z);rw[b]at i;let j:=H (ef S M st n bud f first a w h Z Z);rw[c]at j;go_in;go_wp2_with fail;apply i.mono;rintro _ _⟨rfl,rfl⟩;go_wp2_with fail;apply j.mono;rintro _ b⟨rfl,rfl⟩;go_wp2_with fail;go_ret;exact QB
def qL(S M st n bud f)(first a d:Nat)(w)(h:Im S M st n bud f w)(m:0<=n)(g:n<=4096)(b:bI n first a=true)(i:bm f first a=0)(c:bm f 0 4096=d)(o:bud<d+a):
  Calls prog 214 #[J S 0,I first,I a] w λe w'=>e=QJ (I 1)/\w'=w.drew:=by
 let r:1<=a/\first+a<=4096:=by simp[bI]at b;omega
 let j:=H (c_ S M st n bud f first a w h m g Z);rw[b]at j;let k:=H (ef S M st n bud f first a w h Z Z);rw[i]at k;let p:=c▸ep f 0 4096;let⟨_,_,s,t⟩:=h.c;let⟨l,q⟩:=y7 h c;go_in;go_wp2_with fail;apply j.mono;rintro _ _⟨rfl,rfl⟩;go_wp2_with fail;apply k.mono;rintro _ i⟨rfl,rfl⟩;let c:=l.len 3;let b:=l.drew.len 3;rw[q]at c b;go_wp2_with fail;go_region;go_wp2;go_ret;exact QB
def sj(S M st n bud f m)(first a s:Nat)(w)(h:Im S M st n bud f w)(l:Pg f m w)(A:0<=n)(t:n<=4096)(b:bI n first a=true)(o:bm f first a=0)(d:bm f 0 4096=s)(x:s+a<=bud):
  Calls prog 214 #[J S 0,I first,I a] w λe w'=>e=QJ (I 0)/\∃c,Im S M st n bud c w'/\Pg c (aT m first a) w'/\Fr S M f c w w':=by
 have L:1<=a/\first+a<=4096:=by simp[bI]at b;omega
 let g:=H (c_ S M st n bud f first a w h A t Z);rw[b]at g;let j:=H (ef S M st n bud f first a w h Z Z);rw[o]at j;have B:=d▸ep f 0 4096;have⟨_,_,N,y⟩:=h.c;have r:=H h;have z:=H l;have F:=H d;clear b d h o l;go_in;go_wp2_with fail;apply g.mono;rintro _ _⟨rfl,rfl⟩;go_wp2_with fail;apply j.mono;rintro _ G⟨rfl,rfl⟩;have d:=r.len 3;have b:=r.drew.len 3;rw[F]at d b;go_wp2_with fail;go_region;clear d b g j;go_wp2_with fail;go_loopw [33] (λi wr=>∃k:Nat,k<=a/\i=I k/\∃c,Im S M st n bud c wr/\Pg c (aT m first k) wr/\Fr S M f c G wr) (λi _=>a-(intOf i).toNat);exact⟨0,aa,rfl,f,r.drew,z.drew,(Fr.refl S M f _).drew⟩
 obtain⟨k,O,rfl,c,b,d,g⟩:=hrel;by_cases K:k<a
 ·have⟨_,_,_,y⟩:=b.c;have p:=H (IT b (IT d g));have u:=H (b.alloc (.cells iL 220));clear b d g r z;go_wp2_with (apply ab rfl rfl);intro P q;go_wp2_with (refine kQ rfl rfl rfl q ?_);intro Q j;rw[<-j.out]at u;go_wp2_with (apply nd rfl rfl u (first+k) Z rfl aY rfl);intro R l o;have v:=H (IT l (IT (p.2.1.made p.1 (first+k) j o) (p.2.2.fresh (first+k) j o)));clear p u l o j q y;go_wp2_with fail;go_roundw;(exact⟨k+1,Z,aY,_,v.1,v.2.1,v.2.2⟩);exact QE
 have j:k=a:=Z;subst j;have p:=H (IT b (IT d g));clear b d g;go_wp2_with fail;go_ret;exact⟨rfl,c,p⟩
def vN:List Int:=[16,32,48,64,96,128,192,256,384,512,768,1024]
def sz(c:Int):Int:=if 0<=c/\c<12 then vN.getD c.toNat 0 else 0
def pg(c:Int):Int:=(4*sz c+1024-1)/1024
def sl(c:Int):Int:=if 0<=c/\c<12 then pg c*1024/sz c else 0
def us(c:Int):Int:=if 0<=c/\c<12 then sz c-8 else 0
def fh{c:Int}(h:0<=c/\c<12):c=0\/c=1\/c=2\/c=3\/c=4\/c=5\/c=6\/c=7\/c=8\/c=9\/c=10\/c=11:=Z
def eJ{c:Int}(h:0<=c/\c<12):16<=sz c/\sz c<=1024:=by rcases fh h with rfl|rfl|rfl|rfl|rfl|rfl|rfl|rfl|rfl|rfl|rfl|rfl<;>decide
def gP{c:Int}(h:¬(0<=c/\c<12)):sz c=0:=by simp[sz,GO h]
def Eh(c):0<=sz c/\sz c<=1024:=by
 by_cases h:0<=c/\c<12;.have:=eJ h;omega
 rw[gP h];omega
def s_(h:k<12):sz (k:Int)=vN.getD k 0:=by let a:(0:Int)<=(k:Int)/\(k:Int)<12:=Z;simp only[sz,GP a,F0]
structure Tb(w:QM):Prop where
 row:∃t fr,w.heap[2]?=some (.cells (vN.map λz=>Value.int .i64 z).toArray t fr)
def Tb.cells(h:Tb w)(k:Nat)(b:k<12):w.cell? (Qz 2 k)=some (I (vN.getD k 0)):=by let⟨t,c,h⟩:=h.row;let a:k<vN.length:=b;simp[QC,h,Fy a]
def Tb.below(h:Tb w)(b:D w w'):Tb w':=by
 let⟨t,c,h⟩:=h.row;let a:2<w.heap.size:=by
  by_cases a:2<w.heap.size;.exact a
  have:w.heap[2]?=none:=Hd Z;rw[this]at h;cases h
 exact⟨t,c,by rwa[b.block 2 a]⟩
def cv{b c}(d:D a b)(e:D b c):D a c:=d.trans (e.mono d.size)
def NR{c:Int}(w:QM)(h:0<=c/\c<12):
  Calls prog 149 #[I c] w λe w'=>e=QJ Ql/\w'=w:=by
 let⟨a,b⟩:=h;go_wp2;go_ret;exact QB
def dY{c:Int}(w:QM)(h:¬(0<=c/\c<12)):
  QA 149 #[I c] w λe w'=>e=QJ (.bool false)/\w'=w:=by
 by_cases b:0<=c;.let a:(decide (c<12))=false:=GR Z;go_enter func149,ntmps149;go_wp2;go_ret;exact⟨by rw[<-a];rfl,rfl⟩
 go_enter func149,ntmps149;go_wp2;go_ret;exact QB
def dJ(c w)(a:Tb w):
  QA 151 #[I c] w λe w'=>e=QJ (I (sz c))/\w'=w:=by
 by_cases h:0<=c/\c<12
 .obtain⟨k,rfl⟩:=Ha h.1;let d:k<12:=Z;let f:=a.cells k d;rw[s_ d];let b:=H (NR w h);go_enter func151,ntmps151;go_wp2_with fail;apply (b).mono;rintro e w'⟨rfl,rfl⟩;go_wp2;go_ret;exact QB
 rw[gP h];let b:=H (dY w h);go_enter func151,ntmps151;go_wp2_with fail;apply (b).mono;rintro e w'⟨rfl,rfl⟩;go_wp2;go_ret;exact QB
end
namespace product
def Bm{p:Prop}(h:p):Hid p:=h
def mul64(x y:Nat)(j:x<18446744073709551616)(k:y<18446744073709551616)(w:QM):
  Calls prog 165 #[U x,U y] w λe w'=>e=QJ (.tuple #[U ((x*y/18446744073709551616:Nat):Int),U ((x*y%18446744073709551616:Nat):Int)])/\w'=w:=by
 let⟨m,l,n,c⟩:=Lib.mul64_hi x y j k;let p:=CT (a:=x/4294967296) (b:=y/4294967296) Z Z;let q:=CT (a:=x/4294967296) (b:=y%4294967296) Z Z;let r:=CT (a:=x%4294967296) (b:=y/4294967296) Z Z;let d:x/4294967296*(y/4294967296)<18446744073709551616:=Z;let f:x/4294967296*(y%4294967296)<18446744073709551616:=Z;let g:x%4294967296*(y/4294967296)<18446744073709551616:=Z;let i:x/4294967296*(y/4294967296)+(x/4294967296*(y%4294967296)+x%4294967296*(y%4294967296)/4294967296)/4294967296<18446744073709551616:=Z;let o:x/4294967296*(y/4294967296)+(x/4294967296*(y%4294967296)+x%4294967296*(y%4294967296)/4294967296)/4294967296+((x/4294967296*(y%4294967296)+x%4294967296*(y%4294967296)/4294967296)%4294967296+x%4294967296*(y/4294967296))/4294967296<18446744073709551616:=Z;go_wp2;simp only[Mul64.maskN x j,Mul64.maskN y k,Mul64.divN,Mul64.mulN,Mul64.addN,Hv _ m,Hv _ f,Hv _ l,Mul64.maskN _ l,Hv _ g,Hv _ n,Hv _ d,Hv _ i,Hv _ o,Mul64.wrapM (x*y)];rw[c]
 go_ret2
 exact QB
def im_Product_no(x y:Nat)(b:x<18446744073709551616)(c:y<18446744073709551616)(h:18446744073709551616<=x*y)(w:QM):
  Calls prog 106 #[U x,U y] w λe w'=>e=QJ (.tuple #[U 0,.bool false])/\w'=w:=by
 have a:=Bm (mul64 x y b c w);have d:(((x*y/18446744073709551616:Nat):Int) !=0)=true:=by have:1<=x*y/18446744073709551616:=(Nat.le_div_iff_mul_le Z).2 Z;simp;omega
 generalize x*y/18446744073709551616=q at a d;generalize x*y%18446744073709551616=r at a;go_in;go_wp2_with fail;apply (a).mono;rintro e w'⟨rfl,rfl⟩;go_wp2
 go_ret2
 exact QB
def im_Product_yes(x y:Nat)(b:x<18446744073709551616)(c:y<18446744073709551616)(h:x*y<18446744073709551616)(w:QM):
  Calls prog 106 #[U x,U y] w λe w'=>e=QJ (.tuple #[U ((x*y:Nat):Int),.bool true])/\w'=w:=by
 let a:=Bm (mul64 x y b c w);rw[Nat.div_eq_of_lt h,H4 h]at a;generalize x*y=r at a h⊢;go_in;go_wp2_with fail;apply (a).mono;rintro e w'⟨rfl,rfl⟩;go_wp2
 go_ret2
 exact QB
end product
section
variable {W w:World}{M S g:Nat}{xs:List Value}{f:Nat->Option Nat}{zs:List Int}
def Tryz.info5By:(prog.info? 5).map (λi=>(i.zero,i.size,i.bytes))=some (some (.int .u8 0),1,1):=E
def RowM(w:World)(g:Nat)(xs:List Value):Prop:=
 ∃(c:Array Value)(fz:Nat×Nat),w.heap[g]?=some (.cells c 5 fz)/\xs.length<=c.size/\(∀i,i<xs.length->c[i]?=xs[i]?)/\(xs.length<=fz.1\/fz.2=0)
def RowV.m(h:RowV w g 5 xs):RowM w g xs:=by let⟨c,a,b,d⟩:=h;exact⟨c,_,a,b,d,.inr rfl⟩
def RowM.lt(h:RowM w g xs):g<w.heap.size:=by let⟨c,b,a,_⟩:=h;exact G_ a
def RowM.cell{w g}{zs:List Int}(h:RowM w g (Ns .u8 zs))(i:Nat)(a:i<zs.length):w.cell? (Qz g i)=some (.int .u8 (zs[i]?.getD 0)):=by let⟨c,e,b,_,d,_⟩:=h;simp[QC,b,d i (by rwa[NM]),Ns,a]
def RowM.free(h:RowM w g xs)(i:Nat)(b:i<xs.length):w.frozen? (Qz g i)=false:=by let⟨c,d,a,_,_,e⟩:=h;simp[QD,a];omega
def RowM.below{a:QM}{B:Nat}(h:RowM w g xs)(b:Below B w a)(d:g<B):RowM a g xs:=by let⟨c,e,f,i⟩:=h;exact⟨c,e,by rwa[b.block g d],i⟩
def RowM.grown{b:QM}{d:Nat}(h:RowM w g xs)(f:w.grownBy b (some d))(a:g≠d):RowM b g xs:=by let⟨c,i,e,j⟩:=h;exact⟨c,i,by rwa[f.block g (G_ e) (by simpa using a)],j⟩
def RowM.set{w g xs}(h:RowM w g xs)(i:Nat)(b:i<xs.length)(v:QN):RowM (w.setCell (Qz g i) v) g (xs.set i v):=by
 let⟨c,d,f,k,l,m⟩:=h;refine⟨c.setIfInBounds i v,d,?_,by simpa using k,?_,by simpa using m⟩;.simp[World.setCell,FD,f]
 intro j a;simp at a;rw[FK,Gr];by_cases e:i=j;.subst e;simp[b,show i<c.size by omega]
 simp[e,l j a]
attribute [local go_sem] Oper.semAt_some
def bQ(m:Nat->Option (Bool×List Int))(first:Nat):Nat->(Nat->Option (Bool×List Int))
 |0=>m
 |k+1=>dT (bQ m first k) (first+k) none
def Pg.drop{m}(h:Pg f m W)(k):Pg (upd f k none) (dT m k none) W:=by
 constructor
 .intro j;by_cases e:j=k;.subst e;exact .inl ⟨upd_same,bV⟩
  rw[aW m k j _ e,aI f k j _ e];exact h.at' j
 intro i j b a c;by_cases e:i=k;.subst e;rw[upd_same]at a;cases a
 by_cases d:j=k;.subst d;rw[upd_same]at c;cases c
 rw[aI f k i _ e]at a;rw[aI f k j _ d]at c;exact h.inj i j b a c
def Pg.without{f m W}(h:Pg f m W)(first):∀k,Pg (without f first k) (bQ m first k) W
 |0=>h
 |k+1=>(Pg.without h first k).drop (first+k)
def Pg.turned{m}{c:QM}(h:Pg f m W)(d:∀k b,f k=some b->b≠M)(e:W.mapTurned c M):Pg f m c:=by
 refine⟨?_,h.inj⟩;intro j;rcases h.at' j with a|⟨b,l,xs,a,g,i,k⟩;.exact .inl a
 exact .inr ⟨b,l,xs,a,g,i,by rwa[dQ e (d j b a)]⟩
def gT{f first}: ∀{k j b:Nat},without f first k j=some b->f j=some b
 |0,_,_,h=>h
 |k+1,j,b,h=>by
  simp only[without]at h
  by_cases e:j=first+k
  .subst e;rw[upd_same]at h;cases h
  rw[aI _ _ _ _ e]at h
  exact gT h
def Fr.without{a:QM}(first k:Nat)(b:W.mapTurned a M):Fr S M f (without f first k) W a:=by let h:=(Fr.refl S M f W).turned b;exact⟨h.os,h.tape,h.output,h.size,h.block,λj g e=>.inl ⟨j,gT e⟩⟩
def oB(S M st n bud f m)(first a:Nat)(w)(h:Im S M st n bud f w)(j:Pg f m w)(k:0<=n)(d:n<=4096)(g:bI n first a=true)(b:bm f first a=a):
  QA 215 #[J S 0,I first,I a] w λe c=>e=QJ (I 0)/\∃i,Im S M st n bud i c/\Pg i (bQ m first a) c/\Fr S M f i w c:=by
 apply(oJ S M st n bud f first a w h k d g b).mono;rintro e c⟨rfl,l,i⟩;exact⟨rfl,_,l,(j.without first a).turned (λk b e=>(j.apart h (gT e)).2) i,Fr.without first a i⟩
abbrev Bv:Go.Conc.Locks.MuLink:={lock:=118,unlock:=119,ilock:=172,iunlock:=173,lockSlow:=223,unlockSlow:=226,disable:=219,enable:=221,acquire:=222,relMerge:=224,cas32:=220,add32:=225,tMutex:=185,tIMutex:=183,tPMutex:=286,tPIMutex:=329,tPI32:=331,tUP:=176,tNoCopy:=180,tU32:=181}
def jw:Go.Conc.Locks.MuLib prog Bv:=
 ⟨func118,func119,func172,func173,func219,func221,func222,func224,func220,func225,underlying183,Tryz.runUnderlying183,Tryz.sizeOf183,Tryz.isAgg183,Tryz.zeroValue183,underlying185,Tryz.runUnderlying185,Tryz.sizeOf185,Tryz.isAgg185,Tryz.zeroValue185,underlying286,Tryz.runUnderlying286,Tryz.sizeOf286,Tryz.isAgg286,Tryz.zeroValue286,underlying329,Tryz.runUnderlying329,Tryz.sizeOf329,Tryz.isAgg329,Tryz.zeroValue329,underlying331,Tryz.runUnderlying331,Tryz.sizeOf331,Tryz.isAgg331,Tryz.zeroValue331,underlying176,Tryz.runUnderlying176,Tryz.sizeOf176,Tryz.isAgg176,Tryz.zeroValue176,underlying180,Tryz.runUnderlying180,Tryz.sizeOf180,Tryz.isAgg180,Tryz.zeroValue180,underlying21,Tryz.runUnderlying21,Tryz.sizeOf21,Tryz.isAgg21,Tryz.zeroValue21,E⟩
def fX{n bud}(h:Im S M 0 n bud f w):QA 118 #[J S 0] w λe a=>e=QJ (.tuple #[])/\a=w.setCell (Qz S 0) (.int .i32 1):=
 Go.MuLone.lock_free jw (Qz S 0) w (by simp[QC,h.box]) (by simp[QD,h.box])
def Im.st{st n bud}(h:Im S M st n bud f w)(st'):Im S M st' n bud f (w.setCell (Qz S 0) (.int .i32 st')):=by let⟨a,c,g⟩:=h.map;refine⟨bj h.box _,a,c.kept (au (Q6 w S) 0 _) (λe=>?_),g⟩;let⟨i,b,d,_⟩:=c;simp at e;subst e;rw[h.box]at d;cases d
def AB(e:Nat)(p c:Int):Prop:=1<=c/\0<=p/\c<=e/\p<=(e:Int)-c
def Sl(w:World)(a:Option Addr)(zs:List Int):Prop:=(a=none/\zs=[])\/∃g,a=some ⟨g,0,none⟩/\RowV w g 3 (Ns .i64 zs)
def Sl.cells{a}(h:Sl w a zs):∀i,i<zs.length->∃g,a=some (Qz g 0)/\w.cell? (Qz g i)=some (I (zs[i]?.getD 0)):=by
 intro i b;rcases h with⟨_,rfl⟩|⟨g,rfl,c⟩;.simp at b
 exact⟨g,rfl,jZ c i b⟩
def Sl.below{w w' a zs}(h:Sl w a zs)(c:D w w'):Sl w' a zs:=by
 rcases h with h|⟨g,e,b⟩;.exact .inl h
 exact .inr ⟨g,e,b.below c b.lt⟩
def nb(l:Int)(zs:List Int):Bool:=zs.all λx=>decide (l<=x)
def md(d:Int)(m:Nat):Nat:=(d%(m:Int)).toNat
def oh(d)(m:Nat)(h:0<m):md d m<m:=by unfold md;let a:=IP d (b:=(m:Int)) Z;let c:=IB d (b:=(m:Int)) Z;omega
def oT(d)(m:Nat)(h:0<m):(md d m:Int)=if d.tmod m<0 then d.tmod m+m else d.tmod m:=by
 unfold md;let g:=IP d (b:=(m:Int)) Z;rw[IK g];let c:=Int.tmod_eq_emod (a:=d) (b:=(m:Int));let i:=IB d (b:=(m:Int)) Z;let e:((Int.natAbs (m:Int):Nat):Int)=m:=Z;by_cases f:0<=d\/(m:Int)∣d;.rw[GP f]at c;rw[GO Z];omega
 rw[GO f]at c;rw[c,e];rw[GP Z];omega
def kj(d:Int)(m:Nat)(h:0<m): -(m:Int)<=d.tmod m/\d.tmod m<m:=by
 let a:=oT d m h;let b:=oh d m h;split at a<;>rename_i c
 .omega
 omega
def Fb(x:Int)(h: -1048576<=x/\x<=2097152):wrap64 x=x:=by unfold wrap64;omega
def sE{x m:Int}(a:0<=x)(h:x<m):x.tmod m=x:=by rw[GH a,Int.emod_eq_of_lt a h]
def uG{x m:Int}(a:0<=x)(h:x<m):(x+m).tmod m=x:=by rw[GH Z,Int.add_emod_right,Int.emod_eq_of_lt a h]
def iA(d)(m:Nat)(w:QM)(b:0<m)(l:m<=1048576):
  Calls prog 208 #[I d,I m] w λe g=>e=QJ (I (md d m:Nat))/\g=w:=by
 have i:=kj d m b;have j:=Fb (d.tmod m+m) Z;have c:=oT d m b;have k:=oh d m b;have a:Hid ((d.tmod m+m).tmod m=(md d m:Nat)):=by
  show(d.tmod m+m).tmod m=(md d m:Nat);by_cases f:d.tmod m<0;·rw[GP f]at c;rw[sE Z Z];omega
  rw[GO f]at c;rw[uG Z Z];omega
 clear c k i;go_wp2;go_ret;refine⟨cX ?_,rfl⟩
 first|exact a.out|(rwa[j])
def lU(d)(m:Nat)(w:QM)(c:0<m)(j:m<=1048576):
  QA 307 #[I d,I m] w λe g=>e=QJ (I (md d m:Nat))/\g=w:=by
 have b:=oT d m c;by_cases f:d.tmod m<0
 .rw[GP f]at b;have a:=H b;have i:=Fb (d.tmod m+m) Z;clear b;go_enter func307,ntmps307;go_wp2;go_ret;refine⟨cX ?_,rfl⟩
  first|exact a.symm|(rw[i];exact a.symm)
 rw[GO f]at b;have a:=H b;clear b;go_enter func307,ntmps307;go_wp2;go_ret;exact⟨cX a.symm,rfl⟩
def lu(G r n b o i k:Nat)(ps:List Int)(x:Int)(w:QM)(g:(o+i)%n=k)(l:ps.length=n)(c:0<n)(m:n<=1048576)(s:o<=1048576)(t:i<=1048576)
  (u:QG w G 0 (Vl r n b)) (v:QG w G 1 (I o)) (a:RowV w r 3 (Ns .i64 ps)):
  Calls prog 337 #[J G 0,I i,I x] w λe j=>e=QJ (I (ps[k]?.getD 0))/\RowV j r 3 (Ns .i64 (ps.set k x))/\w.grownBy j (some r):=by
 have d:(o+i)%n<n:=Nat.mod_lt _ c;have f:((o:Int)+(i:Int))%(n:Int)=(((o+i)%n:Nat):Int):=bH;rw[g]at d f;have z:=jZ a k Z;have A:=a.free k;have p:=H (a.set k (by rw[NM];omega) (I x)).drew;have q:=H (rW (au (Q6 w r) k (I x)));clear a l g;go_wp2;go_region;rw[f];clear f;go_wp2;go_ret;exact⟨rfl,by rwa[<-wQ],q⟩
def cx(a b:Int):Int:=IntKind.u64.wrap (bits BinOp.xor IntKind.u64 a b*11400714819323198485)
def nT(a b):0<=cx a b/\cx a b<18446744073709551616:=by unfold cx;simp only[IntKind.wrap,IntKind.signed,IntKind.bits];constructor<;>simp<;>omega
def cb(x:Int)(k:Nat):Int:=if x/2 ^ (8*k)%256<1 then 1 else x/2 ^ (8*k)%256
def gI(x:Int):List Int:=(List.range 8).map λj=>if j=0 then 0 else cb x j
def dK{x}:(gI x).length=8:=by simp[gI]
def qW(x)(k:Nat)(a:1<=k)(h:k<8):(gI x)[k]?=some (cb x k):=by simp[gI,h,show k≠0 by omega]
def vH(x):(gI x)[0]?=some 0:=by simp[gI]
def vh(x)(k:Nat)(a:1<=k)(h:k<8):(gI x).take (k+1)=(gI x).take k++[cb x k]:=by rw[F_,qW x k a h];rfl
def Dx(x k):1<=cb x k/\cb x k<256:=by unfold cb;generalize x/2 ^ (8*k)=y;split<;>omega
def Q_(a b:Int)(w:QM)(O:0<=a)(P:a<18446744073709551616)(Q:0<=b)(R:b<18446744073709551616):
  Calls prog 113 #[U a,U b] w λe A=>e=QJ (Vl w.heap.size 8 8)/\RowV A w.heap.size 5 (Ns .u8 (gI (cx a b)))/\D w A:=by
 let⟨K,L,m,n,o⟩:=G0 Tryz.info5By;let⟨q,r⟩:=nT a b;unfold cx at q r⊢;go_in;go_wp2_with (at_make;refine wpList_make_full _ rfl _ _ 22 rfl w.heap.size 5 K (.int .u8 0) 1 underlying22 L m n .i64 .i64 _ _ 8 rfl rfl rfl rfl ?c1 ?c2 ?c3 ?_);case c1=>rw[o];omega
 case c2=>unfold maxLen;omega
 case c3=>exact gi
 intro B d c;let s:RowV B w.heap.size 5 (Ns .u8 (List.replicate 8 0)):=by have:=RowV.ofOwns d;simpa[Ns,Ii,Value.cells]using this
 let t:D w B:=(Fu _ w).grown c gi bH;go_wp2;generalize c:IntKind.u64.wrap (bits BinOp.xor IntKind.u64 a b*11400714819323198485)=x at*;let M:=H c;go_loopw [7] (λi wr=>∃(k:Nat)(l:List Int),1<=k/\k<=8/\i=I k/\Agree l (gI x) k/\RowV wr w.heap.size 5 (Ns .u8 l)/\D w wr) (λi _=>8-(intOf i).toNat);exact⟨1,_,Z,Z,rfl,⟨by simp[dK],λj c=>by rw[show j=0 by omega,vH];rfl⟩,s,t⟩
 obtain⟨k,l,u,S,rfl,f,c,d⟩:=hrel;let g:l.length=8:=by rw[f.1,dK]
 by_cases v:k<8
 .have z:=jZ c k Z;let N:=c.free k;have y:=c.set k (by rw[NM,g];omega) (.int .u8 (cb x k));rw[wQ]at y;let F:=f.succ (by rw[dK];omega) _ (qW x k u v);let G:=d.setCell (p:=(Qz w.heap.size k)) gi (.int .u8 (cb x k));let j:=H (IT y (IT F G));generalize l[k]?.getD 0=y at z;unfold cb at j;go_wp2;go_roundw;(exact⟨k+1,_,Z,Z,aY,j.2.1,j.1,j.2.2⟩);exact QE
 let j:=H (IT (f.all (by rw[dK];omega)▸c) d);go_wp2;go_ret;rw[M];exact⟨rfl,j⟩
def qU{W:QM}{x:QN}{t:QO}{b:Nat}(a:W.heap.size=b):∀j u,[x][j]?=some u->(W.alloc (.cells #[x] t)).cell? (((Qz b 0):Addr).add j)=some u:=by
 subst a;intro j u h;cases j with
 |zero=>simp at h;subst h;rw[show((Qz W.heap.size 0):Addr).add 0=(Qz W.heap.size 0)from rfl,World.cell?_alloc_at _ _ _ _ rfl];rfl
 |succ j=>simp at h
def nH{A:QM}{a:Nat}{e:QO}{v:QN}{n:Nat}(h:A.ownsRow a e 1 v n xs):∀r,v.ownBlock=some r->a<=r:=by
 intro r e;rcases h.2 with⟨rfl,_⟩|⟨g,b,c,rfl,d,f,_⟩;.cases e
 cases e;exact d
def wz(w:QM)(t:QO)(x:QN):(w.alloc (.cells #[x] t)).ownsRow w.heap.size t 1 (Vl w.heap.size 1 1) 1 [x]:=by
 refine⟨rfl,.inr ⟨w.heap.size,1,#[x],rfl,gi,?_,?_⟩⟩;.show(w.heap.push (.cells #[x] t))[w.heap.size]?=_;simp
 refine⟨gi,by unfold maxLen;omega,rfl,rfl⟩
def rO(a b:Int)(w:QM)(Q:0<=a)(R:a<18446744073709551616)(S:0<=b)(T:b<18446744073709551616):
  Calls prog 258 #[U a,U b] w λe B=>∃v,e=QJ v/\B.ownsRow w.heap.size 5 1 v 8 (Ns .u8 (gI (cx a b)))/\D w B:=by
 let⟨F,G,n,o,p⟩:=G0 Tryz.info5By;let⟨t,y⟩:=nT a b;unfold cx at t y⊢;let⟨q,K⟩:=y7 (wz w 5 (.int .u8 0)) ((Fu w.heap.size w).alloc gi (.cells #[.int .u8 0] 5));go_wp2;generalize c:IntKind.u64.wrap (bits BinOp.xor IntKind.u64 a b*11400714819323198485)=x at*;let L:=H c;go_loopw [6,7,8] (λv i _ wr=>∃k:Nat,1<=k/\k<=8/\i=I k/\Hid (wr.ownsRow w.heap.size 5 1 v k (Ns .u8 ((gI x).take k)))/\Hid (D w wr)) (λ_ i _ _=>8-(intOf i).toNat);exact⟨1,Z,Z,rfl,q,K⟩
 obtain⟨k,z,V,rfl,f,c⟩:=hrel;by_cases A:k<8
 .refine(let_mvar%?A:=x/2 ^ (8*k)%256;?_);let⟨q,m⟩:=y7 (vh x k z A) (show cb x k=if x/2 ^ (8*k)%256<1 then 1 else ?A from rfl);by_cases W:x/2 ^ (8*k)%256=0
  .let⟨m,g,d⟩:=Qe (show cb x k=1 by rw[m,GP Z]) (f.alloc (.cells #[.int .u8 1] 5)) (c.alloc c.size (.cells #[.int .u8 1] 5));go_wp2_with (at_builtin;refine Ib _ rfl _ _ 22 rfl w.heap.size 5 F (.int .u8 0) 1 1 underlying22 G n o p rfl Z _ _ _ rfl g _ 1 1 [.int .u8 1] rfl rfl ?hc ?h1c ?b1 ?b2 ?b3 ?_);(case hc=>exact qU bH);(case h1c=>intro u r;simp at r;subst r;rfl);(case b1=>unfold maxLen;omega);(case b2=>omega);(case b3=>exact d.size);intro M N j l _;let s:=H (IT j (d.grown l d.size (nH g)));go_wp2;go_roundw;(exact⟨k+1,Z,Z,aY,H (by rw[q,m];simpa[Ns]using s.1),H s.2⟩);exact QE
  let⟨m,g,d⟩:=Qe (show cb x k=x/2 ^ (8*k)%256 by rw[m,GO Z]) (f.alloc (.cells #[.int .u8 (?A)] 5)) (c.alloc c.size (.cells #[.int .u8 (?A)] 5));go_wp2_with (at_builtin;refine Ib _ rfl _ _ 22 rfl w.heap.size 5 F (.int .u8 0) 1 1 underlying22 G n o p rfl Z _ _ _ rfl g _ 1 1 [.int .u8 (?A)] rfl rfl ?hc ?h1c ?b1 ?b2 ?b3 ?_);(case hc=>exact qU bH);(case h1c=>intro u r;simp at r;subst r;rfl);(case b1=>unfold maxLen;omega);(case b2=>omega);(case b3=>exact d.size);intro M N j l _;let s:=H (IT j (d.grown l d.size (nH g)));go_wp2;go_roundw;(exact⟨k+1,Z,Z,aY,H (by rw[q,m];simpa[Ns]using s.1),H s.2⟩);exact QE
 have d:k=8:=Z;subst d;have g:=H (show wr.ownsRow w.heap.size 5 1 u6 8 (Ns .u8 (gI x)) by have:=f.out;rwa [Ge (by rw[dK];exact gi)]at this)
 go_wp2;go_ret;rw[L];exact⟨_,rfl,g,c⟩
def mD(c:Int)(w:QM)(h:0<=c/\c<12):
  Calls prog 81 #[I c] w λe a=>e=QJ (I (sz c))/\D w a:=by
 rcases fh h with rfl|rfl|rfl|rfl|rfl|rfl|rfl|rfl|rfl|rfl|rfl|rfl
 all_goals
  clear h
  go_in
  go_wp2
  go_ret
  exact⟨rfl,by repeat(first|exact th|apply Below.drew|(refine Below.alloc ?_ gi _))⟩
def kS(c:Int)(w:QM)(b:c<0):
  Calls prog 81 #[I c] w λe a=>e=QJ (I 0)/\D w a:=by
 go_wp2;go_ret;exact⟨rfl,by repeat(first|exact th|apply Below.drew|(refine Below.alloc ?_ gi _))⟩
def kM(c:Int)(w:QM)(b:0<=c)(d:12<=c):
  Calls prog 81 #[I c] w λe a=>e=QJ (I 0)/\D w a:=by
 go_wp2;go_ret;exact⟨rfl,by repeat(first|exact th|apply Below.drew|(refine Below.alloc ?_ gi _))⟩
def dx(c)(w:QM):
  QA 81 #[I c] w λe a=>e=QJ (I (sz c))/\D w a:=by
 by_cases h:0<=c/\c<12;.exact mD c w h
 rw[gP h];by_cases b:c<0;.exact kS c w b
 exact kM c w Z Z
def eN(mix fifo:List Int)(e:Int):Bool:=decide (mix.length<=16)&&(decide (1<=e)&&(decide (e<=32)&&(decide ((fifo.length:Int)<=e)&&(nb (-1) mix&&nb 0 fifo))))
def wv(i:Option Addr)(u t:Nat)(l:Option Addr)(j cf:Nat)(e:Int):Value:=.agg #[.slice i u t,.slice l j cf,I e]
structure Wt(w:QM)(am:QP)(lm:Nat)(af:QP)(lf:Nat)(mix fifo:List Int):Prop where
 m:Sl w am mix
 ml:mix.length=lm
 f:Sl w af fifo
 fl:fifo.length=lf
def Wt.below{w w' am lm af lf mix fifo}(h:Wt w am lm af lf mix fifo)(a:D w w'):Wt w' am lm af lf mix fifo:=
 ⟨h.m.below a,h.ml,h.f.below a,h.fl⟩
def tL{l}{k:Nat}(h:nb l (zs.take k)=true)(b:k<zs.length)(a:l<=zs[k]?.getD 0):nb l (zs.take (k+1))=true:=by unfold nb at*;rw[F_,List.all_append,h];simp[b]at a⊢;exact a
def yA{l:Int}{k:Nat}(b:k<zs.length)(a:¬l<=zs[k]?.getD 0):nb l zs=false:=by unfold nb;rw[List.all_eq_false];simp[b]at a;exact⟨zs[k],bH,by simpa using a⟩
def u_(am lm cm af lf cf lim mix fifo){w}(h:Wt w am lm af lf mix fifo):
  QA 308 #[wv am lm cm af lf cf lim] w λe y=>e=QJ (.bool (eN mix fifo lim))/\D w y:=by
 unfold wv;let j:=H ((Fu _ w).alloc gi (.cells #[.slice am lm cm,.slice af lf cf,I lim] 123));by_cases r:lm<=16;case neg=>refine(let_mvar%?B:=eN mix fifo lim=false;?_);let d:=H (show ?B by unfold eN;rw[h.ml,GR r];rfl);let z:(16<(lm:Int)):=Z;go_enter func308,ntmps308;go_wp2;go_ret;exact⟨cQ d.symm,j⟩
 let z:¬(16<(lm:Int)):=Z;by_cases s:1<=lim;case neg=>let d:=H (show ?B by unfold eN;rw[GR s];simp);let A:lim<1:=Z;go_enter func308,ntmps308;go_wp2;go_ret;exact⟨cQ d.symm,j⟩
 let A:¬(lim<1):=Z;by_cases t:lim<=32;case neg=>let d:=H (show ?B by unfold eN;rw[GR t];simp);let B:32<lim:=Z;go_enter func308,ntmps308;go_wp2;go_ret;exact⟨cQ d.symm,j⟩
 let B:¬(32<lim):=Z;by_cases u:(lf:Int)<=lim;case neg=>let d:=H (show ?B by unfold eN;rw[h.fl,GR u];simp);let F:lim<(lf:Int):=Z;go_enter func308,ntmps308;go_wp2;go_ret;exact⟨cQ d.symm,j⟩
 let F:¬(lim<(lf:Int)):=Z;let d:=H (show eN mix fifo lim=(nb (-1) mix&&nb 0 fifo) by unfold eN;rw[h.ml,h.fl,G8 r,G8 s,G8 t,G8 u];simp)
 let v:=H (h.m.below j).cells;let G:=H (h.f.below j).cells;let⟨o,p⟩:=y7 h.ml h.fl;go_enter func308,ntmps308;go_wp2;refine(let_mvar%?A:=w.alloc (.cells #[.slice am lm cm,.slice af lf cf,I lim] 123);?_);go_loopw [32] (λi wr=>∃k:Nat,k<=lm/\i=I k/\wr=?A/\Hid (nb (-1) (mix.take k)=true)) (λi _=>lm-(intOf i).toNat);exact⟨0,aa,rfl,rfl,by rfl⟩
 obtain⟨k,K,rfl,rfl,b⟩:=hrel;by_cases c:k<lm
 .obtain⟨g,rfl,L⟩:=v.out k (by rwa[o]);let a:k<mix.length:=(by rwa[o]);by_cases l: -1<=mix[k]?.getD 0
  .have m:=H (tL b a l);have n:¬(mix[k]?.getD 0 < -1):=Z;generalize mix[k]?.getD 0=x at*;go_wp2;go_roundw;(exact⟨k+1,Z,aY,trivial,m⟩);exact QE
  have m:=H (yA a l);have n:mix[k]?.getD 0 < -1:=Z;generalize mix[k]?.getD 0=x at*;go_wp2;go_ret;exact⟨cQ (by rw[d,m];rfl),j⟩
 let M:=H (show nb (-1) mix=true by have:=b.out;rwa [show k=lm by omega,<-o.out,G9]at this)
 go_wp2;go_loopw [42] (λi wr=>∃k:Nat,k<=lf/\i=I k/\wr=?A/\Hid (nb 0 (fifo.take k)=true)) (λi _=>lf-(intOf i).toNat);exact⟨0,aa,rfl,rfl,by rfl⟩
 case round=>
  obtain⟨f,K,rfl,rfl,b⟩:=hrel;by_cases c:f<lf
  .obtain⟨g,rfl,L⟩:=G.out f (by rwa[p]);let a:f<fifo.length:=(by rwa[p]);by_cases l:0<=fifo[f]?.getD 0
   .have m:=H (tL b a l);have n:¬(fifo[f]?.getD 0<0):=Z;generalize fifo[f]?.getD 0=x at*;go_wp2;go_roundw;(exact⟨f+1,Z,aY,trivial,m⟩);exact QE
   have m:=H (yA a l);have n:fifo[f]?.getD 0<0:=Z;generalize fifo[f]?.getD 0=x at*;go_wp2;go_ret;exact⟨cQ (by rw[d,m];simp),j⟩
  let N:=H (show nb 0 fifo=true by have:=b.out;rwa [show f=lf by omega,<-p.out,G9]at this)
  go_wp2;go_ret;exact⟨cQ (by rw[d,M,N];rfl),j⟩
end
section
variable {DB M R S a b d n:Nat}{bud nn st:Int}{f:Nat->Option Nat}{W w:World}{m:Nat->Option (Bool×List Int)}{v:Value}
def eu(x:Int):IntKind.u64.wrap x=x%18446744073709551616:=by simp[IntKind.wrap,IntKind.signed,IntKind.bits]
def Ah(a n:Int):IntKind.u64.wrap (IntKind.u64.wrap (a+n)-1)=IntKind.u64.wrap (a+(n-1)):=by rw[eu,eu,eu];omega
def qe(a n:Int)(ha:0<=a)(b:a<=18446744073709551615)(c:1<=n)(d:n<=4194304)(h:4611686018427387904<=a+(n-1)):
 IntKind.u64.wrap (a+(n-1))<a\/(a<=IntKind.u64.wrap (a+(n-1))/\4611686018427387904<=IntKind.u64.wrap (a+(n-1))):=by
 rw[eu];omega
def rR:Ending:=.returned (.tuple #[I 0,I 0,.bool false])
def rF(a n:Int)(w:QM)(h:n<1\/4194304<n):
  QA 309 #[U a,I n] w λe b=>e=rR/\b=w:=by
 rcases h with h|h
 .go_enter func309,ntmps309;go_wp2
  go_ret3
  exact QB
 go_enter func309,ntmps309;go_wp2
 go_ret3
 exact QB
def qf(a n:Int)(w:QM)(h:n<1\/4194304<n):
  QA 315 #[U a,I n] w λe b=>e=rR/\b=w:=by
 rcases h with h|h
 .go_enter func315,ntmps315;go_wp2
  go_ret3
  exact QB
 go_enter func315,ntmps315;go_wp2
 go_ret3
 exact QB
def qD(a n L:Int)(w:QM)(c:1<=n)(d:n<=4194304)(f:IntKind.u64.wrap (IntKind.u64.wrap (a+n)-1)=L)(h:L<a\/(a<=L/\4611686018427387904<=L)):
  Calls prog 309 #[U a,I n] w λe b=>e=rR/\b=w:=by
 rcases h with h|⟨g,h⟩
 all_goals
  go_in
  go_wp2
  go_ret3
  exact QB
def Oc(a n L:Int)(w:QM)(c:1<=n)(d:n<=4194304)(f:IntKind.u64.wrap (a+(n-1))=L)(h:L<a\/(a<=L/\4611686018427387904<=L)):
  Calls prog 315 #[U a,I n] w λe b=>e=rR/\b=w:=by
 rcases h with h|⟨g,h⟩
 all_goals
  go_in
  go_wp2
  go_ret3
  exact QB
def qA(a n:Int)(w:QM)(ha:0<=a)(c:1<=n)(d:n<=4194304)(f:a+(n-1)<4611686018427387904):
  Calls prog 309 #[U a,I n] w λe b=>e=QJ (.tuple #[I (a/1024),I ((a+n-1)/1024),.bool true])/\b=w:=by
 go_in;go_wp2
 go_ret3
 exact QB
def rE(a n:Int)(w:QM)(ha:0<=a)(c:1<=n)(d:n<=4194304)(f:a+(n-1)<4611686018427387904):
  Calls prog 315 #[U a,I n] w λe b=>e=QJ (.tuple #[I (a/1024),I ((a+(n-1))/1024),.bool true])/\b=w:=by
 go_in;go_wp2
 go_ret3
 exact QB
def tB(a n:Int)(w:QM)(ha:0<=a)(b:a<=18446744073709551615)(h:n<1\/4194304<n\/4611686018427387904<=a+(n-1)):
  QA 309 #[U a,I n] w λe c=>e=rR/\c=w:=by
 by_cases d:n<1\/4194304<n;.exact rF a n w d
 exact qD a n _ w Z Z (Ah a n) (qe a n ha b Z Z Z)
def tA(a n:Int)(w:QM)(ha:0<=a)(b:a<=18446744073709551615)(h:n<1\/4194304<n\/4611686018427387904<=a+(n-1)):
  QA 315 #[U a,I n] w λe c=>e=rR/\c=w:=by
 by_cases d:n<1\/4194304<n;.exact qf a n w d
 exact Oc a n _ w Z Z rfl (qe a n ha b Z Z Z)
def isOpen:Option (Bool×List Int)->Bool
 |some (l,_)=>!l
 |none=>false
def Q8(m:Nat->Option (Bool×List Int))(first:Nat):Nat->Bool
 |0=>true
 |k+1=>Q8 m first k&&isOpen (m (first+k))
def jk(b:Bool):Int:=if b then 0 else 2
def hC{m:Nat->Option (Bool×List Int)}{first k:Nat}(h:isOpen (m (first+k))=false):∀N,k<N->Q8 m first N=false
 |0,hk=>by omega
 |N+1,hk=>by
  simp only[Q8]
  by_cases e:k=N
  .subst e;simp[h]
  rw[hC h N Z];rfl
def nB{m first}: ∀{N:Nat},Q8 m first N=true->∀k,k<N->isOpen (m (first+k))=true
 |0,_,k,a=>by omega
 |N+1,h,k,a=>by
  simp only[Q8,Gi]at h
  by_cases e:k=N
  .subst e;exact h.2
  exact nB h.1 k Z
def pC(S a)(n:Int)(w:QM)(h:n<0\/4096<n):
  QA 283 #[J S 0,U a,I n] w λe b=>e=QJ (I 6)/\b=w:=by
 rcases h with h|h;.go_enter func283,ntmps283;go_wp2;go_ret;exact QB
 go_enter func283,ntmps283;go_wp2;go_ret;exact QB
def rQ(S a)(w:QM):
  Calls prog 283 #[J S 0,U a,I 0] w λe b=>e=QJ (I 0)/\b=w:=by
 go_wp2;go_ret;exact QB
def sV(S)(a n:Int)(w:QM)(ha:0<=a)(b:a<=18446744073709551615)(f:1<=n)(g:n<=4096)(h:4611686018427387904<=a+(n-1)):
  Calls prog 283 #[J S 0,U a,I n] w λe c=>e=QJ (I 2)/\c=w:=by
 let d:=H (tA a n w ha b (.inr (.inr h)));go_in;go_wp2_with fail;apply d.mono;rintro _ _⟨rfl,rfl⟩;unfold rR;go_wp2_with fail;go_ret;exact QB
def qK(S M st nn bud f m)(a n p q:Nat)(w)(c:Im S M st nn bud f w)(j:Pg f m w)(x:1<=n)(y:n<=4096)(h:a+(n-1)<4611686018427387904)(d:p=a/1024)(g:q=(a+(n-1))/1024):
  Calls prog 283 #[J S 0,U a,I n] w λe u=>e=QJ (I (jk (Q8 m p (q+1-p))))/\u=w:=by
 have i:=H (rE a n w Z Z Z Z);have l:(a:Int)/1024=(p:Int):=Z;have o:((a:Int)+((n:Int)-1))/1024=(q:Int):=Z;rw[l,o]at i;have v:p<=q:=Z;have z:q<4503599627370496:=Z;have t:=H (IT c j);have⟨_,_,_,A⟩:=c.c;clear l o d g c j h;go_in;go_wp2_with fail;refine i.mono ?_;rintro _ B⟨rfl,rfl⟩;go_wp2_with fail;go_loop [10,11] (λi _=>∃j:Nat,j<=q+1-p/\i=I ((p:Int)+(j:Int))/\Q8 m p j=true) (λi _=>q+1-(intOf i).toNat);exact⟨0,aa,aY,rfl⟩
 obtain⟨j,F,rfl,d⟩:=hrel;by_cases s:j<q+1-p
 ·have c:=t.1.look (p+j) Z;have g:((p+j:Nat):Int)=(p:Int)+(j:Int):=Z;rw[g]at c;clear g;rcases t.2.at' (p+j)with⟨o,g⟩|⟨b,l,G,o,g,_⟩;·rw[o]at c;simp only[Option.map_none]at c;have r:=H (hC (m:=m) (first:=p) (k:=j) (by rw[g];rfl) (q+1-p) s);clear o g d;go_wp2;go_ret;exact⟨cX (by rw[r];rfl),rfl⟩
  rw[o]at c;simp only[Hi]at c;let⟨K,_⟩:=t.2.lockCell o g;cases l with
  |true=>have r:=H (hC (m:=m) (first:=p) (k:=j) (by rw[g];rfl) (q+1-p) s);clear o g d;go_wp2;go_ret;exact⟨cX (by rw[r];rfl),rfl⟩
  |false=>
   have r:=H (show Q8 m p (j+1)=true by simp only[Q8];rw[d,g];rfl);clear o g d;go_wp2
   go_round
   (exact⟨j+1,Z,aY,r⟩);exact QE
 have c:j=q+1-p:=Z;have r:=H (c▸d);clear d c;go_wp2;go_ret;exact⟨cX (by rw[r];rfl),rfl⟩
attribute [local go_sem] Oper.semAt_some
def oj{S a n}{w:QM}:
  Calls prog 284 #[J S 0,U a,I n] w λe b=>e=QJ (.func (.func 316) #[] #[J (w.heap.size+1+1) 0,J (w.heap.size+1) 0,J w.heap.size 0]) /\
   b=((w.alloc (.cells #[J S 0] 79)).alloc (.cells #[U a] 24)).alloc (.cells #[I n] 3):=by
 go_wp2;go_ret;exact QB
def ct(a n d:Nat):Nat:=min ((a+d)%1024+n-d) 1024-(a+d)%1024
def vt(f:Nat->Option Nat)(a n d:Nat):Array Value:=#[.slice (some ⟨(f ((a+d)/1024)).getD 0,(a+d)%1024,none⟩) (ct a n d) (1024-(a+d)%1024)]
inductive Got(a n:Nat):List {d:Nat // d<n}->Nat->Prop
 |zero:Got a n [] 0
 |next {ys:List {d:Nat // d<n}} {d:Nat} (h:Got a n ys d) (hd:d<n):Got a n (ys++[⟨d,hd⟩]) (d+ct a n d)
def me(h:d<n):1<=ct a n d:=by unfold ct;omega
def pF(h:d<n):d+ct a n d<=n:=by unfold ct;omega
def Got.le{b:List {d:Nat // d<n}}(h:Got a n b d):d<=n/\b.length<=d:=by
 induction h with
 |zero=>exact⟨aa,gi⟩
 |next h c f=>let g:=me (a:=a) c;let e:=pF (a:=a) c;exact⟨e,bG⟩
def Kp(S M b:Nat)(A B:World):Prop:=A.heap.size<=B.heap.size/\∀g,g=S\/g=M\/g=b\/g=b+1\/g=b+1+1->B.heap[g]?=A.heap[g]?
def Kp.refl(S M b A):Kp S M b A A:=⟨gi,λ_ _=>rfl⟩
def Kp.trans{S M b A B C}(h:Kp S M b A B)(k:Kp S M b B C):Kp S M b A C:=⟨Fx h.1 k.1,λg a=>(k.2 g a).trans (h.2 g a)⟩
def Im.kp{n A B}(h:Im S M st n bud f A)(k:Kp S M b A B):Im S M st n bud f B:=by obtain⟨a,⟨d,c,e,g⟩,r⟩:=h.map;exact⟨(k.2 S bH).trans h.box,a,⟨d,c,(k.2 M bH).trans e,g⟩,r⟩
structure Cl(S b:Nat)(a n:Int)(W:QM):Prop where
 s:W.heap[b]?=some (.cells #[J S 0] 79)
 a:W.heap[b+1]?=some (.cells #[U a] 24)
 n:W.heap[b+1+1]?=some (.cells #[I n] 3)
def Cl.kp{a n A B}(h:Cl S b a n A)(k:Kp S M b A B):Cl S b a n B:=
 ⟨(k.2 b bH).trans h.s,(k.2 (b+1) bH).trans h.a,(k.2 (b+1+1) bH).trans h.n⟩
def Cl.c{a n}(h:Cl S b a n W):W.cell? (Qz b 0)=some (J S 0)/\W.cell? ⟨b+1,0,none⟩=some (U a)/\W.cell? ⟨b+1+1,0,none⟩=some (I n):=by let c:=h.s;let d:=h.a;let e:=h.n;refine⟨by simp[QC,c],by simp[QC,d],by simp[QC,e]⟩
def Ak(g)(l h:Int)(w:QM)(b:0<=l)(i:l<1024)(c:l<=h)(d:h<=1024):
  (Instr.sliceAt 218 (J g 0) (some (I l)) (some (I h)) none).run prog w=.ok (.slice (some (Qz g l.toNat)) (h.toNat-l.toNat) (1024-l.toNat)) w:=by
 let a:prog.arrayLen 218=1024:=E;let e:h<=(prog.arrayLen 218:Int):=by rwa[a]
 let f:(sizeOf (prog.elem 218)).run prog w=.ok 1 w:=E;rw[run_sliceAt_array_lh w 218 _ E _ _ l h b c e,f];show Result.ok (slicedAt (Qz g 0) l.toNat h.toNat (prog.arrayLen 218) 1) w=_;rw[a];unfold slicedAt;rw[GO Z];simp[Addr.add];omega
def qo(g a n d:Nat)(b:Int)(w:QM)(f:d<n)(i:b=min (((a:Int)+(d:Int))%1024+(n:Int)-(d:Int)) 1024):
  (Instr.sliceAt 218 (J g 0) (some (I (((a:Int)+(d:Int))%1024))) (some (I b)) none).run prog w=.ok (.slice (some ⟨g,(a+d)%1024,none⟩) (ct a n d) (1024-(a+d)%1024)) w:=by
 let c:(((a:Int)+(d:Int))%1024).toNat=(a+d)%1024:=Z;let e:b.toNat-(a+d)%1024=ct a n d:=by unfold ct;omega
 rw[Ak g _ b w Z Z Z Z,c,e]
def nW(S M st nn bud)(f:Nat->Option Nat)(a n:Nat)(l:Nat)(b)(m:Nat)(hm:2<=m)(hn:n<=4096)(ha:n=0\/a+n<=4611686018427387904)(j:∀d,d<n->∃g,f ((a+d)/1024)=some g)(c N:List {d:Nat // d<n}->QM->Prop)(W:QM)(q:AbidesFrom W.heap.size c)(O:∀i(x: {d:Nat // d<n})k,c i k->i.length<n->YieldAt Fence.wide (m-1) prog l (vt f a n x.1) k λe z=>(e=QJ Ql/\c (i++[x]) z/\Kp S M b k z)\/(e=QJ Qk/\N (i++[x]) z))(k:Cl S b a n W)(o:Im S M st nn bud f W)(p:c [] W):
  CallsIn Fence.wide m prog 316 #[.func (.yield l) #[] #[],J (b+1+1) 0,J (b+1) 0,J b 0] W λe z=>(∃v,e=QJ v) /\
   ((∃t,Got a n t n/\c t z)\/(∃i,(∃d,Got a n i d)/\N i z)):=by
 let⟨T,K,V⟩:=Qe O (IT k (IT o p)) j;refine callsIn_of_wp func316 rfl trivial ?_ rfl;simp only[ntmps316,FX,FN,F1,Nat.reduceAdd,Nat.reduceSub,FP,FO,FY,Iv,FV,F5];gi_wp2
 gi_loopw [5] (λi wr=>∃(d:Nat)(t:List {d:Nat // d<n}),d<=n/\i=I d/\Hid (Got a n t d)/\Hid (c t wr)/\Hid (Kp S M b W wr))
  (λi _=>n-(intOf i).toNat)
 exact⟨0,[],aa,rfl,Got.zero,K.2.2,Kp.refl _ _ _ _⟩
 obtain⟨d,t,hd,rfl,p,A,u⟩:=hrel;let⟨c0,c1,c2⟩:=(K.1.kp u).c;let o:=K.2.1.kp u;let⟨_,_,_,c4⟩:=o.c;by_cases j:d<n
 .let⟨g,r⟩:=V.out d j;let q:=o.look ((a+d)/1024) Z;rw[r]at q;simp only[Hi]at q;refine(let_mvar%?A:=((a:Int)+(d:Int));?_);let k:(((a+d)/1024:Nat):Int)=?A/1024:=Z;rw[k]at q;let k:t.length<n:=Nat.lt_of_le_of_lt p.le.2 j;let⟨fn,P,G,Q,y,s⟩:=T.out t ⟨d,j⟩ wr A k;unfold vt at y;rw[r]at y;simp only[Ht]at y;let⟨R,x⟩:=y7 s (IT (p.next j) (IT (me (a:=a) j) (pF (a:=a) j)));by_cases B:?A%1024+(n:Int)-(d:Int)<=1024
  .have L:=qo g a n d _ wr j (by rw[Int.min_eq_left B]);have F:=H (show(d:Int)+(?A%1024+(n:Int)-(d:Int)-?A%1024)=((d+ct a n d:Nat):Int) by unfold ct;omega);generalize ct a n d=pl at*;gi_wp2;refine⟨λ_=>Z,?_⟩;apply R.mono;rintro e X(⟨rfl,r,s⟩|⟨rfl,k⟩)
   .let w:=H (IT r (u.trans s));gi_wp2;go_roundw;(exact⟨d+pl,t++[⟨d,j⟩],x.2.2,qb F,H x.1,H w.1,H w.2⟩);case measure=>let Y:=x.2.1;let h2:=F.out;simp only[intOf];omega
   let w:=H k;gi_wp2;apply GX (Ir rfl _ _ _) rfl;exact⟨⟨_,rfl⟩,.inr ⟨_,⟨_,x.1⟩,w⟩⟩
  have L:=qo g a n d 1024 wr j (by rw[Int.min_eq_right Z]);have F:=H (show(d:Int)+(1024-?A%1024)=((d+ct a n d:Nat):Int) by unfold ct;omega);generalize ct a n d=pl at*;gi_wp2;refine⟨λ_=>Z,?_⟩;apply R.mono;rintro e X(⟨rfl,r,s⟩|⟨rfl,k⟩)
  .let w:=H (IT r (u.trans s));gi_wp2;go_roundw;(exact⟨d+pl,t++[⟨d,j⟩],x.2.2,qb F,H x.1,H w.1,H w.2⟩);case measure=>let Y:=x.2.1;let h2:=F.out;simp only[intOf];omega
  let w:=H k;gi_wp2;apply GX (Ir rfl _ _ _) rfl;exact⟨⟨_,rfl⟩,.inr ⟨_,⟨_,x.1⟩,w⟩⟩
 have k:d=n:=Z;subst k;gi_wp2;go_end0;exact⟨⟨_,rfl⟩,.inl ⟨_,p,A⟩⟩
def bO(m:Nat->Option (Bool×List Int))(p:Nat):Int:=((((m (p/1024)).map λq=>q.2).getD [])[p%1024]?).getD 0
def NT(m:Nat->Option (Bool×List Int))(a n d:Nat):List Int:=(List.range (ct a n d)).map λi=>bO m (a+(d+i))
def dh(m:Nat->Option (Bool×List Int))(a n:Nat)(ys:List {d:Nat // d<n}):List Int:=ys.flatMap λx=>NT m a n x.1
def gV(m a)(n:Nat)(b:List {d:Nat // d<n})(x: {d:Nat // d<n}):dh m a n (b++[x])=dh m a n b++NT m a n x.1:=by simp[dh,Gu]
def iW(m a n d):(NT m a n d).length=ct a n d:=by simp[NT]
def qy(a n d):ct a n d<=1024:=by unfold ct;omega
def ko(m a)(n:Nat):∀b:List {d:Nat // d<n},(dh m a n b).length<=1024*b.length
 |[]=>by simp[dh]
 |x::b=>by
  let e:=ko m a n b
  let f:=qy a n x.1
  let c:dh m a n (x::b)=NT m a n x.1++dh m a n b:=by simp[dh]
  rw[c,FC,iW,FN]
  omega
def Got.bytes{b:List {d:Nat // d<n}}(h:Got a n b d):dh m a n b=(List.range d).map λi=>bO m (a+i):=by
 induction h with
 |zero=>rfl
 |next h e c=>rw[gV,c,List.range_add,Hr];simp[NT]
structure Ld(S M:Nat)(st nn bud:Int)(f:Nat->Option Nat)(m:Nat->Option (Bool×List Int))(w:QM)(R DB:Nat)(v:QN)(W:QM):Prop where
 im:Im S M st nn bud f W
 pg:Pg f m W
 fr:Fr S M f f w W
 res:W.heap[R]?=some (.cells #[I 0,C] 284)
 box:W.heap[DB]?=some (.cells #[v] 22)
 mlt:M<w.heap.size
 rge:w.heap.size<=R
 dge:w.heap.size<=DB
def Ld.keep{n:QM}{i:Option Nat}(h:Ld S M st nn bud f m w R DB v W)(d:W.grownBy n i)
  (p:∀r,i=some r->w.heap.size<=r/\∀c t z,W.heap[r]?=some (.cells c t z)->t=5):Ld S M st nn bud f m w R DB v n:=by
 let o:∀(b:Nat)(c:Array QN)(t:QO)(z:Nat×Nat),W.heap[b]?=some (Obj.cells c t z)->t≠5->n.heap[b]?=some (Obj.cells c t z):=by intro b c t z k a;rwa[d.block b (G_ k) (λe=>a ((p b e.symm).2 c t z k))]
 let u:n.heap[M]?=W.heap[M]?:=d.block M (FG h.mlt h.fr.size) (λe=>by have:=(p M e.symm).1;have:=h.mlt;omega);refine⟨⟨o _ _ _ _ h.im.box ar,?_⟩,⟨?_,h.pg.inj⟩,?_,o _ _ _ _ h.res ar,o _ _ _ _ h.box ar,h.mlt,h.rge,h.dge⟩;.obtain⟨a,⟨j,g,k,l⟩,r⟩:=h.im.map;exact⟨a,⟨j,g,u.trans k,l⟩,r⟩
 .intro j;rcases h.pg.at' j with a|⟨b,l,g,a,q,s,x⟩;.exact .inl a
  exact .inr ⟨b,l,g,a,q,s,o _ _ _ _ x ar⟩
 refine⟨d.os.trans h.fr.os,d.tape.trans h.fr.tape,d.output.trans h.fr.output,Fx h.fr.size d.size,?_,h.fr.made⟩;intro g j a q s;rw[d.block g (FG j h.fr.size) (λe=>by have:=(p g e.symm).1;omega)];exact h.fr.block g j a q s
def Ld.store(h:Ld S M st nn bud f m w R DB v W)(v'):Ld S M st nn bud f m w R DB v' (W.setCell (Qz DB 0) v'):=by
 let n:∀(b:Nat)(c:Array QN)(t:QO)(z:Nat×Nat),W.heap[b]?=some (Obj.cells c t z)->t≠22->(W.setCell (Qz DB 0) v').heap[b]?=some (Obj.cells c t z):=by
  intro b c t z a d;rw[XB ?_];.exact a
  intro e;simp at e;subst e;rw[h.box]at a;cases a;exact d rfl
 let d:DB≠S/\DB≠M:=by
  constructor;.intro e;subst e;let a:=h.box;rw[h.im.box]at a;simp at a
  have:=h.mlt;have:=h.dge;omega
 refine⟨h.im.setCell (p:=(Qz DB 0)) d.1 d.2 v',⟨?_,h.pg.inj⟩,?_,n _ _ _ _ h.res ar,?_,h.mlt,h.rge,h.dge⟩
 .intro j;rcases h.pg.at' j with a|⟨b,l,g,a,i,k,o⟩;.exact .inl a
  exact .inr ⟨b,l,g,a,i,k,n _ _ _ _ o ar⟩
 .refine⟨h.fr.os,h.fr.tape,h.fr.output,by simp[World.setCell];exact h.fr.size,?_,h.fr.made⟩;intro g j a i k;rw[XB ?_];.exact h.fr.block g j a i k
  intro e;simp at e;have:=h.dge;omega
 rw[bj h.box];rfl
def Ld.cells(h:Ld S M st nn bud f m w R DB v W):
  W.cell? (Qz DB 0)=some v/\W.frozen? (Qz DB 0)=false/\W.cell? (Qz R 0)=some (I 0)/\W.cell? (Qz R 1)=some (C)/\W.frozen? (Qz R 0)=false/\W.frozen? (Qz R 1)=false:=by
 let b:=h.box;let a:=h.res;refine⟨by simp[QC,b],by simp[QD,b],by simp[QC,a],by simp[QC,a],by simp[QD,a],by simp[QD,a]⟩
def re(h:Pg f m W){g:Nat}(i:f ((a+d)/1024)=some g):
  ∀j u,(Ns .u8 (NT m a n d))[j]?=some u->W.cell? ((⟨g,(a+d)%1024,none⟩:Addr).add j)=some u:=by
 intro j u b;let⟨l,k,o,v,p⟩:=h.cell i;simp only[Ns,NT,List.map_map,Gv]at b;let c:j<ct a n d:=by
  rcases Nat.lt_or_ge j (ct a n d)with e|e;.exact e
  rw[FJ (by simpa using e)]at b;simp at b
 rw[List.getElem?_range c]at b;simp at b;let w:(a+d)%1024+j<1024:=by unfold ct at c;omega
 let q:(a+(d+j))/1024=(a+d)/1024:=Z;let r:(a+(d+j))%1024=(a+d)%1024+j:=Z;rw[<-b];simp only[bO,q,r,o,Hi,Ht];let s:=ja l k ((a+d)%1024+j) Z;let t:(⟨g,(a+d)%1024,none⟩:Addr).add j=⟨g,(a+d)%1024+j,none⟩:=by
  by_cases e:j=0;.subst e;simp[Addr.add]
  simp[Addr.add,e]
 rw[t];simp only[QC,p];exact s
def fy{c:Int}(h:0<=c/\c<12):1<=pg c/\pg c<=4:=by rcases fh h with rfl|rfl|rfl|rfl|rfl|rfl|rfl|rfl|rfl|rfl|rfl|rfl<;>decide
def xX{c:Int}(h:¬(0<=c/\c<12)):pg c=0:=by simp only[pg,gP h];decide
def AO(c):0<=pg c/\pg c<=4:=by
 by_cases h:0<=c/\c<12;.have:=fy h;omega
 rw[xX h];omega
def kh{c:Int}(h:0<=c/\c<12):4<=sl c/\sl c<=64/\sl c=pg c*1024/sz c/\sl c*sz c<=pg c*1024:=by rcases fh h with rfl|rfl|rfl|rfl|rfl|rfl|rfl|rfl|rfl|rfl|rfl|rfl<;>decide
def xW{c:Int}(h:¬(0<=c/\c<12)):sl c=0:=by simp only[sl,GO h]
def uj{c:Int}(h:0<=c/\c<12):us c=sz c-8:=by simp only[us,GP h]
def sW{c:Int}(h:¬(0<=c/\c<12)):us c=0:=by simp only[us,GO h]
def eY(c w)(a:Tb w):
  Calls prog 150 #[I c] w λe b=>e=QJ (I (pg c))/\b=w:=by
 have d:=H (dJ c w a);have f:=Eh c;unfold pg;generalize sz c=s at d f⊢;go_in;go_wp2_with fail;apply (d).mono;rintro e b⟨rfl,rfl⟩;go_wp2;go_ret;exact QB
def gK(c w)(b:Tb w):
  QA 103 #[I c] w λe a=>e=QJ (I (sl c))/\a=w:=by
 have f:=H (dJ c w b);have g:=H (eY c w b);by_cases h:0<=c/\c<12;.have i:=eJ h;have j:=fy h;rw[(kh h).2.2.1];let d:=H (NR w h);generalize sz c=s at f i⊢;generalize pg c=p at g j⊢;go_enter func103,ntmps103;go_wp2_with fail;apply (d).mono;rintro e a⟨rfl,rfl⟩;go_wp2_with fail;apply (g).mono;rintro e a⟨rfl,rfl⟩;go_wp2_with fail;apply (f).mono;rintro e a⟨rfl,rfl⟩;go_wp2;go_ret;exact QB
 rw[xW h];let d:=H (dY w h);go_enter func103,ntmps103;go_wp2_with fail;apply (d).mono;rintro e a⟨rfl,rfl⟩;go_wp2;go_ret;exact QB
end
section
variable {DB M Q S T b base n:Nat}{bud nn st:Int}{f:Nat->Option Nat}{A W W' w:World}{m:Nat->Option (Bool×List Int)}{v:Value}{xs:List Value}{row:Option Nat}
attribute [local go_sem] Oper.semAt_some
def Pg.alloc{f m W}(h:Pg f m W)(o:Obj):Pg f m (W.alloc o):=by
 refine⟨?_,h.inj⟩;intro j;rcases h.at' j with a|⟨b,l,xs,a,d,e,c⟩;.exact .inl a
 exact .inr ⟨b,l,xs,a,d,e,by rwa[(GZ W o none).block b (G_ c) bH]⟩
def Im.grown{n}(h:Im S M st n bud f W)(c:W.grownBy W' none):Im S M st n bud f W':=by let⟨a,b,r⟩:=h.map;exact⟨by rw[c.block S (G_ h.box) bH];exact h.box,a,b.kept c bH,r⟩
def Pg.grown(h:Pg f m W)(d:W.grownBy W' none):Pg f m W':=by
 refine⟨?_,h.inj⟩;intro j;rcases h.at' j with a|⟨b,l,xs,a,e,g,c⟩;.exact .inl a
 exact .inr ⟨b,l,xs,a,e,g,by rwa[d.block b (G_ c) bH]⟩
def Fr.ofGrown(a:W.grownBy W' none):Fr S M f f W W':=
 ⟨a.os,a.tape,a.output,a.size,λg b _ _ _=>a.block g b bH,λk g e=>.inl ⟨k,e⟩⟩
def ej{B a:QM}(h:A.grownBy B none)(k:B.grownBy a none):A.grownBy a none:=
 ⟨k.os.trans h.os,k.tape.trans h.tape,k.output.trans h.output,Fx h.size k.size,λg b _=>by rw[k.block g (FG b h.size) bH];exact h.block g b bH⟩
def Ld.init{b:QM}(i:Im S M st nn bud f w)(j:Pg f m w)(d:(w.alloc (.cells #[I 0,C] 284)).grownBy b none)(v):
  Ld S M st nn bud f m w w.heap.size b.heap.size v (b.alloc (.cells #[v] 22)):=by
 let e:=ej (GZ w (.cells #[I 0,C] 284) none) (ej d (GZ b (.cells #[v] 22) none));let g:w.heap.size<b.heap.size:=by have:=d.size;simp at this;omega
 refine⟨i.grown e,j.grown e,Fr.ofGrown e,?_,(Hq b _).1,?_,gi,Z⟩;.rw[(GZ b (.cells #[v] 22) none).block _ g bH,d.block _ bH bH];exact(Hq w _).1
 let⟨a,c,_⟩:=i.map;exact c.lt
def Cl.made(S a n)(W:QM):Cl S W.heap.size a n (((W.alloc (.cells #[J S 0] 79)).alloc (.cells #[U a] 24)).alloc (.cells #[I n] 3)):=by
 refine⟨?_,?_,?_⟩;.rw[(GZ _ _ none).block _ bG bH,(GZ _ _ none).block _ bH bH];exact(Hq W _).1
 .rw[(GZ _ _ none).block _ bH bH];have:=(Hq (W.alloc (.cells #[J S 0] 79)) (.cells #[U a] 24)).1;simpa using this
 have:=(Hq ((W.alloc (.cells #[J S 0] 79)).alloc (.cells #[U a] 24)) (.cells #[I n] 3)).1;simpa using this
def Kp.below{N:Nat}{B:QM}(h:Below N A B)(c:S<N)(d:M<N)(e:b+1+1<N):Kp S M b A B:=
 ⟨h.size,λg a=>h.block g (by rcases a with rfl|rfl|rfl|rfl|rfl<;>omega)⟩
def wO{N:Nat}(d:S<N)(e:M<N)(f:b+1+1<N)(W:QM)(l:Nat)(o a:Obj)(i:N<=l)(h:W.heap[l]?=some o):Kp S M b W (W.putObj l a):=
 ⟨(grownBy_putObj' W l a).size,λg c=>(grownBy_putObj' W l a).block g (by have:=G_ h;rcases c with rfl|rfl|rfl|rfl|rfl<;>omega) (by simp;rcases c with rfl|rfl|rfl|rfl|rfl<;>omega)⟩
def nz(h:A.ownsRow base 5 1 v n xs)(b:∀r,row=some r->∃o:Obj,A.heap[r]?=some o/\o.isCells=false):v.ownBlock=none\/v.ownBlock≠row:=by
 rcases h.2 with⟨rfl,_⟩|⟨g,c,d,rfl,_,f,_⟩;.exact .inl rfl
 right;intro e;let⟨o,a,i⟩:=b g e.symm;rw[f]at a;cases a;cases i
def nN(h:A.ownsRow base 5 1 v n xs):∃p l c,v=.slice p l c:=by
 rcases h.2 with⟨rfl,_⟩|⟨g,a,b,rfl,_⟩;.exact⟨_,_,_,rfl⟩
 exact⟨_,_,_,rfl⟩
def core(o:Im S M st nn bud f w)(q:Pg f m w)(p:Im S M st nn bud f W)(pg:Pg f m W)(c:Fr S M f f w W)(i:W.grownBy W' row)(s:∀r,row=some r->w.heap.size<=r):
  Im S M st nn bud f W'/\Pg f m W'/\Fr S M f f w W':=by
 let k:=λg n=>i.block g (FG n c.size) (λe=>by have:=s g e.symm;omega)
 refine⟨⟨(k S (G_ o.box)).trans p.box,?_⟩,⟨?_,pg.inj⟩,?_⟩;.let⟨_,e,_⟩:=o.map;obtain⟨a,⟨j,d,l,t⟩,r⟩:=p.map;exact⟨a,⟨j,d,(k M e.lt).trans l,t⟩,r⟩
 .intro j;rcases pg.at' j with a|⟨b,l,xs,a,d,e,t⟩;.exact .inl a
  let⟨_,_,_,_,u⟩:=q.cell a;exact .inr ⟨b,l,xs,a,d,e,(k b (G_ u)).trans t⟩
 refine⟨i.os.trans c.os,i.tape.trans c.tape,i.output.trans c.output,Fx c.size i.size,?_,c.made⟩;intro g n a d e;rw[k g n];exact c.block g n a d e
def tY{c:Array QN}{t:QO}{z:Nat×Nat}(h:A.ownsRow base 5 1 v n xs)(a:A.heap[DB]?=some (.cells c t z))(b:t≠5):v.ownBlock=none\/v.ownBlock≠some DB:=by
 rcases h.2 with⟨rfl,_⟩|⟨g,d,f,rfl,_,i,_⟩;.exact .inl rfl
 right;intro e;cases e;rw[i]at a;cases a;exact b rfl
def Ac(h:A.ownsRow base 5 1 v n xs):∀r,v.ownBlock=some r->base<=r/\∃c,A.heap[r]?=some (.cells c 5):=by
 intro r e;rcases h.2 with⟨rfl,_⟩|⟨g,b,a,rfl,c,d,_⟩;.cases e
 cases e;exact⟨c,a,d⟩
def Ld.kpRow{R a n}(h:Ld S M st nn bud f m w R DB v W)(i:Cl S b a n W)(j:W.grownBy W' row)(k:∀r,row=some r->w.heap.size<=r/\∀c t z,W.heap[r]?=some (.cells c t z)->t=5):Kp S M b W W':=by
 let d:∀(b:Nat)(c:Array QN)(t:QO)(z:Nat×Nat),W.heap[b]?=some (Obj.cells c t z)->t≠5->W'.heap[b]?=W.heap[b]?:=λb c t z l o=>j.block b (G_ l) (λe=>o ((k b e.symm).2 c t z l))
 refine⟨j.size,?_⟩;rintro g(rfl|rfl|rfl|rfl|rfl);.exact d _ _ _ _ h.im.box ar
 .exact j.block _ (FG h.mlt h.fr.size) (λe=>by have:=(k _ e.symm).1;have:=h.mlt;omega)
 .exact d _ _ _ _ i.s ar
 .exact d _ _ _ _ i.a ar
 exact d _ _ _ _ i.n ar
def Ld.kpBox{R a n}(h:Ld S M st nn bud f m w R DB v W)(i:Cl S b a n W)(j:QN):Kp S M b W (W.setCell (Qz DB 0) j):=by
 let d:∀(b:Nat)(c:Array QN)(t:QO)(z:Nat×Nat),W.heap[b]?=some (Obj.cells c t z)->t≠22->(W.setCell (Qz DB 0) j).heap[b]?=W.heap[b]?:=by intro b c t z g k;apply XB;intro e;simp at e;subst e;rw[h.box]at g;cases g;exact k rfl
 refine⟨by simp[World.setCell],?_⟩;rintro g(rfl|rfl|rfl|rfl|rfl);.exact d _ _ _ _ h.im.box ar
 .apply XB;have:=h.mlt;have:=h.dge;simp;omega
 .exact d _ _ _ _ i.s ar
 .exact d _ _ _ _ i.a ar
 exact d _ _ _ _ i.n ar
def zu(S M st nn bud f m)(a n:Nat)(w)(j:Im S M st nn bud f w)(k:Pg f m w)(hn:n<=4096)(ha:n=0\/a+n<=4611686018427387904)(c:∀d,d<n->∃g,f ((a+d)/1024)=some g)(h:∀w,Im S M st nn bud f w->Pg f m w->QA 283 #[J S 0,U a,I n] w λe X=>e=QJ (I 0)/\X=w):
  CallsIn Fence.wide 5 prog 217 #[J S 0,U a,I n] w λe X=>∃v,e=QJ (.agg #[I 0,v])/\X.ownsRow w.heap.size 5 1 v n (Ns .u8 ((List.range n).map λi=>bO m (a+i)))/\Im S M st nn bud f X/\Pg f m X/\Fr S M f f w X:=by
 let⟨i0,a0,a1,a2,a3⟩:=G0 Tryz.info5By;let⟨H1,G,HP⟩:=Qe h (IT j k) c;refine callsIn_of_wp_marks func217 rfl trivial ?_ rfl;simp[ntmps217,FX,FN,F1,Nat.reduceAdd,Nat.reduceSub,FP,FO,FY,Iv,FV,F5]
 gi_wp2_with fail
 refine⟨trivial,?_⟩;apply((callsIn_wide (n:=4)).2 (H1 _ (G.1.alloc _) (G.2.alloc _))).mono;rintro _ _⟨rfl,rfl⟩
 gi_wp2_with (gi_at_make;refine wpListIn_make_own _ rfl _ _ 22 rfl w.heap.size 5 i0 (.int .u8 0) 1 underlying22 a0 a1 a2 .i64 .i64 _ n rfl rfl rfl ?c1 ?c2 ?c3 ?_)
 case c1=>rw[a3];omega
 case c2=>unfold maxLen;omega
 case c3=>simp
 intro w2 i c;refine(let_mvar%?C:=Vl (w.heap.size+1) 0 n;?_);let j:=Ld.init G.1 G.2 c (?C);let l:=i.alloc (.cells #[?C] 22);let⟨k,hS,hM⟩:=Qe (IT j l) (FG (G_ G.1.box) j.fr.size) (FG j.mlt j.fr.size);let L:=H j.fr.size
 gi_wp2_with fail
 refine⟨trivial,?_⟩;let⟨j,c⟩:=Qa (w2.alloc (.cells #[?C] 22));let⟨DB,i⟩:=Qa w2.heap.size;rw[c]at k hS hM L;rw[i]at k;rw[c,i];apply((callsIn_wide (n:=4)).2 (oj)).mono;rintro e w4⟨rfl,rfl⟩;gi_wp2;let HC:=H (Cl.made S a n j);let i:=ej (GZ j (.cells #[J S 0] 79) none) (ej (GZ _ (.cells #[U a] 24) none) (GZ _ (.cells #[I n] 3) none));let q:=H (IT (k.1.keep i (λr e=>by cases e)) (k.2.kept i (.inr (by simp[Value.ownBlock]))));refine(let_mvar%?B:=((j.alloc (.cells #[J S 0] 79)).alloc (.cells #[U a] 24)).alloc (.cells #[I n] 3);?_);let h4:j.heap.size+1+1+1=(?B).heap.size:=bH;let⟨Y,c⟩:=Qa ?B;rw[c]at HC q h4;rw[c];let hS:=hS.out;let hM:=hM.out;let L:=L.out;refine wpIn_rangeFunc_ownF rfl Z (gf:=316) (lb:=#[J (j.heap.size+1+1) 0,J (j.heap.size+1) 0,J j.heap.size 0]) rfl trivial (enters_of func316 E rfl)
  (encs:=λx: {d:Nat // d<n}=>vt f a n x.1) (Kp:=Kp S M j.heap.size) (S:=λys=>Got a n ys n) (Sp:=λi=>∃d,Got a n i d) (N:=n) (w0:=Y)
  (λl c k W d o p p s=>nW S M st nn bud f a n l j.heap.size 4 Z hn ha HP c k W o p (HC.kp (Kp.below (M:=M) (N:=Y.heap.size) d Z Z Z)) (q.1.im.kp (Kp.below (N:=Y.heap.size) (b:=j.heap.size) d Z Z Z)) s)
  Kp.trans (λW l o c k h _ _=>wO (S:=S) (M:=M) (b:=j.heap.size) (N:=Y.heap.size) Z Z Z W l o c k h) th (λ_=>rfl)
  (λi W=>∃v,Ld S M st nn bud f m w w.heap.size DB v W/\W.ownsRow w.heap.size 5 1 v (dh m a n i).length (Ns .u8 (dh m a n i))/\Cl S j.heap.size a n W)
  (λc i W=>False)
  ?own (λc s A B row d O hr=>d) ⟨_,q.1,q.2,HC⟩
  (λx=>{tmps:=#[J S 0,U a,I n,undef,undef,undef,J w.heap.size 0,I 0,J DB 0,.slice (some ⟨(f ((a+x.1)/1024)).getD 0,(a+x.1)%1024,none⟩) (ct a n x.1) (1024-(a+x.1)%1024),J S 0,U a,I n,I 0,I 0,.bool false,undef,undef,I n,?C,J S 0,U a,I n,.func (.func 316) #[] #[J (j.heap.size+1+1) 0,J (j.heap.size+1) 0,J j.heap.size 0],.slice (some ⟨(f ((a+x.1)/1024)).getD 0,(a+x.1)%1024,none⟩) (ct a n x.1) (1024-(a+x.1)%1024),undef,undef,undef,undef,undef],defers:=[]}) ?assign ?body ?done ?stop
 case own=>
  rintro s A B row⟨v,k,y,P⟩O hr;let hb:∀r,row=some r->w.heap.size<=r/\∀c t z,A.heap[r]?=some (.cells c t z)->t=5:=by intro r e;let⟨h1,o,Q,d⟩:=hr r e;refine⟨Z,λc t z h5=>?_⟩;rw[h5]at Q;cases Q;cases d
  exact⟨v,k.keep O hb,y.kept O (nz y λr e=>(hr r e).2),P.kp (k.kpRow P O hb)⟩
 case assign=>intro l x W K hK;unfold vt;gi_wp2;exact hK
 case stop=>intro d c i W _ _ h;exact h.elim
 case body=>
  rintro l i x W⟨v,k,y,P⟩a5;let⟨c1,c2,_,_,_,_⟩:=k.cells;let⟨g,O⟩:=HP.out x.1 x.2;let F:=re k.pg (n:=n) O;let K:=Ac y;let p:=H (IT k (IT y P));let a4:=ko m a n i;let a6:=qy a n x.1;rw[O];simp[Ht];let⟨T,a7⟩:=y7 (IT F K) (Fx L (show j.heap.size<=j.heap.size from gi));let V:=H k.fr.size
  gi_wp2_with (gi_at_builtin;refine wpListIn_append_own _ rfl _ _ 22 rfl w.heap.size 5 i0 (.int .u8 0) 1 1 underlying22 a0 a1 a2 a3 rfl Z _ _ _ rfl p.2.1 _ _ _ (Ns .u8 (NT m a n x.1)) rfl ?b0 T.1 ?b1 ?b2 ?b3 ?b4 ?_)
  case b0=>simp[Ns,iW]
  case b1=>intro u F;simp[Ns,FQ]at F;obtain⟨z,_,rfl⟩:=F;rfl
  case b2=>unfold maxLen;omega
  case b3=>omega
  case b4=>exact V
  intro v1 w1 R K _;obtain⟨p1,l1,k1,rfl⟩:=nN R;let hb:∀r,v.ownBlock=some r->w.heap.size<=r/\∀c t z,W.heap[r]?=some (.cells c t z)->t=5:=by intro r e;let⟨h1,c0,Q⟩:=T.2 r e;refine⟨h1,λc t z h5=>?_⟩;rw[h5]at Q;cases Q;rfl
  let L1:=p.1.keep K hb;let K1:=p.1.kpRow p.2.2 K hb;let F:=H (IT L1 (IT K1 (IT (p.2.2.kp K1) (IT (KeepsOthers.of_grownBy K (λj o e y=>by obtain⟨_,c0,Q⟩:=T.2 j e;rw[Q]at y;cases y;rfl)) R))));let⟨d1,d2,_,_,_,_⟩:=L1.cells;gi_wp2;let K:=F.2.2.2.2.kept (au (Q6 w1 DB) 0 (.slice p1 l1 k1)) (tY F.2.2.2.2 F.1.box ar);let R:(dh m a n (i++[x])).length=(dh m a n i).length+ct a n x.1:=by rw[gV,FC,iW]
  let e2:Ns .u8 (dh m a n (i++[x]))=Ns .u8 (dh m a n i)++Ns .u8 (NT m a n x.1):=by rw[gV];simp[Ns]
  rw[<-R,<-e2]at K;exact⟨F.2.2.2.1.trans (KeepsOthers.setCell _ _ _),F.2.1.trans (F.1.kpBox F.2.2.1 _),_,F.1.store _,K,F.2.2.1.kp (F.1.kpBox F.2.2.1 _)⟩
 case done=>
  rintro d ys W hD F⟨v,k,y,P⟩hK;let⟨c1,c2,c3,c4,c5,c6⟩:=k.cells;let p:=H (IT k (IT y F));obtain⟨K,R,T,rfl⟩:=nN y;gi_wp2;refine(let_mvar%?D:=Qz w.heap.size;?_);have F:=((KeepsOthers.setCell W (?D 0) (I 0)).trans (KeepsOthers.setCell _ (?D 1) (.slice K R T))).same d _ hK rfl;refine(let_mvar%?A:=(W.setCell (?D 0) (I 0)).setCell (?D 1) (.slice K R T);?_);have V:(?A).heap[w.heap.size]?=some (.cells #[I 0,.slice K R T] 284):=by rw[bj (bj p.1.res _)];rfl
  have g2:W.grownBy (?A) (some w.heap.size):=au (au (Q6 W w.heap.size) 0 _) 1 _;have o2:=p.2.1.kept g2 (tY p.2.1 p.1.res ar);have q2:=core G.1 G.2 p.1.im p.1.pg p.1.fr g2 (λr e=>by cases e;exact gi);have a5:w.heap.size<=d:=Z;generalize ?A=W5 at*;let g3:=grownBy_putObj' W5 d (.deferred none);let o3:=o2.kept g3 (nz o2 λr e=>by cases e;exact⟨_,F,rfl⟩);let a4:=(g3.block w.heap.size (G_ V) (λe=>by cases e;rw[V]at F;cases F)).trans V;rw[p.2.2.bytes]at o3;simp[Gz,GG]at o3;refine⟨bH,.inl ⟨_,_,rfl,run_takeDeferred F,?_⟩⟩;refine⟨.agg #[I 0,.slice K R T],?_,_,rfl,o3,(core G.1 G.2 q2.1 q2.2.1 q2.2.2 g3 (λr e=>by cases e;exact a5))⟩;let r1:(W5.putObj d (.deferred none)).cell? (?D 0)=some (I 0):=by simp[QC,a4]
  let r2:(W5.putObj d (.deferred none)).cell? (?D 1)=some (.slice K R T):=by simp[QC,a4]
  simp[results,Tryz.f217,go_sem,r1,r2]
def wy(W:World)(c:Array Value)(k:Nat):Option (Bool×List Int)->Prop
 |none=>c[k*3]?=some Qk/\c[k*3+1]?=some Qk/\c[k*3+2]?=some (C)
 |some (l,xs)=>c[k*3]?=some Ql/\c[k*3+1]?=some (.bool (!l))/\xs.length=1024/\∃g,c[k*3+2]?=some (Vl g 1024 1024)/\W.heap[g]?=some (.cells (Ns .u8 xs).toArray 5)
structure Sx(T Q n:Nat)(bud:Int)(m:Nat->Option (Bool×List Int))(W:QM):Prop where
 box:W.heap[T]?=some (.cells #[Vl Q n n,I bud] 303)
 row:∃c,W.heap[Q]?=some (.cells c 305)/\c.size=n*3/\(∀k,k<n->wy W c k (m k))/\∀j k g,j<n->k<n->c[j*3+2]?=some (Vl g 1024 1024)->c[k*3+2]?=some (Vl g 1024 1024)->j=k
 out:∀k,n<=k->m k=none
def Sx.c(h:Sx T Q n bud m W):
  W.cell? (Qz T 0)=some (Vl Q n n)/\W.cell? (Qz T 1)=some (I bud):=by
 let a:=h.box;exact⟨by simp[QC,a],by simp[QC,a]⟩
def Sx.page(h:Sx T Q n bud m W)(k:Nat)(o:k<n):
  ∃a b c,W.cell? (Qz Q (k*3))=some (.bool a)/\W.cell? (Qz Q (k*3+1))=some (.bool b)/\W.cell? (Qz Q (k*3+2))=some c/\a=(m k).isSome/\(a&&b)=isOpen (m k) /\
   (∀l xs,m k=some (l,xs)->xs.length=1024/\∃g,c=Vl g 1024 1024/\W.heap[g]?=some (.cells (Ns .u8 xs).toArray 5)):=by
 let⟨c,a,u,p,_⟩:=h.row;let b:=p k o;cases j:m k with
 |none=>rw[j]at b;let⟨d,f,i⟩:=b;exact⟨false,false,C,by simp[QC,a,d],by simp[QC,a,f],by simp[QC,a,i],rfl,rfl,λl xs e=>by cases e⟩
 |some q=>let⟨l,xs⟩:=q;rw[j]at b;let⟨d,f,r,g,i,s⟩:=b;exact⟨true,!l,Vl g 1024 1024,by simp[QC,a,d],by simp[QC,a,f],by simp[QC,a,i],rfl,by simp[isOpen],λv t e=>by cases e;exact⟨r,g,rfl,s⟩⟩
def uB(T Q n bud m)(a:Nat)(w)(h:Sx T Q n bud m w)(j:n<=4096)(ha:a<18446744073709551616):
  QA 310 #[J T 0,U a] w λe d=>e=QJ (.bool (isOpen (m (a/1024))))/\d=w:=by
 let⟨k,l⟩:=h.c;by_cases f:a/1024<n
 .let⟨g,o,p,q,r,s,i,c,_⟩:=h.page (a/1024) f;have b:=H c;clear i c h;cases g;.go_enter func310,ntmps310;go_wp2;go_ret;exact⟨cQ b,rfl⟩
  go_enter func310,ntmps310;go_wp2;go_ret;exact⟨cQ (by rw[<-b.out];rfl),rfl⟩
 have b:=H (h.out (a/1024) Z);have c:=Z;clear h;go_enter func310,ntmps310;go_wp2;go_ret;exact⟨cQ (by rw[b];rfl),rfl⟩
def kT(T Q n bud m)(a:Nat)(w)(h:Sx T Q n bud m w)(u:n<=4096)(ha:a<18446744073709551616)(b:isOpen (m (a/1024))=true):
  Calls prog 264 #[J T 0,U a] w λe j=>e=QJ (.int .u8 (bO m a))/\j=w:=by
 let⟨v,x⟩:=h.c;let k:a/1024<n:=by
  rcases Nat.lt_or_ge (a/1024) n with e|e;.exact e
  rw[h.out _ e]at b;cases b
 let⟨y,A,B,o,p,F,r,s,f⟩:=h.page (a/1024) k;cases c:m (a/1024)with
 |none=>rw[c]at b;cases b
 | some q=>
  let⟨l,xs⟩:=q;obtain⟨t,g,rfl,i⟩:=f l xs c;have G:w.cell? ⟨g,a%1024,none⟩=some (.int .u8 (xs[a%1024]?.getD 0)):=by have d:a%1024<xs.length:=Z;simp[QC,i,Ns,d]
  have d:=H (show bO m a=xs[a%1024]?.getD 0 by simp[bO,c]);generalize xs[a%1024]?.getD 0=z at*;go_wp2;go_ret;exact⟨cX d.symm,rfl⟩
def dE(m:Nat->Option (Bool×List Int))(a:Nat):Nat->Bool
 |0=>true
 |k+1=>dE m a k&&isOpen (m ((a+k)/1024))
def je{m:Nat->Option (Bool×List Int)}{a k:Nat}(h:isOpen (m ((a+k)/1024))=false):∀N,k<N->dE m a N=false
 |0,hk=>by omega
 |N+1,hk=>by
  simp only[dE]
  by_cases e:k=N
  .subst e;simp[h]
  rw[je h N Z];rfl
def gL{m a}: ∀{N:Nat},dE m a N=true->∀k,k<N->isOpen (m ((a+k)/1024))=true
 |0,_,k,b=>by omega
 |N+1,h,k,b=>by
  simp[dE,Gi]at h
  by_cases e:k=N
  .subst e;exact h.2
  exact gL h.1 k Z
def jX{m:Nat->Option (Bool×List Int)}{a:Nat}: ∀{N:Nat},(∀k,k<N->isOpen (m ((a+k)/1024))=true)->dE m a N=true
 |0,_=>rfl
 |N+1,h=>by
  simp only[dE]
  rw[jX (λk a=>h k Z),h N Z]
  rfl
def ry{m:Nat->Option (Bool×List Int)}{p:Nat}: ∀{N:Nat},(∀k,k<N->isOpen (m (p+k))=true)->Q8 m p N=true
 |0,_=>rfl
 |N+1,h=>by
  simp only[Q8]
  rw[ry (λk a=>h k Z),h N Z]
  rfl
def sF(m)(a n:Nat)(g:1<=n):Q8 m (a/1024) ((a+(n-1))/1024+1-a/1024)=dE m a n:=by
 cases c:dE m a n
 .cases d:Q8 m (a/1024) ((a+(n-1))/1024+1-a/1024);.rfl
  exfalso;have:dE m a n=true:=jX (λk f=>by let b:=nB d ((a+k)/1024-a/1024) Z;rwa [show a/1024+((a+k)/1024-a/1024)=(a+k)/1024 by omega]at b)
  rw[c]at this;cases this
 refine ry (λk f=>?_);by_cases e:k=0;.let b:=gL c 0 Z;subst e;simpa using b
 let b:=gL c ((a/1024+k)*1024-a) Z;rwa [show(a+((a/1024+k)*1024-a))/1024=a/1024+k by omega]at b
def kP(T a)(n:Int)(w:QM)(h:n<0\/4096<n):
  QA 268 #[J T 0,U a,I n] w λe b=>e=QJ (I 6)/\b=w:=by
 rcases h with h|h;.go_enter func268,ntmps268;go_wp2;go_ret;exact QB
 go_enter func268,ntmps268;go_wp2;go_ret;exact QB
def mJ(T a)(w:QM):
  Calls prog 268 #[J T 0,U a,I 0] w λe b=>e=QJ (I 0)/\b=w:=by
 go_wp2;go_ret;exact QB
def nf(T)(a n:Int)(w:QM)(ha:0<=a)(b:a<=18446744073709551615)(f:1<=n)(g:n<=4096)(h:4611686018427387904<=a+(n-1)):
  Calls prog 268 #[J T 0,U a,I n] w λe c=>e=QJ (I 2)/\c=w:=by
 go_in;go_wp2_with fail;apply (H (tB a n w ha b (.inr (.inr h)))).mono;rintro _ _⟨rfl,rfl⟩;unfold rR;go_wp2_with fail;go_ret;exact QB
def lI(T Q nn bud m)(a n:Nat)(w)(b:Sx T Q nn bud m w)(k:nn<=4096)(q:1<=n)(r:n<=4096)(h:a+(n-1)<4611686018427387904):
  Calls prog 268 #[J T 0,U a,I n] w λe l=>e=QJ (I (jk (dE m a n)))/\l=w:=by
 let⟨c,o⟩:=y7 (qA a n w Z Z Z Z) (λ(j:Nat)(p:j<n)=>uB T Q nn bud m (a+j) w b k Z);go_in;go_wp2_with fail;apply c.mono;rintro _ s⟨rfl,rfl⟩;go_wp2_with fail;go_loop [10] (λi=>∃j:Nat,j<=n/\i=I j/\dE m a j=true) (λi=>n-(intOf i).toNat);exact⟨0,aa,rfl,rfl⟩
 obtain⟨j,p,rfl,b⟩:=hrel;by_cases d:j<n
 .let f:=H (o j d);rw[show((a+j:Nat):Int)=(a:Int)+(j:Int) by omega]at f;cases c:isOpen (m ((a+j)/1024));.let g:=H (je c n d);rw[c]at f;go_wp2_with fail;apply f.mono;rintro _ _⟨rfl,rfl⟩;go_wp2_with fail;go_ret;exact⟨cX (by rw[g];rfl),rfl⟩
  let g:=H (show dE m a (j+1)=true by simp only[dE];rw[b,c];rfl);rw[c]at f;go_wp2_with fail;apply f.mono;rintro _ _⟨rfl,rfl⟩;go_wp2_with fail
  go_round
  (exact⟨j+1,Z,aY,g⟩);exact QE
 let c:j=n:=Z;let g:=H (c▸b);go_wp2;go_ret;exact⟨cX (by rw[g];rfl),rfl⟩
def bz(m:Nat->Option (Bool×List Int)):Nat->Nat
 |0=>0
 |k+1=>bz m k+(m k).isSome.toNat
def lh(m):∀k,bz m k<=k
 |0=>gi
 |k+1=>by have:=lh m k;let a:=Bool.toNat_le (m k).isSome;simp[bz];omega
def ke{f:Nat->Option Nat}{m:Nat->Option (Bool×List Int)}(h:∀k,(f k).isSome=(m k).isSome):∀k,bm f 0 k=bz m k
 |0=>rfl
 |k+1=>by simp only[bm,bz];rw[ke h k,Oi,h k]
def mn{m:Nat->Option (Bool×List Int)}{n:Nat}(h:∀k,n<=k->m k=none):∀k,bz m (n+k)=bz m n
 |0=>rfl
 |k+1=>by rw[<-H_];simp[bz];rw[mn h k,h (n+k) Z];rfl
def Sx.three(h:Sx T Q n bud m W)(k:Nat)(j:k<n):
  ∃a p l c,W.cell? (Qz Q (k*3))=some (.bool (m k).isSome)/\W.cell? (Qz Q (k*3+1))=some (.bool a)/\W.cell? (Qz Q (k*3+2))=some (.slice p l c)/\((m k).isSome&&a)=isOpen (m k):=by
 let⟨c,a,p,o,_⟩:=h.row;let b:=o k j;cases i:m k with
 |none=>rw[i]at b;let⟨d,e,f⟩:=b;exact⟨false,none,0,0,by simp[QC,a,d],by simp[QC,a,e],by simp[QC,a,f],rfl⟩
 |some q=>let⟨l,xs⟩:=q;rw[i]at b;let⟨d,e,r,g,f,s⟩:=b;exact⟨!l,some (Qz g 0),1024,1024,by simp[QC,a,d],by simp[QC,a,e],by simp[QC,a,f],by simp[isOpen]⟩
def gj(T Q n bud m w)(h:Sx T Q n bud m w)(v:n<=4096):
  Calls prog 131 #[J T 0] w λe r=>e=QJ (I (bz m n))/\D w r:=by
 let⟨y,z⟩:=h.c;go_wp2;go_loopw [3,11] (λc i wr=>∃k:Nat,k<=n/\i=I k/\c=I (bz m k)/\D w wr) (λ_ i _=>n-(intOf i).toNat);exact⟨0,aa,rfl,rfl,th⟩
 obtain⟨k,A,rfl,rfl,a⟩:=hrel;by_cases j:k<n
 .let⟨t,p,l,c,d,o,q,_⟩:=(H h).three k j;let d:=NI a d;let o:=NI a o;let q:=NI a q;have u:=lh m k;have⟨f,b⟩:=y7 (show bz m (k+1)=bz m k+(m k).isSome.toNat from rfl) (a.alloc a.size (.cells #[.bool (m k).isSome,.bool t,.slice p l c] 305));generalize bz m k=x at*;cases g:(m k).isSome
  .rw[g]at d f b;go_wp2;go_roundw;(exact⟨k+1,Z,aY,by rw[f];rfl,b⟩);exact QE
  rw[g]at d f b;go_wp2;go_roundw;(exact⟨k+1,Z,aY,by rw[f];rfl,b⟩);exact QE
 have d:k=n:=Z;subst d;have b:=H a;go_wp2;go_ret;exact⟨rfl,b⟩
def Sx.set3(h:Sx T Q n bud m W)(k:Nat)(R:k<n)(v:Option (Bool×List Int))(x y z:QN)(F:∀g j,j<n->j≠k->W.cell? (Qz Q (j*3+2))=some (Vl g 1024 1024)->z≠Vl g 1024 1024)
  (hv:∀(c:Array QN)(W':QM),c[k*3]?=some x->c[k*3+1]?=some y->c[k*3+2]?=some z->(∀g,g≠Q->W'.heap[g]?=W.heap[g]?)->wy W' c k v):
  Sx T Q n bud (dT m k v) (((W.setCell (Qz Q (k*3)) x).setCell (Qz Q (k*3+1)) y).setCell (Qz Q (k*3+2)) z):=by
 let⟨c,p,G,K,s⟩:=h.row;let t:T≠Q:=by intro e;subst e;rw[h.box]at p;simp at p
 refine(let_mvar%?B:=((W.setCell (Qz Q (k*3)) x).setCell (Qz Q (k*3+1)) y).setCell (Qz Q (k*3+2)) z;?_);have w:∀g,g≠Q->(?B).heap[g]?=W.heap[g]?:=by intro g a;rw[XB a,XB a,XB a]
 refine(let_mvar%?A:=((c.setIfInBounds (k*3) x).setIfInBounds (k*3+1) y).setIfInBounds (k*3+2) z;?_);have L:(?B).heap[Q]?=some (.cells ?A 305):=bj (bj (bj p x) y) z;generalize ?B=W' at*;refine⟨(w T t).trans h.box,⟨_,L,by simpa using G,?_,?_⟩,?_⟩
 .intro j u;by_cases e:j=k
  .subst e;rw[bV];refine hv _ _ ?_ ?_ ?_ w;.simp[show j*3<c.size by omega]
   .simp[show j*3+1<c.size by omega]
   simp[show j*3+2<c.size by omega]
  rw[aW m k j v e];let a:=K j u;let q:∀i,i<3->?A[j*3+i]?=c[j*3+i]?:=by intro i b;rw[FK,GO Z,FK,GO Z,FK,GO Z]
  let f:=q 0 Z;let A:=q 1 Z;let b:=q 2 Z;rw[GK]at f;cases B:m j with
  |none=>rw[B]at a;exact⟨f.trans a.1,A.trans a.2.1,b.trans a.2.2⟩
  |some r=>let⟨l,xs⟩:=r;rw[B]at a;let⟨M,N,O,g,P,o⟩:=a;refine⟨f.trans M,A.trans N,O,g,b.trans P,(w g ?_).trans o⟩;intro d;subst d;rw[p]at o;simp at o
 .let q:∀g j,j<n->j≠k->c[j*3+2]?=some (Vl g 1024 1024)->z≠Vl g 1024 1024:=λg j f l a=>F g j f l (by simp[QC,p,a])
  let b:∀j,j<n->j≠k->?A[j*3+2]?=c[j*3+2]?:=by intro j u t;rw[FK,GO Z,FK,GO Z,FK,GO Z]
  let A:?A[k*3+2]?=some z:=by simp[show k*3+2<c.size by omega]
  intro i j g f l a o;by_cases r:i=k
  .by_cases d:j=k;.omega
   subst r;rw[A]at a;rw[b j l d]at o;exact absurd (GB a) (q g j l d o)
  by_cases d:j=k;.subst d;rw[A]at o;rw[b i f r]at a;exact absurd (GB o) (q g i f r a)
  rw[b i f r]at a;rw[b j l d]at o;exact s i j g f l a o
 intro j u;rw[aW m k j v Z];exact h.out j u
def Sx.setByte(h:Sx T Q n bud m W){k g:Nat}(t:k<n){l:Bool}{xs:List Int}(A:m k=some (l,xs))(B:W.cell? (Qz Q (k*3+2))=some (Vl g 1024 1024))(i:Nat)(Y:i<1024)(x:Int):
  Sx T Q n bud (dT m k (some (l,xs.set i x))) (W.setCell (Qz g i) (.int .u8 x)):=by
 let⟨c,q,F,u,a⟩:=h.row;let v:=u k t;rw[A]at v;let⟨G,K,L,f,s,b⟩:=v;let w:c[k*3+2]?=some (Vl g 1024 1024):=by simpa[QC,q]using B
 have M:f=g:=by rw[s]at w;simpa using w
 subst M;have hT:T≠f:=by intro e;subst e;rw[h.box]at b;simp at b
 have N:Q≠f:=by intro e;subst e;rw[q]at b;simp at b
 refine⟨(XB hT).trans h.box,⟨c,(XB N).trans q,F,?_,a⟩,?_⟩
 .intro j o;by_cases e:j=k;.subst e;rw[bV];refine⟨G,K,by simpa using L,f,s,?_⟩;rw[bj b];simp[Ns,List.map_set]
  rw[aW m k j _ e];let p:=u j o;cases d:m j with
  |none=>rw[d]at p;exact p
  |some r=>let⟨l2,O⟩:=r;rw[d]at p;let⟨P,R,S,V,y,X⟩:=p;refine⟨P,R,S,V,y,(XB ?_).trans X⟩;intro z;simp at z;subst z;exact e (a j k _ o t y s)
 intro j o;rw[aW m k j _ Z];exact h.out j o
def ud(T Q n bud m)(a:Nat)(x:Int)(w)(h:Sx T Q n bud m w)(v:n<=4096)(ha:a<18446744073709551616){l:Bool}{xs:List Int}(b:m (a/1024)=some (l,xs)):
  Calls prog 263 #[J T 0,U a,.int .u8 x] w λe i=>e=QJ (.tuple #[])/\Sx T Q n bud (dT m (a/1024) (some (l,xs.set (a%1024) x))) i/\∃g c,w.heap[g]?=some (.cells c 5)/\w.cell? ⟨Q,a/1024*3+2,none⟩=some (Vl g 1024 1024)/\w.grownBy i (some g):=by
 let⟨y,A⟩:=h.c;let j:a/1024<n:=by
  rcases Nat.lt_or_ge (a/1024) n with e|e;.exact e
  rw[h.out _ e]at b;cases b
 let⟨B,F,G,p,q,k,r,s,o⟩:=h.page (a/1024) j;obtain⟨t,g,rfl,d⟩:=o l xs b;let c:a%1024<xs.length:=Z;have u:w.cell? ⟨g,a%1024,none⟩=some (.int .u8 (xs[a%1024]?.getD 0)):=by simp[QC,d,Ns,c]
 let K:w.frozen? ⟨g,a%1024,none⟩=false:=by simp[QD,d]
 let f:=H (IT (h.setByte j b k (a%1024) Z x) (IT d k));generalize xs[a%1024]?.getD 0=z at u;go_wp2;go_end0;exact⟨rfl,f.1,g,_,f.2.1,f.2.2,au (Q6 w g) _ _⟩
def em(c)(w:QM):
  QA 79 #[I c] w λe i=>e=QJ (I (pg c))/\D w i:=by
 have b:=H (dx c);by_cases h:0<=c/\c<12
 .have a:(pg c-1)*1024<4*sz c/\4*sz c<=pg c*1024/\1<=pg c/\pg c<=4:=by rcases fh h with rfl|rfl|rfl|rfl|rfl|rfl|rfl|rfl|rfl|rfl|rfl|rfl<;>decide
  have j:=eJ h;generalize sz c=s at b j a⊢;generalize pg c=p at a⊢;go_enter func79,ntmps79;go_wp2_with fail;apply (b _).mono;rintro e l⟨rfl,d⟩;go_wp2;go_loop [4] (λn=>∃k:Int,1<=k/\k<=p/\n=I k) (λn=>(p-intOf n).toNat);exact⟨1,Z,Z,rfl⟩
  obtain⟨k,o,q,rfl⟩:=hrel;by_cases f:k<p
  .let m:k*1024<4*s:=Z;let g:=a.2.2.2;go_wp2
   go_round
   (exact⟨k+1,Z,Z,rfl⟩);exact QE
  obtain rfl:k=p:=Z;let m:=Z;let g:=a.2.2.2;go_wp2;go_ret;exact⟨rfl,d⟩
 rw[xX h];rw[gP h]at b;go_enter func79,ntmps79;go_wp2_with fail;apply (b _).mono;rintro e l⟨rfl,d⟩;go_wp2;go_ret;exact⟨rfl,d⟩
def gM(c)(w:QM):
  QA 80 #[I c] w λe f=>e=QJ (I (sl c))/\D w f:=by
 have a:=H (dx c);have d:=H (em c);by_cases h:0<=c/\c<12;.have g:=eJ h;have i:=fy h;rw[(kh h).2.2.1];generalize sz c=s at a g⊢;generalize pg c=p at d i⊢;go_enter func80,ntmps80;go_wp2_with fail;apply (a _).mono;rintro e j⟨rfl,b⟩;go_wp2_with fail;apply (d _).mono;rintro e m⟨rfl,k⟩;go_wp2_with fail;apply (a _).mono;rintro e n⟨rfl,l⟩;go_wp2;go_ret;exact⟨rfl,cv b (cv k l)⟩
 rw[xW h];rw[gP h]at a;go_enter func80,ntmps80;go_wp2_with fail;apply (a _).mono;rintro e j⟨rfl,b⟩;go_wp2;go_ret;exact⟨rfl,b⟩
def rp(c:Int):Int:=if 0<=c/\c<12 then 6*(pg c+1)else 0
def ub{c:Int}(h:0<=c/\c<12):rp c=6*(pg c+1):=by simp[rp,GP h]
def sS{c:Int}(h:¬(0<=c/\c<12)):rp c=0:=by simp[rp,GO h]
def tM(c):0<=rp c/\rp c<=30:=by
 by_cases h:0<=c/\c<12;.have:=fy h;rw[ub h];omega
 rw[sS h];omega
def fp:Nat->Int
 |0=>1
 |k+1=>fp k+rp k
def rs(c:Int):Int:=if 0<=c/\c<12 then fp c.toNat else -1
def iU:∀k:Nat,1<=fp k/\fp k<=1+30*k
 |0=>by simp[fp]
 |k+1=>by have:=iU k;have:=tM k;simp[fp];omega
def gp(c w)(a:Tb w):
  Calls prog 212 #[I c] w λe b=>e=QJ (I (pg c+1))/\b=w:=by
 have d:=H (eY c w a);have f:=AO c;generalize pg c=s at d f⊢;go_in;go_wp2_with fail;apply (d).mono;rintro e b⟨rfl,rfl⟩;go_wp2;go_ret;exact QB
def lO(c w)(b:Tb w):
  QA 205 #[I c] w λe a=>e=QJ (I (rp c))/\a=w:=by
 have f:=H (gp c w b);by_cases h:0<=c/\c<12;.have g:=fy h;let d:=H (NR w h);rw[ub h];generalize pg c=s at f g⊢;go_enter func205,ntmps205;go_wp2_with fail;apply (d).mono;rintro e a⟨rfl,rfl⟩;go_wp2_with fail;apply (f).mono;rintro e a⟨rfl,rfl⟩;go_wp2;go_ret;exact QB
 rw[sS h];let d:=H (dY w h);go_enter func205,ntmps205;go_wp2_with fail;apply (d).mono;rintro e a⟨rfl,rfl⟩;go_wp2;go_ret;exact QB
def ib(c)(w:QM):
  QA 135 #[I c] w λe f=>e=QJ (I (rp c))/\D w f:=by
 have a:=H (dx c);have d:=H (em c);by_cases h:0<=c/\c<12;.have g:=eJ h;have i:=fy h;rw[ub h];generalize sz c=s at a g⊢;generalize pg c=p at d i⊢;go_enter func135,ntmps135;go_wp2_with fail;apply (a _).mono;rintro e j⟨rfl,b⟩;go_wp2_with fail;apply (d _).mono;rintro e l⟨rfl,k⟩;go_wp2;go_ret;exact⟨rfl,cv b k⟩
 rw[sS h];rw[gP h]at a;go_enter func135,ntmps135;go_wp2_with fail;apply (a _).mono;rintro e j⟨rfl,b⟩;go_wp2;go_ret;exact⟨rfl,b⟩
def kB{c:Int}(h:0<=c/\c<12):rs c=fp c.toNat:=by simp[rs,GP h]
def se{c:Int}(h:¬(0<=c/\c<12)):rs c = -1:=by simp[rs,GO h]
def NU(c)(w:QM):
  QA 134 #[I c] w λe o=>e=QJ (I (rs c))/\D w o:=by
 have d:=H (dx c);by_cases h:0<=c/\c<12
 .have q:=eJ h;rw[kB h];generalize sz c=s at d q⊢;obtain⟨m,rfl⟩:=Ha h.1;simp[F0];go_enter func134,ntmps134;go_wp2_with fail;apply (d _).mono;rintro e r⟨rfl,f⟩;go_wp2;let u:(s==0)=false:=bG;simp[u];go_loopw [3,4] (λn i wr=>∃k:Nat,k<=m/\i=I k/\n=I (fp k)/\D w wr) (λ_ i _=>m-(intOf i).toNat);exact⟨0,Z,rfl,rfl,(H f)⟩
  obtain⟨k,F,rfl,rfl,g⟩:=hrel;have v:=iU k;by_cases x:k<m
  .have j:=H (show fp (k+1)=fp k+rp (k:Int)from rfl);have y:=tM (k:Int);go_wp2_with fail;apply ((H ib) _ _).mono;rintro e G⟨rfl,l⟩;generalize fp k=a at v j;generalize rp (k:Int)=b at y j;let A:=H (cv (H g) l);go_wp2;go_roundw;(exact⟨k+1,Z,aY,by rw[j],A⟩);exact QE
  obtain rfl:k=m:=Z;go_wp2;go_ret;exact⟨rfl,g⟩
 rw[se h];rw[gP h]at d;go_enter func134,ntmps134;go_wp2_with fail;apply (d _).mono;rintro e r⟨rfl,f⟩;go_wp2;go_ret;exact⟨rfl,f⟩
def pN:fp 12=187:=ar
def gl(w:QM):
  Calls prog 82 #[] w λe c=>e=QJ (I 187)/\D w c:=by
 let d:rs 11=157:=ar;let f:rp 11=30:=ar;let a:Hid (∀w,_):=λw=>NU 11 w
 let b:Hid (∀w,_):=λw=>ib 11 w
 rw[d]at a;rw[f]at b;go_in;go_wp2_with fail;apply (a _).mono;rintro e j⟨rfl,g⟩;go_wp2_with fail;apply (b _).mono;rintro e k⟨rfl,i⟩;go_wp2;go_ret;exact⟨rfl,cv g i⟩
def gn(w:QM):
  Calls prog 83 #[] w λe a=>e=QJ (I 283)/\D w a:=by
 go_in;go_wp2_with fail;apply ((H gl) _).mono;rintro e d⟨rfl,c⟩;go_wp2;go_ret;exact⟨rfl,c⟩
def we(c): -1<=rs c/\rs c<=361:=by
 by_cases h:0<=c/\c<12;.have:=iU c.toNat;rw[kB h];omega
 rw[se h];omega
def jO(c s:Int)(k: -1000<=s)(l:s<=1000)(w:QM):
  Calls prog 78 #[I c,I s] w λe d=>e=QJ (I (rs c+s*(pg c+1)))/\D w d:=by
 have a:=H (NU c);have b:=H (em c);have f:=we c;have g:=AO c;generalize rs c=r at a f⊢;generalize pg c=p at b g⊢;let m: -5000<=s*(p+1)/\s*(p+1)<=5000:=by have:p=0\/p=1\/p=2\/p=3\/p=4:=Z;rcases this with rfl|rfl|rfl|rfl|rfl<;>omega
 go_in;go_wp2_with fail;apply (a _).mono;rintro e n⟨rfl,i⟩;go_wp2_with fail;apply (b _).mono;rintro e o⟨rfl,j⟩;go_wp2;go_ret;exact⟨rfl,cv i j⟩
def gD(c)(w:QM):
  QA 77 #[I c] w λe d=>e=QJ (I (us c))/\D w d:=by
 have a:=H (dx c);by_cases h:0<=c/\c<12;.have f:=eJ h;rw[uj h];generalize sz c=s at a f⊢;go_enter func77,ntmps77;go_wp2_with fail;apply (a _).mono;rintro e g⟨rfl,b⟩;go_wp2_with fail;apply (a _).mono;rintro e j⟨rfl,i⟩;go_wp2;go_ret;exact⟨rfl,cv b i⟩
 rw[sW h];rw[gP h]at a;go_enter func77,ntmps77;go_wp2_with fail;apply (a _).mono;rintro e g⟨rfl,b⟩;go_wp2;go_ret;exact⟨rfl,b⟩
def vG(c w)(b:Tb w):
  QA 210 #[I c] w λe a=>e=QJ (I (us c))/\a=w:=by
 have f:=H (dJ c w b);by_cases h:0<=c/\c<12;.have g:=eJ h;rw[uj h];let d:=H (NR w h);generalize sz c=s at f g⊢;go_enter func210,ntmps210;go_wp2_with fail;apply (d).mono;rintro e a⟨rfl,rfl⟩;go_wp2_with fail;apply (f).mono;rintro e a⟨rfl,rfl⟩;go_wp2;go_ret;exact QB
 rw[sW h];let d:=H (dY w h);go_enter func210,ntmps210;go_wp2_with fail;apply (d).mono;rintro e a⟨rfl,rfl⟩;go_wp2;go_ret;exact QB
def iu(r:Int):Nat->Nat->Int
 |k,0=> -1
 |k,n+1=>if r<=us k then(k:Int)else iu r (k+1) n
def co(r:Int):Int:=iu r 0 12
def ui(c):0<=us c/\us c<=1016:=by
 by_cases h:0<=c/\c<12;.have:=eJ h;rw[uj h];omega
 rw[sW h];omega
def iX(r:Int)(h:1016<r):∀n k,iu r k n = -1
 |0,k=>rfl
 |n+1,k=>by
  have:=ui k
  simp[iu,GO (show¬r<=us (k:Int) by omega)]
  exact iX r h n (k+1)
def sJ(r:Int)(o:0<=r)(p:r<=18446744073709551615)(w:QM):
  Calls prog 256 #[U r] w λe j=>e=QJ (I (co r))/\D w j:=by
 have l:=H gD;go_wp2;go_loopw [3] (λc wr=>∃k:Nat,k<=12/\c=I k/\co r=iu r k (12-k)/\D w wr) (λc _=>12-(intOf c).toNat);exact⟨0,Z,rfl,rfl,th⟩
 obtain⟨k,q,rfl,a,d⟩:=hrel;by_cases m:k<12
 ·have b:12-k=(11-k)+1:=Z;rw[b,iu]at a;have n:=ui (k:Int);have f:=H d;go_wp2_with fail;refine(l _ _).mono ?_;rintro e s⟨rfl,g⟩;generalize us (k:Int)=u at a n⊢;by_cases i:r<=u;·rw[GP i]at a;have b:=H a;go_wp2;go_ret;exact⟨cX b.symm,cv f g⟩
  rw[GO i]at a;have b:=H a;go_wp2;go_roundw;(exact⟨k+1,Z,aY,by rw[b];congr 1;omega,cv f g⟩);exact QE
 obtain rfl:k=12:=Z;have b:=H a;go_wp2;go_ret;exact⟨cX b.symm,d⟩
def CB{k:Nat}(h:k<12):us (k:Int)=vN.getD k 0-8:=by rw[uj ⟨Z,Z⟩,s_ h]
def lV(r:Int)(h:1016<r)(w:QM):
  Calls prog 152 #[U r] w λe a=>e=QJ (I (co r))/\a=w:=by
 rw[show co r = -1 from iX r h 12 0];go_wp2;go_ret;exact QB
def rx(w:QM)(A:Array QN)(k:Nat){v:QN}(a:k<12)(h:A[k]?=some v):(Instr.index 323 (.agg A) (I k)).run prog w=.ok v w:=by simp[Instr.index,run_underlying underlying323,asIntOf,a,go_sem,h]
def NV(r:Int)(p:0<=r)(h:r<=1016)(w)(g:Tb w):
  Calls prog 152 #[U r] w λe n=>e=QJ (I (co r))/\n=w:=by
 have⟨t,o,j⟩:=g.row;go_in;go_wp2_with (refine Rl rfl 323 _ rfl 2 rfl t _ o _ j underlying323 rfl E ?_);go_loop [8] (λi=>∃k:Nat,k<=12/\i=I k/\co r=iu r k (12-k)) (λi=>12-(intOf i).toNat);exact⟨0,Z,rfl,rfl⟩
 obtain⟨k,q,rfl,a⟩:=hrel;by_cases b:k<12
 ·have l:12-k=(11-k)+1:=Z;rw[l,iu,CB b]at a;have d:(List.map (λz=>Value.int IntKind.i64 z) vN).toArray[k]?=some (I (vN.getD k 0)):=by have f:k<vN.length:=b;simp[Fy f]
  have m:=eJ (c:=(k:Int)) ⟨Z,Z⟩;rw[s_ b]at m;clear j g l;generalize vN.getD k 0=u at a m d;generalize (List.map (λz=>Value.int IntKind.i64 z) vN).toArray=A at d⊢;have l:=rx w A k b d;clear d;by_cases s:r+8<=u;·rw[GP Z]at a;have d:=H a;clear a;go_wp2;go_ret;exact⟨cX d.symm,rfl⟩
  rw[GO Z]at a;have d:=H a;clear a;go_wp2
  go_round
  (exact⟨k+1,Z,aY,by rw[d];congr 1;omega⟩);exact QE
 obtain rfl:k=12:=Z;have d:=H a;clear a;go_wp2;go_ret;exact⟨cX d.symm,rfl⟩
def lB(r:Int)(a:0<=r)(w)(b:Tb w):
  QA 152 #[U r] w λe c=>e=QJ (I (co r))/\c=w:=by
 by_cases h:1016<r;.exact lV r h w
 exact NV r a Z w b
