import Derived.BigQuiet
import Derived.OpenShut
import Derived.ProofKit
import Derived.Shelf.Bits.Mul64
import Derived.Test.YtdngbppdomoenaaGreatDoorProg
import Derived.WalkLawsBesides
set_option linter.unusedVariables false
set_option linter.unusedSimpArgs false
set_option maxRecDepth 20000
set_option maxHeartbeats 8000000
namespace Go.Proofs.YtdngbppdomoenaaGreatDoor
open Go.Proofs.Tryz
variable {W W1 W2 a w w':World} {M S b cap g i k:Nat} {e:TypeId} {xs:List Value} {bud n st:Int} {zs:List Int} {v:Value} {f:Nat->Option Nat} {m:Nat->Option (Bool×List Int)}
section
open Go.RowKit Go
abbrev Fu:=@Below.refl
abbrev Fv:=@Nat.le_refl
abbrev Fw:=@List.setIfInBounds_toArray
abbrev Fx:=@Nat.le_trans
abbrev Fy:=@List.getElem?_eq_getElem
abbrev Fz:=@List.getElem?_eq_some_iff
abbrev FA:=@List.set_cons_zero
abbrev FB:=@List.set_cons_succ
abbrev FC:=@List.length_append
abbrev FD:=@Array.getElem?_modify
abbrev FG:=@Nat.lt_of_lt_of_le
abbrev FH:=@Nat.zero_le
abbrev FJ:=@List.getElem?_eq_none
abbrev FK:=@Array.getElem?_setIfInBounds
abbrev FM:=@List.mem_of_getElem?
abbrev FN:=@List.length_cons
abbrev FO:=@Array.replicate_zero
abbrev FP:=@Array.replicate_succ
abbrev FQ:=@List.mem_map
abbrev FV:=@List.nil_append
abbrev FX:=@List.size_toArray
abbrev FY:=@List.push_toArray
abbrev F0:=@Int.toNat_natCast
abbrev F1:=@List.length_nil
abbrev F4:=@List.mem_cons
abbrev F5:=@List.cons_append
abbrev F8:=@List.mem_append
abbrev F_:=@List.take_add_one
abbrev Ga:=@List.getElem?_append_left
abbrev Gb:=@Nat.zero_add
abbrev Gc:=@List.length_replicate
abbrev Ge:=@List.take_of_length_le
abbrev Gf:=@wpList_store_row
abbrev Gg:=@Array.getElem?_toList
abbrev Gh:=@List.mem_range
abbrev Gi:=@Bool.and_eq_true
abbrev Gj:=@List.length_set
abbrev Gk:=@List.mem_filter
abbrev Gl:=@List.append_nil
abbrev Gm:=@Nat.mul_le_mul_right
abbrev Gn:=@List.getElem?_append_right
abbrev Gp:=@List.not_mem_nil
abbrev Gq:=@results_cell_row
abbrev Gr:=@List.getElem?_set
abbrev Gs:=@List.range_succ
abbrev Gt:=@wpList_load_row
abbrev Gu:=@List.flatMap_append
abbrev Gv:=@List.getElem?_map
abbrev Gx:=@List.getElem?_take
abbrev Gy:=@Nat.add_mul
abbrev Gz:=@List.length_map
abbrev GB:=@Option.some.inj
abbrev GF:=@Nat.one_mul
abbrev GG:=@List.length_range
abbrev GH:=@Int.tmod_eq_emod_of_nonneg
abbrev GI:=@List.nodup_cons
abbrev GJ:=@List.append_assoc
abbrev GK:=@Nat.add_zero
abbrev GL:=@Nat.mul_comm
abbrev GO:=@if_neg
abbrev GP:=@if_pos
abbrev GQ:=@Below.heap_setCell
abbrev GR:=@decide_eq_false
abbrev GT:=@cell_of_row
abbrev GW:=@Calls.quiet_of_same
abbrev GX:=@bodyPost_ret
abbrev GY:=@frozen_of_row
abbrev GZ:=@World.grownBy_alloc
abbrev G0:=@info_parts
abbrev G8:=@decide_eq_true
abbrev G9:=@List.take_length
abbrev G_:=@lt_of_block
abbrev Ha:=@Int.eq_ofNat_of_zero_le
abbrev Hb:=@List.length_filter_le
abbrev Hc:=@wp_loop_rounds
abbrev Hd:=@Array.getElem?_eq_none
abbrev He:=@List.getElem?_of_mem
abbrev Hf:=@List.getElem?_take_of_lt
abbrev Hh:=@IntKind.wrap_i64
abbrev Hi:=@Option.map_some
abbrev Hj:=@decide_eq_true_eq
abbrev Hk:=@Option.some.injEq
abbrev Hl:=@List.filter_append
abbrev Hm:=@List.length_take
abbrev Hn:=@List.filter_cons_of_pos
abbrev Ho:=@List.ext_getElem?
abbrev Hq:=@MapKept.heap_alloc
abbrev Hr:=@List.map_append
abbrev Ht:=@Option.getD_some
abbrev Hu:=@rounds_succ
abbrev Hv:=@Mul64.wrapN
abbrev Hw:=@Array.getElem?_eq_getElem
abbrev Hy:=@Value.int.injEq
abbrev Hz:=@Nat.min_eq_left
abbrev H4:=@Nat.mod_eq_of_lt
abbrev H_:=@Nat.add_assoc
abbrev Ia:=@run_append_own
abbrev Ib:=@wpList_append_own
abbrev Ic:=@heap_setCell_same
abbrev Ie:=@Nat.lt_trichotomy
abbrev If:=@List.flatMap_cons
abbrev Ig:=@Int.tdiv_eq_ediv_of_nonneg
abbrev Ih:=@wp_store_row
abbrev Ii:=@toList_madeCells_one
abbrev Ij:=@List.mem_cons_of_mem
abbrev Ik:=@List.eq_nil_of_length_eq_zero
abbrev Il:=@List.filter_eq_self
abbrev Io:=@World.cell?_setCell_other
abbrev Ip:=@List.mem_of_find?_eq_some
abbrev Iq:=@Ne.symm
abbrev Ir:=@results_none
abbrev Is:=@List.pairwise_append
abbrev It:=@List.map_cons
abbrev Iu:=@List.find?_range_eq_some
abbrev Iv:=@List.append_toArray
abbrev Iw:=@List.getElem_mem
abbrev Ix:=@List.filter_cons_of_neg
abbrev Iy:=@leaves_cons
abbrev Iz:=@List.take_append_of_le_length
abbrev IA:=@wpList_plain
abbrev IB:=@Int.emod_lt_of_pos
abbrev IC:=@List.filter_eq_nil_iff
abbrev ID:=@Nat.lt_irrefl
abbrev IE:=@List.drop_zero
abbrev IF:=@List.mem_append_left
abbrev IG:=@WalkArith.wf_i64
abbrev II:=@List.pairwise_iff_getElem
abbrev IJ:=@Nat.mul_le_mul_left
abbrev IK:=@Int.toNat_of_nonneg
abbrev IL:=@if_false
abbrev IM:=@if_true
abbrev CT:=@Lib.half_mul_le
abbrev IP:=@Int.emod_nonneg
abbrev IQ:=@Option.toList_some
abbrev IR:=@List.getElem?_drop
abbrev IS:=@Bool.true_eq_false
abbrev IT:=@And.intro
end
section
open Go.RowKit
abbrev D (a b:World):Prop:=Below a.heap.size a b
end
section
open Go.RowKit Go
theorem bG {p:Prop} (h:p:=by simp;omega):p:=h
theorem Z {p:Prop} (h:p:=by omega):p:=h
theorem E {p:Prop} (h:p:=by kernel_rfl):p:=h
theorem aY {p:Prop} (h:p:=by go_num):p:=h
theorem ar {p:Prop} (h:p:=by decide):p:=h
theorem bH {p:Prop} (h:p:=by simp):p:=h
theorem dU {p:Prop} (h:p:=by rfl):p:=h
theorem mL {p:Prop} (h:p:=by simp [Value.oneCell']):p:=h
theorem iM {p:Prop} (h:p:=by dsimp only;omega):p:=h
theorem bJ {w:World} {g j t:Nat} {a:Array Value} {b:Nat×Nat} {v:Value} (c:w.heap[g]?=some (.cells a t b)) (e:a[j]?=some v:=by rfl):w.cell? ⟨g,j,none⟩=some v:=(GT _ _ _ _ _ _ c).trans e
theorem AV {P:Program} {e:Func} {p:Tmp} {b:TypeId} {a:Array Value} {w:World} {g t:Nat} {c:Array Value} {f:Nat×Nat} {d:TypeDesc} (i:w.heap[g]?=some (.cells c t f)) (j:P.underlying b=some d) (h:e.results=#[.cell p b]:=by rfl) (k:a.getD p undef=.pointer (some ⟨g,0,none⟩):=by rfl) (l:(match d with|.struct _|.array _ _=>true|_=>false)=true:=by rfl) (m:(P.info? b).map (·.size)=some c.size:=by kernel_rfl):(results e a).run P w=.ok (.agg c) w:=Gq h _ _ _ _ _ _ _ k i j l m
theorem fM {P:Program} {e:Func} {p:Tmp} {b:TypeId} {R:Ending->World->Prop} {a:Act} {w:World} {g t:Nat} {c:Array Value} {f:Nat×Nat} {d:TypeDesc} (i:w.heap[g]?=some (.cells c t f)) (j:P.underlying b=some d) (k:R (.returned (.agg c)) w) (h:e.results=#[.cell p b]:=by rfl) (l:a.tmps.getD p undef=.pointer (some ⟨g,0,none⟩):=by rfl) (m:(match d with|.struct _|.array _ _=>true|_=>false)=true:=by rfl) (n:(P.info? b).map (·.size)=some c.size:=by kernel_rfl) (o:a.defers=[]:=by rfl):bodyPost P e R .ret a w:=GX (Gq h _ _ _ _ _ _ _ l i j m n) o k
theorem eG {P:Program} {ops:Array Oper} {rest:List Oper} {o:Oper} {a:Act} {w:World} {Q:Exit->Act->World->Prop} {e:TypeId} {x y:Operand} {g:Nat} {b:Array Value} {t:TypeId} {c:Array Value} (i:w.heap[g]?=some (.cells c t (0,0))) (h:wpList P ops Q rest (a.put o.dst undef) (w.setRow g b)) (f:o.guard=none:=by rfl) (j:o.op=.store e x y:=by with_reducible rfl) (k:a.eval x=.pointer (some ⟨g,0,none⟩):=by rfl) (l:a.eval y=.agg b:=by rfl) (m:(P.info? e).map (·.size)=some b.size:=by kernel_rfl) (d:c.size=b.size:=by rfl) (n:b.all (·.oneCell')=true:=by simp [Value.oneCell']):wpList P ops Q (o::rest) a w:=Gf f e x y j g b k l t c i m d n h
end
abbrev I (x:Int):Value:=.int .i64 x
abbrev U (x:Int):Value:=.int .u64 x
abbrev J (g i:Nat):Value:=.pointer (some ⟨g,i,none⟩)
abbrev Vl (g n c:Nat):Value:=.slice (some ⟨g,0,none⟩) n c
abbrev C:Value:=.slice none 0 0
section
open Go.ChangeShapes Go.WideShapes Go.ChangeAt Go.RowKit
theorem H {p:Prop} (h:p):Hid p:=h
theorem cX {k:IntKind} {a b:Int} (h:a=b):Ending.returned (.int k a)=.returned (.int k b):=by rw [h]
theorem cQ {a b:Bool} (h:a=b):Ending.returned (.bool a)=.returned (.bool b):=by rw [h]
theorem qb {k:IntKind} {a b:Int} (h:a=b):Value.int k a=.int k b:=by rw [h]
def RowV (w:World) (g:Nat) (e:TypeId) (xs:List Value):Prop :=
 ∃ c:Array Value,w.heap[g]?=some (.cells c e)/\xs.length<=c.size/\∀ i,i<xs.length->c[i]?=xs[i]?
theorem RowV.lt (h:RowV w g e xs):g<w.heap.size:=by
 obtain⟨c,a,_⟩:=h;exact G_ a
theorem RowV.cell {w g e xs} (h:RowV w g e xs) (i:Nat) (a:i<xs.length):w.cell? ⟨g,i,none⟩=xs[i]?:=by
 obtain⟨c,b,_,d⟩:=h;simp [World.cell?,b,d i a]
theorem RowV.free (h:RowV w g e xs) (i:Nat):w.frozen? ⟨g,i,none⟩=false:=by
 obtain⟨c,a,_⟩:=h;simp [World.frozen?,a]
theorem RowV.below {B:Nat} (h:RowV w g e xs) (a:Below B w w') (b:g<B):RowV w' g e xs:=by
 obtain⟨c,d,f⟩:=h;exact⟨c,by rw [a.block g b];exact d,f⟩
theorem RowV.drew {w g e xs} (h:RowV w g e xs):RowV w.drew g e xs:=h
theorem RowV.set {w g e xs} (h:RowV w g e xs) (i:Nat) (b:i<xs.length) (v:Value):RowV (w.setCell ⟨g,i,none⟩ v) g e (xs.set i v):=by
 obtain⟨c,d,f,k⟩:=h;refine⟨c.setIfInBounds i v,?_,by simpa using f,?_⟩;·simp [World.setCell,FD,d]
 intro j a;simp at a;rw [FK,Gr];by_cases e:i=j;·subst e;simp [b,show i<c.size by omega]
 simp [e,k j a]
theorem RowV.other (h:RowV w g e xs) {p:Addr} (a:g≠p.block) (v:Value):RowV (w.setCell p v) g e xs:=by
 obtain⟨c,b,d⟩:=h;exact⟨c,by rw [GQ _ _ _ _ a];exact b,d⟩
theorem RowV.grown {b:Nat} (h:RowV w g e xs) (f:w.grownBy w' (some b)) (a:g≠b):RowV w' g e xs:=by
 obtain⟨c,d,i⟩:=h;exact⟨c,by rw [f.block g (G_ d) (by simpa using a)];exact d,i⟩
theorem RowV.ofOwns {n base:Nat} (h:w.ownsRow base e 1 (Vl g n cap) n xs):RowV w g e xs:=by
 obtain⟨l,a⟩:=h;rcases a with a|⟨m,c,b,d,o,f,p,q,r,j⟩;·simp at a
 simp at d;obtain⟨rfl,rfl⟩:=d;subst j;refine⟨b,f,bG,?_⟩;intro i k;simp at k;simp [Gx];omega
def Ns (k:IntKind) (zs:List Int):List Value:=zs.map (Value.int k)
theorem bv (k zs):(Ns k zs).length=zs.length:=by simp [Ns]
theorem wQ (k zs) (i:Nat) (v:Int):(Ns k zs).set i (.int k v)=Ns k (zs.set i v):=by simp [Ns,List.map_set]
theorem jZ {k} (h:RowV w g e (Ns k zs)) (i:Nat) (a:i<zs.length):w.cell? ⟨g,i,none⟩=some (.int k (zs[i]?.getD 0)):=by
 rw [h.cell i (by simpa [Ns] using a)];simp [Ns,a]
theorem getD_some (zs:List Int) (k:Nat) (h:k<zs.length):zs[k]?=some (zs[k]?.getD 0):=by simp [h]
def IsRow (k:IntKind) (w:World) (a:Option Addr) (len cap:Nat) (zs:List Int):Prop :=
 (a=none/\len=0/\cap=0/\zs=[]) \/
 ∃ x,a=some x/\len<=cap/\cap<=maxLen/\zs.length=cap/\(∀ i,i<zs.length->w.cell? (x.add i)=some (.int k (zs.getD i 0)))/\∀ n∈zs,(Lit.int k n).wf=true
theorem ad (a:D w w') {x:Addr} (h:w.cell? x=some v):w'.cell? x=some v:=by
 have b:x.block<w.heap.size:=by
  unfold World.cell? at h;split at h;·rename_i c;exact G_ c
  cases h
 rw [a.cell b];exact h
theorem IsRow.below {k a len} (h:IsRow k w a len cap zs) (b:D w w'):IsRow k w' a len cap zs:=by
 rcases h with h|⟨x,c,d,e,f,g,j⟩;·exact .inl h
 exact .inr ⟨x,c,d,e,f,λi l=>ad b (g i l),j⟩
theorem IsRow.len {k a len} (h:IsRow k w a len cap zs):(zs.take len).length=len:=by
 rcases h with ⟨_,rfl,_,rfl⟩|⟨x,b,c,d,e,f,g⟩;·simp
 simp;omega
theorem az {b c} (d:D a b) (e:D b c):D a c:=d.trans (e.mono d.size)
def Agree {α:Type} (ys zs:List α) (k:Nat):Prop:=ys.length=zs.length/\∀ j,j<k->ys[j]?=zs[j]?
theorem Agree.zero {α:Type} {a zs:List α} (h:a.length=zs.length):Agree a zs 0:=⟨h,λj b=>Z⟩
theorem Agree.succ {α:Type} {a zs:List α} (h:Agree a zs k) (b:k<zs.length) (v:α) (c:zs[k]?=some v):Agree (a.set k v) zs (k+1):=by
 refine⟨by simp [h.1],λj d=>?_⟩;rw [Gr];by_cases e:k=j;·subst e;simp [h.1,b] at *;exact c.symm
 rw [GO e];exact h.2 j Z
theorem Agree.all {α:Type} {a zs:List α} (h:Agree a zs k) (c:zs.length<=k):a=zs:=by
 apply Ho;intro j;by_cases b:j<k;·exact h.2 j b
 rw [FJ (by have:=h.1;omega),FJ Z]
theorem al (w:World) (g:Nat):w.grownBy w (some g):=⟨rfl,rfl,rfl,Fv _,λ_ _ _=>rfl⟩
theorem au {b:World} (h:w.grownBy b (some g)) (i:Nat) (v:Value):w.grownBy (b.setCell ⟨g,i,none⟩ v) (some g) :=
 ⟨h.os,h.tape,h.output,by simp [World.setCell];exact h.size,λk c a=>by
  rw [GQ _ _ _ _ (by intro e;exact a (by rw [e]))];exact h.block k c a⟩
theorem rW {a:World} {g:Option Nat} (h:W.grownBy a g):W.grownBy a.drew g:=⟨h.os,h.tape,h.output,h.size,h.block⟩
theorem below_grown (h:D a w) (b:w.grownBy w' (some g)) (c:a.heap.size<=g):D a w' :=
 h.grown b h.size (λk e=>by cases e;exact c)
end
section
open Go.ChangeShapes Go.WideShapes Go.ChangeAt Go.RowKit Go.Maps
def ev:Value->Option (DataW Unit×List MemPlace)
 | .pointer (some ⟨b,0,none⟩)=>some (.lit (.int .i64 b),[])
 | .pointer none=>some (.nil,[])
 | _=>none
theorem ol (b:Nat):ev (.pointer (some ⟨b,0,none⟩))=some (.lit (.int .i64 b),[]):=rfl
theorem hF {z:DataW Unit×List MemPlace} (h:ev v=some z):(∃ b:Nat,v=.pointer (some ⟨b,0,none⟩)/\z=(.lit (.int .i64 b),[]))\/(v=.pointer none/\z=(.nil,[])):=by
 unfold ev at h;split at h;·left;exact⟨_,rfl,by simpa using h.symm⟩
 ·right;exact⟨rfl,by simpa using h.symm⟩
 cases h
def sG:Option Nat->DataW Unit
 | some b=>.lit (.int .i64 b)
 | none=>.nil
def bm (f:Nat->Option Nat) (first:Nat):Nat->Nat
 | 0=>0
 | k+1=>bm f first k+(f (first+k)).isSome.toNat
theorem ep (f first):∀ k,bm f first k<=k
 | 0=>Fv _
 | k+1=>by have:=ep f first k;have a:=Bool.toNat_le (f (first+k)).isSome;simp only [bm];omega
def upd (f:Nat->Option Nat) (k:Nat) (v:Option Nat):Nat->Option Nat:=λj=>if j=k then v else f j
theorem upd_same (f k v):upd f k v k=v:=by simp [upd]
theorem aI (f) (k j:Nat) (v) (h:j≠k):upd f k v j=f j:=by simp [upd,h]
theorem iR (f) (k:Nat) (v) (first:Nat):∀ N,k<first\/first+N<=k->bm (upd f k v) first N=bm f first N
 | 0,_=>rfl
 | N+1,h=>by
  simp only [bm]
  rw [iR f k v first N Z,aI f k _ v Z]
theorem j_ (f) (k:Nat) (v) (first:Nat):∀ N,first<=k->k<first+N->bm (upd f k v) first N+(f k).isSome.toNat=bm f first N+v.isSome.toNat
 | 0,h,a=>by omega
 | N+1,h,a=>by
  simp only [bm]
  by_cases e:k=first+N
  ·subst e
   rw [iR f _ v first N Z,upd_same]
   omega
  have:=j_ f k v first N h Z
  rw [aI f k (first+N) v Z]
  omega
structure Im (S M:Nat) (st n bud:Int) (f:Nat->Option Nat) (W:World):Prop where
 box:W.heap[S]?=some (.cells #[.int .i32 st,.int .u32 0,.int .i64 n,.int .i64 bud,.map (some M)] 162)
 map:∃ D:DataW Unit,W.ownsMap prog 3 ev M 4096 D/\Maps.size D=bm f 0 4096/\(∀ k:Nat,k<4611686018427387904->D.atKey (.int .i64 k) .nil=sG (f k))/\∀ k:Nat,k<4611686018427387904->has D (.int .i64 k)=(f k).isSome
theorem g_:Keyed prog 3:=int_keyed underlying3
theorem A_ (w:World):(zeroValue 191).run prog w=.ok (.pointer none) w:=E
theorem Bo (k:Nat) (h:k<4611686018427387904):keyOf prog 3 (.int .i64 k)=some (.int .i64 k):=keyOf_int_mk underlying3 (IG Z)
theorem Im.look (h:Im S M st n bud f W) (k:Nat) (j:k<4611686018427387904) :
  (Instr.lookup 153 (.map (some M)) (.int .i64 k) false).run prog W=.ok (.pointer ((f k).map λb=>⟨b,0,none⟩)) W:=by
 obtain⟨a,d,_,i,_⟩:=h.map;obtain⟨v,ps,e,l⟩:=d.lookup g_ underlying153 (A_ W) (show ev (.pointer none)=some (.nil,[]) from rfl) (Bo k j);rw [i k j] at l;rw [e];rcases hF l with ⟨b,rfl,c⟩|⟨rfl,c⟩
 ·cases g:f k with
  | none=>rw [g] at c;simp [sG] at c
  | some m =>
   rw [g] at c;simp [sG] at c;have:m=b:=Z;subst this;rfl
 cases g:f k with
 | none=>rfl
 | some m=>rw [g] at c;simp [sG] at c
theorem Im.c (h:Im S M st n bud f W) :
  W.cell? ⟨S,0,none⟩=some (.int .i32 st)/\W.cell? ⟨S,2,none⟩=some (I n)/\W.cell? ⟨S,3,none⟩=some (I bud)/\W.cell? ⟨S,4,none⟩=some (.map (some M)):=by
 have a:=h.box;simp [World.cell?,a]
theorem ef (S M st n bud f) (first a:Nat) (w) (h:Im S M st n bud f w) (p:first<=4096) (q:a<=4096) :
  Calls prog 227 #[J S 0,I first,I a] w λe w'=>e=.returned (I (bm f first a))/\w'=w:=by
 obtain⟨_,_,_,r⟩:=h.c;have l:=H h;clear h;go_enter func227,ntmps227;go_wp2;go_loop [7,8,10] (λc _ i=>∃ k:Nat,k<=a/\i=I k/\c=I (bm f first k)) (λ_ _ i=>a-(intOf i).toNat);case atStart=>exact ⟨0,FH _,rfl,rfl⟩
 case round =>
  obtain⟨k,s,rfl,rfl⟩:=hrel;by_cases m:k<a
  ·have d:=l.look (first+k) Z;have g:((first+k:Nat):Int)=(first:Int)+(k:Int):=Z;rw [g] at d;clear g;have o:=ep f first k
   have g:=H (show bm f first (k+1)=bm f first k+(f (first+k)).isSome.toNat from rfl);generalize bm f first k=c at *
   cases j:f (first+k) with
   | none =>
    rw [j] at d g;simp only [Option.map_none] at d;clear j;go_wp2
    go_round
    (case rel=>exact ⟨k+1,Z,aY,by rw [g.out];rfl⟩);case measure=>simp [intOf];omega
   | some b =>
    rw [j] at d g;simp only [Hi] at d;clear j;go_wp2
    go_round
    (case rel=>exact ⟨k+1,Z,aY,by rw [g.out];rfl⟩);case measure=>simp [intOf];omega
  have d:k=a:=Z;subst d;go_wp2;go_ret;exact⟨rfl,rfl⟩
def bI (n first e:Int):Bool:=decide (1<=e/\0<=first/\e<=n-first)
theorem c_ (S M st n bud f) (first:Int) (count w) (h:Im S M st n bud f w) (b:0<=n) (a:n<=4096) (c:first<=9223372036854775807) :
  Calls prog 226 #[J S 0,I first,I count] w λe w'=>e=.returned (.bool (bI n first count))/\w'=w:=by
 obtain⟨_,d,_,_⟩:=h.c;clear h;by_cases g:1<=count
 ·by_cases i:0<=first
  ·by_cases j:count<=n-first
   ·go_enter func226,ntmps226;go_wp2;go_ret;exact⟨cQ (by simp [bI];omega),rfl⟩
   go_enter func226,ntmps226;go_wp2;go_ret;exact⟨cQ (by simp [bI];omega),rfl⟩
  go_enter func226,ntmps226;go_wp2;go_ret;exact⟨cQ (by simp [bI];omega),rfl⟩
 go_enter func226,ntmps226;go_wp2;go_ret;exact⟨cQ (by simp [bI];omega),rfl⟩
theorem tight {n:Nat} {a:DataW Unit} {R:Value->Option (DataW Unit×List MemPlace)} (h:W.ownsMap prog 3 R b n a) {d:Nat} (e:Maps.size a<=d):W.ownsMap prog 3 R b d a:=by
 obtain⟨f,c,g,F,i,rfl⟩:=h;exact⟨f,c,g,F,by simpa [Maps.size,length_sorted] using e,rfl⟩
theorem dQ (h:w.mapTurned w' M) (a:b≠M):w'.heap[b]?=w.heap[b]?:=by
 obtain⟨f,c,d,g,e,rfl⟩:=h;exact ChangeMaps.heap_setBlock_other e _ a
theorem Im.ne (h:Im S M st n bud f W):S≠M:=by
 intro e;subst e;obtain⟨a,⟨d,c,b,_⟩,_⟩:=h.map;rw [h.box] at b;cases b
theorem oR {j:Nat} (h:j≠k):(Lit.int .i64 (j:Int))≠.int .i64 (k:Int):=by
 intro e;injection e with _ e;omega
theorem Im.del {S M st n bud f W} (h:Im S M st n bud f W) (k:Nat) (s:k<4096) (o:TypeId) :
  ∃ g,(Builtin.delete_ #[153,3] o #[.map (some M),.int .i64 k]).run prog W=.ok (.tuple #[]) g/\Im S M st n bud (upd f k none) g/\W.mapTurned g M:=by
 obtain⟨a,b,q,l,c⟩:=h.map;obtain⟨g,i,d,p⟩:=b.drop g_ underlying153 (Bo k Z) o;refine⟨g,i,⟨by rw [dQ p h.ne];exact h.box,a.del (.int .i64 k),d,?_,?_,?_⟩,p⟩
 ·have j:=Maps.size_del (k:=.int .i64 k) (b.tidy g_);have m:=j_ f k none 0 4096 Z Z;rw [c k Z] at j;cases r:f k <;> rw [r] at j m <;> simp at j m <;> omega
 ·intro j m;by_cases e:j=k;·subst e;rw [Maps.atKey_del_same,upd_same];rfl
  rw [Maps.atKey_del_other (oR e),aI f k j _ e];exact l j m
 intro j m;by_cases e:j=k;·subst e;rw [Maps.has_del_same,upd_same];rfl
 rw [Maps.has_del_other (oR e),aI f k j _ e];exact c j m
theorem Im.put {S M st n bud f W} (h:Im S M st n bud f W) (k b:Nat) (u:k<4096) :
  ∃ l,(Instr.mapUpdate 153 (.map (some M)) (.int .i64 k) (.pointer (some ⟨b,0,none⟩))).run prog W=.ok () l/\Im S M st n bud (upd f k (some b)) l/\W.mapTurned l M:=by
 obtain⟨a,c,s,o,d⟩:=h.map;obtain⟨l,m,i,q⟩:=c.store g_ underlying153 ar (Bo k Z) (ol b);have g:WideAt.IsKeyLit (.int .i64 (k:Int)):=by simp [WideAt.IsKeyLit]
 have r:Maps.size (a.put (.int .i64 k) (.lit (.int .i64 b)))=bm (upd f k (some b)) 0 4096:=by
  have j:=Maps.size_put (k:=.int .i64 k) (c.tidy g_) (.lit (.int .i64 b));have p:=j_ f k (some b) 0 4096 Z Z;rw [d k Z] at j;cases t:f k <;> rw [t] at j p <;> simp at j p <;> omega
 refine⟨l,m,⟨by rw [dQ q h.ne];exact h.box,_,tight i (by rw [r];exact ep _ _ _),r,?_,?_⟩,q⟩
 ·intro j p;by_cases e:j=k;·subst e;rw [Maps.atKey_put_same c.isMap g,upd_same];rfl
  rw [Maps.atKey_put_other (oR e),aI f k j _ e];exact o j p
 intro j p;by_cases e:j=k;·subst e;rw [Maps.has_put_same c.isMap g,upd_same];rfl
 rw [Maps.has_put_other (oR e),aI f k j _ e];exact d j p
theorem Im.len {S M st n bud f W} (h:Im S M st n bud f W) (d:TypeId) :
  (Builtin.len_ #[153] d #[.map (some M)]).run prog W=.ok (I (bm f 0 4096)) W:=by
 obtain⟨a,b,c,_⟩:=h.map;rw [b.len underlying153 d,c]
section
variable {ops:Array Oper} {rest:List Oper} {o:Oper} {a:Act} {Q:Exit->Act->World->Prop}
theorem jD (w) (e:o.guard=none) (m x:Operand) (c:o.op=Op.call { callee:=Callee.builtin Builtin.delete,args:=#[m,x],argTypes:=#[153,3] }) (h:Im S M st n bud f w) (k:Nat) (g:k<4096) (i:a.eval m=.map (some M)) (j:a.eval x=I k) (l:∀ w',Im S M st n bud (upd f k none) w'->w.mapTurned w' M->wpList prog ops Q rest (a.put o.dst (.tuple #[])) w') :
  wpList prog ops Q (o::rest) a w:=by
 refine IA e λK' d=>?_;obtain⟨w',b,p,q⟩:=h.del k g o.type;unfold Oper.wp;simp [execOp,c,resolve,invoke,builtin,i,j,b,Result.andThen];exact d _ _ (l w' p q)
theorem nd (w) (g:o.guard=none) (m x v:Operand) (d:o.op=Op.mapUpdate 153 m x v) (h:Im S M st n bud f w) (k:Nat) (b) (i:k<4096) (j:a.eval m=.map (some M)) (l:a.eval x=I k) (p:a.eval v=J b 0) (q:∀ w',Im S M st n bud (upd f k (some b)) w'->w.mapTurned w' M->wpList prog ops Q rest (a.put o.dst undef) w') :
  wpList prog ops Q (o::rest) a w:=by
 refine IA g λK' e=>?_;obtain⟨w',c,r,s⟩:=h.put k b i;unfold Oper.wp;simp [execOp,d,j,l,p,c,Result.andThen];exact e _ _ (q w' r s)
theorem nj (w) (d:o.guard=none) (m:Operand) (b:o.op=Op.call { callee:=Callee.builtin Builtin.len,args:=#[m],argTypes:=#[153] }) (h:Im S M st n bud f w) (e:a.eval m=.map (some M)) (g:wpList prog ops Q rest (a.put o.dst (I (bm f 0 4096))) w) :
  wpList prog ops Q (o::rest) a w:=by
 refine IA d λK' c=>?_;unfold Oper.wp;simp [execOp,b,resolve,invoke,builtin,e,h.len o.type,Result.andThen];exact c _ _ g
end
def without (f:Nat->Option Nat) (first:Nat):Nat->(Nat->Option Nat)
 | 0=>f
 | k+1=>upd (without f first k) (first+k) none
theorem turned_refl (h:Im S M st n bud f W):W.mapTurned W M:=by
 obtain⟨a,b,_⟩:=h.map;exact b.turned_refl
theorem rL (S M st n bud f) (first:Int) (count w) (h:Im S M st n bud f w) (d:0<=n) (b:n<=4096) (g:first<=9223372036854775807) (a:bI n first count=false) :
  Calls prog 179 #[J S 0,I first,I count] w λe w'=>e=.returned (I 6)/\w'=w:=by
 have c:=H (c_ S M st n bud f first count w h d b g);rw [a] at c;clear a h;go_enter func179,ntmps179;go_wp2_with fail;refine c.mono ?_;rintro _ _ ⟨rfl,rfl⟩;go_wp2_with fail;go_ret;exact⟨rfl,rfl⟩
theorem ni (S M st n bud f) (first a g:Nat) (w) (h:Im S M st n bud f w) (k:0<=n) (d:n<=4096) (b:bI n first a=true) (c:bm f first a=g) (l:g<a) :
  Calls prog 179 #[J S 0,I first,I a] w λe w'=>e=.returned (I 6)/\w'=w:=by
 have m:1<=a/\first+a<=4096:=by simp [bI] at b;omega
 have i:=H (c_ S M st n bud f first a w h k d Z);rw [b] at i;have j:=H (ef S M st n bud f first a w h Z Z);rw [c] at j;clear b c h;go_enter func179,ntmps179;go_wp2_with fail;refine i.mono ?_;rintro _ _ ⟨rfl,rfl⟩;go_wp2_with fail;refine j.mono ?_;rintro _ b ⟨rfl,rfl⟩;go_wp2_with fail;go_ret;exact⟨rfl,rfl⟩
theorem oJ (S M st n bud f) (first a:Nat) (w) (h:Im S M st n bud f w) (s:0<=n) (l:n<=4096) (c:bI n first a=true) (b:bm f first a=a) :
  Calls prog 179 #[J S 0,I first,I a] w λe w'=>e=.returned (I 0)/\Im S M st n bud (without f first a) w'/\w.mapTurned w' M:=by
 have v:1<=a/\first+a<=4096:=by simp [bI] at c;omega
 have m:=H (c_ S M st n bud f first a w h s l Z);rw [c] at m;have o:=H (ef S M st n bud f first a w h Z Z);rw [b] at o;have p:=H h;obtain⟨_,_,_,q⟩:=h.c;clear c b h;go_enter func179,ntmps179;go_wp2_with fail;refine m.mono ?_;rintro _ _ ⟨rfl,rfl⟩;go_wp2_with fail;refine o.mono ?_;rintro _ t ⟨rfl,rfl⟩;go_wp2_with fail;go_loopw [22] (λi wr=>∃ k:Nat,k<=a/\i=I k/\Im S M st n bud (without f first k) wr/\t.mapTurned wr M) (λi _=>a-(intOf i).toNat);case atStart=>exact ⟨0,FH _,rfl,p,turned_refl p⟩
 case round =>
  obtain⟨k,x,rfl,b,j⟩:=hrel;by_cases u:k<a
  ·obtain⟨_,_,_,q⟩:=b.c;have d:=H (IT b j);clear b j;go_wp2_with (at_delete;refine jD _ rfl _ _ rfl d.1 (first+k) Z rfl aY ?_);intro y c g;have r:=H (IT c (d.2.trans g));clear d c g q;go_wp2_with fail;go_roundw;(case rel=>exact ⟨k+1,Z,aY,r.1,r.2⟩);case measure=>simp [intOf];omega
  have c:k=a:=Z;subst c;have d:=H (IT b j);clear b j;go_wp2_with fail;go_ret;exact⟨rfl,d⟩
def eh (l:Bool) (xs:List Int):Array Value:=(Ns .u8 xs++[Value.bool l]).toArray
structure Pg (f:Nat->Option Nat) (m:Nat->Option (Bool×List Int)) (W:World):Prop where
 at':∀ k,(f k=none/\m k=none)\/∃ b l xs,f k=some b/\m k=some (l,xs)/\xs.length=1024/\W.heap[b]?=some (.cells (eh l xs) 194)
 inj:∀ j k b,f j=some b->f k=some b->j=k
structure Fr (S M:Nat) (f f':Nat->Option Nat) (W W':World):Prop where
 os:W'.os=W.os
 tape:W'.tape=W.tape
 output:W'.output=W.output
 size:W.heap.size<=W'.heap.size
 block:∀ g,g<W.heap.size->g≠S->g≠M->(∀ k,f k≠some g)->W'.heap[g]?=W.heap[g]?
 made:∀ k g,f' k=some g->(∃ j,f j=some g)\/W.heap.size<=g
theorem Fr.refl (S M f W):Fr S M f f W W:=⟨rfl,rfl,rfl,Fv _,λ_ _ _ _ _=>rfl,λk g h=>.inl ⟨k,h⟩⟩
theorem Fr.trans {S M f f' f'' W W' W''} (h:Fr S M f f' W W') (a:Fr S M f' f'' W' W''):Fr S M f f'' W W'':=by
 refine⟨a.os.trans h.os,a.tape.trans h.tape,a.output.trans h.output,Fx h.size a.size,?_,?_⟩
 ·intro g c d i l;rw [a.block g (FG c h.size) d i ?_];·exact h.block g c d i l
  intro k e;rcases h.made k g e with ⟨j,b⟩|b;·exact l j b
  omega
 intro k g e;rcases a.made k g e with ⟨j,b⟩|b;·exact h.made j g b
 right;have:=h.size;omega
theorem Pg.none_iff (h:Pg f m W) (k:Nat):(f k).isSome=(m k).isSome:=by
 rcases h.at' k with ⟨a,c⟩|⟨b,l,xs,a,c,_⟩ <;> rw [a,c] <;> rfl
theorem Pg.cell (h:Pg f m W) (a:f k=some b) :
  ∃ l xs,m k=some (l,xs)/\xs.length=1024/\W.heap[b]?=some (.cells (eh l xs) 194):=by
 rcases h.at' k with ⟨c,d⟩|⟨g,l,xs,c,d,e⟩;·rw [c] at a;cases a
 rw [c] at a;cases a;exact⟨l,xs,d,e⟩
theorem mP (l) (xs:List Int) (h:xs.length=1024):(eh l xs)[1024]?=some (.bool l):=by
 simp [eh,Ns,h]
theorem ja (l) (xs:List Int) (i:Nat) (h:i<xs.length):(eh l xs)[i]?=some (.int .u8 (xs[i]?.getD 0)):=by
 simp [eh,Ns,List.getElem?_append,h]
theorem Pg.lockCell (h:Pg f m W) (d:f k=some b) {l:Bool} {xs:List Int} (e:m k=some (l,xs)) :
  W.cell? ⟨b,1024,none⟩=some (.bool l)/\W.frozen? ⟨b,1024,none⟩=false:=by
 obtain⟨j,g,a,i,c⟩:=h.cell d;rw [e] at a;cases a;exact⟨by simp [World.cell?,c,mP _ _ i],by simp [World.frozen?,c]⟩
theorem lX (S M st n bud f) (first:Int) (count) (v:Bool) (w) (h:Im S M st n bud f w) (d:0<=n) (b:n<=4096) (g:first<=9223372036854775807) (a:bI n first count=false) :
  Calls prog 180 #[J S 0,I first,I count,.bool v] w λe w'=>e=.returned (I 6)/\w'=w:=by
 have c:=H (c_ S M st n bud f first count w h d b g);rw [a] at c;clear a h;go_enter func180,ntmps180;go_wp2_with fail;refine c.mono ?_;rintro _ _ ⟨rfl,rfl⟩;go_wp2_with fail;go_ret;exact⟨rfl,rfl⟩
theorem jl (S M st n bud f) (first a g:Nat) (v:Bool) (w) (h:Im S M st n bud f w) (k:0<=n) (d:n<=4096) (b:bI n first a=true) (c:bm f first a=g) (l:g<a) :
  Calls prog 180 #[J S 0,I first,I a,.bool v] w λe w'=>e=.returned (I 6)/\w'=w:=by
 have m:1<=a/\first+a<=4096:=by simp [bI] at b;omega
 have i:=H (c_ S M st n bud f first a w h k d Z);rw [b] at i;have j:=H (ef S M st n bud f first a w h Z Z);rw [c] at j;clear b c h;go_enter func180,ntmps180;go_wp2_with fail;refine i.mono ?_;rintro _ _ ⟨rfl,rfl⟩;go_wp2_with fail;refine j.mono ?_;rintro _ b ⟨rfl,rfl⟩;go_wp2_with fail;go_ret;exact⟨rfl,rfl⟩
def dT (m:Nat->Option (Bool×List Int)) (k:Nat) (v:Option (Bool×List Int)):Nat->Option (Bool×List Int):=λj=>if j=k then v else m j
theorem bV (m k v):dT m k v k=v:=by simp [dT]
theorem aW (m) (k j:Nat) (v) (h:j≠k):dT m k v j=m j:=by simp [dT,h]
def gU (m:Nat->Option (Bool×List Int)) (first:Nat) (v:Bool):Nat->(Nat->Option (Bool×List Int))
 | 0=>m
 | k+1=>dT (gU m first v k) (first+k) ((gU m first v k (first+k)).map λp=>(v,p.2))
theorem Im.setCell {S M st n bud f W} (h:Im S M st n bud f W) {p:Addr} (c:p.block≠S) (d:p.block≠M) (v:Value):Im S M st n bud f (W.setCell p v):=by
 obtain⟨a,b,r⟩:=h.map;exact⟨by rw [GQ _ _ _ _ (Iq c)];exact h.box,a,b.setCell (Iq d) v,r⟩
theorem Pg.apart (h:Pg f m W) (g:Im S M st n bud f W) (i:f k=some b):b≠S/\b≠M:=by
 obtain⟨l,xs,_,_,d⟩:=h.cell i;constructor;·intro e;subst e;rw [g.box] at d;simp at d
 intro e;subst e;obtain⟨a,⟨o,c,j,_⟩,_⟩:=g.map;rw [j] at d;cases d
theorem nm (l v:Bool) (xs:List Int) (h:xs.length=1024):(eh l xs).setIfInBounds 1024 (.bool v)=eh v xs:=by
 apply Array.ext_getElem?;intro i;rw [FK];by_cases e:1024=i;·subst e;rw [GP rfl,GP (by simp [eh,Ns,h]),mP _ _ h]
 rw [GO e];by_cases a:i<xs.length;·rw [ja _ _ _ a,ja _ _ _ a]
 rw [Hd (by simp [eh,Ns];omega),Hd (by simp [eh,Ns];omega)]
theorem bj {c:Array Value} {t:TypeId} (h:W.heap[b]?=some (.cells c t)) (v:Value):(W.setCell ⟨b,i,none⟩ v).heap[b]?=some (.cells (c.setIfInBounds i v) t):=by
 simp [World.setCell,FD,h]
theorem Pg.set (h:Pg f m W) (g:f k=some b) {l n:Bool} {xs a:List Int}
  (s:m k=some (l,xs)) (t:a.length=1024) (u:(eh l xs).setIfInBounds i v=eh n a):Pg f (dT m k (some (n,a))) (W.setCell ⟨b,i,none⟩ v):=by
 refine⟨?_,h.inj⟩;intro j;by_cases e:j=k
 ·subst e;obtain⟨p,d,c,q,o⟩:=h.cell g;rw [s] at c;cases c;exact .inr ⟨b,n,a,g,bV _ _ _,t,by rw [bj o,u]⟩
 rw [aW m k j _ e];rcases h.at' j with c|⟨w,p,d,c,q,o,x⟩;·exact .inl c
 refine .inr ⟨w,p,d,c,q,o,?_⟩;rw [GQ _ _ _ _ ?_];·exact x
 intro r;simp at r;subst r;exact e (h.inj j k _ c g)
theorem Fr.set {W'} (h:Fr S M f f W W') (c:f k=some b) (v:Value):Fr S M f f W (W'.setCell ⟨b,i,none⟩ v):=by
 refine⟨h.os,h.tape,h.output,by simp [World.setCell];exact h.size,?_,h.made⟩;intro g d j l a;rw [GQ _ _ _ _ ?_];·exact h.block g d j l a
 intro e;simp at e;subst e;exact a k c
theorem oe {f first} : ∀ {N:Nat},bm f first N=N->∀ k,k<N->∃ b,f (first+k)=some b
 | 0,_,k,c=>by omega
 | N+1,h,k,c=>by
  have d:=ep f first N
  simp only [bm] at h
  cases a:f (first+N) with
  | none=>rw [a] at h;simp at h;omega
  | some b =>
   rw [a] at h
   simp at h
   by_cases e:k=N
   ·subst e;exact⟨b,a⟩
   exact oe h k Z
theorem ki (S M st n bud f m) (first a:Nat) (v:Bool) (w) (h:Im S M st n bud f w) (l:Pg f m w) (F:0<=n) (u:n<=4096) (d:bI n first a=true) (c:bm f first a=a) :
  Calls prog 180 #[J S 0,I first,I a,.bool v] w λe w'=>e=.returned (I 0)/\Im S M st n bud f w'/\Pg f (gU m first v a) w'/\Fr S M f f w w':=by
 have N:1<=a/\first+a<=4096:=by simp [bI] at d;omega
 have g:=H (c_ S M st n bud f first a w h F u Z);rw [d] at g;have j:=H (ef S M st n bud f first a w h Z Z);rw [c] at j;have G:=H (oe c);have x:=H (IT h l);obtain⟨_,_,_,K⟩:=h.c;clear d c h l;go_enter func180,ntmps180;go_wp2_with fail;refine g.mono ?_;rintro _ _ ⟨rfl,rfl⟩;go_wp2_with fail;refine j.mono ?_;rintro _ L ⟨rfl,rfl⟩;go_wp2_with fail;clear g j;go_loopw [24] (λi wr=>∃ k:Nat,k<=a/\i=I k/\Im S M st n bud f wr/\Pg f (gU m first v k) wr/\Fr S M f f L wr) (λi _=>a-(intOf i).toNat);case atStart=>exact ⟨0,FH _,rfl,x.1,x.2,Fr.refl S M f _⟩
 case round =>
  obtain⟨k,O,rfl,c,d,j⟩:=hrel;by_cases y:k<a
  ·obtain⟨_,_,_,K⟩:=c.c;obtain⟨b,o⟩:=G.out k y;obtain⟨l,xs,t,z,_⟩:=d.cell o;obtain⟨P,Q⟩:=d.lockCell o t;obtain⟨r,s⟩:=d.apart c o;have g:=c.look (first+k) Z;rw [o] at g;simp only [Hi] at g;have A:((first+k:Nat):Int)=(first:Int)+(k:Int):=Z;rw [A] at g;have B:=d.set o t z (nm l v xs z);have q:=H (IT (c.setCell (p:=⟨b,1024,none⟩) r s (.bool v)) (IT B (IT t (j.set (i:=1024) o (.bool v)))));clear c d j A r s t z o B x;go_wp2;go_roundw;case rel =>
    refine⟨k+1,Z,aY,q.1,?_,q.2.2.2⟩;simp only [gU];rw [q.2.2.1];exact q.2.1
   case measure=>simp [intOf];omega
  have g:k=a:=Z;subst g;have q:=H (IT c (IT d j));clear c d j;go_wp2_with fail;go_ret;exact⟨rfl,q⟩
theorem Im.drew {S M st n bud f W} (h:Im S M st n bud f W):Im S M st n bud f W.drew:=⟨h.box,h.map⟩
def iL:Array Value:=eh false (List.replicate 1024 0)
theorem zN (w:World):(Instr.build 194 #[]).run prog w=.ok (.agg iL) w:=E
theorem DC (w:World):(Instr.box 194 (.agg iL)).run prog w=.ok (J w.heap.size 0) (w.alloc (.cells iL 194)):=E
section
variable {ops:Array Oper} {rest:List Oper} {o:Oper} {a:Act} {Q:Exit->Act->World->Prop}
theorem jq (w:World) (d:o.guard=none) (b:o.op=Op.build 194 #[])
  (e:∀ v,Hid (v=.agg iL)->wpList prog ops Q rest (a.put o.dst v) w) :
  wpList prog ops Q (o::rest) a w:=by
 refine IA d λK' c=>?_;unfold Oper.wp;simp [execOp,b,zN w,Result.andThen];exact c _ _ (e _ (H rfl))
theorem kQ (w:World) (d:o.guard=none) (x:Operand) (b:o.op=Op.box 194 x) (v:Value) (e:a.eval x=v) (f:Hid (v=.agg iL))
  (g:∀ w',Hid (w'=w.alloc (.cells iL 194))->wpList prog ops Q rest (a.put o.dst (J w.heap.size 0)) w') :
  wpList prog ops Q (o::rest) a w:=by
 refine IA d λK' c=>?_;unfold Oper.wp;simp [execOp,b,e,f.out,DC w,Result.andThen];exact c _ _ (g _ (H rfl))
end
theorem Im.alloc {S M st n bud f W} (h:Im S M st n bud f W) (o:Obj):Im S M st n bud f (W.alloc o):=by
 obtain⟨a,b,r⟩:=h.map;exact⟨by rw [(GZ W o none).block S (G_ h.box) bH];exact h.box,a,b.alloc o,r⟩
theorem Pg.drew {f m W} (h:Pg f m W):Pg f m W.drew:=⟨h.at',h.inj⟩
theorem Fr.drew {S M f f' W W'} (h:Fr S M f f' W W'):Fr S M f f' W W'.drew:=⟨h.os,h.tape,h.output,h.size,h.block,h.made⟩
def aT (m:Nat->Option (Bool×List Int)) (first:Nat):Nat->(Nat->Option (Bool×List Int))
 | 0=>m
 | k+1=>dT (aT m first k) (first+k) (some (false,List.replicate 1024 0))
theorem Pg.made (h:Pg f m W) (p:Im S M st n bud f W) (k) (r:W1=W.alloc (.cells iL 194)) (q:W1.mapTurned W2 M) :
  Pg (upd f k (some W.heap.size)) (dT m k (some (false,List.replicate 1024 0))) W2:=by
 subst r;have u:M<W.heap.size:=by obtain ⟨a,c,_⟩:=p.map;exact c.lt
 have a:∀ j b,f j=some b->b<W.heap.size:=by
  intro j b e;obtain⟨l,xs,_,_,o⟩:=h.cell e;exact G_ o
 constructor
 ·intro j;by_cases e:j=k;·subst e;refine .inr ⟨W.heap.size,false,List.replicate 1024 0,upd_same _ _ _,bV _ _ _,Gc,?_⟩;rw [dQ q Z];exact (Hq W _).1
  rw [aW m k j _ e,aI f k j _ e];rcases h.at' j with c|⟨g,s,d,c,t,o,l⟩;·exact .inl c
  refine .inr ⟨g,s,d,c,t,o,?_⟩;rw [dQ q (h.apart p c).2,(GZ W _ none).block g (G_ l) bH];exact l
 intro i j b d c;by_cases e:i=k
 ·subst e;rw [upd_same] at d;cases d;by_cases g:j=i;·exact g.symm
  rw [aI f i j _ g] at c;have:=a j _ c;omega
 rw [aI f k i _ e] at d;by_cases g:j=k
 ·subst g;rw [upd_same] at c;cases c;have:=a i _ d;omega
 rw [aI f k j _ g] at c;exact h.inj i j b d c
theorem Fr.turned {f'} (h:Fr S M f f' W W1) (b:W1.mapTurned W2 M):Fr S M f f' W W2:=by
 have a:=b.grown;refine⟨a.os.trans h.os,a.tape.trans h.tape,a.output.trans h.output,Fx h.size a.size,?_,h.made⟩;intro g d e c i;rw [dQ b c];exact h.block g d e c i
theorem Fr.fresh {f'} {b:World} (h:Fr S M f f' W W1) (k) (d:W2=W1.alloc (.cells iL 194)) (i:W2.mapTurned b M):Fr S M f (upd f' k (some W1.heap.size)) W b:=by
 subst d;refine Fr.turned ?_ i;have a:=GZ W1 (.cells iL 194) none;refine⟨a.os.trans h.os,a.tape.trans h.tape,a.output.trans h.output,Fx h.size a.size,?_,?_⟩;·intro g c j l m;rw [a.block g (FG c h.size) bH];exact h.block g c j l m
 intro j g e;by_cases c:j=k
 ·subst c;rw [upd_same] at e;cases e;exact .inr h.size
 rw [aI f' k j _ c] at e;exact h.made j g e
theorem uV (S M st n bud f) (first:Int) (count w) (h:Im S M st n bud f w) (d:0<=n) (b:n<=4096) (g:first<=9223372036854775807) (a:bI n first count=false) :
  Calls prog 178 #[J S 0,I first,I count] w λe w'=>e=.returned (I 6)/\w'=w:=by
 have c:=H (c_ S M st n bud f first count w h d b g);rw [a] at c;clear a h;go_enter func178,ntmps178;go_wp2_with fail;refine c.mono ?_;rintro _ _ ⟨rfl,rfl⟩;go_wp2_with fail;go_ret;exact⟨rfl,rfl⟩
theorem qh (S M st n bud f) (first a g:Nat) (w) (h:Im S M st n bud f w) (k:0<=n) (d:n<=4096) (b:bI n first a=true) (c:bm f first a=g) (l:0<g) :
  Calls prog 178 #[J S 0,I first,I a] w λe w'=>e=.returned (I 6)/\w'=w:=by
 have m:1<=a/\first+a<=4096:=by simp [bI] at b;omega
 have i:=H (c_ S M st n bud f first a w h k d Z);rw [b] at i;have j:=H (ef S M st n bud f first a w h Z Z);rw [c] at j;clear b c h;go_enter func178,ntmps178;go_wp2_with fail;refine i.mono ?_;rintro _ _ ⟨rfl,rfl⟩;go_wp2_with fail;refine j.mono ?_;rintro _ b ⟨rfl,rfl⟩;go_wp2_with fail;go_ret;exact⟨rfl,rfl⟩
theorem qL (S M st n bud f) (first a d:Nat) (w) (h:Im S M st n bud f w) (m:0<=n) (g:n<=4096) (b:bI n first a=true) (i:bm f first a=0) (c:bm f 0 4096=d) (o:bud<d+a) :
  Calls prog 178 #[J S 0,I first,I a] w λe w'=>e=.returned (I 1)/\w'=w.drew:=by
 have r:1<=a/\first+a<=4096:=by simp [bI] at b;omega
 have j:=H (c_ S M st n bud f first a w h m g Z);rw [b] at j;have k:=H (ef S M st n bud f first a w h Z Z);rw [i] at k;have p:d<=4096:=c▸ep f 0 4096;obtain⟨_,_,s,t⟩:=h.c;have l:=H h;have q:=H c;clear b c h i;go_enter func178,ntmps178;go_wp2_with fail;refine j.mono ?_;rintro _ _ ⟨rfl,rfl⟩;go_wp2_with fail;refine k.mono ?_;rintro _ i ⟨rfl,rfl⟩;have c:=l.len 3;have b:=l.drew.len 3;rw [q.out] at c b;go_wp2_with fail;go_region;go_wp2;go_ret;exact⟨rfl,rfl⟩
theorem sj (S M st n bud f m) (first a s:Nat) (w) (h:Im S M st n bud f w) (l:Pg f m w) (A:0<=n) (t:n<=4096) (b:bI n first a=true) (o:bm f first a=0) (d:bm f 0 4096=s) (x:s+a<=bud) :
  Calls prog 178 #[J S 0,I first,I a] w λe w'=>e=.returned (I 0)/\∃ c,Im S M st n bud c w'/\Pg c (aT m first a) w'/\Fr S M f c w w':=by
 have L:1<=a/\first+a<=4096:=by simp [bI] at b;omega
 have g:=H (c_ S M st n bud f first a w h A t Z);rw [b] at g;have j:=H (ef S M st n bud f first a w h Z Z);rw [o] at j;have B:s<=4096:=d▸ep f 0 4096;obtain⟨_,_,N,y⟩:=h.c;have r:=H h;have z:=H l;have F:=H d;clear b d h o l;go_enter func178,ntmps178;go_wp2_with fail;refine g.mono ?_;rintro _ _ ⟨rfl,rfl⟩;go_wp2_with fail;refine j.mono ?_;rintro _ G ⟨rfl,rfl⟩;have d:=r.len 3;have b:=r.drew.len 3;rw [F.out] at d b;go_wp2_with fail;go_region;clear d b g j;go_wp2_with fail;go_loopw [33] (λi wr=>∃ k:Nat,k<=a/\i=I k/\∃ c,Im S M st n bud c wr/\Pg c (aT m first k) wr/\Fr S M f c G wr) (λi _=>a-(intOf i).toNat);case atStart=>exact ⟨0,FH _,rfl,f,r.drew,z.drew,(Fr.refl S M f _).drew⟩
 case round =>
  obtain⟨k,O,rfl,c,b,d,g⟩:=hrel;by_cases K:k<a
  ·obtain⟨_,_,_,y⟩:=b.c;have p:=H (IT b (IT d g));have u:=H (b.alloc (.cells iL 194));clear b d g r z;go_wp2_with (refine jq _ rfl rfl ?_);intro P q;go_wp2_with (refine kQ _ rfl _ rfl _ rfl q ?_);intro Q j;rw [<-j.out] at u;go_wp2_with (refine nd _ rfl _ _ _ rfl u (first+k) _ Z rfl aY rfl ?_);intro R l o;have v:=H (IT l (IT (p.2.1.made p.1 (first+k) j o) (p.2.2.fresh (first+k) j o)));clear p u l o j q y;go_wp2_with fail;go_roundw;(case rel=>exact ⟨k+1,Z,aY,_,v.1,v.2.1,v.2.2⟩);case measure=>simp [intOf];omega
  have j:k=a:=Z;subst j;have p:=H (IT b (IT d g));clear b d g;go_wp2_with fail;go_ret;exact⟨rfl,c,p⟩
end
section
open Go.ChangeShapes Go.WideShapes Go.ChangeAt Go.RowKit
theorem hidR {p:Prop} (h:p):Hid p:=h
def vN:List Int:=[16,32,48,64,96,128,192,256,384,512,768,1024]
def sz (c:Int):Int:=if 0<=c/\c<12 then vN.getD c.toNat 0 else 0
def pg (c:Int):Int:=(4*sz c+1024-1)/1024
def sl (c:Int):Int:=if 0<=c/\c<12 then pg c*1024/sz c else 0
def us (c:Int):Int:=if 0<=c/\c<12 then sz c-8 else 0
theorem fh {c:Int} (h:0<=c/\c<12):c=0\/c=1\/c=2\/c=3\/c=4\/c=5\/c=6\/c=7\/c=8\/c=9\/c=10\/c=11:=Z
theorem eJ {c:Int} (h:0<=c/\c<12):16<=sz c/\sz c<=1024:=by
 rcases fh h with rfl|rfl|rfl|rfl|rfl|rfl|rfl|rfl|rfl|rfl|rfl|rfl <;> decide
theorem gP {c:Int} (h:¬(0<=c/\c<12)):sz c=0:=by simp only [sz,GO h]
theorem Eh (c):0<=sz c/\sz c<=1024:=by
 by_cases h:0<=c/\c<12;·have:=eJ h;omega
 rw [gP h];omega
theorem s_ (h:k<12):sz (k:Int)=vN.getD k 0:=by
 have a:(0:Int)<=(k:Int)/\(k:Int)<12:=Z;simp only [sz,GP a,F0]
structure Tb (w:World):Prop where
 row:∃ t fr,w.heap[0]?=some (.cells (vN.map λz=>Value.int .i64 z).toArray t fr)
theorem Tb.cells (h:Tb w) (k:Nat) (b:k<12):w.cell? ⟨0,k,none⟩=some (I (vN.getD k 0)):=by
 obtain⟨t,c,h⟩:=h.row;have a:k<vN.length:=b;simp [World.cell?,h,Fy a]
theorem Tb.below (h:Tb w) (b:D w w'):Tb w':=by
 obtain⟨t,c,h⟩:=h.row;have a:0<w.heap.size:=by
  by_cases a:0<w.heap.size;·exact a
  have:w.heap[0]?=none:=Hd Z;rw [this] at h;cases h
 exact⟨t,c,by rw [b.block 0 a];exact h⟩
theorem cv {b c} (d:D a b) (e:D b c):D a c:=d.trans (e.mono d.size)
theorem dN (c:Int) (w:World) (h:0<=c/\c<12) :
  Calls prog 54 #[I c] w λe w'=>e=.returned (.bool true)/\w'=w:=by
 obtain⟨a,b⟩:=h;go_enter func54,ntmps54;go_wp2;go_ret;exact⟨rfl,rfl⟩
theorem dY (c:Int) (w:World) (h:¬(0<=c/\c<12)) :
  Calls prog 54 #[I c] w λe w'=>e=.returned (.bool false)/\w'=w:=by
 by_cases b:0<=c;·have a:(decide (c<12))=false:=GR Z;clear h;go_enter func54,ntmps54;go_wp2;go_ret;exact⟨by rw [<-a];rfl,rfl⟩
 clear h;go_enter func54,ntmps54;go_wp2;go_ret;exact⟨rfl,rfl⟩
theorem dJ (c w) (a:Tb w) :
  Calls prog 56 #[I c] w λe w'=>e=.returned (I (sz c))/\w'=w:=by
 by_cases h:0<=c/\c<12
 ·obtain⟨k,rfl⟩:=Ha h.1;have d:k<12:=Z;have f:=a.cells k d;rw [s_ d];have b:=hidR (dN _ w h);clear a;go_enter func56,ntmps56;go_wp2_with fail;refine (b).mono ?_;rintro e w' ⟨rfl,rfl⟩;go_wp2;go_ret;exact⟨rfl,rfl⟩
 rw [gP h];have b:=hidR (dY _ w h);clear a;go_enter func56,ntmps56;go_wp2_with fail;refine (b).mono ?_;rintro e w' ⟨rfl,rfl⟩;go_wp2;go_ret;exact⟨rfl,rfl⟩
end
end Go.Proofs.YtdngbppdomoenaaGreatDoor
namespace Go.Proofs.YtdngbppdomoenaaGreatDoor.product
open Go.Proofs.Tryz
set_option linter.unusedVariables false
set_option linter.unusedSimpArgs false
set_option maxRecDepth 20000
set_option maxHeartbeats 8000000
open Go.ChangeShapes Go.WideShapes Go.ChangeAt Go.RowKit
theorem Bm {p:Prop} (h:p):Hid p:=h
theorem tK (x y:Nat) (j:x<18446744073709551616) (k:y<18446744073709551616) (w:World) :
  Calls prog 144 #[U x,U y] w λe w'=>e=.returned (.tuple #[U ((x*y/18446744073709551616:Nat):Int),U ((x*y%18446744073709551616:Nat):Int)])/\w'=w:=by
 obtain⟨m,l,n,c⟩:=Lib.mul64_hi x y j k;have p:=CT (a:=x/4294967296) (b:=y/4294967296) Z Z;have q:=CT (a:=x/4294967296) (b:=y%4294967296) Z Z;have r:=CT (a:=x%4294967296) (b:=y/4294967296) Z Z;have d:x/4294967296*(y/4294967296)<18446744073709551616:=Z;have f:x/4294967296*(y%4294967296)<18446744073709551616:=Z;have g:x%4294967296*(y/4294967296)<18446744073709551616:=Z;have i:x/4294967296*(y/4294967296)+(x/4294967296*(y%4294967296)+x%4294967296*(y%4294967296)/4294967296)/4294967296<18446744073709551616:=Z;have o:x/4294967296*(y/4294967296)+(x/4294967296*(y%4294967296)+x%4294967296*(y%4294967296)/4294967296)/4294967296+((x/4294967296*(y%4294967296)+x%4294967296*(y%4294967296)/4294967296)%4294967296+x%4294967296*(y/4294967296))/4294967296<18446744073709551616:=Z;go_enter func144,ntmps144;go_wp2;simp only [Mul64.maskN x j,Mul64.maskN y k,Mul64.divN,Mul64.mulN,Mul64.addN,Hv _ m,Hv _ f,Hv _ l,Mul64.maskN _ l,Hv _ g,Hv _ n,Hv _ d,Hv _ i,Hv _ o,Mul64.wrapM (x*y)];rw [c]
 go_ret2
 exact⟨rfl,rfl⟩
theorem im_Product_no (x y:Nat) (b:x<18446744073709551616) (c:y<18446744073709551616) (h:18446744073709551616<=x*y) (w:World) :
  Calls prog 98 #[U x,U y] w λe w'=>e=.returned (.tuple #[U 0,.bool false])/\w'=w:=by
 have a:=Bm (tK x y b c w);have d:(((x*y/18446744073709551616:Nat):Int) != 0)=true:=by
  have:1<=x*y/18446744073709551616:=(Nat.le_div_iff_mul_le Z).2 Z;simp;omega
 generalize x*y/18446744073709551616=q at a d;generalize x*y%18446744073709551616=r at a;clear h;go_enter func98,ntmps98;go_wp2_with fail;refine (a).mono ?_;rintro e w' ⟨rfl,rfl⟩;go_wp2
 go_ret2
 exact⟨rfl,rfl⟩
theorem im_Product_yes (x y:Nat) (b:x<18446744073709551616) (c:y<18446744073709551616) (h:x*y<18446744073709551616) (w:World) :
  Calls prog 98 #[U x,U y] w λe w'=>e=.returned (.tuple #[U ((x*y:Nat):Int),.bool true])/\w'=w:=by
 have a:=Bm (tK x y b c w);rw [Nat.div_eq_of_lt h,H4 h] at a;generalize x*y=r at a h ⊢;go_enter func98,ntmps98;go_wp2_with fail;refine (a).mono ?_;rintro e w' ⟨rfl,rfl⟩;go_wp2
 go_ret2
 exact⟨rfl,rfl⟩
end Go.Proofs.YtdngbppdomoenaaGreatDoor.product
