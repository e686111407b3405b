import Derived.BigQuiet
import Derived.OpenShut
import Derived.ProofKit
import Derived.Shelf.Bits.Mul64
import Derived.Test.YtdfodlhkdmkfdaaGreatDoorProg
import Derived.WalkLawsBesides
set_option linter.unusedVariables false
set_option linter.unusedSimpArgs false
set_option maxRecDepth 20000
set_option maxHeartbeats 8000000
namespace Go.Proofs.YtdfodlhkdmkfdaaGreatDoor
open Go.Proofs.Tryz
variable {W W1 W2 a w w':World} {M S b cap g i k:Nat} {e:TypeId} {xs:List Value} {bud n st:Int} {zs:List Int} {v:Value} {f:Nat->Option Nat} {m:Nat->Option (Bool×List Int)}
section
open Go.RowKit Go
abbrev Jn:=@Below.refl
abbrev Jo:=@Nat.le_refl
abbrev Jp:=@Nat.le_trans
abbrev Jq:=@List.getElem?_eq_getElem
abbrev Jr:=@List.getElem?_eq_some_iff
abbrev Js:=@List.setIfInBounds_toArray
abbrev Jt:=@Nat.zero_le
abbrev Ju:=@Nat.lt_of_lt_of_le
abbrev Jv:=@List.length_append
abbrev Jw:=@Array.getElem?_modify
abbrev Jy:=@List.set_cons_zero
abbrev Jz:=@List.set_cons_succ
abbrev JA:=@List.mem_of_getElem?
abbrev JB:=@List.getElem?_eq_none
abbrev JC:=@Array.getElem?_setIfInBounds
abbrev JD:=@List.length_cons
abbrev JE:=@List.mem_map
abbrev JF:=@List.nil_append
abbrev JG:=@List.mem_cons
abbrev JH:=@Array.replicate_zero
abbrev JI:=@Array.replicate_succ
abbrev JJ:=@List.size_toArray
abbrev JK:=@List.take_add_one
abbrev JL:=@Int.toNat_natCast
abbrev JM:=@List.push_toArray
abbrev JN:=@List.take_of_length_le
abbrev JO:=@List.length_nil
abbrev JP:=@List.cons_append
abbrev JQ:=@Nat.zero_add
abbrev JR:=@Nat.mul_le_mul_right
abbrev JS:=@List.length_replicate
abbrev JU:=@List.length_set
abbrev JV:=@List.mem_append
abbrev JW:=@List.mem_range
abbrev JX:=@wpList_store_row
abbrev JY:=@Bool.and_eq_true
abbrev JZ:=@List.length_map
abbrev J0:=@wpList_load_row
abbrev p7:=@results_cell_row
abbrev J3:=@List.append_nil
abbrev J4:=@Nat.add_mul
abbrev J5:=@List.getElem?_set
abbrev J6:=@List.getElem?_map
abbrev J7:=@List.range_succ
abbrev J8:=@List.mem_filter
abbrev J9:=@List.flatMap_append
abbrev J_:=@Array.getElem?_toList
abbrev Kf:=@List.not_mem_nil
abbrev Kh:=@List.getElem?_append_left
abbrev Ki:=@Nat.one_mul
abbrev Kj:=@List.getElem?_take
abbrev Km:=@List.nodup_cons
abbrev Kn:=@List.length_range
abbrev Ko:=@Int.tmod_eq_emod_of_nonneg
abbrev Kq:=@Nat.add_zero
abbrev Kr:=@List.append_assoc
abbrev tg:=@if_neg
abbrev tm:=@if_pos
abbrev t4:=@Below.heap_setCell
abbrev t5:=@decide_eq_false
abbrev t6:=@cell_of_row
abbrev t8:=@Calls.quiet_of_same
abbrev wA:=@bodyPost_ret
abbrev xg:=@frozen_of_row
abbrev y6:=@World.grownBy_alloc
abbrev zr:=@info_parts
abbrev zB:=@decide_eq_true
abbrev zM:=@List.take_length
abbrev zQ:=@lt_of_block
abbrev AP:=@Int.eq_ofNat_of_zero_le
abbrev A1:=@List.length_filter_le
abbrev A9:=@wp_loop_rounds
abbrev BC:=@Array.getElem?_eq_none
abbrev BR:=@List.getElem?_of_mem
abbrev Ce:=@List.getElem?_take_of_lt
abbrev C6:=@IntKind.wrap_i64
abbrev DC:=@Option.map_some
abbrev EN:=@decide_eq_true_eq
abbrev FK:=@Option.some.injEq
abbrev FV:=@List.filter_append
abbrev F9:=@List.length_take
abbrev GO:=@List.filter_cons_of_pos
abbrev GR:=@List.ext_getElem?
abbrev G9:=@MapKept.heap_alloc
abbrev H2:=@List.map_append
abbrev H4:=@Option.getD_some
abbrev IA:=@rounds_succ
abbrev IP:=@Mul64.wrapN
abbrev IS:=@Array.getElem?_eq_getElem
abbrev I5:=@Value.int.injEq
abbrev I7:=@Nat.min_eq_left
abbrev Jx:=@Nat.mod_eq_of_lt
abbrev J2:=@Nat.add_assoc
abbrev Kg:=@run_append_own
abbrev Kt:=@wpList_append_own
abbrev Ku:=@heap_setCell_same
abbrev Kv:=@Nat.lt_trichotomy
abbrev Kw:=@List.flatMap_cons
abbrev Kx:=@Int.tdiv_eq_ediv_of_nonneg
abbrev Kz:=@wp_store_row
abbrev KA:=@toList_madeCells_one
abbrev KC:=@List.mem_cons_of_mem
abbrev KD:=@List.eq_nil_of_length_eq_zero
abbrev KE:=@List.filter_eq_self
abbrev KH:=@World.cell?_setCell_other
abbrev KJ:=@List.mem_of_find?_eq_some
abbrev KN:=@Ne.symm
abbrev KQ:=@results_none
abbrev KT:=@List.pairwise_append
abbrev KV:=@List.map_cons
abbrev KX:=@List.find?_range_eq_some
abbrev KZ:=@List.append_toArray
abbrev K6:=@List.getElem_mem
abbrev K_:=@List.filter_cons_of_neg
abbrev Lb:=@leaves_cons
abbrev Le:=@List.take_append_of_le_length
abbrev Lf:=@wpList_plain
abbrev Lg:=@Int.emod_lt_of_pos
abbrev Lh:=@List.filter_eq_nil_iff
abbrev Lj:=@Nat.lt_irrefl
abbrev Lk:=@List.drop_zero
abbrev Ll:=@List.mem_append_left
abbrev Lm:=@WalkArith.wf_i64
abbrev Lq:=@List.pairwise_iff_getElem
abbrev Lr:=@Nat.mul_le_mul_left
abbrev Ls:=@Int.toNat_of_nonneg
abbrev Lt:=@if_false
abbrev Lu:=@if_true
abbrev Lv:=@Lib.half_mul_le
abbrev Lw:=@Int.emod_nonneg
abbrev Lx:=@Option.toList_some
abbrev Lz:=@List.getElem?_drop
abbrev LF:=@Bool.true_eq_false
abbrev LG:=@And.intro
end
section
open Go.RowKit
abbrev D (a b:World):Prop:=Below a.heap.size a b
end
section
open Go.RowKit Go
theorem cd {p:Prop} (h:p:=by simp;omega):p:=h
theorem Z {p:Prop} (h:p:=by omega):p:=h
theorem E {p:Prop} (h:p:=by kernel_rfl):p:=h
theorem aR {p:Prop} (h:p:=by go_num):p:=h
theorem al {p:Prop} (h:p:=by decide):p:=h
theorem bh {p:Prop} (h:p:=by simp):p:=h
theorem dC {p:Prop} (h:p:=by rfl):p:=h
theorem nm {p:Prop} (h:p:=by simp [Value.oneCell']):p:=h
theorem it {p:Prop} (h:p:=by dsimp only;omega):p:=h
theorem aM {w:World} {g j t:Nat} {a:Array Value} {b:Nat×Nat} {v:Value} (c:w.heap[g]?=some (.cells a t b)) (e:a[j]?=some v:=by rfl):w.cell? ⟨g,j,none⟩=some v:=(t6 _ _ _ _ _ _ c).trans e
theorem Ee {P:Program} {e:Func} {p:Tmp} {b:TypeId} {a:Array Value} {w:World} {g t:Nat} {c:Array Value} {f:Nat×Nat} {d:TypeDesc} (i:w.heap[g]?=some (.cells c t f)) (j:P.underlying b=some d) (h:e.results=#[.cell p b]:=by rfl) (k:a.getD p undef=.pointer (some ⟨g,0,none⟩):=by rfl) (l:(match d with|.struct _|.array _ _=>true|_=>false)=true:=by rfl) (m:(P.info? b).map (·.size)=some c.size:=by kernel_rfl):(results e a).run P w=.ok (.agg c) w:=p7 h _ _ _ _ _ _ _ k i j l m
theorem gH {P:Program} {e:Func} {p:Tmp} {b:TypeId} {R:Ending->World->Prop} {a:Act} {w:World} {g t:Nat} {c:Array Value} {f:Nat×Nat} {d:TypeDesc} (i:w.heap[g]?=some (.cells c t f)) (j:P.underlying b=some d) (k:R (.returned (.agg c)) w) (h:e.results=#[.cell p b]:=by rfl) (l:a.tmps.getD p undef=.pointer (some ⟨g,0,none⟩):=by rfl) (m:(match d with|.struct _|.array _ _=>true|_=>false)=true:=by rfl) (n:(P.info? b).map (·.size)=some c.size:=by kernel_rfl) (o:a.defers=[]:=by rfl):bodyPost P e R .ret a w:=wA (p7 h _ _ _ _ _ _ _ l i j m n) o k
theorem fG {P:Program} {ops:Array Oper} {rest:List Oper} {o:Oper} {a:Act} {w:World} {Q:Exit->Act->World->Prop} {e:TypeId} {x y:Operand} {g:Nat} {b:Array Value} {t:TypeId} {c:Array Value} (i:w.heap[g]?=some (.cells c t (0,0))) (h:wpList P ops Q rest (a.put o.dst undef) (w.setRow g b)) (f:o.guard=none:=by rfl) (j:o.op=.store e x y:=by with_reducible rfl) (k:a.eval x=.pointer (some ⟨g,0,none⟩):=by rfl) (l:a.eval y=.agg b:=by rfl) (m:(P.info? e).map (·.size)=some b.size:=by kernel_rfl) (d:c.size=b.size:=by rfl) (n:b.all (·.oneCell')=true:=by simp [Value.oneCell']):wpList P ops Q (o::rest) a w:=JX f e x y j g b k l t c i m d n h
end
abbrev I (x:Int):Value:=.int .i64 x
abbrev U (x:Int):Value:=.int .u64 x
abbrev J (g i:Nat):Value:=.pointer (some ⟨g,i,none⟩)
abbrev Vl (g n c:Nat):Value:=.slice (some ⟨g,0,none⟩) n c
abbrev C:Value:=.slice none 0 0
section
open Go.ChangeShapes Go.WideShapes Go.ChangeAt Go.RowKit
theorem H {p:Prop} (h:p):Hid p:=h
theorem ct {k:IntKind} {a b:Int} (h:a=b):Ending.returned (.int k a)=.returned (.int k b):=by rw [h]
theorem dj {a b:Bool} (h:a=b):Ending.returned (.bool a)=.returned (.bool b):=by rw [h]
theorem jI {k:IntKind} {a b:Int} (h:a=b):Value.int k a=.int k b:=by rw [h]
def RowV (w:World) (g:Nat) (e:TypeId) (xs:List Value):Prop :=
 ∃ c:Array Value,w.heap[g]?=some (.cells c e)/\xs.length<=c.size/\∀ i,i<xs.length->c[i]?=xs[i]?
theorem RowV.lt (h:RowV w g e xs):g<w.heap.size:=by
 obtain⟨c,a,_⟩:=h;exact zQ a
theorem RowV.cell {w g e xs} (h:RowV w g e xs) (i:Nat) (a:i<xs.length):w.cell? ⟨g,i,none⟩=xs[i]?:=by
 obtain⟨c,b,_,d⟩:=h;simp [World.cell?,b,d i a]
theorem RowV.free (h:RowV w g e xs) (i:Nat):w.frozen? ⟨g,i,none⟩=false:=by
 obtain⟨c,a,_⟩:=h;simp [World.frozen?,a]
theorem RowV.below {B:Nat} (h:RowV w g e xs) (a:Below B w w') (b:g<B):RowV w' g e xs:=by
 obtain⟨c,d,f⟩:=h;exact⟨c,by rw [a.block g b];exact d,f⟩
theorem RowV.drew {w g e xs} (h:RowV w g e xs):RowV w.drew g e xs:=h
theorem RowV.set {w g e xs} (h:RowV w g e xs) (i:Nat) (b:i<xs.length) (v:Value):RowV (w.setCell ⟨g,i,none⟩ v) g e (xs.set i v):=by
 obtain⟨c,d,f,k⟩:=h;refine⟨c.setIfInBounds i v,?_,by simpa using f,?_⟩;·simp [World.setCell,Jw,d]
 intro j a;simp at a;rw [JC,J5];by_cases e:i=j;·subst e;simp [b,show i<c.size by omega]
 simp [e,k j a]
theorem RowV.other (h:RowV w g e xs) {p:Addr} (a:g≠p.block) (v:Value):RowV (w.setCell p v) g e xs:=by
 obtain⟨c,b,d⟩:=h;exact⟨c,by rw [t4 _ _ _ _ a];exact b,d⟩
theorem RowV.grown {b:Nat} (h:RowV w g e xs) (f:w.grownBy w' (some b)) (a:g≠b):RowV w' g e xs:=by
 obtain⟨c,d,i⟩:=h;exact⟨c,by rw [f.block g (zQ d) (by simpa using a)];exact d,i⟩
theorem RowV.ofOwns {n base:Nat} (h:w.ownsRow base e 1 (Vl g n cap) n xs):RowV w g e xs:=by
 obtain⟨l,a⟩:=h;rcases a with a|⟨m,c,b,d,o,f,p,q,r,j⟩;·simp at a
 simp at d;obtain⟨rfl,rfl⟩:=d;subst j;refine⟨b,f,cd,?_⟩;intro i k;simp at k;simp [Kj];omega
def Ns (k:IntKind) (zs:List Int):List Value:=zs.map (Value.int k)
theorem aX (k zs):(Ns k zs).length=zs.length:=by simp [Ns]
theorem iL (k zs) (i:Nat) (v:Int):(Ns k zs).set i (.int k v)=Ns k (zs.set i v):=by simp [Ns,List.map_set]
theorem dR {k} (h:RowV w g e (Ns k zs)) (i:Nat) (a:i<zs.length):w.cell? ⟨g,i,none⟩=some (.int k (zs[i]?.getD 0)):=by
 rw [h.cell i (by simpa [Ns] using a)];simp [Ns,a]
theorem getD_some (zs:List Int) (k:Nat) (h:k<zs.length):zs[k]?=some (zs[k]?.getD 0):=by simp [h]
def IsRow (k:IntKind) (w:World) (a:Option Addr) (len cap:Nat) (zs:List Int):Prop :=
 (a=none/\len=0/\cap=0/\zs=[]) \/
 ∃ x,a=some x/\len<=cap/\cap<=maxLen/\zs.length=cap/\(∀ i,i<zs.length->w.cell? (x.add i)=some (.int k (zs.getD i 0)))/\∀ n∈zs,(Lit.int k n).wf=true
theorem ol (a:D w w') {x:Addr} (h:w.cell? x=some v):w'.cell? x=some v:=by
 have b:x.block<w.heap.size:=by
  unfold World.cell? at h;split at h;·rename_i c;exact zQ c
  cases h
 rw [a.cell b];exact h
theorem IsRow.below {k a len} (h:IsRow k w a len cap zs) (b:D w w'):IsRow k w' a len cap zs:=by
 rcases h with h|⟨x,c,d,e,f,g,j⟩;·exact .inl h
 exact .inr ⟨x,c,d,e,f,λi l=>ol b (g i l),j⟩
theorem IsRow.len {k a len} (h:IsRow k w a len cap zs):(zs.take len).length=len:=by
 rcases h with ⟨_,rfl,_,rfl⟩|⟨x,b,c,d,e,f,g⟩;·simp
 simp;omega
theorem aB {b c} (d:D a b) (e:D b c):D a c:=d.trans (e.mono d.size)
def Agree {α:Type} (ys zs:List α) (k:Nat):Prop:=ys.length=zs.length/\∀ j,j<k->ys[j]?=zs[j]?
theorem Agree.zero {α:Type} {a zs:List α} (h:a.length=zs.length):Agree a zs 0:=⟨h,λj b=>Z⟩
theorem Agree.succ {α:Type} {a zs:List α} (h:Agree a zs k) (b:k<zs.length) (v:α) (c:zs[k]?=some v):Agree (a.set k v) zs (k+1):=by
 refine⟨by simp [h.1],λj d=>?_⟩;rw [J5];by_cases e:k=j;·subst e;simp [h.1,b] at *;exact c.symm
 rw [tg e];exact h.2 j Z
theorem Agree.all {α:Type} {a zs:List α} (h:Agree a zs k) (c:zs.length<=k):a=zs:=by
 apply GR;intro j;by_cases b:j<k;·exact h.2 j b
 rw [JB (by have:=h.1;omega),JB Z]
theorem ao (w:World) (g:Nat):w.grownBy w (some g):=⟨rfl,rfl,rfl,Jo _,λ_ _ _=>rfl⟩
theorem au {b:World} (h:w.grownBy b (some g)) (i:Nat) (v:Value):w.grownBy (b.setCell ⟨g,i,none⟩ v) (some g) :=
 ⟨h.os,h.tape,h.output,by simp [World.setCell];exact h.size,λk c a=>by
  rw [t4 _ _ _ _ (by intro e;exact a (by rw [e]))];exact h.block k c a⟩
theorem tQ {a:World} {g:Option Nat} (h:W.grownBy a g):W.grownBy a.drew g:=⟨h.os,h.tape,h.output,h.size,h.block⟩
theorem below_grown (h:D a w) (b:w.grownBy w' (some g)) (c:a.heap.size<=g):D a w' :=
 h.grown b h.size (λk e=>by cases e;exact c)
end
section
open Go.ChangeShapes Go.WideShapes Go.ChangeAt Go.RowKit Go.Maps
def eN:Value->Option (DataW Unit×List MemPlace)
 | .pointer (some ⟨b,0,none⟩)=>some (.lit (.int .i64 b),[])
 | .pointer none=>some (.nil,[])
 | _=>none
theorem pN (b:Nat):eN (.pointer (some ⟨b,0,none⟩))=some (.lit (.int .i64 b),[]):=rfl
theorem iJ {z:DataW Unit×List MemPlace} (h:eN v=some z):(∃ b:Nat,v=.pointer (some ⟨b,0,none⟩)/\z=(.lit (.int .i64 b),[]))\/(v=.pointer none/\z=(.nil,[])):=by
 unfold eN at h;split at h;·left;exact⟨_,rfl,by simpa using h.symm⟩
 ·right;exact⟨rfl,by simpa using h.symm⟩
 cases h
def tz:Option Nat->DataW Unit
 | some b=>.lit (.int .i64 b)
 | none=>.nil
def bz (f:Nat->Option Nat) (first:Nat):Nat->Nat
 | 0=>0
 | k+1=>bz f first k+(f (first+k)).isSome.toNat
theorem eI (f first):∀ k,bz f first k<=k
 | 0=>Jo _
 | k+1=>by have:=eI f first k;have a:=Bool.toNat_le (f (first+k)).isSome;simp only [bz];omega
def upd (f:Nat->Option Nat) (k:Nat) (v:Option Nat):Nat->Option Nat:=λj=>if j=k then v else f j
theorem upd_same (f k v):upd f k v k=v:=by simp [upd]
theorem aL (f) (k j:Nat) (v) (h:j≠k):upd f k v j=f j:=by simp [upd,h]
theorem jk (f) (k:Nat) (v) (first:Nat):∀ N,k<first\/first+N<=k->bz (upd f k v) first N=bz f first N
 | 0,_=>rfl
 | N+1,h=>by
  simp only [bz]
  rw [jk f k v first N Z,aL f k _ v Z]
theorem kr (f) (k:Nat) (v) (first:Nat):∀ N,first<=k->k<first+N->bz (upd f k v) first N+(f k).isSome.toNat=bz f first N+v.isSome.toNat
 | 0,h,a=>by omega
 | N+1,h,a=>by
  simp only [bz]
  by_cases e:k=first+N
  ·subst e
   rw [jk f _ v first N Z,upd_same]
   omega
  have:=kr f k v first N h Z
  rw [aL f k (first+N) v Z]
  omega
structure Im (S M:Nat) (st n bud:Int) (f:Nat->Option Nat) (W:World):Prop where
 box:W.heap[S]?=some (.cells #[.int .i32 st,.int .u32 0,.int .i64 n,.int .i64 bud,.map (some M)] 174)
 map:∃ D:DataW Unit,W.ownsMap prog 3 eN M 4096 D/\Maps.size D=bz f 0 4096/\(∀ k:Nat,k<4611686018427387904->D.atKey (.int .i64 k) .nil=tz (f k))/\∀ k:Nat,k<4611686018427387904->has D (.int .i64 k)=(f k).isSome
theorem iw:Keyed prog 3:=int_keyed underlying3
theorem En (w:World):(zeroValue 203).run prog w=.ok (.pointer none) w:=E
theorem D6 (k:Nat) (h:k<4611686018427387904):keyOf prog 3 (.int .i64 k)=some (.int .i64 k):=keyOf_int_mk underlying3 (Lm Z)
theorem Im.look (h:Im S M st n bud f W) (k:Nat) (j:k<4611686018427387904) :
  (Instr.lookup 165 (.map (some M)) (.int .i64 k) false).run prog W=.ok (.pointer ((f k).map λb=>⟨b,0,none⟩)) W:=by
 obtain⟨a,d,_,i,_⟩:=h.map;obtain⟨v,ps,e,l⟩:=d.lookup iw underlying165 (En W) (show eN (.pointer none)=some (.nil,[]) from rfl) (D6 k j);rw [i k j] at l;rw [e];rcases iJ l with ⟨b,rfl,c⟩|⟨rfl,c⟩
 ·cases g:f k with
  | none=>rw [g] at c;simp [tz] at c
  | some m =>
   rw [g] at c;simp [tz] at c;have:m=b:=Z;subst this;rfl
 cases g:f k with
 | none=>rfl
 | some m=>rw [g] at c;simp [tz] at c
theorem Im.c (h:Im S M st n bud f W) :
  W.cell? ⟨S,0,none⟩=some (.int .i32 st)/\W.cell? ⟨S,2,none⟩=some (I n)/\W.cell? ⟨S,3,none⟩=some (I bud)/\W.cell? ⟨S,4,none⟩=some (.map (some M)):=by
 have a:=h.box;simp [World.cell?,a]
theorem ez (S M st n bud f) (first a:Nat) (w) (h:Im S M st n bud f w) (p:first<=4096) (q:a<=4096) :
  Calls prog 241 #[J S 0,I first,I a] w λe w'=>e=.returned (I (bz f first a))/\w'=w:=by
 obtain⟨_,_,_,r⟩:=h.c;have l:=H h;clear h;go_enter func241,ntmps241;go_wp2;go_loop [7,8,10] (λc _ i=>∃ k:Nat,k<=a/\i=I k/\c=I (bz f first k)) (λ_ _ i=>a-(intOf i).toNat);case atStart=>exact ⟨0,Jt _,rfl,rfl⟩
 case round =>
  obtain⟨k,s,rfl,rfl⟩:=hrel;by_cases m:k<a
  ·have d:=l.look (first+k) Z;have g:((first+k:Nat):Int)=(first:Int)+(k:Int):=Z;rw [g] at d;clear g;have o:=eI f first k
   have g:=H (show bz f first (k+1)=bz f first k+(f (first+k)).isSome.toNat from rfl);generalize bz f first k=c at *
   cases j:f (first+k) with
   | none =>
    rw [j] at d g;simp only [Option.map_none] at d;clear j;go_wp2
    go_round
    (case rel=>exact ⟨k+1,Z,aR,by rw [g.out];rfl⟩);case measure=>simp [intOf];omega
   | some b =>
    rw [j] at d g;simp only [DC] at d;clear j;go_wp2
    go_round
    (case rel=>exact ⟨k+1,Z,aR,by rw [g.out];rfl⟩);case measure=>simp [intOf];omega
  have d:k=a:=Z;subst d;go_wp2;go_ret;exact⟨rfl,rfl⟩
def bK (n first i:Int):Bool:=decide (1<=i/\0<=first/\i<=n-first)
theorem du (S M st n bud f) (first:Int) (count w) (h:Im S M st n bud f w) (b:0<=n) (a:n<=4096) (c:first<=9223372036854775807) :
  Calls prog 240 #[J S 0,I first,I count] w λe w'=>e=.returned (.bool (bK n first count))/\w'=w:=by
 obtain⟨_,d,_,_⟩:=h.c;clear h;by_cases g:1<=count
 ·by_cases i:0<=first
  ·by_cases j:count<=n-first
   ·go_enter func240,ntmps240;go_wp2;go_ret;exact⟨dj (by simp [bK];omega),rfl⟩
   go_enter func240,ntmps240;go_wp2;go_ret;exact⟨dj (by simp [bK];omega),rfl⟩
  go_enter func240,ntmps240;go_wp2;go_ret;exact⟨dj (by simp [bK];omega),rfl⟩
 go_enter func240,ntmps240;go_wp2;go_ret;exact⟨dj (by simp [bK];omega),rfl⟩
theorem tight {n:Nat} {a:DataW Unit} {R:Value->Option (DataW Unit×List MemPlace)} (h:W.ownsMap prog 3 R b n a) {d:Nat} (e:Maps.size a<=d):W.ownsMap prog 3 R b d a:=by
 obtain⟨f,c,g,F,i,rfl⟩:=h;exact⟨f,c,g,F,by simpa [Maps.size,length_sorted] using e,rfl⟩
theorem ed (h:w.mapTurned w' M) (a:b≠M):w'.heap[b]?=w.heap[b]?:=by
 obtain⟨f,c,d,g,e,rfl⟩:=h;exact ChangeMaps.heap_setBlock_other e _ a
theorem Im.ne (h:Im S M st n bud f W):S≠M:=by
 intro e;subst e;obtain⟨a,⟨d,c,b,_⟩,_⟩:=h.map;rw [h.box] at b;cases b
theorem qB {j:Nat} (h:j≠k):(Lit.int .i64 (j:Int))≠.int .i64 (k:Int):=by
 intro e;injection e with _ e;omega
theorem Im.del {S M st n bud f W} (h:Im S M st n bud f W) (k:Nat) (s:k<4096) (o:TypeId) :
  ∃ g,(Builtin.delete_ #[165,3] o #[.map (some M),.int .i64 k]).run prog W=.ok (.tuple #[]) g/\Im S M st n bud (upd f k none) g/\W.mapTurned g M:=by
 obtain⟨a,b,q,l,c⟩:=h.map;obtain⟨g,i,d,p⟩:=b.drop iw underlying165 (D6 k Z) o;refine⟨g,i,⟨by rw [ed p h.ne];exact h.box,a.del (.int .i64 k),d,?_,?_,?_⟩,p⟩
 ·have j:=Maps.size_del (k:=.int .i64 k) (b.tidy iw);have m:=kr f k none 0 4096 Z Z;rw [c k Z] at j;cases r:f k <;> rw [r] at j m <;> simp at j m <;> omega
 ·intro j m;by_cases e:j=k;·subst e;rw [Maps.atKey_del_same,upd_same];rfl
  rw [Maps.atKey_del_other (qB e),aL f k j _ e];exact l j m
 intro j m;by_cases e:j=k;·subst e;rw [Maps.has_del_same,upd_same];rfl
 rw [Maps.has_del_other (qB e),aL f k j _ e];exact c j m
theorem Im.put {S M st n bud f W} (h:Im S M st n bud f W) (k b:Nat) (u:k<4096) :
  ∃ l,(Instr.mapUpdate 165 (.map (some M)) (.int .i64 k) (.pointer (some ⟨b,0,none⟩))).run prog W=.ok () l/\Im S M st n bud (upd f k (some b)) l/\W.mapTurned l M:=by
 obtain⟨a,c,s,o,d⟩:=h.map;obtain⟨l,m,i,q⟩:=c.store iw underlying165 al (D6 k Z) (pN b);have g:WideAt.IsKeyLit (.int .i64 (k:Int)):=by simp [WideAt.IsKeyLit]
 have r:Maps.size (a.put (.int .i64 k) (.lit (.int .i64 b)))=bz (upd f k (some b)) 0 4096:=by
  have j:=Maps.size_put (k:=.int .i64 k) (c.tidy iw) (.lit (.int .i64 b));have p:=kr f k (some b) 0 4096 Z Z;rw [d k Z] at j;cases t:f k <;> rw [t] at j p <;> simp at j p <;> omega
 refine⟨l,m,⟨by rw [ed q h.ne];exact h.box,_,tight i (by rw [r];exact eI _ _ _),r,?_,?_⟩,q⟩
 ·intro j p;by_cases e:j=k;·subst e;rw [Maps.atKey_put_same c.isMap g,upd_same];rfl
  rw [Maps.atKey_put_other (qB e),aL f k j _ e];exact o j p
 intro j p;by_cases e:j=k;·subst e;rw [Maps.has_put_same c.isMap g,upd_same];rfl
 rw [Maps.has_put_other (qB e),aL f k j _ e];exact d j p
theorem Im.len {S M st n bud f W} (h:Im S M st n bud f W) (d:TypeId) :
  (Builtin.len_ #[165] d #[.map (some M)]).run prog W=.ok (I (bz f 0 4096)) W:=by
 obtain⟨a,b,c,_⟩:=h.map;rw [b.len underlying165 d,c]
section
variable {ops:Array Oper} {rest:List Oper} {o:Oper} {a:Act} {Q:Exit->Act->World->Prop}
theorem kj (w) (e:o.guard=none) (m x:Operand) (c:o.op=Op.call { callee:=Callee.builtin Builtin.delete,args:=#[m,x],argTypes:=#[165,3] }) (h:Im S M st n bud f w) (k:Nat) (g:k<4096) (i:a.eval m=.map (some M)) (j:a.eval x=I k) (l:∀ w',Im S M st n bud (upd f k none) w'->w.mapTurned w' M->wpList prog ops Q rest (a.put o.dst (.tuple #[])) w') :
  wpList prog ops Q (o::rest) a w:=by
 refine Lf e λK' d=>?_;obtain⟨w',b,p,q⟩:=h.del k g o.type;unfold Oper.wp;simp [execOp,c,resolve,invoke,builtin,i,j,b,Result.andThen];exact d _ _ (l w' p q)
theorem oG (w) (g:o.guard=none) (m x v:Operand) (d:o.op=Op.mapUpdate 165 m x v) (h:Im S M st n bud f w) (k:Nat) (b) (i:k<4096) (j:a.eval m=.map (some M)) (l:a.eval x=I k) (p:a.eval v=J b 0) (q:∀ w',Im S M st n bud (upd f k (some b)) w'->w.mapTurned w' M->wpList prog ops Q rest (a.put o.dst undef) w') :
  wpList prog ops Q (o::rest) a w:=by
 refine Lf g λK' e=>?_;obtain⟨w',c,r,s⟩:=h.put k b i;unfold Oper.wp;simp [execOp,d,j,l,p,c,Result.andThen];exact e _ _ (q w' r s)
theorem oK (w) (d:o.guard=none) (m:Operand) (b:o.op=Op.call { callee:=Callee.builtin Builtin.len,args:=#[m],argTypes:=#[165] }) (h:Im S M st n bud f w) (e:a.eval m=.map (some M)) (g:wpList prog ops Q rest (a.put o.dst (I (bz f 0 4096))) w) :
  wpList prog ops Q (o::rest) a w:=by
 refine Lf d λK' c=>?_;unfold Oper.wp;simp [execOp,b,resolve,invoke,builtin,e,h.len o.type,Result.andThen];exact c _ _ g
end
def without (f:Nat->Option Nat) (first:Nat):Nat->(Nat->Option Nat)
 | 0=>f
 | k+1=>upd (without f first k) (first+k) none
theorem turned_refl (h:Im S M st n bud f W):W.mapTurned W M:=by
 obtain⟨a,b,_⟩:=h.map;exact b.turned_refl
theorem rX (S M st n bud f) (first:Int) (count w) (h:Im S M st n bud f w) (d:0<=n) (b:n<=4096) (g:first<=9223372036854775807) (a:bK n first count=false) :
  Calls prog 200 #[J S 0,I first,I count] w λe w'=>e=.returned (I 6)/\w'=w:=by
 have c:=H (du S M st n bud f first count w h d b g);rw [a] at c;clear a h;go_enter func200,ntmps200;go_wp2_with fail;refine c.mono ?_;rintro _ _ ⟨rfl,rfl⟩;go_wp2_with fail;go_ret;exact⟨rfl,rfl⟩
theorem oL (S M st n bud f) (first a g:Nat) (w) (h:Im S M st n bud f w) (k:0<=n) (d:n<=4096) (b:bK n first a=true) (c:bz f first a=g) (l:g<a) :
  Calls prog 200 #[J S 0,I first,I a] w λe w'=>e=.returned (I 6)/\w'=w:=by
 have m:1<=a/\first+a<=4096:=by simp [bK] at b;omega
 have i:=H (du S M st n bud f first a w h k d Z);rw [b] at i;have j:=H (ez S M st n bud f first a w h Z Z);rw [c] at j;clear b c h;go_enter func200,ntmps200;go_wp2_with fail;refine i.mono ?_;rintro _ _ ⟨rfl,rfl⟩;go_wp2_with fail;refine j.mono ?_;rintro _ b ⟨rfl,rfl⟩;go_wp2_with fail;go_ret;exact⟨rfl,rfl⟩
theorem p_ (S M st n bud f) (first a:Nat) (w) (h:Im S M st n bud f w) (s:0<=n) (l:n<=4096) (c:bK n first a=true) (b:bz f first a=a) :
  Calls prog 200 #[J S 0,I first,I a] w λe w'=>e=.returned (I 0)/\Im S M st n bud (without f first a) w'/\w.mapTurned w' M:=by
 have v:1<=a/\first+a<=4096:=by simp [bK] at c;omega
 have m:=H (du S M st n bud f first a w h s l Z);rw [c] at m;have o:=H (ez S M st n bud f first a w h Z Z);rw [b] at o;have p:=H h;obtain⟨_,_,_,q⟩:=h.c;clear c b h;go_enter func200,ntmps200;go_wp2_with fail;refine m.mono ?_;rintro _ _ ⟨rfl,rfl⟩;go_wp2_with fail;refine o.mono ?_;rintro _ t ⟨rfl,rfl⟩;go_wp2_with fail;go_loopw [22] (λi wr=>∃ k:Nat,k<=a/\i=I k/\Im S M st n bud (without f first k) wr/\t.mapTurned wr M) (λi _=>a-(intOf i).toNat);case atStart=>exact ⟨0,Jt _,rfl,p,turned_refl p⟩
 case round =>
  obtain⟨k,x,rfl,b,j⟩:=hrel;by_cases u:k<a
  ·obtain⟨_,_,_,q⟩:=b.c;have d:=H (LG b j);clear b j;go_wp2_with (at_delete;refine kj _ rfl _ _ rfl d.1 (first+k) Z rfl aR ?_);intro y c g;have r:=H (LG c (d.2.trans g));clear d c g q;go_wp2_with fail;go_roundw;(case rel=>exact ⟨k+1,Z,aR,r.1,r.2⟩);case measure=>simp [intOf];omega
  have c:k=a:=Z;subst c;have d:=H (LG b j);clear b j;go_wp2_with fail;go_ret;exact⟨rfl,d⟩
def eG (l:Bool) (xs:List Int):Array Value:=(Ns .u8 xs++[Value.bool l]).toArray
structure Pg (f:Nat->Option Nat) (m:Nat->Option (Bool×List Int)) (W:World):Prop where
 at':∀ k,(f k=none/\m k=none)\/∃ b l xs,f k=some b/\m k=some (l,xs)/\xs.length=1024/\W.heap[b]?=some (.cells (eG l xs) 206)
 inj:∀ j k b,f j=some b->f k=some b->j=k
structure Fr (S M:Nat) (f f':Nat->Option Nat) (W W':World):Prop where
 os:W'.os=W.os
 tape:W'.tape=W.tape
 output:W'.output=W.output
 size:W.heap.size<=W'.heap.size
 block:∀ g,g<W.heap.size->g≠S->g≠M->(∀ k,f k≠some g)->W'.heap[g]?=W.heap[g]?
 made:∀ k g,f' k=some g->(∃ j,f j=some g)\/W.heap.size<=g
theorem Fr.refl (S M f W):Fr S M f f W W:=⟨rfl,rfl,rfl,Jo _,λ_ _ _ _ _=>rfl,λk g h=>.inl ⟨k,h⟩⟩
theorem Fr.trans {S M f f' f'' W W' W''} (h:Fr S M f f' W W') (a:Fr S M f' f'' W' W''):Fr S M f f'' W W'':=by
 refine⟨a.os.trans h.os,a.tape.trans h.tape,a.output.trans h.output,Jp h.size a.size,?_,?_⟩
 ·intro g c d i l;rw [a.block g (Ju c h.size) d i ?_];·exact h.block g c d i l
  intro k e;rcases h.made k g e with ⟨j,b⟩|b;·exact l j b
  omega
 intro k g e;rcases a.made k g e with ⟨j,b⟩|b;·exact h.made j g b
 right;have:=h.size;omega
theorem Pg.none_iff (h:Pg f m W) (k:Nat):(f k).isSome=(m k).isSome:=by
 rcases h.at' k with ⟨a,c⟩|⟨b,l,xs,a,c,_⟩ <;> rw [a,c] <;> rfl
theorem Pg.cell (h:Pg f m W) (a:f k=some b) :
  ∃ l xs,m k=some (l,xs)/\xs.length=1024/\W.heap[b]?=some (.cells (eG l xs) 206):=by
 rcases h.at' k with ⟨c,d⟩|⟨g,l,xs,c,d,e⟩;·rw [c] at a;cases a
 rw [c] at a;cases a;exact⟨l,xs,d,e⟩
theorem mK (l) (xs:List Int) (h:xs.length=1024):(eG l xs)[1024]?=some (.bool l):=by
 simp [eG,Ns,h]
theorem jw (l) (xs:List Int) (i:Nat) (h:i<xs.length):(eG l xs)[i]?=some (.int .u8 (xs[i]?.getD 0)):=by
 simp [eG,Ns,List.getElem?_append,h]
theorem Pg.lockCell (h:Pg f m W) (d:f k=some b) {l:Bool} {xs:List Int} (e:m k=some (l,xs)) :
  W.cell? ⟨b,1024,none⟩=some (.bool l)/\W.frozen? ⟨b,1024,none⟩=false:=by
 obtain⟨j,g,a,i,c⟩:=h.cell d;rw [e] at a;cases a;exact⟨by simp [World.cell?,c,mK _ _ i],by simp [World.frozen?,c]⟩
theorem mR (S M st n bud f) (first:Int) (count) (v:Bool) (w) (h:Im S M st n bud f w) (d:0<=n) (b:n<=4096) (g:first<=9223372036854775807) (a:bK n first count=false) :
  Calls prog 201 #[J S 0,I first,I count,.bool v] w λe w'=>e=.returned (I 6)/\w'=w:=by
 have c:=H (du S M st n bud f first count w h d b g);rw [a] at c;clear a h;go_enter func201,ntmps201;go_wp2_with fail;refine c.mono ?_;rintro _ _ ⟨rfl,rfl⟩;go_wp2_with fail;go_ret;exact⟨rfl,rfl⟩
theorem jG (S M st n bud f) (first a g:Nat) (v:Bool) (w) (h:Im S M st n bud f w) (k:0<=n) (d:n<=4096) (b:bK n first a=true) (c:bz f first a=g) (l:g<a) :
  Calls prog 201 #[J S 0,I first,I a,.bool v] w λe w'=>e=.returned (I 6)/\w'=w:=by
 have m:1<=a/\first+a<=4096:=by simp [bK] at b;omega
 have i:=H (du S M st n bud f first a w h k d Z);rw [b] at i;have j:=H (ez S M st n bud f first a w h Z Z);rw [c] at j;clear b c h;go_enter func201,ntmps201;go_wp2_with fail;refine i.mono ?_;rintro _ _ ⟨rfl,rfl⟩;go_wp2_with fail;refine j.mono ?_;rintro _ b ⟨rfl,rfl⟩;go_wp2_with fail;go_ret;exact⟨rfl,rfl⟩
def dY (m:Nat->Option (Bool×List Int)) (k:Nat) (v:Option (Bool×List Int)):Nat->Option (Bool×List Int):=λj=>if j=k then v else m j
theorem bZ (m k v):dY m k v k=v:=by simp [dY]
theorem aW (m) (k j:Nat) (v) (h:j≠k):dY m k v j=m j:=by simp [dY,h]
def gY (m:Nat->Option (Bool×List Int)) (first:Nat) (v:Bool):Nat->(Nat->Option (Bool×List Int))
 | 0=>m
 | k+1=>dY (gY m first v k) (first+k) ((gY m first v k (first+k)).map λp=>(v,p.2))
theorem Im.setCell {S M st n bud f W} (h:Im S M st n bud f W) {p:Addr} (c:p.block≠S) (d:p.block≠M) (v:Value):Im S M st n bud f (W.setCell p v):=by
 obtain⟨a,b,r⟩:=h.map;exact⟨by rw [t4 _ _ _ _ (KN c)];exact h.box,a,b.setCell (KN d) v,r⟩
theorem Pg.apart (h:Pg f m W) (g:Im S M st n bud f W) (i:f k=some b):b≠S/\b≠M:=by
 obtain⟨l,xs,_,_,d⟩:=h.cell i;constructor;·intro e;subst e;rw [g.box] at d;simp at d
 intro e;subst e;obtain⟨a,⟨o,c,j,_⟩,_⟩:=g.map;rw [j] at d;cases d
theorem oo (l v:Bool) (xs:List Int) (h:xs.length=1024):(eG l xs).setIfInBounds 1024 (.bool v)=eG v xs:=by
 apply Array.ext_getElem?;intro i;rw [JC];by_cases e:1024=i;·subst e;rw [tm rfl,tm (by simp [eG,Ns,h]),mK _ _ h]
 rw [tg e];by_cases a:i<xs.length;·rw [jw _ _ _ a,jw _ _ _ a]
 rw [BC (by simp [eG,Ns];omega),BC (by simp [eG,Ns];omega)]
theorem aO {c:Array Value} {t:TypeId} (h:W.heap[b]?=some (.cells c t)) (v:Value):(W.setCell ⟨b,i,none⟩ v).heap[b]?=some (.cells (c.setIfInBounds i v) t):=by
 simp [World.setCell,Jw,h]
theorem Pg.set (h:Pg f m W) (g:f k=some b) {l n:Bool} {xs a:List Int}
  (s:m k=some (l,xs)) (t:a.length=1024) (u:(eG l xs).setIfInBounds i v=eG n a):Pg f (dY m k (some (n,a))) (W.setCell ⟨b,i,none⟩ v):=by
 refine⟨?_,h.inj⟩;intro j;by_cases e:j=k
 ·subst e;obtain⟨p,d,c,q,o⟩:=h.cell g;rw [s] at c;cases c;exact .inr ⟨b,n,a,g,bZ _ _ _,t,by rw [aO o,u]⟩
 rw [aW m k j _ e];rcases h.at' j with c|⟨w,p,d,c,q,o,x⟩;·exact .inl c
 refine .inr ⟨w,p,d,c,q,o,?_⟩;rw [t4 _ _ _ _ ?_];·exact x
 intro r;simp at r;subst r;exact e (h.inj j k _ c g)
theorem Fr.set {W'} (h:Fr S M f f W W') (c:f k=some b) (v:Value):Fr S M f f W (W'.setCell ⟨b,i,none⟩ v):=by
 refine⟨h.os,h.tape,h.output,by simp [World.setCell];exact h.size,?_,h.made⟩;intro g d j l a;rw [t4 _ _ _ _ ?_];·exact h.block g d j l a
 intro e;simp at e;subst e;exact a k c
theorem pw {f first} : ∀ {N:Nat},bz f first N=N->∀ k,k<N->∃ b,f (first+k)=some b
 | 0,_,k,c=>by omega
 | N+1,h,k,c=>by
  have d:=eI f first N
  simp only [bz] at h
  cases a:f (first+N) with
  | none=>rw [a] at h;simp at h;omega
  | some b =>
   rw [a] at h
   simp at h
   by_cases e:k=N
   ·subst e;exact⟨b,a⟩
   exact pw h k Z
theorem bO (S M st n bud f m) (first a:Nat) (v:Bool) (w) (h:Im S M st n bud f w) (l:Pg f m w) (F:0<=n) (u:n<=4096) (d:bK n first a=true) (c:bz f first a=a) :
  Calls prog 201 #[J S 0,I first,I a,.bool v] w λe w'=>e=.returned (I 0)/\Im S M st n bud f w'/\Pg f (gY m first v a) w'/\Fr S M f f w w':=by
 have N:1<=a/\first+a<=4096:=by simp [bK] at d;omega
 have g:=H (du S M st n bud f first a w h F u Z);rw [d] at g;have j:=H (ez S M st n bud f first a w h Z Z);rw [c] at j;have G:=H (pw c);have x:=H (LG h l);obtain⟨_,_,_,K⟩:=h.c;clear d c h l;go_enter func201,ntmps201;go_wp2_with fail;refine g.mono ?_;rintro _ _ ⟨rfl,rfl⟩;go_wp2_with fail;refine j.mono ?_;rintro _ L ⟨rfl,rfl⟩;go_wp2_with fail;clear g j;go_loopw [24] (λi wr=>∃ k:Nat,k<=a/\i=I k/\Im S M st n bud f wr/\Pg f (gY m first v k) wr/\Fr S M f f L wr) (λi _=>a-(intOf i).toNat);case atStart=>exact ⟨0,Jt _,rfl,x.1,x.2,Fr.refl S M f _⟩
 case round =>
  obtain⟨k,O,rfl,c,d,j⟩:=hrel;by_cases y:k<a
  ·obtain⟨_,_,_,K⟩:=c.c;obtain⟨b,o⟩:=G.out k y;obtain⟨l,xs,t,z,_⟩:=d.cell o;obtain⟨P,Q⟩:=d.lockCell o t;obtain⟨r,s⟩:=d.apart c o;have g:=c.look (first+k) Z;rw [o] at g;simp only [DC] at g;have A:((first+k:Nat):Int)=(first:Int)+(k:Int):=Z;rw [A] at g;have B:=d.set o t z (oo l v xs z);have q:=H (LG (c.setCell (p:=⟨b,1024,none⟩) r s (.bool v)) (LG B (LG t (j.set (i:=1024) o (.bool v)))));clear c d j A r s t z o B x;go_wp2;go_roundw;case rel =>
    refine⟨k+1,Z,aR,q.1,?_,q.2.2.2⟩;simp only [gY];rw [q.2.2.1];exact q.2.1
   case measure=>simp [intOf];omega
  have g:k=a:=Z;subst g;have q:=H (LG c (LG d j));clear c d j;go_wp2_with fail;go_ret;exact⟨rfl,q⟩
theorem Im.drew {S M st n bud f W} (h:Im S M st n bud f W):Im S M st n bud f W.drew:=⟨h.box,h.map⟩
def jq:Array Value:=eG false (List.replicate 1024 0)
theorem cG (w:World):(Instr.build 206 #[]).run prog w=.ok (.agg jq) w:=E
theorem GP (w:World):(Instr.box 206 (.agg jq)).run prog w=.ok (J w.heap.size 0) (w.alloc (.cells jq 206)):=E
section
variable {ops:Array Oper} {rest:List Oper} {o:Oper} {a:Act} {Q:Exit->Act->World->Prop}
theorem kc (w:World) (d:o.guard=none) (b:o.op=Op.build 206 #[])
  (e:∀ v,Hid (v=.agg jq)->wpList prog ops Q rest (a.put o.dst v) w) :
  wpList prog ops Q (o::rest) a w:=by
 refine Lf d λK' c=>?_;unfold Oper.wp;simp [execOp,b,cG w,Result.andThen];exact c _ _ (e _ (H rfl))
theorem lN (w:World) (d:o.guard=none) (x:Operand) (b:o.op=Op.box 206 x) (v:Value) (e:a.eval x=v) (f:Hid (v=.agg jq))
  (g:∀ w',Hid (w'=w.alloc (.cells jq 206))->wpList prog ops Q rest (a.put o.dst (J w.heap.size 0)) w') :
  wpList prog ops Q (o::rest) a w:=by
 refine Lf d λK' c=>?_;unfold Oper.wp;simp [execOp,b,e,f.out,GP w,Result.andThen];exact c _ _ (g _ (H rfl))
end
theorem Im.alloc {S M st n bud f W} (h:Im S M st n bud f W) (o:Obj):Im S M st n bud f (W.alloc o):=by
 obtain⟨a,b,r⟩:=h.map;exact⟨by rw [(y6 W o none).block S (zQ h.box) bh];exact h.box,a,b.alloc o,r⟩
theorem Pg.drew {f m W} (h:Pg f m W):Pg f m W.drew:=⟨h.at',h.inj⟩
theorem Fr.drew {S M f f' W W'} (h:Fr S M f f' W W'):Fr S M f f' W W'.drew:=⟨h.os,h.tape,h.output,h.size,h.block,h.made⟩
def aT (m:Nat->Option (Bool×List Int)) (first:Nat):Nat->(Nat->Option (Bool×List Int))
 | 0=>m
 | k+1=>dY (aT m first k) (first+k) (some (false,List.replicate 1024 0))
theorem Pg.made (h:Pg f m W) (p:Im S M st n bud f W) (k) (r:W1=W.alloc (.cells jq 206)) (q:W1.mapTurned W2 M) :
  Pg (upd f k (some W.heap.size)) (dY m k (some (false,List.replicate 1024 0))) W2:=by
 subst r;have u:M<W.heap.size:=by obtain ⟨a,c,_⟩:=p.map;exact c.lt
 have a:∀ j b,f j=some b->b<W.heap.size:=by
  intro j b e;obtain⟨l,xs,_,_,o⟩:=h.cell e;exact zQ o
 constructor
 ·intro j;by_cases e:j=k;·subst e;refine .inr ⟨W.heap.size,false,List.replicate 1024 0,upd_same _ _ _,bZ _ _ _,JS,?_⟩;rw [ed q Z];exact (G9 W _).1
  rw [aW m k j _ e,aL f k j _ e];rcases h.at' j with c|⟨g,s,d,c,t,o,l⟩;·exact .inl c
  refine .inr ⟨g,s,d,c,t,o,?_⟩;rw [ed q (h.apart p c).2,(y6 W _ none).block g (zQ l) bh];exact l
 intro i j b d c;by_cases e:i=k
 ·subst e;rw [upd_same] at d;cases d;by_cases g:j=i;·exact g.symm
  rw [aL f i j _ g] at c;have:=a j _ c;omega
 rw [aL f k i _ e] at d;by_cases g:j=k
 ·subst g;rw [upd_same] at c;cases c;have:=a i _ d;omega
 rw [aL f k j _ g] at c;exact h.inj i j b d c
theorem Fr.turned {f'} (h:Fr S M f f' W W1) (b:W1.mapTurned W2 M):Fr S M f f' W W2:=by
 have a:=b.grown;refine⟨a.os.trans h.os,a.tape.trans h.tape,a.output.trans h.output,Jp h.size a.size,?_,h.made⟩;intro g d e c i;rw [ed b c];exact h.block g d e c i
theorem Fr.fresh {f'} {b:World} (h:Fr S M f f' W W1) (k) (d:W2=W1.alloc (.cells jq 206)) (i:W2.mapTurned b M):Fr S M f (upd f' k (some W1.heap.size)) W b:=by
 subst d;refine Fr.turned ?_ i;have a:=y6 W1 (.cells jq 206) none;refine⟨a.os.trans h.os,a.tape.trans h.tape,a.output.trans h.output,Jp h.size a.size,?_,?_⟩;·intro g c j l m;rw [a.block g (Ju c h.size) bh];exact h.block g c j l m
 intro j g e;by_cases c:j=k
 ·subst c;rw [upd_same] at e;cases e;exact .inr h.size
 rw [aL f' k j _ c] at e;exact h.made j g e
theorem xo (S M st n bud f) (first:Int) (count w) (h:Im S M st n bud f w) (d:0<=n) (b:n<=4096) (g:first<=9223372036854775807) (a:bK n first count=false) :
  Calls prog 199 #[J S 0,I first,I count] w λe w'=>e=.returned (I 6)/\w'=w:=by
 have c:=H (du S M st n bud f first count w h d b g);rw [a] at c;clear a h;go_enter func199,ntmps199;go_wp2_with fail;refine c.mono ?_;rintro _ _ ⟨rfl,rfl⟩;go_wp2_with fail;go_ret;exact⟨rfl,rfl⟩
theorem tp (S M st n bud f) (first a g:Nat) (w) (h:Im S M st n bud f w) (k:0<=n) (d:n<=4096) (b:bK n first a=true) (c:bz f first a=g) (l:0<g) :
  Calls prog 199 #[J S 0,I first,I a] w λe w'=>e=.returned (I 6)/\w'=w:=by
 have m:1<=a/\first+a<=4096:=by simp [bK] at b;omega
 have i:=H (du S M st n bud f first a w h k d Z);rw [b] at i;have j:=H (ez S M st n bud f first a w h Z Z);rw [c] at j;clear b c h;go_enter func199,ntmps199;go_wp2_with fail;refine i.mono ?_;rintro _ _ ⟨rfl,rfl⟩;go_wp2_with fail;refine j.mono ?_;rintro _ b ⟨rfl,rfl⟩;go_wp2_with fail;go_ret;exact⟨rfl,rfl⟩
theorem rK (S M st n bud f) (first a d:Nat) (w) (h:Im S M st n bud f w) (m:0<=n) (g:n<=4096) (b:bK n first a=true) (i:bz f first a=0) (c:bz f 0 4096=d) (o:bud<d+a) :
  Calls prog 199 #[J S 0,I first,I a] w λe w'=>e=.returned (I 1)/\w'=w.drew:=by
 have r:1<=a/\first+a<=4096:=by simp [bK] at b;omega
 have j:=H (du S M st n bud f first a w h m g Z);rw [b] at j;have k:=H (ez S M st n bud f first a w h Z Z);rw [i] at k;have p:d<=4096:=c▸eI f 0 4096;obtain⟨_,_,s,t⟩:=h.c;have l:=H h;have q:=H c;clear b c h i;go_enter func199,ntmps199;go_wp2_with fail;refine j.mono ?_;rintro _ _ ⟨rfl,rfl⟩;go_wp2_with fail;refine k.mono ?_;rintro _ i ⟨rfl,rfl⟩;have c:=l.len 3;have b:=l.drew.len 3;rw [q.out] at c b;go_wp2_with fail;go_region;go_wp2;go_ret;exact⟨rfl,rfl⟩
theorem uw (S M st n bud f m) (first a s:Nat) (w) (h:Im S M st n bud f w) (l:Pg f m w) (A:0<=n) (t:n<=4096) (b:bK n first a=true) (o:bz f first a=0) (d:bz f 0 4096=s) (x:s+a<=bud) :
  Calls prog 199 #[J S 0,I first,I a] w λe w'=>e=.returned (I 0)/\∃ c,Im S M st n bud c w'/\Pg c (aT m first a) w'/\Fr S M f c w w':=by
 have L:1<=a/\first+a<=4096:=by simp [bK] at b;omega
 have g:=H (du S M st n bud f first a w h A t Z);rw [b] at g;have j:=H (ez S M st n bud f first a w h Z Z);rw [o] at j;have B:s<=4096:=d▸eI f 0 4096;obtain⟨_,_,N,y⟩:=h.c;have r:=H h;have z:=H l;have F:=H d;clear b d h o l;go_enter func199,ntmps199;go_wp2_with fail;refine g.mono ?_;rintro _ _ ⟨rfl,rfl⟩;go_wp2_with fail;refine j.mono ?_;rintro _ G ⟨rfl,rfl⟩;have d:=r.len 3;have b:=r.drew.len 3;rw [F.out] at d b;go_wp2_with fail;go_region;clear d b g j;go_wp2_with fail;go_loopw [33] (λi wr=>∃ k:Nat,k<=a/\i=I k/\∃ c,Im S M st n bud c wr/\Pg c (aT m first k) wr/\Fr S M f c G wr) (λi _=>a-(intOf i).toNat);case atStart=>exact ⟨0,Jt _,rfl,f,r.drew,z.drew,(Fr.refl S M f _).drew⟩
 case round =>
  obtain⟨k,O,rfl,c,b,d,g⟩:=hrel;by_cases K:k<a
  ·obtain⟨_,_,_,y⟩:=b.c;have p:=H (LG b (LG d g));have u:=H (b.alloc (.cells jq 206));clear b d g r z;go_wp2_with (refine kc _ rfl rfl ?_);intro P q;go_wp2_with (refine lN _ rfl _ rfl _ rfl q ?_);intro Q j;rw [<-j.out] at u;go_wp2_with (refine oG _ rfl _ _ _ rfl u (first+k) _ Z rfl aR rfl ?_);intro R l o;have v:=H (LG l (LG (p.2.1.made p.1 (first+k) j o) (p.2.2.fresh (first+k) j o)));clear p u l o j q y;go_wp2_with fail;go_roundw;(case rel=>exact ⟨k+1,Z,aR,_,v.1,v.2.1,v.2.2⟩);case measure=>simp [intOf];omega
  have j:k=a:=Z;subst j;have p:=H (LG b (LG d g));clear b d g;go_wp2_with fail;go_ret;exact⟨rfl,c,p⟩
end
section
open Go.ChangeShapes Go.WideShapes Go.ChangeAt Go.RowKit
theorem hidR {p:Prop} (h:p):Hid p:=h
def zI:List Int:=[16,32,48,64,96,128,192,256,384,512,768,1024]
def sz (c:Int):Int:=if 0<=c/\c<12 then zI.getD c.toNat 0 else 0
def pg (c:Int):Int:=(4*sz c+1024-1)/1024
def sl (c:Int):Int:=if 0<=c/\c<12 then pg c*1024/sz c else 0
def us (c:Int):Int:=if 0<=c/\c<12 then sz c-8 else 0
theorem fN {c:Int} (h:0<=c/\c<12):c=0\/c=1\/c=2\/c=3\/c=4\/c=5\/c=6\/c=7\/c=8\/c=9\/c=10\/c=11:=Z
theorem fE {c:Int} (h:0<=c/\c<12):16<=sz c/\sz c<=1024:=by
 rcases fN h with rfl|rfl|rfl|rfl|rfl|rfl|rfl|rfl|rfl|rfl|rfl|rfl <;> decide
theorem g_ {c:Int} (h:¬(0<=c/\c<12)):sz c=0:=by simp only [sz,tg h]
theorem Gh (c):0<=sz c/\sz c<=1024:=by
 by_cases h:0<=c/\c<12;·have:=fE h;omega
 rw [g_ h];omega
theorem tw (h:k<12):sz (k:Int)=zI.getD k 0:=by
 have a:(0:Int)<=(k:Int)/\(k:Int)<12:=Z;simp only [sz,tm a,JL]
structure Tb (w:World):Prop where
 row:∃ t fr,w.heap[0]?=some (.cells (zI.map λz=>Value.int .i64 z).toArray t fr)
theorem Tb.cells (h:Tb w) (k:Nat) (b:k<12):w.cell? ⟨0,k,none⟩=some (I (zI.getD k 0)):=by
 obtain⟨t,c,h⟩:=h.row;have a:k<zI.length:=b;simp [World.cell?,h,Jq a]
theorem Tb.below (h:Tb w) (b:D w w'):Tb w':=by
 obtain⟨t,c,h⟩:=h.row;have a:0<w.heap.size:=by
  by_cases a:0<w.heap.size;·exact a
  have:w.heap[0]?=none:=BC Z;rw [this] at h;cases h
 exact⟨t,c,by rw [b.block 0 a];exact h⟩
theorem cI {b c} (d:D a b) (e:D b c):D a c:=d.trans (e.mono d.size)
theorem dU (c:Int) (w:World) (h:0<=c/\c<12) :
  Calls prog 152 #[I c] w λe w'=>e=.returned (.bool true)/\w'=w:=by
 obtain⟨a,b⟩:=h;go_enter func152,ntmps152;go_wp2;go_ret;exact⟨rfl,rfl⟩
theorem ev (c:Int) (w:World) (h:¬(0<=c/\c<12)) :
  Calls prog 152 #[I c] w λe w'=>e=.returned (.bool false)/\w'=w:=by
 by_cases b:0<=c;·have a:(decide (c<12))=false:=t5 Z;clear h;go_enter func152,ntmps152;go_wp2;go_ret;exact⟨by rw [<-a];rfl,rfl⟩
 clear h;go_enter func152,ntmps152;go_wp2;go_ret;exact⟨rfl,rfl⟩
theorem dW (c w) (a:Tb w) :
  Calls prog 154 #[I c] w λe w'=>e=.returned (I (sz c))/\w'=w:=by
 by_cases h:0<=c/\c<12
 ·obtain⟨k,rfl⟩:=AP h.1;have d:k<12:=Z;have f:=a.cells k d;rw [tw d];have b:=hidR (dU _ w h);clear a;go_enter func154,ntmps154;go_wp2_with fail;refine (b).mono ?_;rintro e w' ⟨rfl,rfl⟩;go_wp2;go_ret;exact⟨rfl,rfl⟩
 rw [g_ h];have b:=hidR (ev _ w h);clear a;go_enter func154,ntmps154;go_wp2_with fail;refine (b).mono ?_;rintro e w' ⟨rfl,rfl⟩;go_wp2;go_ret;exact⟨rfl,rfl⟩
end
end Go.Proofs.YtdfodlhkdmkfdaaGreatDoor
namespace Go.Proofs.YtdfodlhkdmkfdaaGreatDoor.product
open Go.Proofs.Tryz
set_option linter.unusedVariables false
set_option linter.unusedSimpArgs false
set_option maxRecDepth 20000
set_option maxHeartbeats 8000000
open Go.ChangeShapes Go.WideShapes Go.ChangeAt Go.RowKit
theorem Eb {p:Prop} (h:p):Hid p:=h
theorem vj (x y:Nat) (j:x<18446744073709551616) (k:y<18446744073709551616) (w:World) :
  Calls prog 168 #[U x,U y] w λe w'=>e=.returned (.tuple #[U ((x*y/18446744073709551616:Nat):Int),U ((x*y%18446744073709551616:Nat):Int)])/\w'=w:=by
 obtain⟨m,l,n,c⟩:=Lib.mul64_hi x y j k;have p:=Lv (a:=x/4294967296) (b:=y/4294967296) Z Z;have q:=Lv (a:=x/4294967296) (b:=y%4294967296) Z Z;have r:=Lv (a:=x%4294967296) (b:=y/4294967296) Z Z;have d:x/4294967296*(y/4294967296)<18446744073709551616:=Z;have f:x/4294967296*(y%4294967296)<18446744073709551616:=Z;have g:x%4294967296*(y/4294967296)<18446744073709551616:=Z;have i:x/4294967296*(y/4294967296)+(x/4294967296*(y%4294967296)+x%4294967296*(y%4294967296)/4294967296)/4294967296<18446744073709551616:=Z;have o:x/4294967296*(y/4294967296)+(x/4294967296*(y%4294967296)+x%4294967296*(y%4294967296)/4294967296)/4294967296+((x/4294967296*(y%4294967296)+x%4294967296*(y%4294967296)/4294967296)%4294967296+x%4294967296*(y/4294967296))/4294967296<18446744073709551616:=Z;go_enter func168,ntmps168;go_wp2;simp only [Mul64.maskN x j,Mul64.maskN y k,Mul64.divN,Mul64.mulN,Mul64.addN,IP _ m,IP _ f,IP _ l,Mul64.maskN _ l,IP _ g,IP _ n,IP _ d,IP _ i,IP _ o,Mul64.wrapM (x*y)];rw [c]
 go_ret2
 exact⟨rfl,rfl⟩
theorem im_Product_no (x y:Nat) (b:x<18446744073709551616) (c:y<18446744073709551616) (h:18446744073709551616<=x*y) (w:World) :
  Calls prog 105 #[U x,U y] w λe w'=>e=.returned (.tuple #[U 0,.bool false])/\w'=w:=by
 have a:=Eb (vj x y b c w);have d:(((x*y/18446744073709551616:Nat):Int) != 0)=true:=by
  have:1<=x*y/18446744073709551616:=(Nat.le_div_iff_mul_le Z).2 Z;simp;omega
 generalize x*y/18446744073709551616=q at a d;generalize x*y%18446744073709551616=r at a;clear h;go_enter func105,ntmps105;go_wp2_with fail;refine (a).mono ?_;rintro e w' ⟨rfl,rfl⟩;go_wp2
 go_ret2
 exact⟨rfl,rfl⟩
theorem im_Product_yes (x y:Nat) (b:x<18446744073709551616) (c:y<18446744073709551616) (h:x*y<18446744073709551616) (w:World) :
  Calls prog 105 #[U x,U y] w λe w'=>e=.returned (.tuple #[U ((x*y:Nat):Int),.bool true])/\w'=w:=by
 have a:=Eb (vj x y b c w);rw [Nat.div_eq_of_lt h,Jx h] at a;generalize x*y=r at a h ⊢;go_enter func105,ntmps105;go_wp2_with fail;refine (a).mono ?_;rintro e w' ⟨rfl,rfl⟩;go_wp2
 go_ret2
 exact⟨rfl,rfl⟩
end Go.Proofs.YtdfodlhkdmkfdaaGreatDoor.product
