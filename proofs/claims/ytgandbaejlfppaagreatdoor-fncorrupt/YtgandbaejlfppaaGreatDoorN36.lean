import Derived.Test.YtgandbaejlfppaaGreatDoorN30
import Derived.Test.YtgandbaejlfppaaGreatDoorN24
namespace Go.Proofs.YtgandbaejlfppaaGreatDoor
set_option linter.unusedVariables false
set_option linter.unusedSimpArgs false
set_option maxRecDepth 20000
set_option maxHeartbeats 8000000
open Go.RowKit
def tgtM (an:List An4) (o:Op6):Option Nat :=
 if o.ref=0 then some o.p
 else if o.ref < 0∨(an.length:Int) < o.ref then none
 else some ((o.p+((an[o.ref.toNat - 1]?.map An4.addr).getD 0)) % 18446744073709551616)
theorem stepH_tgt (cf:Cf) (h:Hs) (an:List An4) (o:Op6):stepH cf h an o=match tgtM an o with
  | some p=>doM cf h o p
  | none=>(.no 6,h):=by
 unfold stepH tgtM
 by_cases h1:o.ref=0
 ·rw [if_pos h1,if_pos h1]
 rw [if_neg h1,if_neg h1]
 by_cases h2:o.ref < 0∨(an.length:Int) < o.ref
 ·rw [if_pos h2,if_pos h2]
 rw [if_neg h2,if_neg h2]
structure Ans9 (B:Nat) (W:World) (l:List Aw) (v:Value):Prop where
 row:W.ownsRow B 45 4 v l.length (flatB l)
 len:l.length≤300
def TgtR (W:World) (r:Option Nat) (e:Ending) (W':World):Prop:=Below W.heap.size W W'∧((∃ p,r=some p∧e=.returned (Vu (p:Nat)))∨(r=none∧e=.panicked (refV 6)))
theorem im_target (B P:Nat) (o:Op6) (dd:Option Addr) (dl dc:Nat) (l:List Aw) (va:Option Addr) (vn vc:Nat) (W:World) (c119:W.cell? ⟨P,119,none⟩=some (.slice va vn vc)) (hA:Ans9 B W l (.slice va vn vc)) (ho:o.p < 18446744073709551616) (hr1 : -9223372036854775808≤o.ref) :
  Calls Tryz.prog 32 #[Vp P 0,.agg #[Vi o.kd,Vi o.ref,Vu (o.p:Nat),Vu (o.a:Nat),Vu (o.b:Nat),.slice dd dl dc]] W (TgtR W (tgtM (l.map (·.1)) o)):=by
 have hvn:vn=l.length:=by
  obtain⟨a,c,e⟩:=own_sl2 hA.row;injection e with _ e2 _
 have hll:=hA.len;obtain⟨V,hV⟩:∃ V,V=W.alloc (.cells #[Vi o.kd,Vi o.ref,Vu (o.p:Nat),Vu (o.a:Nat),Vu (o.b:Nat),.slice dd dl dc] 42):=⟨_,rfl⟩;have bV:Below W.heap.size W V:=by rw [hV];exact (Below.refl _ _).alloc (Nat.le_refl _) _
 have X:=(show V.heap[W.heap.size]?=some (.cells #[Vi o.kd,Vi o.ref,Vu (o.p:Nat),Vu (o.a:Nat),Vu (o.b:Nat),.slice dd dl dc] 42 (0,0)) by rw [hV];exact al_last W _);have z1:V.cell? ⟨W.heap.size,1,none⟩=some (Vi o.ref):=by rw [cell_of_row _ _ _ _ _ _ X];rfl
 have z2:V.cell? ⟨W.heap.size,2,none⟩=some (Vu (o.p:Nat)):=by rw [cell_of_row _ _ _ _ _ _ X];rfl
 have y9:=below_cell bV c119;have AV:=hid (own_bel hA.row bV);have BV:=hid bV;clear c119 hA X bV
 by_cases hr0:o.ref=0
 ·have HE:=hid (show tgtM (l.map (·.1)) o=some o.p by unfold tgtM;rw [if_pos hr0]);have hz:(o.ref==0)=true:=by simpa using hr0
  clear y9 AV hr0;generalize o.ref=rf at *;go_enter Tryz.func32,Tryz.ntmps32;go_upto_region 1 with fail
  refine Eq.mp (congrArg _ hV) ?_;clear hV;generalize W.heap.size=X at z1 z2 ⊢;go_wp2;go_ret;rw [HE.out];exact⟨BV.out,.inl ⟨_,rfl,rfl⟩⟩
 have hz:(o.ref==0)=false:=by simpa using hr0
 by_cases hneg:o.ref < 0
 ·have HE:=hid (show tgtM (l.map (·.1)) o=none by unfold tgtM;rw [if_neg hr0,if_pos (.inl hneg)]);clear AV hr0;generalize o.ref=rf at *;go_enter Tryz.func32,Tryz.ntmps32;go_upto_region 1 with fail
  refine Eq.mp (congrArg _ hV) ?_;clear hV;generalize W.heap.size=X at z1 z2 ⊢;go_upto_region 3 with fail
  refine wp_region_held (S:=fun W9=>W9.cell? ⟨X,1,none⟩=some (Vi rf)∧W9.cell? ⟨P,119,none⟩=some (.slice va vn vc)) (by kernel_rfl) ?_;simp only [List.size_toArray,List.length_cons,List.length_nil,Nat.reduceAdd,Array.replicate_succ,Array.replicate_zero,List.push_toArray,List.nil_append,List.cons_append];have hS:=And.intro (show V.drew.cell? _=_ from z1) (show V.drew.cell? _=_ from y9);refine pk 0 10 (Vp X 1) hS ?_;simp only [lz,l0,ls];refine pz 1 11 (Vi (rf)) hS ?_;simp only [lz,l0,ls];refine pz 2 12 (.bool true) hS ?_;simp only [lz,l0,ls];refine pk 3 13 (.bool true) hS ?_;simp only [lz,l0,ls];refine ps 4 14 hS ?_;simp only [lz,l0,ls];refine ps 5 15 hS ?_;simp only [lz,l0,ls];refine ps 6 16 hS ?_;simp only [lz,l0,ls];refine ps 7 17 hS ?_;simp only [lz,l0,ls];refine ps 8 18 hS ?_;simp only [lz,l0,ls];refine ps 9 19 hS ?_;simp only [lz,l0,ls];refine ps 10 20 hS ?_;simp only [lz,l0,ls];refine ps 11 21 hS ?_;simp only [lz,l0,ls];refine pz 12 22 (.bool true) hS ?_;simp only [lz,l0,ls];refine wpAnyH_done (by kernel_rfl) ?_ _;clear hS;go_wp2;rw [HE.out];exact⟨rfl,BV.out.drew,.inr ⟨rfl,rfl⟩⟩
 by_cases hgt:(l.length:Int) < o.ref
 ·have HE:=hid (show tgtM (l.map (·.1)) o=none by unfold tgtM;rw [if_neg hr0,if_pos (.inr (by simpa using hgt))]);clear AV hr0;rw [←hvn] at hgt;generalize o.ref=rf at *;go_enter Tryz.func32,Tryz.ntmps32;go_upto_region 1 with fail
  refine Eq.mp (congrArg _ hV) ?_;clear hV;generalize W.heap.size=X at z1 z2 ⊢;go_upto_region 3 with fail
  refine wp_region_held (S:=fun W9=>W9.cell? ⟨X,1,none⟩=some (Vi rf)∧W9.cell? ⟨P,119,none⟩=some (.slice va vn vc)) (by kernel_rfl) ?_;simp only [List.size_toArray,List.length_cons,List.length_nil,Nat.reduceAdd,Array.replicate_succ,Array.replicate_zero,List.push_toArray,List.nil_append,List.cons_append];have hS:=And.intro (show V.drew.cell? _=_ from z1) (show V.drew.cell? _=_ from y9);refine pk 0 10 (Vp X 1) hS ?_;simp only [lz,l0,ls];refine pz 1 11 (Vi (rf)) hS ?_;simp only [lz,l0,ls];refine pz 2 12 (.bool false) hS ?_;simp only [lz,l0,ls];refine pk 3 13 (.bool false) hS ?_;simp only [lz,l0,ls];refine pk 4 14 (Vp X 1) hS ?_;simp only [lz,l0,ls];refine pz 5 15 (Vi (rf)) hS ?_;simp only [lz,l0,ls];refine pk 6 16 (Vp P 0) hS ?_;simp only [lz,l0,ls];refine pk 7 17 (Vp P 0) hS ?_;simp only [lz,l0,ls];refine pk 8 18 (Vp P 119) hS ?_;simp only [lz,l0,ls];refine pz 9 19 (.slice va vn vc) hS ?_;simp only [lz,l0,ls];refine pz 10 20 (Vi (vn:Nat)) hS ?_;simp only [lz,l0,ls];refine pz 11 21 (.bool true) hS ?_;simp only [lz,l0,ls];refine pz 12 22 (.bool true) hS ?_;simp only [lz,l0,ls];refine wpAnyH_done (by kernel_rfl) ?_ _;clear hS;go_wp2;rw [HE.out];exact⟨rfl,BV.out.drew,.inr ⟨rfl,rfl⟩⟩
 obtain⟨rr,hrr⟩:∃ rr:Nat,o.ref=(rr:Int)+1:=⟨(o.ref - 1).toNat,by omega⟩;have hrk:rr < l.length:=by omega
 obtain⟨q,hq⟩:∃ q,l[rr]?=some q:=⟨_,List.getElem?_eq_getElem hrk⟩;obtain⟨gA,hgA⟩:∃ gA,va=some ⟨gA,0,none⟩:=by
  rw [hvn] at AV;exact own_at AV.out (by omega)
 subst hgA;have cA:V.cell? ⟨gA,rr*4+1,none⟩=some (Vu (q.1.addr:Nat)):=by
  have:=AV.out;rw [hvn] at this;exact own_cell this (rr*4+1) _ (flat_at aC 4 (fun _=>rfl) l rr q hq 1 (by omega))
 have HE:=hid (show tgtM (l.map (·.1)) o=some ((o.p+q.1.addr) % 18446744073709551616) by
  unfold tgtM;rw [if_neg hr0,if_neg (by simp;omega)];have e1:o.ref.toNat - 1=rr:=by omega
  rw [e1,List.getElem?_map,hq];rfl)
 have hr2:(o.ref - 1)=(rr:Int):=by omega
 have hwr:IntKind.i64.wrap (o.ref - 1)=(rr:Int):=by rw [hr2];rw [IntKind.wrap_i64];omega
 have hrk':(rr:Int) < (vn:Int):=by omega
 have HWR:=hid (show IntKind.u64.wrap ((o.p:Int)+(q.1.addr:Int))=(((o.p+q.1.addr) % 18446744073709551616:Nat):Int) by rw [wrap_u64x];simp);rw [←hvn] at hgt;clear hr0 hq hrr AV hrk hvn hll hr2;generalize q.1.addr=ya at *;generalize o.ref=rf at *;go_enter Tryz.func32,Tryz.ntmps32;go_upto_region 1 with fail
 refine Eq.mp (congrArg _ hV) ?_;clear hV;generalize W.heap.size=X at z1 z2 ⊢;go_upto_region 3 with fail
 refine wp_region_held (S:=fun W9=>W9.cell? ⟨X,1,none⟩=some (Vi rf)∧W9.cell? ⟨P,119,none⟩=some (Vl gA vn vc)) (by kernel_rfl) ?_;simp only [List.size_toArray,List.length_cons,List.length_nil,Nat.reduceAdd,Array.replicate_succ,Array.replicate_zero,List.push_toArray,List.nil_append,List.cons_append];have hS:=And.intro (show V.drew.cell? _=_ from z1) (show V.drew.cell? _=_ from y9);refine pk 0 10 (Vp X 1) hS ?_;simp only [lz,l0,ls];refine pz 1 11 (Vi (rf)) hS ?_;simp only [lz,l0,ls];refine pz 2 12 (.bool false) hS ?_;simp only [lz,l0,ls];refine pk 3 13 (.bool false) hS ?_;simp only [lz,l0,ls];refine pk 4 14 (Vp X 1) hS ?_;simp only [lz,l0,ls];refine pz 5 15 (Vi (rf)) hS ?_;simp only [lz,l0,ls];refine pk 6 16 (Vp P 0) hS ?_;simp only [lz,l0,ls];refine pk 7 17 (Vp P 0) hS ?_;simp only [lz,l0,ls];refine pk 8 18 (Vp P 119) hS ?_;simp only [lz,l0,ls];refine pz 9 19 (Vl gA vn vc) hS ?_;simp only [lz,l0,ls];refine pz 10 20 (Vi (vn:Nat)) hS ?_;simp only [lz,l0,ls];refine pz 11 21 (.bool false) hS ?_;simp only [lz,l0,ls];refine pz 12 22 (.bool false) hS ?_;simp only [lz,l0,ls];refine wpAnyH_done (by kernel_rfl) ?_ _;clear hS;go_upto_region 5 with fail
 refine wp_region_held (S:=fun W9=>W9.cell? ⟨X,1,none⟩=some (Vi rf)∧W9.cell? ⟨X,2,none⟩=some (Vu (o.p:Nat))∧W9.cell? ⟨P,119,none⟩=some (Vl gA vn vc)∧W9.cell? ⟨gA,rr*4+1,none⟩=some (Vu (ya:Nat))) (by kernel_rfl) ?_;simp only [List.size_toArray,List.length_cons,List.length_nil,Nat.reduceAdd,Array.replicate_succ,Array.replicate_zero,List.push_toArray,List.nil_append,List.cons_append];have hS:=And.intro (show V.drew.drew.cell? _=_ from z1) (And.intro (show V.drew.drew.cell? _=_ from z2) (And.intro (show V.drew.drew.cell? _=_ from y9) (show V.drew.drew.cell? _=_ from cA)));refine pk 0 25 (Vp X 2) hS ?_;simp only [lz,l0,ls];refine pz 1 26 (Vu (o.p:Nat)) hS ?_;simp only [lz,l0,ls];refine pk 2 27 (Vp P 0) hS ?_;simp only [lz,l0,ls];refine pk 3 28 (Vp P 0) hS ?_;simp only [lz,l0,ls];refine pk 4 29 (Vp P 119) hS ?_;simp only [lz,l0,ls];refine pz 5 30 (Vl gA vn vc) hS ?_;simp only [lz,l0,ls];refine pk 6 31 (Vp X 1) hS ?_;simp only [lz,l0,ls];refine pz 7 32 (Vi rf) hS ?_;simp only [lz,l0,ls];refine pz 8 33 (Vi (rr:Nat)) hS ?_;simp only [lz,l0,ls];refine pz 9 34 (Vp gA (rr*4)) hS ?_;simp only [lz,l0,ls];refine pk 10 35 (Vp gA (rr*4+1)) hS ?_;simp only [lz,l0,ls];refine pz 11 36 (Vu (ya:Nat)) hS ?_;simp only [lz,l0,ls];refine pz 12 37 (Vu (IntKind.u64.wrap ((o.p:Int)+(ya:Int)))) hS ?_;simp only [lz,l0,ls];refine pk 13 4 (Vu (IntKind.u64.wrap ((o.p:Int)+(ya:Int)))) hS ?_;simp only [lz,l0,ls];refine wpAnyH_done (by kernel_rfl) ?_ _;clear hS;go_wp2;go_ret;rw [HE.out];exact⟨BV.out.drew.drew,.inl ⟨_,rfl,by rw [←HWR.out];rfl⟩⟩
end Go.Proofs.YtgandbaejlfppaaGreatDoor
namespace Go.Proofs.YtgandbaejlfppaaGreatDoor
set_option linter.unusedVariables false
set_option linter.unusedSimpArgs false
set_option maxRecDepth 20000
set_option maxHeartbeats 8000000
open Go.RowKit Go.Shelf Go.Maps
def Drawn6 (w : World) (e : Ending) (w' : World) : Prop :=
  ∃ (c : Cd) (ops : List Oin) (A : Option Addr) (n B : Nat), e = .returned (.tuple #[.agg (cdC c).toArray, .slice A ops.length n]) ∧ c.ds.length ≤ 60 ∧ ops.length ≤ 301 ∧ w.heap.size ≤ B ∧ Ok4 B c w' ∧ w'.ownsRow B 42 6 (.slice A ops.length n) ops.length (flatO6 ops) ∧ (∀ q ∈ ops, Od6 B q w') ∧ Below w.heap.size w w'
def slLen6 : Value → Nat
  | .slice _ l _ => l
  | _ => 0
theorem draw6 (a : Option Addr) (len cap : Nat) (zs : List Int) (w : World) (h0 : IsRow .u8 w a len cap zs) (hlen : len ≤ 1048576) :
    Calls Tryz.prog 13 #[.slice a len cap] w fun e w' => Drawn6 w e w' := by
  have N := hid (fun R V (hV : Rd w a len cap R V V) => next_any w a len cap zs h0 hlen R V V hV)
  have HP := hid (fun R V (hV : Rd w a len cap R V V) => heap_any w a len cap zs h0 hlen R V hV)
  have OP := hid (fun R gv (hg : gv ≤ 400) tt V (hV : Rd w a len cap R V V) => op_any w a len cap zs h0 hlen R gv hg tt V hV)
  have b1 := (Below.refl w.heap.size w).alloc (Nat.le_refl _) (.cells #[.int .i64 0, .int .i64 0, .int .i64 0, .int .i64 0, .int .u64 0, .slice none 0 0] 26)
  have b2 := b1.alloc b1.size (.cells #[.slice a len cap, .int .i64 0] 82)
  have R0 := hid (show Rd w a len cap (w.heap.size + 1) w ((w.alloc (.cells #[.int .i64 0, .int .i64 0, .int .i64 0, .int .i64 0, .int .u64 0, .slice none 0 0] 26)).alloc (.cells #[.slice a len cap, .int .i64 0] 82)) from ⟨⟨0, Nat.zero_le _, by rw [← al_size w (.cells #[.int .i64 0, .int .i64 0, .int .i64 0, .int .i64 0, .int .u64 0, .slice none 0 0] 26)]; exact al_last _ _⟩, b2, by omega, ⟨b2.os, b2.tape, b2.output, b2.size, fun g h1 _ => b2.block g h1⟩⟩)
  have Y0 := hid ((al_old (w.alloc (.cells #[.int .i64 0, .int .i64 0, .int .i64 0, .int .i64 0, .int .u64 0, .slice none 0 0] 26)) (.cells #[.slice a len cap, .int .i64 0] 82) w.heap.size (by rw [al_size]; omega)).trans (al_last w (.cells #[.int .i64 0, .int .i64 0, .int .i64 0, .int .i64 0, .int .u64 0, .slice none 0 0] 26)))
  clear b1 b2 h0
  go_enter Tryz.func13, Tryz.ntmps13
  go_wp2_with fail
  generalize (w.alloc (.cells #[.int .i64 0, .int .i64 0, .int .i64 0, .int .i64 0, .int .u64 0, .slice none 0 0] 26)).alloc (.cells #[.slice a len cap, .int .i64 0] 82) = V1 at R0 Y0 ⊢
  obtain ⟨R, hR⟩ : ∃ R, R = w.heap.size + 1 := ⟨_, rfl⟩
  obtain ⟨Y, hY⟩ : ∃ Y, Y = w.heap.size := ⟨_, rfl⟩
  rw [← hR] at R0 ⊢
  rw [← hY] at Y0 ⊢
  have HRY := hid (And.intro hR hY)
  clear hR hY
  refine (HP.out _ _ R0.out.at).mono ?_
  rintro e V2 ⟨c, rfl, hcl, ok, r⟩
  unfold cdC
  have D0 := hid (show D6 w a len cap R V2.heap.size Y c (.slice none 0 0) [] (V2.alloc (.cells #[.int .i64 c.mi, .int .i64 c.fi, .int .i64 c.la, .int .i64 c.bu, .int .u64 c.ky, .slice c.da c.ds.length c.dc] 26)) from by
    have bA := (Below.refl V2.heap.size V2).alloc (Nat.le_refl _) (.cells #[.int .i64 c.mi, .int .i64 c.fi, .int .i64 c.la, .int .i64 c.bu, .int .u64 c.ky, .slice c.da c.ds.length c.dc] 26)
    have h1 := R0.out.lt
    have h2 := HRY.out
    have yb : V2.heap[Y]? = _ := (r.g.block Y (lt_blk Y0.out) (fun e => by cases e; omega)).trans Y0.out
    exact ⟨(R0.out.of r).below bA, r.lt, by omega, by omega, al_last V2 _, by rw [bA.block _ (lt_blk yb)]; exact yb, ⟨ok.k0, ok.k1, ok.dw, (own_downD h1 ok.d).alloc _⟩, ⟨rfl, .inl ⟨rfl, rfl⟩⟩, fun q hq => (by cases hq)⟩)
  clear ok r R0 Y0
  have HCL := hid hcl
  clear hcl
  go_wp2_with fail
  generalize V2.alloc (.cells #[.int .i64 c.mi, .int .i64 c.fi, .int .i64 c.la, .int .i64 c.bu, .int .u64 c.ky, .slice c.da c.ds.length c.dc] 26) = V3 at D0 ⊢
  generalize V2.heap.size = C at D0 ⊢
  refine (N.out _ _ D0.out.rd.at).mono ?_
  rintro e V4 ⟨⟨k, hk, rfl⟩, r⟩
  have D1 := hid (D0.out.next r)
  clear r D0
  go_wp2_with fail
  refine (N.out _ _ D1.out.rd.at).mono ?_
  rintro e V5 ⟨⟨n0, hn0, rfl⟩, r⟩
  have D2 := hid (D1.out.next r)
  clear r D1
  obtain ⟨n, hn, en⟩ : ∃ n : Nat, n < 60 ∧ (n0 : Int) % 60 = (n : Int) := ⟨n0 % 60, by omega, by omega⟩
  go_wp2
  rw [en]
  clear en
  go_loopw [7, 9] (fun v i wr => ∃ (j : Nat) (ops : List Oin), j ≤ n ∧ i = .int .i64 j ∧ ops.length = j ∧ Hid (D6 w a len cap R C Y c v ops wr)) (fun _ i _ => n - (intOf i).toNat)
  case atStart => exact ⟨0, [], Nat.zero_le _, rfl, rfl, D2⟩
  case round =>
    obtain ⟨j, ops, hj, rfl, hol, HD⟩ := hrel
    clear D2
    obtain ⟨va, vb, vc, rfl⟩ := own_slD HD.out.row
    obtain rfl := own_lenD HD.out.row
    have HL := hid hol
    clear hol
    by_cases hlt : j < n
    · go_wp2_with fail
      refine (OP.out _ ops.length (by have := HL.out; omega) _ _ HD.out.rd.at).mono ?_
      rintro e V6 ⟨q, rfl, od, r⟩
      have D3 := hid (HD.out.next r)
      obtain ⟨v', w', happ, hd⟩ := D3.out.app (by have := HL.out; omega) q ⟨od.p, od.a, od.b, own_downD HD.out.rd.lt od.d⟩
      have D4 := hid hd
      clear hd od r HD
      unfold opC6 at happ ⊢
      go_wp2_with (at_builtin; refine wpList_appT 43 rfl (.tmp 25) (.tmp 33) (by with_reducible rfl) rfl rfl rfl happ ?_)
      go_roundw
      case rel => exact ⟨j + 1, ops ++ [q], by omega, by go_num, by simp [HL.out], D4⟩
      case measure => simp [intOf]; omega
    · have : j = n := by omega
      subst this
      go_upto_if 36 with fail
      go_cut [7, 36] (fun v _ w' => ∃ ops : List Oin, ops.length ≤ 301 ∧ Hid (D6 w a len cap R C Y c v ops w'))
      case first =>
        cases g : ((k : Int) == 255)
        case false =>
          go_wp2
          go_meet
          case rel => exact ⟨ops, by have := HL.out; omega, HD⟩
        case true =>
          go_wp2_with fail
          go_loopw [7] (fun v wr => ∃ ops : List Oin, ops.length ≤ 301 ∧ Hid (D6 w a len cap R C Y c v ops wr)) (fun v _ => 400 - slLen6 v)
          case atStart => exact ⟨ops, by have := HL.out; omega, HD⟩
          case round =>
            clear HD HL
            obtain ⟨ops2, hol, HD⟩ := hrel
            obtain ⟨xa, xb, xc, rfl⟩ := own_slD HD.out.row
            obtain rfl := own_lenD HD.out.row
            by_cases hlt : ops2.length < 300 + j % 2
            · have hlt' : (ops2.length : Int) < 300 + (j : Int) % 2 := by omega
              obtain ⟨v', w', happ, hd⟩ := HD.out.app (by omega) ⟨⟨0, 0, 0, 1, 0, []⟩, none, 0⟩ ⟨by decide, by decide, by decide, ⟨rfl, .inl ⟨rfl, rfl⟩⟩⟩
              have D4 := hid hd
              obtain ⟨ya, yb, yc, rfl⟩ := own_slD hd.row
              have hyb := own_lenD hd.row
              rw [List.length_append] at hyb
              obtain rfl := hyb
              clear hd
              go_wp2_with (at_builtin; refine wpList_appT 43 rfl (.tmp 43) (.tmp 45) (by with_reducible rfl) rfl rfl rfl happ ?_)
              go_roundw
              case rel => exact ⟨ops2 ++ [⟨⟨0, 0, 0, 1, 0, []⟩, none, 0⟩], by simp; omega, D4⟩
              case measure => simp [slLen6]; omega
            · have hlt' : ¬ (ops2.length : Int) < 300 + (j : Int) % 2 := by omega
              go_wp2
              go_meet
              case rel => exact ⟨ops2, hol, HD⟩
      case rest =>
        clear HD HL
        obtain ⟨ops3, hol, HD⟩ := hcut
        obtain ⟨xa, xb, xc, rfl⟩ := own_slD HD.out.row
        obtain rfl := own_lenD HD.out.row
        go_wp2_with (first | (refine wpList_load_row rfl 26 _ rfl _ rfl _ _ _ _ HD.out.cb Tryz.underlying26 rfl (by kernel_rfl) ?_) | (refine wpList_store_row rfl 26 _ _ rfl _ _ rfl rfl 26 _ HD.out.yb (by kernel_rfl) rfl (by simp [cdC, Value.oneCell']) ?_))
        refine bodyPost_ret (results_cell_tmp (by rfl) _ _ Y _ (by rfl) (run_loadVar_row _ Y 26 26 _ (0, 0) _ (setRow_at HD.out.yb _) Tryz.underlying26 rfl (by kernel_rfl))) (by rfl) ?_
        have g := grown_setRow wc Y (cdC c).toArray
        have hy := HD.out.yr
        have hy1 := HD.out.y1
        have hR := HRY.out
        exact ⟨c, ops3, xa, xc, R + 1, rfl, HCL.out, hol, by omega, HD.out.ok.kept g (fun e => by have := (HD.out.ok.d.lt Y e).1; omega), HD.out.row.kept g (.inr fun e => by have := (HD.out.row.lt Y e).1; omega), fun q hq => (HD.out.dat q hq).kept g (fun e => by have := ((HD.out.dat q hq).d.lt Y e).1; omega), HD.out.rd.bel.grown g HD.out.rd.bel.size (fun r e => by cases e; omega)⟩
end Go.Proofs.YtgandbaejlfppaaGreatDoor
namespace Go.Proofs.YtgandbaejlfppaaGreatDoor
set_option linter.unusedVariables false
set_option linter.unusedSimpArgs false
set_option maxRecDepth 20000
set_option maxHeartbeats 8000000
open Go.RowKit Go.Shelf Go.Maps
structure Rm (w : World) (B C Y : Nat) (c : Cd) (W : World) : Prop where
  bel : Below w.heap.size w W
  b0 : w.heap.size ≤ B
  c0 : w.heap.size ≤ C
  y0 : w.heap.size ≤ Y
  cy : C ≠ Y
  cb : W.heap[C]? = some (.cells (cdC c).toArray 26 (0, 0))
  yb : W.heap[Y]? = some (.cells #[.int .i64 0, .int .i64 0, .int .i64 0, .int .i64 0, .int .u64 0, .slice none 0 0] 26 (0, 0))
  ok : Ok4 B c W
theorem Rm.below {w : World} {B C Y : Nat} {c : Cd} {W : World} (h : Rm w B C Y c W) {W' : World} (hb : Below W.heap.size W W') : Rm w B C Y c W' :=
  ⟨bl_trans h.bel hb, h.b0, h.c0, h.y0, h.cy, by rw [hb.block _ (lt_blk h.cb)]; exact h.cb, by rw [hb.block _ (lt_blk h.yb)]; exact h.yb, h.ok.kept (grown_of hb W.heap.size) (fun e => by obtain ⟨_, h2⟩ := h.ok.d.lt _ e; omega)⟩
theorem Rm.upd {w : World} {B C Y : Nat} {c : Cd} {W : World} (h : Rm w B C Y c W) (i : Nat) (v : Value) (c' : Cd) (ho : cdC c' = (cdC c).set i v) (hd : Ok4 B c' W) : Rm w B C Y c' (W.setCell ⟨C, i, none⟩ v) := by
  have hg : W.grownBy (W.setCell ⟨C, i, none⟩ v) (some C) := grown_set (grown_refl W C) i v
  refine ⟨h.bel.setCell h.c0 v, h.b0, h.c0, h.y0, h.cy, ?_, ?_, hd.kept hg (own_neT hd.d h.cb (by decide))⟩
  · rw [ho]
    simp [World.setCell, Array.getElem?_modify, h.cb]
  · rw [hg.block Y (lt_blk h.yb) (fun e => by cases e; exact h.cy rfl)]
    exact h.yb
theorem Rm.cells {w : World} {B C Y : Nat} {c : Cd} {W : World} (h : Rm w B C Y c W) : W.cell? ⟨C, 0, none⟩ = some (.int .i64 c.mi) ∧ W.cell? ⟨C, 1, none⟩ = some (.int .i64 c.fi) ∧ W.cell? ⟨C, 2, none⟩ = some (.int .i64 c.la) ∧ W.cell? ⟨C, 3, none⟩ = some (.int .i64 c.bu) ∧ ∀ i, W.frozen? ⟨C, i, none⟩ = false := by
  have := h.cb
  refine ⟨?_, ?_, ?_, ?_, fun i => ?_⟩ <;> simp [World.cell?, World.frozen?, this, cdC]
theorem roomy_any (a : Option Addr) (len cap : Nat) (zs : List Int) (w : World) (h0 : IsRow .u8 w a len cap zs) (hlen : len ≤ 1048576) :
    Calls Tryz.prog 5 #[.slice a len cap] w fun e w' => ∃ (c : Cd) (k B : Nat), k ≤ 255 ∧ e = .returned (.tuple #[.agg (cdC c).toArray, .int .i64 k]) ∧ c.ds.length ≤ 60 ∧ w.heap.size ≤ B ∧ Ok4 B c w' ∧ (0 ≤ c.mi ∧ c.mi ≤ 16) ∧ (1 ≤ c.fi ∧ c.fi ≤ 32) ∧ (1 ≤ c.la ∧ c.la ≤ 16) ∧ c.bu = 283 ∧ Below w.heap.size w w' := by
  have bA := (Below.refl w.heap.size w).alloc (Nat.le_refl _) (.cells #[.int .i64 0, .int .i64 0, .int .i64 0, .int .i64 0, .int .u64 0, .slice none 0 0] 26)
  have AP := hid sp_ArenaPages
  have LB := hid (fun i (hi : i < len) => h0.byte i hi)
  have h1 : IsRow .u8 (w.alloc (.cells #[.int .i64 0, .int .i64 0, .int .i64 0, .int .i64 0, .int .u64 0, .slice none 0 0] 26)) a len cap zs := h0.below bA
  have DR := hid (draw6 a len cap zs _ h1 hlen)
  have Y1 := hid (al_last w (.cells #[.int .i64 0, .int .i64 0, .int .i64 0, .int .i64 0, .int .u64 0, .slice none 0 0] 26))
  have BA := hid bA
  clear h0 h1 bA
  go_enter Tryz.func5, Tryz.ntmps5
  go_wp2_with fail
  generalize w.alloc (.cells #[.int .i64 0, .int .i64 0, .int .i64 0, .int .i64 0, .int .u64 0, .slice none 0 0] 26) = V1 at DR Y1 BA ⊢
  refine DR.out.mono ?_
  rintro e V2 ⟨c, ops, A, n, B, rfl, hcl, hol, hB, ok, -, -, b2⟩
  unfold cdC
  have D0 := hid (show Rm w B V2.heap.size w.heap.size c (V2.alloc (.cells #[.int .i64 c.mi, .int .i64 c.fi, .int .i64 c.la, .int .i64 c.bu, .int .u64 c.ky, .slice c.da c.ds.length c.dc] 26)) from by
    have bC := (Below.refl V2.heap.size V2).alloc (Nat.le_refl _) (.cells #[.int .i64 c.mi, .int .i64 c.fi, .int .i64 c.la, .int .i64 c.bu, .int .u64 c.ky, .slice c.da c.ds.length c.dc] 26)
    have hl := lt_blk Y1.out
    have yb : V2.heap[w.heap.size]? = _ := (b2.block _ hl).trans Y1.out
    have hs := BA.out.size
    have hs2 := b2.size
    exact ⟨bl_trans (bl_trans BA.out b2) bC, by omega, by omega, Nat.le_refl _, by omega, al_last V2 _, by rw [bC.block _ (lt_blk yb)]; exact yb, ⟨ok.k0, ok.k1, ok.dw, ok.d.alloc _⟩⟩)
  have HC := hid hcl
  clear ok b2 hB DR Y1 hcl
  go_upto_if 14 with fail
  generalize V2.alloc (.cells #[.int .i64 c.mi, .int .i64 c.fi, .int .i64 c.la, .int .i64 c.bu, .int .u64 c.ky, .slice c.da c.ds.length c.dc] 26) = V3 at D0 ⊢
  generalize V2.heap.size = C at D0 ⊢
  generalize w.heap.size = Y at D0 ⊢
  go_cut [6, 14] (fun s _ w' => ∃ k : Nat, k ≤ 255 ∧ s = .int .i64 k ∧ w' = V3)
  case first =>
    by_cases hl : 0 < len
    · obtain ⟨m, rfl⟩ : ∃ m, len = m + 1 := ⟨len - 1, by omega⟩
      obtain ⟨x, b, rfl, hb0, hb1, hx⟩ := LB.out m (by omega)
      obtain ⟨b, rfl⟩ := Int.eq_ofNat_of_zero_le hb0
      have hx' := below_cell D0.out.bel hx
      clear hx
      go_wp2
      go_meet
      case rel => exact ⟨b, by omega, rfl, rfl⟩
    · go_wp2
      go_meet
      case rel => exact ⟨0, by omega, rfl, rfl⟩
  case rest =>
    obtain ⟨k, hk, rfl, rfl⟩ := hcut
    go_wp2_with fail
    refine (AP.out _).mono ?_
    rintro e V4 ⟨rfl, b⟩
    have D1 := hid (D0.out.below b)
    clear b D0
    have D2 := hid (D1.out.upd 3 (.int .i64 283) { c with bu := 283 } rfl ⟨D1.out.ok.k0, D1.out.ok.k1, D1.out.ok.dw, D1.out.ok.d⟩)
    obtain ⟨z0, z1, z2, z3, zf⟩ := D1.out.cells
    have zf3 := zf 3
    clear zf
    go_upto_region 6 with fail
    clear z0 z1 z2 z3 zf3 D1
    generalize V4.setCell ⟨C, 3, none⟩ (.int .i64 283) = V5 at D2 ⊢
    obtain ⟨c1, hc1, hcl1, D3⟩ : ∃ c1 : Cd, c1.bu = 283 ∧ c1.ds.length ≤ 60 ∧ Hid (Rm w B C Y c1 V5) := ⟨{ c with bu := 283 }, rfl, HC.out, D2⟩
    clear D2
    go_cut [31] (fun s w' => s = .bool (decide (c1.mi < 0 ∨ 16 < c1.mi)) ∧ w' = V5)
    case first =>
      obtain ⟨z0, z1, z2, z3, zf⟩ := D3.out.cells
      clear zf
      have hw : c1.mi < 0 ∨ (¬ c1.mi < 0 ∧ 16 < c1.mi) ∨ (¬ c1.mi < 0 ∧ ¬ 16 < c1.mi) := by omega
      rcases hw with hw | ⟨hw, hw2⟩ | ⟨hw, hw2⟩
      · go_wp2
        go_meet
        case rel => exact ⟨congrArg Value.bool (decide_eq_true (p := c1.mi < 0 ∨ 16 < c1.mi) (by omega)).symm, rfl⟩
      · go_wp2
        go_meet
        case rel => exact ⟨congrArg Value.bool (decide_eq_true (p := c1.mi < 0 ∨ 16 < c1.mi) (by omega)).symm, rfl⟩
      · go_wp2
        go_meet
        case rel => exact ⟨congrArg Value.bool (decide_eq_false (p := c1.mi < 0 ∨ 16 < c1.mi) (by omega)).symm, rfl⟩
    case rest =>
      obtain ⟨rfl, rfl⟩ := hcut
      go_upto_if 31 with fail
      go_cut [31] (fun _ w' => ∃ c : Cd, c.bu = 283 ∧ c.ds.length ≤ 60 ∧ (0 ≤ c.mi ∧ c.mi ≤ 16) ∧ Hid (Rm w B C Y c w'))
      case first =>
        obtain ⟨z0, z1, z2, z3, zf⟩ := D3.out.cells
        have zf9 := zf 0
        clear zf
        by_cases hb : c1.mi < 0 ∨ 16 < c1.mi
        · have e9 : decide (c1.mi < 0 ∨ 16 < c1.mi) = true := decide_eq_true hb
          go_wp2
          go_meet
          case rel => exact ⟨{ c1 with mi := 3 }, hc1, hcl1, ⟨by dsimp only; omega, by dsimp only; omega⟩, hid (D3.out.upd 0 (.int .i64 3) _ rfl ⟨D3.out.ok.k0, D3.out.ok.k1, D3.out.ok.dw, D3.out.ok.d⟩)⟩
        · have e9 : decide (c1.mi < 0 ∨ 16 < c1.mi) = false := decide_eq_false hb
          go_wp2
          go_meet
          case rel => exact ⟨c1, hc1, hcl1, ⟨by omega, by omega⟩, D3⟩
      case rest =>
        clear D3 hc1 hcl1 c1
        obtain ⟨c1, hc1, hcl1, hm1, D3⟩ := hcut
        obtain ⟨W0, hW0⟩ : ∃ W, W = wc := ⟨_, rfl⟩
        rw [← hW0] at D3 ⊢
        clear hW0
        go_upto_region 8 with fail
        go_cut [40] (fun s w' => s = .bool (decide (c1.fi < 1 ∨ 32 < c1.fi)) ∧ w' = W0)
        case first =>
          obtain ⟨z0, z1, z2, z3, zf⟩ := D3.out.cells
          clear zf
          have hw : c1.fi < 1 ∨ (¬ c1.fi < 1 ∧ 32 < c1.fi) ∨ (¬ c1.fi < 1 ∧ ¬ 32 < c1.fi) := by omega
          rcases hw with hw | ⟨hw, hw2⟩ | ⟨hw, hw2⟩
          · go_wp2
            go_meet
            case rel => exact ⟨congrArg Value.bool (decide_eq_true (p := c1.fi < 1 ∨ 32 < c1.fi) (by omega)).symm, rfl⟩
          · go_wp2
            go_meet
            case rel => exact ⟨congrArg Value.bool (decide_eq_true (p := c1.fi < 1 ∨ 32 < c1.fi) (by omega)).symm, rfl⟩
          · go_wp2
            go_meet
            case rel => exact ⟨congrArg Value.bool (decide_eq_false (p := c1.fi < 1 ∨ 32 < c1.fi) (by omega)).symm, rfl⟩
        case rest =>
          obtain ⟨rfl, rfl⟩ := hcut
          go_upto_if 40 with fail
          go_cut [40] (fun _ w' => ∃ c : Cd, c.bu = 283 ∧ c.ds.length ≤ 60 ∧ (0 ≤ c.mi ∧ c.mi ≤ 16) ∧ (1 ≤ c.fi ∧ c.fi ≤ 32) ∧ Hid (Rm w B C Y c w'))
          case first =>
            obtain ⟨z0, z1, z2, z3, zf⟩ := D3.out.cells
            have zf9 := zf 1
            clear zf
            by_cases hb : c1.fi < 1 ∨ 32 < c1.fi
            · have e9 : decide (c1.fi < 1 ∨ 32 < c1.fi) = true := decide_eq_true hb
              go_wp2
              go_meet
              case rel => exact ⟨{ c1 with fi := 2 }, hc1, hcl1, hm1, ⟨by dsimp only; omega, by dsimp only; omega⟩, hid (D3.out.upd 1 (.int .i64 2) _ rfl ⟨D3.out.ok.k0, D3.out.ok.k1, D3.out.ok.dw, D3.out.ok.d⟩)⟩
            · have e9 : decide (c1.fi < 1 ∨ 32 < c1.fi) = false := decide_eq_false hb
              go_wp2
              go_meet
              case rel => exact ⟨c1, hc1, hcl1, hm1, ⟨by omega, by omega⟩, D3⟩
          case rest =>
            clear D3 hc1 hcl1 hm1 c1
            obtain ⟨c1, hc1, hcl1, hm1, hm2, D3⟩ := hcut
            obtain ⟨W1, hW1⟩ : ∃ W, W = wc := ⟨_, rfl⟩
            rw [← hW1] at D3 ⊢
            clear hW1
            go_upto_region 10 with fail
            go_cut [49] (fun s w' => s = .bool (decide (c1.la < 1 ∨ 16 < c1.la)) ∧ w' = W1)
            case first =>
              obtain ⟨z0, z1, z2, z3, zf⟩ := D3.out.cells
              clear zf
              have hw : c1.la < 1 ∨ (¬ c1.la < 1 ∧ 16 < c1.la) ∨ (¬ c1.la < 1 ∧ ¬ 16 < c1.la) := by omega
              rcases hw with hw | ⟨hw, hw2⟩ | ⟨hw, hw2⟩
              · go_wp2
                go_meet
                case rel => exact ⟨congrArg Value.bool (decide_eq_true (p := c1.la < 1 ∨ 16 < c1.la) (by omega)).symm, rfl⟩
              · go_wp2
                go_meet
                case rel => exact ⟨congrArg Value.bool (decide_eq_true (p := c1.la < 1 ∨ 16 < c1.la) (by omega)).symm, rfl⟩
              · go_wp2
                go_meet
                case rel => exact ⟨congrArg Value.bool (decide_eq_false (p := c1.la < 1 ∨ 16 < c1.la) (by omega)).symm, rfl⟩
            case rest =>
              obtain ⟨rfl, rfl⟩ := hcut
              go_upto_if 49 with fail
              go_cut [49] (fun _ w' => ∃ c : Cd, c.bu = 283 ∧ c.ds.length ≤ 60 ∧ (0 ≤ c.mi ∧ c.mi ≤ 16) ∧ (1 ≤ c.fi ∧ c.fi ≤ 32) ∧ (1 ≤ c.la ∧ c.la ≤ 16) ∧ Hid (Rm w B C Y c w'))
              case first =>
                obtain ⟨z0, z1, z2, z3, zf⟩ := D3.out.cells
                have zf9 := zf 2
                clear zf
                by_cases hb : c1.la < 1 ∨ 16 < c1.la
                · have e9 : decide (c1.la < 1 ∨ 16 < c1.la) = true := decide_eq_true hb
                  go_wp2
                  go_meet
                  case rel => exact ⟨{ c1 with la := 2 }, hc1, hcl1, hm1, hm2, ⟨by dsimp only; omega, by dsimp only; omega⟩, hid (D3.out.upd 2 (.int .i64 2) _ rfl ⟨D3.out.ok.k0, D3.out.ok.k1, D3.out.ok.dw, D3.out.ok.d⟩)⟩
                · have e9 : decide (c1.la < 1 ∨ 16 < c1.la) = false := decide_eq_false hb
                  go_wp2
                  go_meet
                  case rel => exact ⟨c1, hc1, hcl1, hm1, hm2, ⟨by omega, by omega⟩, D3⟩
              case rest =>
                clear D3 hc1 hcl1 hm1 hm2 c1
                obtain ⟨c1, hc1, hcl1, hm1, hm2, hm3, D3⟩ := hcut
                obtain ⟨W2, hW2⟩ : ∃ W, W = wc := ⟨_, rfl⟩
                rw [← hW2] at D3 ⊢
                clear hW2
                go_wp2_with (first | (refine wpList_load_row rfl 26 _ rfl _ rfl _ _ _ _ D3.out.cb Tryz.underlying26 rfl (by kernel_rfl) ?_) | (refine wpList_store_row rfl 26 _ _ rfl _ _ rfl rfl 26 _ D3.out.yb (by kernel_rfl) rfl (by simp [cdC, Value.oneCell']) ?_))
                refine bodyPost_ret (results_cell_tmp (by rfl) _ _ Y _ (by rfl) (run_loadVar_row _ Y 26 26 _ (0, 0) _ (setRow_at D3.out.yb _) Tryz.underlying26 rfl (by kernel_rfl))) (by rfl) ?_
                have g := grown_setRow W2 Y (cdC c1).toArray
                exact ⟨c1, k, B, hk, rfl, hcl1, D3.out.b0, D3.out.ok.kept g (own_neT D3.out.ok.d D3.out.yb (by decide)), hm1, hm2, hm3, hc1, D3.out.bel.grown g D3.out.bel.size (fun r e => by cases e; exact D3.out.y0)⟩
end Go.Proofs.YtgandbaejlfppaaGreatDoor
