import Derived.Test.YtgandbaejlfppaaGreatDoorN33
namespace Go.Proofs.YtgandbaejlfppaaGreatDoor
set_option linter.unusedVariables false
set_option linter.unusedSimpArgs false
set_option maxRecDepth 20000
set_option maxHeartbeats 8000000
open Go.RowKit
def caught (code:Int):List PanicEntry:=[{ v:=.iface 92 (.agg #[Vi code]),recovered:=false }]
structure Rn9 (P X2 X3 X4:Nat) (kd ref:Int) (p a b:Nat) (d:Option Addr) (dl dc:Nat) (Q:World→Prop) (N:Int→World→Prop) (post:Ending→World→Prop):Prop where
 x2:∀ V,Q V→V.cell? ⟨X2,0,none⟩=some (Vp P 0)
 x3:∀ V,Q V→V.heap[X3]?=some (.cells #[Vi kd,Vi ref,Vu (p:Nat),Vu (a:Nat),Vu (b:Nat),.slice d dl dc] 42 (0,0))
 x4:∀ V,Q V→V.heap[X4]?=some (.cells #[Vi 0,Vu 0,Vi 0,Vn] 45 (0,0))
 qd:∀ V,Q V→Q V.drew
 id:∀ V,CallsD Tryz.prog 30 #[Vp X2 0,Vp X4 0] .returning V fun e u' W'=>e=.returned (.tuple #[])∧u'=.returning∧W'=V
 no:∀ code V,N code V→CallsD Tryz.prog 30 #[Vp X2 0,Vp X4 0] (.panicking (caught code)) V fun e u W'=>e=.returned (.tuple #[])∧u=.panicking [{ v:=.iface 92 (.agg #[Vi code]),recovered:=true }]∧∃ r1 r2 r3 r4,W'.heap[X4]?=some (.cells #[r1,r2,r3,r4] 45 (0,0))∧post (.returned (.agg #[r1,r2,r3,r4])) W'
theorem Rn9.cell {P X2 X3 X4:Nat} {kd ref:Int} {p a b:Nat} {d:Option Addr} {dl dc:Nat} {Q:World→Prop} {N:Int→World→Prop} {post:Ending→World→Prop} (r:Rn9 P X2 X3 X4 kd ref p a b d dl dc Q N post) {V:World} (h:Q V) :
  V.cell? ⟨X2,0,none⟩=some (Vp P 0)∧V.cell? ⟨X3,0,none⟩=some (Vi kd)∧V.cell? ⟨X3,1,none⟩=some (Vi ref)∧V.cell? ⟨X3,2,none⟩=some (Vu (p:Nat))∧V.cell? ⟨X3,3,none⟩=some (Vu (a:Nat))∧V.cell? ⟨X3,4,none⟩=some (Vu (b:Nat))∧V.cell? ⟨X3,5,none⟩=some (.slice d dl dc):=by
 have h3:=r.x3 V h;refine⟨r.x2 V h,?_,?_,?_,?_,?_,?_⟩ <;> (rw [cell_of_row _ _ _ _ _ _ h3];rfl)
theorem leaves_tmps {P:Program} {fn:Func} {t t':Array Value} {R:Ending→World→Prop} (hr:results fn t=results fn t'):∀ (ds:List Deferred) (u:FrameMode) (w:World),Leaves P fn t R ds u w→Leaves P fn t' R ds u w
 | [],.returning,w,⟨v,h1,h2⟩=>⟨v,by rw [←hr];exact h1,h2⟩
 | [],.panicking c,w,h=>h
 | [],.run,w,h=>h
 | d::ds,u,w,⟨hu,fv,cap,f,args,e1,e2,h⟩=>⟨hu,fv,cap,f,args,e1,e2,h.mono (fun e u' w' h'=>by
   cases e with
   | returned v=>exact leaves_tmps hr ds _ _ h'
   | panicked v=>exact leaves_tmps hr ds _ _ h'
   | outgrown=>exact h')⟩
theorem res26 (t:Array Value) (d:Nat) (v:Value) (hd:d≠4):results Tryz.f17 (t.setIfInBounds d v)=results Tryz.f17 t:=by
 unfold results;simp only [Tryz.results17];simp [hd]
theorem door_no {P X2 X3 X4:Nat} {kd ref:Int} {p a b:Nat} {d:Option Addr} {dl dc:Nat} {Q:World→Prop} {N:Int→World→Prop} {post:Ending→World→Prop} (r:Rn9 P X2 X3 X4 kd ref p a b d dl dc Q N post) {V:World} (code:Int) (h:N code V) (tmps:Array Value) (ht:tmps.getD 4 undef=Vp X4 0) :
  Leaves Tryz.prog Tryz.f17 tmps post [{ target:=.fn (.func 30) #[Vp X2 0,Vp X4 0],args:=#[] }] (.panicking (caught code)) V:=by
 refine leaves_cons (f:=30) (args:=#[Vp X2 0,Vp X4 0]) (by simp) (by simp [go_sem]) ?_;refine (r.no code V h).mono ?_;rintro e u W' ⟨rfl,rfl,r1,r2,r3,r4,h4,hp⟩;exact⟨_,results_cell_row (by rfl) _ _ X4 45 _ (0,0) _ ht h4 Tryz.underlying45 rfl (by kernel_rfl),hp⟩
theorem door_ok {P X2 X3 X4:Nat} {kd ref:Int} {p a b:Nat} {d:Option Addr} {dl dc:Nat} {Q:World→Prop} {N:Int→World→Prop} {post:Ending→World→Prop} (r:Rn9 P X2 X3 X4 kd ref p a b d dl dc Q N post) {V:World} (r1 r2 r3 r4:Value) (h4:V.heap[X4]?=some (.cells #[r1,r2,r3,r4] 45 (0,0))) (hp:post (.returned (.agg #[r1,r2,r3,r4])) V) (tmps:Array Value) (ht:tmps.getD 4 undef=Vp X4 0) :
  Leaves Tryz.prog Tryz.f17 tmps post [{ target:=.fn (.func 30) #[Vp X2 0,Vp X4 0],args:=#[] }] .returning V:=by
 refine leaves_cons (f:=30) (args:=#[Vp X2 0,Vp X4 0]) (by simp) (by simp [go_sem]) ?_;refine (r.id V).mono ?_;rintro e u W' ⟨rfl,rfl,rfl⟩;exact⟨_,results_cell_row (by rfl) _ _ X4 45 _ (0,0) _ ht h4 Tryz.underlying45 rfl (by kernel_rfl),hp⟩
def three (W:World) (P:Nat) (op:Array Value):World:=((W.alloc (.cells #[Vp P 0] 58)).alloc (.cells op 42)).alloc (.cells #[Vi 0,Vu 0,Vi 0,Vn] 45)
theorem im_runT (P X2 X3 X4:Nat) (kd ref:Int) (p a b:Nat) (d:Option Addr) (dl dc:Nat) (W:World) (Q:World→Prop) (N:Int→World→Prop) (post:Ending→World→Prop) (rn:Rn9 P X2 X3 X4 kd ref p a b d dl dc Q N post) (hX2:X2=W.heap.size) (hX3:X3=W.heap.size+1) (hX4:X4=W.heap.size+1+1)
  (h0:Q (three W P #[Vi kd,Vi ref,Vu (p:Nat),Vu (a:Nat),Vu (b:Nat),.slice d dl dc]))
  (tg:∀ V,Q V→Calls Tryz.prog 32 #[Vp P 0,.agg #[Vi kd,Vi ref,Vu (p:Nat),Vu (a:Nat),Vu (b:Nat),.slice d dl dc]] V fun e V'=>e=.panicked (caught 6)∧N 6 V') :
  Calls Tryz.prog 17 #[Vp P 0,.agg #[Vi kd,Vi ref,Vu (p:Nat),Vu (a:Nat),Vu (b:Nat),.slice d dl dc]] W post:=by
 have RN:=hid rn;have H0:=hid h0;clear rn h0;have TG:=hid tg;clear tg;unfold three at H0
 go_enter_defers Tryz.func17,Tryz.ntmps17
 go_wp2_with fail;rw [←hX4,←hX3,←hX2];refine (TG.out _ H0.out).mono ?_;rintro e V ⟨rfl,hN⟩;exact door_no RN.out 6 hN _ rfl
theorem im_run0 (P X2 X3 X4:Nat) (kd ref:Int) (p a b:Nat) (d:Option Addr) (dl dc:Nat) (q:Nat) (z:Nat) (Q1:Nat→Nat→Nat→World→Prop) (Q2:World→Prop) (W:World) (Q:World→Prop) (N:Int→World→Prop) (post:Ending→World→Prop) (rn:Rn9 P X2 X3 X4 kd ref p a b d dl dc Q N post) (hX2:X2=W.heap.size) (hX3:X3=W.heap.size+1) (hX4:X4=W.heap.size+1+1)
  (h0:Q (three W P #[Vi kd,Vi ref,Vu (p:Nat),Vu (a:Nat),Vu (b:Nat),.slice d dl dc]))
  (hk:kd=0)
  (tg:∀ V,Q V→Calls Tryz.prog 32 #[Vp P 0,.agg #[Vi kd,Vi ref,Vu (p:Nat),Vu (a:Nat),Vu (b:Nat),.slice d dl dc]] V fun e V'=>e=.returned (Vu (q:Nat))∧Q V')
  (c9:∀ V,Q V→Calls Tryz.prog 33 #[Vp P 0,Vu (a:Nat)] V fun e V'=>(∃ code,e=.panicked (caught code)∧N code V')∨∃ t g fb,e=.returned (.iface t (Vp g 0))∧(t=133∧fb=72∨t=145∧fb=99)∧Q1 t g fb V')
  (b9:∀ t g fb V,Q1 t g fb V→Calls Tryz.prog fb #[Vp g 0] V fun e V'=>e=.returned (Vu (z:Nat))∧Q2 V')
  (f9:∀ V,Q2 V→V.heap[X4]?=some (.cells #[Vi 0,Vu 0,Vi 0,Vn] 45 (0,0))∧post (.returned (.agg #[Vi 0,Vu (z:Nat),Vi 0,Vn])) (V.setRow X4 #[Vi 0,Vu (z:Nat),Vi 0,Vn])) :
  Calls Tryz.prog 17 #[Vp P 0,.agg #[Vi kd,Vi ref,Vu (p:Nat),Vu (a:Nat),Vu (b:Nat),.slice d dl dc]] W post:=by
 have RN:=hid rn;have H0:=hid h0;clear rn h0;have TG:=hid tg;clear tg;have C9:=hid c9;clear c9;have B9:=hid b9;clear b9;have F9:=hid f9;clear f9;subst hk;unfold three at H0
 go_enter_defers Tryz.func17,Tryz.ntmps17
 go_wp2_with fail;rw [←hX4,←hX3,←hX2];refine (TG.out _ H0.out).mono ?_;rintro e V ⟨rfl,hV⟩;have H1:=hid hV;obtain⟨c2,k0,k1,k2,k3,k4,k5⟩:=RN.out.cell hV;clear hV H0 TG hX2 hX3 hX4;generalize W.heap.size=n0 at *;go_wp2_with fail;refine (C9.out _ H1.out).mono ?_;rintro e V2 (⟨code,rfl,hN⟩|⟨t,g,fb,rfl,ht,hV⟩)
 ·exact door_no RN.out code hN _ rfl
 have H2:=hid hV;clear hV C9 H1 c2 k0 k1 k2 k3 k4 k5
 rcases ht with ⟨rfl,rfl⟩|⟨rfl,rfl⟩
 ·have mb:=fun w=>mt_bs g w
  go_wp2_with fail;refine (B9.out _ g _ _ H2.out).mono ?_;rintro e V3 ⟨rfl,hV⟩;obtain⟨x4,hF⟩:=F9.out _ hV;have X4H:=hid x4;have HF:=hid hF;clear hV hF H2 B9 F9 x4;go_wp2_with (refine wpList_store_row rfl 45 _ _ rfl _ _ rfl rfl 45 _ X4H.out (by kernel_rfl) rfl (by simp [Value.oneCell']) ?_);exact door_ok RN.out (Vi 0) (Vu (z:Nat)) (Vi 0) (Vn) (setRow_at X4H.out _) HF.out _ rfl
 have mb:=fun w=>mt_bl g w
 go_wp2_with fail;refine (B9.out _ g _ _ H2.out).mono ?_;rintro e V3 ⟨rfl,hV⟩;obtain⟨x4,hF⟩:=F9.out _ hV;have X4H:=hid x4;have HF:=hid hF;clear hV hF H2 B9 F9 x4;go_wp2_with (refine wpList_store_row rfl 45 _ _ rfl _ _ rfl rfl 45 _ X4H.out (by kernel_rfl) rfl (by simp [Value.oneCell']) ?_);exact door_ok RN.out (Vi 0) (Vu (z:Nat)) (Vi 0) (Vn) (setRow_at X4H.out _) HF.out _ rfl
theorem im_run1 (P X2 X3 X4:Nat) (kd ref:Int) (p a b:Nat) (d:Option Addr) (dl dc:Nat) (q:Nat) (z:Nat) (Q1:Nat→Nat→Nat→World→Prop) (Q2:World→Prop) (W:World) (Q:World→Prop) (N:Int→World→Prop) (post:Ending→World→Prop) (rn:Rn9 P X2 X3 X4 kd ref p a b d dl dc Q N post) (hX2:X2=W.heap.size) (hX3:X3=W.heap.size+1) (hX4:X4=W.heap.size+1+1)
  (h0:Q (three W P #[Vi kd,Vi ref,Vu (p:Nat),Vu (a:Nat),Vu (b:Nat),.slice d dl dc]))
  (hk:kd=1)
  (tg:∀ V,Q V→Calls Tryz.prog 32 #[Vp P 0,.agg #[Vi kd,Vi ref,Vu (p:Nat),Vu (a:Nat),Vu (b:Nat),.slice d dl dc]] V fun e V'=>e=.returned (Vu (q:Nat))∧Q V')
  (c9:∀ V,Q V→Calls Tryz.prog 34 #[Vp P 0,Vu (a:Nat),Vu (b:Nat)] V fun e V'=>(∃ code,e=.panicked (caught code)∧N code V')∨∃ t g fb,e=.returned (.iface t (Vp g 0))∧(t=133∧fb=72∨t=145∧fb=99)∧Q1 t g fb V')
  (b9:∀ t g fb V,Q1 t g fb V→Calls Tryz.prog fb #[Vp g 0] V fun e V'=>e=.returned (Vu (z:Nat))∧Q2 V')
  (f9:∀ V,Q2 V→V.heap[X4]?=some (.cells #[Vi 0,Vu 0,Vi 0,Vn] 45 (0,0))∧post (.returned (.agg #[Vi 0,Vu (z:Nat),Vi 0,Vn])) (V.setRow X4 #[Vi 0,Vu (z:Nat),Vi 0,Vn])) :
  Calls Tryz.prog 17 #[Vp P 0,.agg #[Vi kd,Vi ref,Vu (p:Nat),Vu (a:Nat),Vu (b:Nat),.slice d dl dc]] W post:=by
 have RN:=hid rn;have H0:=hid h0;clear rn h0;have TG:=hid tg;clear tg;have C9:=hid c9;clear c9;have B9:=hid b9;clear b9;have F9:=hid f9;clear f9;subst hk;unfold three at H0
 go_enter_defers Tryz.func17,Tryz.ntmps17
 go_wp2_with fail;rw [←hX4,←hX3,←hX2];refine (TG.out _ H0.out).mono ?_;rintro e V ⟨rfl,hV⟩;have H1:=hid hV;obtain⟨c2,k0,k1,k2,k3,k4,k5⟩:=RN.out.cell hV;clear hV H0 TG hX2 hX3 hX4;generalize W.heap.size=n0 at *;go_wp2_with fail;refine (C9.out _ H1.out).mono ?_;rintro e V2 (⟨code,rfl,hN⟩|⟨t,g,fb,rfl,ht,hV⟩)
 ·exact door_no RN.out code hN _ rfl
 have H2:=hid hV;clear hV C9 H1 c2 k0 k1 k2 k3 k4 k5
 rcases ht with ⟨rfl,rfl⟩|⟨rfl,rfl⟩
 ·have mb:=fun w=>mt_bs g w
  go_wp2_with fail;refine (B9.out _ g _ _ H2.out).mono ?_;rintro e V3 ⟨rfl,hV⟩;obtain⟨x4,hF⟩:=F9.out _ hV;have X4H:=hid x4;have HF:=hid hF;clear hV hF H2 B9 F9 x4;go_wp2_with (refine wpList_store_row rfl 45 _ _ rfl _ _ rfl rfl 45 _ X4H.out (by kernel_rfl) rfl (by simp [Value.oneCell']) ?_);exact door_ok RN.out (Vi 0) (Vu (z:Nat)) (Vi 0) (Vn) (setRow_at X4H.out _) HF.out _ rfl
 have mb:=fun w=>mt_bl g w
 go_wp2_with fail;refine (B9.out _ g _ _ H2.out).mono ?_;rintro e V3 ⟨rfl,hV⟩;obtain⟨x4,hF⟩:=F9.out _ hV;have X4H:=hid x4;have HF:=hid hF;clear hV hF H2 B9 F9 x4;go_wp2_with (refine wpList_store_row rfl 45 _ _ rfl _ _ rfl rfl 45 _ X4H.out (by kernel_rfl) rfl (by simp [Value.oneCell']) ?_);exact door_ok RN.out (Vi 0) (Vu (z:Nat)) (Vi 0) (Vn) (setRow_at X4H.out _) HF.out _ rfl
theorem im_run2 (P X2 X3 X4:Nat) (kd ref:Int) (p a b:Nat) (d:Option Addr) (dl dc:Nat) (q:Nat) (z:Nat) (Q1:Nat→Nat→Nat→World→Prop) (Q2:World→Prop) (W:World) (Q:World→Prop) (N:Int→World→Prop) (post:Ending→World→Prop) (rn:Rn9 P X2 X3 X4 kd ref p a b d dl dc Q N post) (hX2:X2=W.heap.size) (hX3:X3=W.heap.size+1) (hX4:X4=W.heap.size+1+1)
  (h0:Q (three W P #[Vi kd,Vi ref,Vu (p:Nat),Vu (a:Nat),Vu (b:Nat),.slice d dl dc]))
  (hk:kd=2)
  (tg:∀ V,Q V→Calls Tryz.prog 32 #[Vp P 0,.agg #[Vi kd,Vi ref,Vu (p:Nat),Vu (a:Nat),Vu (b:Nat),.slice d dl dc]] V fun e V'=>e=.returned (Vu (q:Nat))∧Q V')
  (c9:∀ V,Q V→Calls Tryz.prog 35 #[Vp P 0,Vu (q:Nat),Vu (a:Nat)] V fun e V'=>(∃ code,e=.panicked (caught code)∧N code V')∨∃ t g fb,e=.returned (.iface t (Vp g 0))∧(t=133∧fb=72∨t=145∧fb=99)∧Q1 t g fb V')
  (b9:∀ t g fb V,Q1 t g fb V→Calls Tryz.prog fb #[Vp g 0] V fun e V'=>e=.returned (Vu (z:Nat))∧Q2 V')
  (f9:∀ V,Q2 V→V.heap[X4]?=some (.cells #[Vi 0,Vu 0,Vi 0,Vn] 45 (0,0))∧post (.returned (.agg #[Vi 0,Vu (z:Nat),Vi 0,Vn])) (V.setRow X4 #[Vi 0,Vu (z:Nat),Vi 0,Vn])) :
  Calls Tryz.prog 17 #[Vp P 0,.agg #[Vi kd,Vi ref,Vu (p:Nat),Vu (a:Nat),Vu (b:Nat),.slice d dl dc]] W post:=by
 have RN:=hid rn;have H0:=hid h0;clear rn h0;have TG:=hid tg;clear tg;have C9:=hid c9;clear c9;have B9:=hid b9;clear b9;have F9:=hid f9;clear f9;subst hk;unfold three at H0
 go_enter_defers Tryz.func17,Tryz.ntmps17
 go_wp2_with fail;rw [←hX4,←hX3,←hX2];refine (TG.out _ H0.out).mono ?_;rintro e V ⟨rfl,hV⟩;have H1:=hid hV;obtain⟨c2,k0,k1,k2,k3,k4,k5⟩:=RN.out.cell hV;clear hV H0 TG hX2 hX3 hX4;generalize W.heap.size=n0 at *;go_wp2_with fail;refine (C9.out _ H1.out).mono ?_;rintro e V2 (⟨code,rfl,hN⟩|⟨t,g,fb,rfl,ht,hV⟩)
 ·exact door_no RN.out code hN _ rfl
 have H2:=hid hV;clear hV C9 H1 c2 k0 k1 k2 k3 k4 k5
 rcases ht with ⟨rfl,rfl⟩|⟨rfl,rfl⟩
 ·have mb:=fun w=>mt_bs g w
  go_wp2_with fail;refine (B9.out _ g _ _ H2.out).mono ?_;rintro e V3 ⟨rfl,hV⟩;obtain⟨x4,hF⟩:=F9.out _ hV;have X4H:=hid x4;have HF:=hid hF;clear hV hF H2 B9 F9 x4;go_wp2_with (refine wpList_store_row rfl 45 _ _ rfl _ _ rfl rfl 45 _ X4H.out (by kernel_rfl) rfl (by simp [Value.oneCell']) ?_);exact door_ok RN.out (Vi 0) (Vu (z:Nat)) (Vi 0) (Vn) (setRow_at X4H.out _) HF.out _ rfl
 have mb:=fun w=>mt_bl g w
 go_wp2_with fail;refine (B9.out _ g _ _ H2.out).mono ?_;rintro e V3 ⟨rfl,hV⟩;obtain⟨x4,hF⟩:=F9.out _ hV;have X4H:=hid x4;have HF:=hid hF;clear hV hF H2 B9 F9 x4;go_wp2_with (refine wpList_store_row rfl 45 _ _ rfl _ _ rfl rfl 45 _ X4H.out (by kernel_rfl) rfl (by simp [Value.oneCell']) ?_);exact door_ok RN.out (Vi 0) (Vu (z:Nat)) (Vi 0) (Vn) (setRow_at X4H.out _) HF.out _ rfl
theorem im_run4 (P X2 X3 X4:Nat) (kd ref:Int) (p a b:Nat) (d:Option Addr) (dl dc:Nat) (q:Nat) (z:Nat) (Q1:Nat→Nat→Nat→World→Prop) (Q2:World→Prop) (W:World) (Q:World→Prop) (N:Int→World→Prop) (post:Ending→World→Prop) (rn:Rn9 P X2 X3 X4 kd ref p a b d dl dc Q N post) (hX2:X2=W.heap.size) (hX3:X3=W.heap.size+1) (hX4:X4=W.heap.size+1+1)
  (h0:Q (three W P #[Vi kd,Vi ref,Vu (p:Nat),Vu (a:Nat),Vu (b:Nat),.slice d dl dc]))
  (hk:kd=4)
  (tg:∀ V,Q V→Calls Tryz.prog 32 #[Vp P 0,.agg #[Vi kd,Vi ref,Vu (p:Nat),Vu (a:Nat),Vu (b:Nat),.slice d dl dc]] V fun e V'=>e=.returned (Vu (q:Nat))∧Q V')
  (c9:∀ V,Q V→Calls Tryz.prog 38 #[Vp P 0,Vu (q:Nat)] V fun e V'=>(∃ code,e=.panicked (caught code)∧N code V')∨∃ t g fb,e=.returned (.iface t (Vp g 0))∧(t=133∧fb=107∨t=145∧fb=214)∧Q1 t g fb V')
  (b9:∀ t g fb V,Q1 t g fb V→Calls Tryz.prog fb #[Vp g 0] V fun e V'=>e=.returned (Vi (z:Nat))∧Q2 V')
  (f9:∀ V,Q2 V→V.heap[X4]?=some (.cells #[Vi 0,Vu 0,Vi 0,Vn] 45 (0,0))∧post (.returned (.agg #[Vi 0,Vu 0,Vi (z:Nat),Vn])) (V.setRow X4 #[Vi 0,Vu 0,Vi (z:Nat),Vn])) :
  Calls Tryz.prog 17 #[Vp P 0,.agg #[Vi kd,Vi ref,Vu (p:Nat),Vu (a:Nat),Vu (b:Nat),.slice d dl dc]] W post:=by
 have RN:=hid rn;have H0:=hid h0;clear rn h0;have TG:=hid tg;clear tg;have C9:=hid c9;clear c9;have B9:=hid b9;clear b9;have F9:=hid f9;clear f9;subst hk;unfold three at H0
 go_enter_defers Tryz.func17,Tryz.ntmps17
 go_wp2_with fail;rw [←hX4,←hX3,←hX2];refine (TG.out _ H0.out).mono ?_;rintro e V ⟨rfl,hV⟩;have H1:=hid hV;obtain⟨c2,k0,k1,k2,k3,k4,k5⟩:=RN.out.cell hV;clear hV H0 TG hX2 hX3 hX4;generalize W.heap.size=n0 at *;go_wp2_with fail;refine (C9.out _ H1.out).mono ?_;rintro e V2 (⟨code,rfl,hN⟩|⟨t,g,fb,rfl,ht,hV⟩)
 ·exact door_no RN.out code hN _ rfl
 have H2:=hid hV;clear hV C9 H1 c2 k0 k1 k2 k3 k4 k5
 rcases ht with ⟨rfl,rfl⟩|⟨rfl,rfl⟩
 ·have mb:=fun w=>mt_us g w
  go_wp2_with fail;refine (B9.out _ g _ _ H2.out).mono ?_;rintro e V3 ⟨rfl,hV⟩;obtain⟨x4,hF⟩:=F9.out _ hV;have X4H:=hid x4;have HF:=hid hF;clear hV hF H2 B9 F9 x4;go_wp2_with (refine wpList_store_row rfl 45 _ _ rfl _ _ rfl rfl 45 _ X4H.out (by kernel_rfl) rfl (by simp [Value.oneCell']) ?_);exact door_ok RN.out (Vi 0) (Vu 0) (Vi (z:Nat)) (Vn) (setRow_at X4H.out _) HF.out _ rfl
 have mb:=fun w=>mt_ul g w
 go_wp2_with fail;refine (B9.out _ g _ _ H2.out).mono ?_;rintro e V3 ⟨rfl,hV⟩;obtain⟨x4,hF⟩:=F9.out _ hV;have X4H:=hid x4;have HF:=hid hF;clear hV hF H2 B9 F9 x4;go_wp2_with (refine wpList_store_row rfl 45 _ _ rfl _ _ rfl rfl 45 _ X4H.out (by kernel_rfl) rfl (by simp [Value.oneCell']) ?_);exact door_ok RN.out (Vi 0) (Vu 0) (Vi (z:Nat)) (Vn) (setRow_at X4H.out _) HF.out _ rfl
theorem im_run5 (P X2 X3 X4:Nat) (kd ref:Int) (p a b:Nat) (d:Option Addr) (dl dc:Nat) (q:Nat) (Q1:Value→World→Prop) (W:World) (Q:World→Prop) (N:Int→World→Prop) (post:Ending→World→Prop) (rn:Rn9 P X2 X3 X4 kd ref p a b d dl dc Q N post) (hX2:X2=W.heap.size) (hX3:X3=W.heap.size+1) (hX4:X4=W.heap.size+1+1)
  (h0:Q (three W P #[Vi kd,Vi ref,Vu (p:Nat),Vu (a:Nat),Vu (b:Nat),.slice d dl dc]))
  (hk:kd=5)
  (tg:∀ V,Q V→Calls Tryz.prog 32 #[Vp P 0,.agg #[Vi kd,Vi ref,Vu (p:Nat),Vu (a:Nat),Vu (b:Nat),.slice d dl dc]] V fun e V'=>e=.returned (Vu (q:Nat))∧Q V')
  (c9:∀ V,Q V→Calls Tryz.prog 39 #[Vp P 0,Vu (q:Nat),Vu (a:Nat)] V fun e V'=>(∃ code,e=.panicked (caught code)∧N code V')∨∃ va vn vc,e=.returned (.slice va vn vc)∧Q1 (.slice va vn vc) V')
  (f9:∀ v V,Q1 v V→V.heap[X4]?=some (.cells #[Vi 0,Vu 0,Vi 0,Vn] 45 (0,0))∧post (.returned (.agg #[Vi 0,Vu 0,Vi 0,v])) (V.setRow X4 #[Vi 0,Vu 0,Vi 0,v])) :
  Calls Tryz.prog 17 #[Vp P 0,.agg #[Vi kd,Vi ref,Vu (p:Nat),Vu (a:Nat),Vu (b:Nat),.slice d dl dc]] W post:=by
 have RN:=hid rn;have H0:=hid h0;clear rn h0;have TG:=hid tg;clear tg;have C9:=hid c9;clear c9;have F9:=hid f9;clear f9;subst hk;unfold three at H0
 go_enter_defers Tryz.func17,Tryz.ntmps17
 go_wp2_with fail;rw [←hX4,←hX3,←hX2];refine (TG.out _ H0.out).mono ?_;rintro e V ⟨rfl,hV⟩;have H1:=hid hV;obtain⟨c2,k0,k1,k2,k3,k4,k5⟩:=RN.out.cell hV;clear hV H0 TG hX2 hX3 hX4;generalize W.heap.size=n0 at *;go_wp2_with fail;refine (C9.out _ H1.out).mono ?_;rintro e V2 (⟨code,rfl,hN⟩|⟨va,vn,vc,rfl,hV⟩)
 ·exact door_no RN.out code hN _ rfl
 obtain⟨x4,hF⟩:=F9.out _ _ hV;have X4H:=hid x4;have HF:=hid hF;clear hV hF F9 C9 H1 x4 c2 k0 k1 k2 k3 k4 k5;go_wp2_with (refine wpList_store_row rfl 45 _ _ rfl _ _ rfl rfl 45 _ X4H.out (by kernel_rfl) rfl (by simp [Value.oneCell']) ?_);exact door_ok RN.out (Vi 0) (Vu 0) (Vi 0) (.slice va vn vc) (setRow_at X4H.out _) HF.out _ rfl
theorem im_run6 (P X2 X3 X4:Nat) (kd ref:Int) (p a b:Nat) (d:Option Addr) (dl dc:Nat) (q:Nat) (Q2:World→Prop) (W:World) (Q:World→Prop) (N:Int→World→Prop) (post:Ending→World→Prop) (rn:Rn9 P X2 X3 X4 kd ref p a b d dl dc Q N post) (hX2:X2=W.heap.size) (hX3:X3=W.heap.size+1) (hX4:X4=W.heap.size+1+1)
  (h0:Q (three W P #[Vi kd,Vi ref,Vu (p:Nat),Vu (a:Nat),Vu (b:Nat),.slice d dl dc]))
  (hk:kd=6)
  (tg:∀ V,Q V→Calls Tryz.prog 32 #[Vp P 0,.agg #[Vi kd,Vi ref,Vu (p:Nat),Vu (a:Nat),Vu (b:Nat),.slice d dl dc]] V fun e V'=>e=.returned (Vu (q:Nat))∧Q V')
  (c9:∀ V,Q V→Calls Tryz.prog 40 #[Vp P 0,Vu (q:Nat),.slice d dl dc] V fun e V'=>(∃ code,e=.panicked (caught code)∧N code V')∨e=.returned (.tuple #[])∧Q2 V')
  (f9:∀ V,Q2 V→V.heap[X4]?=some (.cells #[Vi 0,Vu 0,Vi 0,Vn] 45 (0,0))∧post (.returned (.agg #[Vi 0,Vu 0,Vi 0,Vn])) (V.setRow X4 #[Vi 0,Vu 0,Vi 0,Vn])) :
  Calls Tryz.prog 17 #[Vp P 0,.agg #[Vi kd,Vi ref,Vu (p:Nat),Vu (a:Nat),Vu (b:Nat),.slice d dl dc]] W post:=by
 have RN:=hid rn;have H0:=hid h0;clear rn h0;have TG:=hid tg;clear tg;have C9:=hid c9;clear c9;have F9:=hid f9;clear f9;subst hk;unfold three at H0
 go_enter_defers Tryz.func17,Tryz.ntmps17
 go_wp2_with fail;rw [←hX4,←hX3,←hX2];refine (TG.out _ H0.out).mono ?_;rintro e V ⟨rfl,hV⟩;have H1:=hid hV;obtain⟨c2,k0,k1,k2,k3,k4,k5⟩:=RN.out.cell hV;clear hV H0 TG hX2 hX3 hX4;generalize W.heap.size=n0 at *;go_wp2_with fail;refine (C9.out _ H1.out).mono ?_;rintro e V2 (⟨code,rfl,hN⟩|⟨rfl,hV⟩)
 ·exact door_no RN.out code hN _ rfl
 obtain⟨x4,hF⟩:=F9.out _ hV;have X4H:=hid x4;have HF:=hid hF;clear hV hF F9 C9 H1 x4 c2 k0 k1 k2 k3 k4 k5;go_wp2_with (refine wpList_store_row rfl 45 _ _ rfl _ _ rfl rfl 45 _ X4H.out (by kernel_rfl) rfl (by simp [Value.oneCell']) ?_);exact door_ok RN.out (Vi 0) (Vu 0) (Vi 0) (Vn) (setRow_at X4H.out _) HF.out _ rfl
theorem im_runN (P X2 X3 X4:Nat) (kd ref:Int) (p a b:Nat) (d:Option Addr) (dl dc:Nat) (q:Nat) (W:World) (Q:World→Prop) (N:Int→World→Prop) (post:Ending→World→Prop) (rn:Rn9 P X2 X3 X4 kd ref p a b d dl dc Q N post) (hX2:X2=W.heap.size) (hX3:X3=W.heap.size+1) (hX4:X4=W.heap.size+1+1)
  (h0:Q (three W P #[Vi kd,Vi ref,Vu (p:Nat),Vu (a:Nat),Vu (b:Nat),.slice d dl dc]))
  (tg:∀ V,Q V→Calls Tryz.prog 32 #[Vp P 0,.agg #[Vi kd,Vi ref,Vu (p:Nat),Vu (a:Nat),Vu (b:Nat),.slice d dl dc]] V fun e V'=>e=.returned (Vu (q:Nat))∧Q V')
  (hk:kd < 0∨6 < kd)
  (n9:∀ V,Q V→N 6 V) :
  Calls Tryz.prog 17 #[Vp P 0,.agg #[Vi kd,Vi ref,Vu (p:Nat),Vu (a:Nat),Vu (b:Nat),.slice d dl dc]] W post:=by
 have RN:=hid rn;have H0:=hid h0;clear rn h0;have TG:=hid tg;clear tg;have N9:=hid n9;clear n9;unfold three at H0
 go_enter_defers Tryz.func17,Tryz.ntmps17
 go_wp2_with fail;rw [←hX4,←hX3,←hX2];refine (TG.out _ H0.out).mono ?_;rintro e V ⟨rfl,hV⟩;have H1:=hid hV;obtain⟨c2,k0,k1,k2,k3,k4,k5⟩:=RN.out.cell hV;clear hV H0 TG hX2 hX3 hX4;generalize W.heap.size=n0 at *;have z0:(kd==0)=false:=by simp;omega
 have z1:(kd==1)=false:=by simp;omega
 have z2:(kd==2)=false:=by simp;omega
 have z3:(kd==3)=false:=by simp;omega
 have z4:(kd==4)=false:=by simp;omega
 have z5:(kd==5)=false:=by simp;omega
 have z6:(kd==6)=false:=by simp;omega
 have HN:=hid (N9.out _ H1.out);clear hk N9 H1;go_wp2;exact door_no RN.out 6 HN.out _ rfl
theorem im_run3 (P X2 X3 X4:Nat) (kd ref:Int) (p a b:Nat) (d:Option Addr) (dl dc:Nat) (q:Nat) (Q1:Value→World→Prop) (Q2:World→Prop) (W:World) (Q:World→Prop) (N:Int→World→Prop) (post:Ending→World→Prop) (rn:Rn9 P X2 X3 X4 kd ref p a b d dl dc Q N post) (hX2:X2=W.heap.size) (hX3:X3=W.heap.size+1) (hX4:X4=W.heap.size+1+1)
  (h0:Q (three W P #[Vi kd,Vi ref,Vu (p:Nat),Vu (a:Nat),Vu (b:Nat),.slice d dl dc]))
  (hk:kd=3)
  (tg:∀ V,Q V→Calls Tryz.prog 32 #[Vp P 0,.agg #[Vi kd,Vi ref,Vu (p:Nat),Vu (a:Nat),Vu (b:Nat),.slice d dl dc]] V fun e V'=>e=.returned (Vu (q:Nat))∧Q V')
  (c9:∀ V,Q V→Calls Tryz.prog 37 #[Vp P 0,Vu (q:Nat)] V fun e V'=>(∃ code,e=.panicked (caught code)∧N code V')∨∃ v,e=.returned v∧V'.cell? ⟨X2,0,none⟩=some (Vp P 0)∧Q1 v V')
  (r9:∀ v V,Q1 v V→Calls Tryz.prog 36 #[Vp P 0,v] V fun e V'=>e=.returned (.tuple #[])∧V'.cell? ⟨X2,0,none⟩=some (Vp P 0)∧Q2 V')
  (f9:∀ V,Q2 V→V.heap[X4]?=some (.cells #[Vi 0,Vu 0,Vi 0,Vn] 45 (0,0))∧post (.returned (.agg #[Vi 0,Vu 0,Vi 0,Vn])) (V.setRow X4 #[Vi 0,Vu 0,Vi 0,Vn])) :
  Calls Tryz.prog 17 #[Vp P 0,.agg #[Vi kd,Vi ref,Vu (p:Nat),Vu (a:Nat),Vu (b:Nat),.slice d dl dc]] W post:=by
 have RN:=hid rn;have H0:=hid h0;clear rn h0;have TG:=hid tg;clear tg;have C9:=hid c9;clear c9;have R9:=hid r9;clear r9;have F9:=hid f9;clear f9;subst hk;unfold three at H0
 go_enter_defers Tryz.func17,Tryz.ntmps17
 go_wp2_with fail;rw [←hX4,←hX3,←hX2];refine (TG.out _ H0.out).mono ?_;rintro e V ⟨rfl,hV⟩;have H1:=hid hV;obtain⟨c2,k0,k1,k2,k3,k4,k5⟩:=RN.out.cell hV;clear hV H0 TG hX2 hX3 hX4;generalize W.heap.size=n0 at *;go_upto_region 11 with fail
 have hQ:=RN.out.qd _ H1.out;clear c2 k0 k1 k2 k3 k4 k5;refine wp_region_held (S:=fun W9=>W9.cell? ⟨X2,0,none⟩=some (Vp P 0)) (by kernel_rfl) ?_;simp only [List.size_toArray,List.length_cons,List.length_nil,Nat.reduceAdd,Array.replicate_succ,Array.replicate_zero,List.push_toArray,List.nil_append,List.cons_append];have hS:=RN.out.x2 _ (RN.out.qd _ H1.out);refine wpAnyH_put (i:=0) (d:=41) (v:=Vp P 0) rfl (by kernel_rfl) (by kernel_rfl) (by kernel_rfl) (by kernel_rfl) (fun _ _ _ h=>leaves_tmps (res26 _ 41 _ (by decide)) _ _ _ h) (Or.inl ⟨by kernel_rfl,fun W hS=>by obtain y0:=hS;first|(go_simp;done)|(go_simp;omega)⟩) hS ?_;simp only [lz,l0,ls];refine wpAnyH_put (i:=1) (d:=42) (v:=Vp P 0) rfl (by kernel_rfl) (by kernel_rfl) (by kernel_rfl) (by kernel_rfl) (fun _ _ _ h=>leaves_tmps (res26 _ 42 _ (by decide)) _ _ _ h) (Or.inl ⟨by kernel_rfl,fun W hS=>by obtain y0:=hS;first|(go_simp;done)|(go_simp;omega)⟩) hS ?_;simp only [lz,l0,ls];refine wpAnyH_put (i:=2) (d:=43) (v:=Vu (q:Nat)) rfl (by kernel_rfl) (by kernel_rfl) (by kernel_rfl) (by kernel_rfl) (fun _ _ _ h=>leaves_tmps (res26 _ 43 _ (by decide)) _ _ _ h) (Or.inl ⟨by kernel_rfl,fun _ _=>by kernel_rfl⟩) hS ?_;simp only [lz,l0,ls];refine po 3 fun K' hK=>?_
 go_simp;refine (C9.out _ hQ).mono ?_;rintro e U1 (⟨code,rfl,hN⟩|⟨v,rfl,hU⟩)
 ·exact door_no RN.out code hN _ rfl
 obtain⟨hU1,hU2⟩:=hU;refine hK.out _ _ ⟨hU1,?_⟩;clear hS;have hS:=hU1;have HU:=hid hU2;clear hU1 hU2;clear hK K';refine po 4 fun K' hK=>?_
 go_simp;refine (R9.out _ _ HU.out).mono ?_;rintro e U2 ⟨rfl,hU1,hU2⟩;refine hK.out _ _ ⟨hU1,?_⟩;have HQ2:=hid hU2;clear hS;clear hK K';refine wpAnyH_done (by kernel_rfl) ?_ _;have HV:=HQ2;obtain⟨x4,hF⟩:=F9.out _ HV.out;have X4H:=hid x4;have HF:=hid hF;clear hF F9 C9 R9 H1 x4 HV HQ2;go_wp2_with (refine wpList_store_row rfl 45 _ _ rfl _ _ rfl rfl 45 _ X4H.out (by kernel_rfl) rfl (by simp [Value.oneCell']) ?_);exact door_ok RN.out (Vi 0) (Vu 0) (Vi 0) (Vn) (setRow_at X4H.out _) HF.out _ rfl
end Go.Proofs.YtgandbaejlfppaaGreatDoor
