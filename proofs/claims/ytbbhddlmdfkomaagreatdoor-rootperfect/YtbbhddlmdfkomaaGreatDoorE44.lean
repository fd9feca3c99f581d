import Derived.Test.YtbbhddlmdfkomaaGreatDoorE39
import Derived.Test.YtbbhddlmdfkomaaGreatDoorE37
import Derived.Test.YtbbhddlmdfkomaaGreatDoorE43
namespace Go.Proofs.YtbbhddlmdfkomaaGreatDoor
open Go.RowKit
set_option linter.unusedVariables false
set_option linter.unusedSimpArgs false
set_option maxHeartbeats 800000 in
theorem bitsNP (s:Bool) (ad:Option Addr) (n cap:Nat) (xs:List Nat) (w:World) (rx:Row w ad n cap xs) (hn:rightN s xs=false) :
  Calls Tryz.prog 22 #[.agg #[.bool s,.slice ad n cap]] w fun r w'=>r = .returned (.tuple #[.int .i64 0,.int .i64 2])/\Gr w w':=by
 have RA:Hid (∀w1,Gr w w1->Calls Tryz.prog 35 #[.agg #[.bool s,.slice ad n cap]] w1 fun r w'=>r = .returned (.bool false)/\Gr w1 w'):=fun w1 g=>by
  have:=rightL s ad n cap xs w1 (rx.gr g)
  rw[hn] at this
  exact this
 clear rx hn
 have GA:Gr w (w.alloc (.cells #[.bool s,.slice ad n cap] 24)):=(Gr.refl w).alloc _
 go_enter Tryz.func22,Tryz.ntmps22
 go_wp2_with (go_at_call 35;(with_reducible refine(RA.out _ GA).mono ?_);rintro r w1 ⟨rfl,g1⟩)
 go_ret2
 exact⟨rfl,GA.trans g1⟩
theorem pf_uniq {X Z Z':Int} {P P':Nat} (h:PF X Z P) (h':PF X Z' P'):Z'=Z/\P'=P:=by
 rcases h with ⟨h1,rfl,rfl⟩|⟨h2,⟨e1,e2,e3,e4⟩,h4,h5⟩
 ·rcases h' with ⟨_,h8,h9⟩|⟨h8,_⟩
  ·exact⟨h8,h9⟩
  ·omega
 ·rcases h' with ⟨h8,_⟩|⟨_,⟨f1,f2,f3,f4⟩,k4,k5⟩
  ·omega
  ·obtain⟨g,hg,hc⟩:=Rt.perfect_one e2 e3 h4 e1.symm f3 f4 f1
   obtain⟨g',hg',hc'⟩:=Rt.perfect_one f2 f3 k4 f1.symm e3 e4 e1
   have hPP:P=P':=by
    have a1:P'<=P:=by
     rcases Nat.eq_zero_or_pos g with h0|h0
     ·subst h0;omega
     ·rw[hg];exact Nat.le_mul_of_pos_right _ h0
    have a2:P<=P':=by
     rcases Nat.eq_zero_or_pos g' with h0|h0
     ·subst h0;omega
     ·rw[hg'];exact Nat.le_mul_of_pos_right _ h0
    omega
   subst hPP
   have hab:Z.natAbs=Z'.natAbs:=Rt.pow_inj (show P≠0 by omega) (e1.trans f1.symm)
   refine⟨?_,rfl⟩
   by_cases hX:X<0
   ·have a1:=h5.2 hX
    have a2:=k5.2 hX
    omega
   ·have a1:¬Z<0:=fun h=>hX (h5.1 h)
    have a2:¬Z'<0:=fun h=>hX (k5.1 h)
    omega
theorem pf_ex (X:Int):∃Z P,PF X Z P:=by
 by_cases h2:X.natAbs<2
 ·exact⟨X,1,Or.inl ⟨h2,rfl,rfl⟩⟩
 ·have key:∀m:Nat,∀P s:Nat,X.natAbs<=P+m->s ^ P=X.natAbs->2<=s->1<=P->(decide (X<0)=true->P % 2=1)->∃s' P',SV s' P' X.natAbs (decide (X<0))/\Rt.NoPow (decide (X<0)) s':=by
   intro m
   induction m with
   | zero =>
    intro P s hm hs h2s hP ho
    have h1:P<2 ^ P:=Nat.lt_two_pow_self
    have h3:=Nat.pow_le_pow_left h2s P
    omega
   | succ m ih =>
    intro P s hm hs h2s hP ho
    by_cases hN:Rt.NoPow (decide (X<0)) s
    ·exact⟨s,P,⟨hs,h2s,hP,ho⟩,hN⟩
    ·have hN':∃k u,2<=k/\(decide (X<0)=true->k % 2=1)/\u ^ k=s:=by
      refine Classical.byContradiction fun hc=>hN fun k u hk hk2 he=>hc ⟨k,u,hk,hk2,he⟩
     obtain⟨k,u,hk,hk2,he⟩:=hN'
     have hu:2<=u:=by
      rcases (show u=0\/u=1\/2<=u by omega) with h|h|h
      ·subst h;rw[Nat.zero_pow (by omega)] at he;omega
      ·subst h;rw[Nat.one_pow] at he;omega
      ·exact h
     have hkP:P+P<=k*P:=by
      have:=Nat.mul_le_mul_right P hk
      omega
     refine ih (k*P) u (by omega) (by rw[Nat.pow_mul,he,hs]) hu (by omega) (fun h=>?_)
     have a1:=ho h
     have a2:=hk2 h
     rw[Nat.mul_mod,a1,a2]
  obtain⟨s',P',h1,h3⟩:=key X.natAbs 1 X.natAbs (by omega) (Nat.pow_one _) (by omega) (by omega) (fun _=>rfl)
  by_cases hX:X<0
  ·refine⟨-(s':Int),P',Or.inr ⟨by omega,?_,?_,?_⟩⟩
   ·rw[Int.natAbs_neg,Int.natAbs_natCast];exact h1
   ·rw[Int.natAbs_neg,Int.natAbs_natCast];exact h3
   ·have:=h1.2.1
    constructor <;> intro _ <;> omega
  ·refine⟨(s':Int),P',Or.inr ⟨by omega,?_,?_,?_⟩⟩
   ·rw[Int.natAbs_natCast];exact h1
   ·rw[Int.natAbs_natCast];exact h3
   ·constructor <;> intro _ <;> omega
def QP (v A0:Nat) (Z:Int):Prop:=bl v<=34359738368/\sg ((v:Int)-(A0:Int))=Z
theorem qp_of {A0 N t v:Nat} (ht:Rt.IsRt A0 N t) (h:PV t N A0 v):QP v A0 (sg (((t ^ N:Nat):Int)-(A0:Int))):=by
 refine⟨h.1,?_⟩
 rcases h.2 with ⟨h1,_⟩|⟨_,h1⟩
 ·rw[h1]
 ·exact absurd h1 (Nat.not_lt.2 ht.1)
def PEA (w:World) (Z:Int) (P E:Int) (r:Ending) (w':World):Prop:=∃(a:Bool) (b:Option Addr) (c d:Nat),r = .returned (.tuple #[.agg #[.bool a,.slice b c d],.int .i64 P,.int .i64 E])/\Hid (Wh w' a b c d Z)/\Gr w w'
theorem PEA.mk' {w w':World} {Z P E:Int} {r:Ending} (h:∃(a:Bool) (b:Option Addr) (c d:Nat),r = .returned (.tuple #[.agg #[.bool a,.slice b c d],.int .i64 P,.int .i64 E])/\Hid (Wh w' a b c d Z)/\Gr w w'):PEA w Z P E r w':=h
theorem pf_div {X Z:Int} {P k c:Nat} (h:PF X Z P) (h2:2<=X.natAbs) (hk:1<=k) (ho:X<0->k % 2=1) (hc:c ^ k=X.natAbs):k<=P:=by
 rcases h with ⟨h1,_⟩|⟨_,⟨e1,e2,e3,e4⟩,h4,h5⟩
 ·omega
 ·obtain⟨g,hg,_⟩:=Rt.perfect_one e2 e3 h4 e1.symm hk (fun h=>ho (of_decide_eq_true h)) hc
  rcases Nat.eq_zero_or_pos g with h0|h0
  ·subst h0;omega
  ·rw[hg];exact Nat.le_mul_of_pos_right k h0
theorem pf_lt {X Z:Int} {P:Nat} (h:PF X Z P) (h2:2<=X.natAbs):P<bl X.natAbs:=by
 rcases h with ⟨h1,_⟩|⟨_,⟨e1,e2,e3,e4⟩,h4,h5⟩
 ·omega
 ·have h6:=bl_lt X.natAbs
  have h7:=Nat.pow_le_pow_left e2 P
  rw[e1] at h7
  exact(Nat.pow_lt_pow_iff_right (by omega)).1 (Nat.lt_of_le_of_lt h7 h6)
theorem pf_iv {s:Bool} {A0 t:Nat} {Z:Int} {P:Nat} (h:PF (iv s A0) Z P) (h2:2<=A0) (hs:s=true ↔ iv s A0<0) (ht:Rt.IsRt A0 P t):t ^ P=A0/\iv s t=Z:=by
 rcases h with ⟨h1,_⟩|⟨_,⟨e1,e2,e3,e4⟩,h4,h5⟩
 ·rw[iv_abs] at h1;omega
 ·rw[iv_abs] at e1
  have h6:t=Z.natAbs:=ht.one ⟨by rw[e1];exact Nat.le_refl _,by rw[<-e1];exact Nat.pow_lt_pow_left (by omega) (by omega)⟩
  refine⟨by rw[h6,e1],?_⟩
  rw[h6]
  cases s
  ·have:¬iv false A0<0:=fun h=>by have:=hs.2 h;cases this
   have h7:¬Z<0:=fun h=>this (h5.1 h)
   simp only[iv];simp;omega
  ·have h7:Z<0:=h5.2 (hs.1 rfl)
   show -(Z.natAbs:Int)=Z
   omega
theorem pf_one {X Z:Int} (h:PF X Z 1):Z=X:=by
 rcases h with ⟨_,h,_⟩|⟨_,⟨e1,e2,e3,e4⟩,h4,h5⟩
 ·exact h
 ·rw[Nat.pow_one] at e1
  omega
def RPq9 (t0 t2 t3 t4 t5 t8 t9 t10 t11 t12 t13 t14 t15 t16 t17 t18 t19 t20 t21 t22 t23 t24 t25 t26 t27 t28 t29 t30 t31 t32 t33 t34 t35 t36 t37 t38 t39 t40 t41 t42 t43 t44 t45 t46 t47 t48 t49 t50 t51 t52 t53:Value) (pX n cap nr cr N A0:Nat) (ad ar:Option Addr) (Z:Int) (wq:World):Exit->Act->World->Prop
 | .normal,a,w=>∃u35 u36 u37 u38 u39 u40 u41 u42,a = {tmps:=#[t0,.pointer (some ⟨pX,0,none⟩),t2,t3,t4,t5,.int .i64 (N:Int),.slice ar nr cr,t8,t9,t10,t11,t12,t13,t14,t15,t16,t17,t18,t19,t20,t21,t22,t23,t24,t25,t26,t27,t28,t29,t30,t31,t32,t33,t34,u35,u36,u37,u38,u39,u40,u41,u42,.bool (Z==0),t44,t45,t46,t47,t48,t49,t50,t51,t52,t53],defers:=[]}/\Gr wq w
 | _,_,_=>False
set_option maxRecDepth 100000 in
set_option maxHeartbeats 20000000 in
theorem regPq9 (t0 t2 t3 t4 t5 t8 t9 t10 t11 t12 t13 t14 t15 t16 t17 t18 t19 t20 t21 t22 t23 t24 t25 t26 t27 t28 t29 t30 t31 t32 t33 t34 t35 t36 t37 t38 t39 t40 t41 t42 t43 t44 t45 t46 t47 t48 t49 t50 t51 t52 t53:Value) (pX n cap nr cr N A0:Nat) (ad ar:Option Addr) (Z:Int) (wq:World)
  (X1:Hid (∀w1,Gr wq w1->Calls Tryz.prog 30 #[.slice ar nr cr,.int .i64 (N:Int),.slice ad n cap] w1 fun e w'=>∃a n c v,e = .returned (.slice a n c)/\Hid (Lim w' a n c 18446744073709551616 v)/\Hid (QP v A0 Z)/\Gr w1 w'))
  (X2:Hid (∀w1 a k c v,Gr wq w1->Lim w1 a k c 18446744073709551616 v->QP v A0 Z->Calls Tryz.prog 29 #[.slice a k c,.slice ad n cap] w1 fun e w'=>e = .returned (.int .i64 Z)/\Gr w1 w')) (G0:Gr wq wq) (hcs:(wq.cell? ⟨pX,1,none⟩=some (.slice ad n cap))) :
  Code.wp Tryz.prog (Code.region 9 #[{dst:=some 35,op:=Op.move (Operand.tmp 7),type:=22,pos:= "ref.go:86",after:=#[],guard:=none},{dst:=some 36,op:=Op.move (Operand.tmp 6),type:=3,pos:= "ref.go:86",after:=#[],guard:=none},{dst:=some 37,op:=Op.fieldAddr 24 (Operand.tmp 1) 1,type:=0,pos:= "ref.go:86",after:=#[],guard:=none},{dst:=some 38,op:=Op.load 22 (Operand.tmp 37),type:=22,pos:= "ref.go:86",after:=#[{on:=2,ground:=Ground.data}],guard:=none},{dst:=some 39,op:=Op.call {callee:=Callee.value (Operand.func 30),args:=#[Operand.tmp 35,Operand.tmp 36,Operand.tmp 38],argTypes:=#[22,3,22]},type:=22,pos:= "ref.go:86",after:=#[{on:=0,ground:=Ground.data},{on:=1,ground:=Ground.data},{on:=3,ground:=Ground.data}],guard:=none},{dst:=some 40,op:=Op.fieldAddr 24 (Operand.tmp 1) 1,type:=0,pos:= "ref.go:86",after:=#[],guard:=none},{dst:=some 41,op:=Op.load 22 (Operand.tmp 40),type:=22,pos:= "ref.go:86",after:=#[{on:=5,ground:=Ground.data}],guard:=none},{dst:=some 42,op:=Op.call {callee:=Callee.value (Operand.func 29),args:=#[Operand.tmp 39,Operand.tmp 41],argTypes:=#[22,22]},type:=3,pos:= "ref.go:86",after:=#[{on:=4,ground:=Ground.data},{on:=6,ground:=Ground.data},{on:=4,ground:=Ground.chain}],guard:=none},{dst:=some 43,op:=Op.binOp BinOp.eql 3 (Operand.tmp 42) (Operand.const (Value.int IntKind.i64 0)) 3,type:=4,pos:= "ref.go:86",after:=#[{on:=7,ground:=Ground.data}],guard:=none}] true) (RPq9 t0 t2 t3 t4 t5 t8 t9 t10 t11 t12 t13 t14 t15 t16 t17 t18 t19 t20 t21 t22 t23 t24 t25 t26 t27 t28 t29 t30 t31 t32 t33 t34 t35 t36 t37 t38 t39 t40 t41 t42 t43 t44 t45 t46 t47 t48 t49 t50 t51 t52 t53 pX n cap nr cr N A0 ad ar Z wq) {tmps:=#[t0,.pointer (some ⟨pX,0,none⟩),t2,t3,t4,t5,.int .i64 (N:Int),.slice ar nr cr,t8,t9,t10,t11,t12,t13,t14,t15,t16,t17,t18,t19,t20,t21,t22,t23,t24,t25,t26,t27,t28,t29,t30,t31,t32,t33,t34,t35,t36,t37,t38,t39,t40,t41,t42,t43,t44,t45,t46,t47,t48,t49,t50,t51,t52,t53],defers:=[]} wq:=by
 have hS0:(wq.drew.cell? ⟨pX,1,none⟩=some (.slice ad n cap))/\Gr wq wq.drew:=⟨hcs,G0.drew⟩
 clear hcs G0
 refine wp_region_held_drew (S:=fun w'=>(w'.cell? ⟨pX,1,none⟩=some (.slice ad n cap))/\Gr wq w') (by kernel_rfl) hS0 (fun hHeld=>?_)
 clear hS0
 generalize wq.drew=wd at *
 refine wpAnyH_take (i:=0) (oi:=({dst:=some 35,op:=Op.move (Operand.tmp 7),type:=22,pos:= "ref.go:86",after:=#[],guard:=none}:Oper)) (v:=?_) rfl (by kernel_rfl) (by kernel_rfl) (by kernel_rfl) (fun _ _ _ h=>h) (Or.inl ⟨by rfl,?_⟩) (by with_reducible assumption) ?_
 rotate_left
 ·intro w hSw
  (try dsimp only at hSw)
  first|(go_simp;done)|(go_simp;with_reducible rfl)
 (try simp only[Act.put,List.setIfInBounds_toArray,List.set_cons_zero,List.set_cons_succ])
 refine wpAnyH_take (i:=1) (oi:=({dst:=some 36,op:=Op.move (Operand.tmp 6),type:=3,pos:= "ref.go:86",after:=#[],guard:=none}:Oper)) (v:=?_) rfl (by kernel_rfl) (by kernel_rfl) (by kernel_rfl) (fun _ _ _ h=>h) (Or.inl ⟨by rfl,?_⟩) (by with_reducible assumption) ?_
 rotate_left
 ·intro w hSw
  (try dsimp only at hSw)
  first|(go_simp;done)|(go_simp;with_reducible rfl)
 (try simp only[Act.put,List.setIfInBounds_toArray,List.set_cons_zero,List.set_cons_succ])
 refine wpAnyH_take (i:=2) (oi:=({dst:=some 37,op:=Op.fieldAddr 24 (Operand.tmp 1) 1,type:=0,pos:= "ref.go:86",after:=#[],guard:=none}:Oper)) (v:=?_) rfl (by kernel_rfl) (by kernel_rfl) (by kernel_rfl) (fun _ _ _ h=>h) (Or.inl ⟨by rfl,?_⟩) (by with_reducible assumption) ?_
 rotate_left
 ·intro w hSw
  (try dsimp only at hSw)
  first|(go_simp;done)|(go_simp;with_reducible rfl)
 (try simp only[Act.put,List.setIfInBounds_toArray,List.set_cons_zero,List.set_cons_succ])
 refine wpAnyH_take (i:=3) (oi:=({dst:=some 38,op:=Op.load 22 (Operand.tmp 37),type:=22,pos:= "ref.go:86",after:=#[{on:=2,ground:=Ground.data}],guard:=none}:Oper)) (v:=?_) rfl (by kernel_rfl) (by kernel_rfl) (by kernel_rfl) (fun _ _ _ h=>h) (Or.inl ⟨by rfl,?_⟩) (by with_reducible assumption) ?_
 rotate_left
 ·intro w hSw
  (try dsimp only at hSw)
  first|(go_simp;done)|(go_simp;with_reducible rfl)
 (try simp only[Act.put,List.setIfInBounds_toArray,List.set_cons_zero,List.set_cons_succ])
 refine wpAnyH_take (i:=5) (oi:=({dst:=some 40,op:=Op.fieldAddr 24 (Operand.tmp 1) 1,type:=0,pos:= "ref.go:86",after:=#[],guard:=none}:Oper)) (v:=?_) rfl (by kernel_rfl) (by kernel_rfl) (by kernel_rfl) (fun _ _ _ h=>h) (Or.inl ⟨by rfl,?_⟩) (by with_reducible assumption) ?_
 rotate_left
 ·intro w hSw
  (try dsimp only at hSw)
  first|(go_simp;done)|(go_simp;with_reducible rfl)
 (try simp only[Act.put,List.setIfInBounds_toArray,List.set_cons_zero,List.set_cons_succ])
 refine wpAnyH_take (i:=6) (oi:=({dst:=some 41,op:=Op.load 22 (Operand.tmp 40),type:=22,pos:= "ref.go:86",after:=#[{on:=5,ground:=Ground.data}],guard:=none}:Oper)) (v:=?_) rfl (by kernel_rfl) (by kernel_rfl) (by kernel_rfl) (fun _ _ _ h=>h) (Or.inl ⟨by rfl,?_⟩) (by with_reducible assumption) ?_
 rotate_left
 ·intro w hSw
  (try dsimp only at hSw)
  first|(go_simp;done)|(go_simp;with_reducible rfl)
 (try simp only[Act.put,List.setIfInBounds_toArray,List.set_cons_zero,List.set_cons_succ])
 refine wpAnyH_ready (rs:=[4]) (by kernel_rfl) (by simp) ?_
 refine AllReadyH.cons (o:=({dst:=some 39,op:=Op.call {callee:=Callee.value (Operand.func 30),args:=#[Operand.tmp 35,Operand.tmp 36,Operand.tmp 38],argTypes:=#[22,3,22]},type:=22,pos:= "ref.go:86",after:=#[{on:=0,ground:=Ground.data},{on:=1,ground:=Ground.data},{on:=3,ground:=Ground.data}],guard:=none}:Oper)) rfl (fun K hK=>?_) AllReadyH.nil
 go_simp
 with_reducible refine(X1.out _ hHeld.2).mono ?_
 rintro r wc1 ⟨ad2,n2,k2,v2,rfl,LV_4,QV_5,gg3⟩
 replace LV_4:=LV_4.out
 replace QV_5:=QV_5.out
 refine hK.out _ _ ⟨keepG gg3 hHeld.1,hHeld.2.trans gg3⟩ (fun hH2=>?_)
 have hzwc1:=hHeld.2.size
 clear hK K
 (try simp only[Act.put,List.setIfInBounds_toArray,List.set_cons_zero,List.set_cons_succ])
 refine wpAnyH_ready (rs:=[7]) (by kernel_rfl) (by simp) ?_
 refine AllReadyH.cons (o:=({dst:=some 42,op:=Op.call {callee:=Callee.value (Operand.func 29),args:=#[Operand.tmp 39,Operand.tmp 41],argTypes:=#[22,22]},type:=3,pos:= "ref.go:86",after:=#[{on:=4,ground:=Ground.data},{on:=6,ground:=Ground.data},{on:=4,ground:=Ground.chain}],guard:=none}:Oper)) rfl (fun K hK=>?_) AllReadyH.nil
 go_simp
 with_reducible refine(X2.out _ _ _ _ _ hH2.2 LV_4 QV_5).mono ?_
 rintro r wc6 ⟨rfl,gg8⟩
 refine hK.out _ _ ⟨keepG gg8 hH2.1,hH2.2.trans gg8⟩ (fun hH7=>?_)
 have hzwc6:=hH2.2.size
 clear hK K
 (try simp only[Act.put,List.setIfInBounds_toArray,List.set_cons_zero,List.set_cons_succ])
 clear LV_4
 clear QV_5
 refine wpAnyH_take (i:=8) (oi:=({dst:=some 43,op:=Op.binOp BinOp.eql 3 (Operand.tmp 42) (Operand.const (Value.int IntKind.i64 0)) 3,type:=4,pos:= "ref.go:86",after:=#[{on:=7,ground:=Ground.data}],guard:=none}:Oper)) (v:=?_) rfl (by kernel_rfl) (by kernel_rfl) (by kernel_rfl) (fun _ _ _ h=>h) (Or.inl ⟨by rfl,?_⟩) (by with_reducible assumption) ?_
 rotate_left
 ·intro w hSw
  (try dsimp only at hSw)
  first|(go_simp;done)|(go_simp;with_reducible rfl)
 (try simp only[Act.put,List.setIfInBounds_toArray,List.set_cons_zero,List.set_cons_succ])
 refine wpAnyH_done (by kernel_rfl) ?_ _
 exact⟨_,_,_,_,_,_,_,_,rfl,hH7.2⟩
set_option maxHeartbeats 8000000 in
theorem pfBadZ (s:Bool) (ad:Option Addr) (n cap:Nat) (xs:List Nat) (w:World) (rx:Row w ad n cap xs) (hb:¬RightN s xs) :
  Calls Tryz.prog 7 #[.agg #[.bool s,.slice ad n cap]] w (PEA w 0 0 2):=by
 have BT:=hide (fun (w1:World) (g:Gr w w1)=>bitsNP s ad n cap xs w1 (rx.gr g) (rightN_f hb))
 clear rx hb
 obtain⟨H1,HO⟩:=blk2 w (.cells #[.bool s,.slice ad n cap] 24) (.cells #[.bool false,.slice none 0 0] 24)
 have GW:Gr w ((w.alloc (.cells #[.bool s,.slice ad n cap] 24)).alloc (.cells #[.bool false,.slice none 0 0] 24)):=((Gr.refl w).alloc _).alloc _
 obtain⟨x1,y1⟩:=bx2 H1
 go_enter Tryz.func7,Tryz.ntmps7
 have tok0:True:=trivial
 go_wp2_with (go_at_call 22;have _t:=tok0;(with_reducible refine(BT.out _ GW).mono ?_);rintro r v0 ⟨rfl,gN⟩;clear tok0;clear x1 y1;replace H1:=keepO gN H1;replace HO:=keepO gN HO;replace GW:=GW.trans gN;clear gN;obtain⟨xO,yO,vO,zO⟩:=outAny HO)
 have PO:=put2_block HO (.bool false) (.slice none 0 0)
 obtain⟨e0,e1⟩:=bx2 PO
 refine bodyPost_ret (v:=.tuple #[.agg #[.bool false,.slice none 0 0],.int .i64 0,.int .i64 2]) ?_ rfl (PEA.mk' ⟨false,none,0,0,rfl,Wh.nil _,(GW.setCell (p:=⟨(w.heap.size+1),0,none⟩) (by show _<=(w.heap.size+1);omega) (.bool false)).setCell (p:=⟨(w.heap.size+1),1,none⟩) (by show _<=(w.heap.size+1);omega) (.slice none 0 0)⟩)
 simp[results,Tryz.results7,go_sem,e0,e1]
set_option maxHeartbeats 8000000 in
theorem refPfN (s:Bool) (ad:Option Addr) (n cap:Nat) (xs:List Nat) (w:World) (rx:Row w ad n cap xs) (hb:¬RightN s xs) :
  Calls Tryz.prog 8 #[.agg #[.bool s,.slice ad n cap]] w (PEA w 0 0 2):=by
 have RA:=hide (fun (w1:World) (g:Gr w w1)=>rightR s ad n cap xs w1 (rx.gr g))
 rw[rightN_f hb] at RA
 clear rx hb
 obtain⟨H1,HO⟩:=blk2 w (.cells #[.bool s,.slice ad n cap] 24) (.cells #[.bool false,.slice none 0 0] 24)
 have GW:Gr w ((w.alloc (.cells #[.bool s,.slice ad n cap] 24)).alloc (.cells #[.bool false,.slice none 0 0] 24)):=((Gr.refl w).alloc _).alloc _
 obtain⟨x1,y1⟩:=bx2 H1
 go_enter Tryz.func8,Tryz.ntmps8
 have tok0:True:=trivial
 go_wp2_with (go_at_call 26;have _t:=tok0;(with_reducible refine(RA.out _ GW).mono ?_);rintro r v0 ⟨rfl,gN⟩;clear tok0;clear x1 y1;replace H1:=keepO gN H1;replace HO:=keepO gN HO;replace GW:=GW.trans gN;clear gN;obtain⟨xO,yO,vO,zO⟩:=outAny HO)
 have PO:=put2_block HO (.bool false) (.slice none 0 0)
 obtain⟨e0,e1⟩:=bx2 PO
 refine bodyPost_ret (v:=.tuple #[.agg #[.bool false,.slice none 0 0],.int .i64 0,.int .i64 2]) ?_ rfl (PEA.mk' ⟨false,none,0,0,rfl,Wh.nil _,(GW.setCell (p:=⟨(w.heap.size+1),0,none⟩) (by show _<=(w.heap.size+1);omega) (.bool false)).setCell (p:=⟨(w.heap.size+1),1,none⟩) (by show _<=(w.heap.size+1);omega) (.slice none 0 0)⟩)
 simp[results,Tryz.results8,go_sem,e0,e1]
set_option maxRecDepth 8000 in
set_option maxHeartbeats 16000000 in
theorem refPfY (s:Bool) (ad:Option Addr) (n cap:Nat) (xs:List Nat) (Z:Int) (P:Nat) (w:World) (rx:Row w ad n cap xs) (hx:∀x∈xs,x<18446744073709551616) (hR:RightN s xs) (hP:PF (iv s (nv 18446744073709551616 xs)) Z P) :
  Calls Tryz.prog 8 #[.agg #[.bool s,.slice ad n cap]] w (PEA w Z (P:Int) 0):=by
 have RA:=hide (fun (w1:World) (g:Gr w w1)=>rightR s ad n cap xs w1 (rx.gr g))
 rw[rightN_t hR] at RA
 have WX:=Wh.of rx hx hR
 obtain⟨A0,hA0⟩:∃A0,nv 18446744073709551616 xs=A0:=⟨_,rfl⟩
 have hA:A0<TopN:=by
  have:=WX.lt
  rw[iv_abs,hA0] at this
  exact this
 have LA0:Lim w ad n cap 18446744073709551616 A0:=by
  have:=WX.lim
  rw[iv_abs,hA0] at this
  exact this
 rw[hA0] at WX hP
 have hbA:=topN_bl.2 hA
 have LA:=hide LA0
 have HPF:=hide hP
 have HS:=hide WX.neg_iff
 have HT:=hide hA
 have NB:Hid (∀w1,Gr w w1->Calls Tryz.prog 27 #[.slice ad n cap] w1 fun e w'=>e = .returned (.int .i64 (bl A0:Int))/\Gr w1 w'):=fun w1 g=>bits73 ad n cap A0 w1 (LA.out.gr g) (by omega)
 have TA:Hid (∀w1,Gr w w1->Calls Tryz.prog 31 #[.bool s,.slice ad n cap] w1 (TOA w1 (iv s A0))):=fun w1 g=>toldZ s ad n cap A0 _ w1 (LA.out.gr g) HT.out rfl
 obtain⟨H1,HO⟩:=blk2 w (.cells #[.bool s,.slice ad n cap] 24) (.cells #[.bool false,.slice none 0 0] 24)
 have GW:Gr w ((w.alloc (.cells #[.bool s,.slice ad n cap] 24)).alloc (.cells #[.bool false,.slice none 0 0] 24)):=((Gr.refl w).alloc _).alloc _
 obtain⟨x1,y1⟩:=bx2 H1
 by_cases h2:2<=A0
 ·have hL2:(2:Int)<=(bl A0:Int):=by
   have h1:=bl_mono h2
   have:bl 2=2:=bl_unique (by omega) (by omega)
   omega
  have hPL:=pf_lt hP (by rw[iv_abs];exact h2)
  rw[iv_abs] at hPL
  have HB:=hide (show bl A0<=262144/\2<=A0 from ⟨hbA,h2⟩)
  have hLb:(bl A0:Int)<=262144:=by omega
  have H1P:1<=P:=by
   rcases hP with ⟨h1,_⟩|⟨_,⟨e1,e2,e3,e4⟩,_⟩
   ·rw[iv_abs] at h1;omega
   ·exact e3
  have HODD:Hid (s=true->P % 2=1):=fun hs=>by
   rcases hP with ⟨h1,_⟩|⟨_,⟨e1,e2,e3,e4⟩,_⟩
   ·rw[iv_abs] at h1;omega
   ·exact e4 (decide_eq_true (HS.out.1 hs))
  clear rx hx hR hP WX hA0 hA LA0 hbA h2
  go_enter Tryz.func8,Tryz.ntmps8
  have tok0:True:=trivial
  go_wp2_with (go_at_call 26;have _t:=tok0;(with_reducible refine(RA.out _ GW).mono ?_);rintro r v0 ⟨rfl,gN⟩;clear tok0;clear x1 y1;replace H1:=keepO gN H1;replace HO:=keepO gN HO;replace GW:=GW.trans gN;clear gN;obtain⟨x1,y1⟩:=bx2 H1)
  have tok1:True:=trivial
  go_wp2_with (go_at_call 27;have _t:=tok1;(with_reducible refine(NB.out _ GW).mono ?_);rintro r v1 ⟨rfl,gN⟩;clear tok1;clear x1 y1;replace H1:=keepO gN H1;replace HO:=keepO gN HO;replace GW:=GW.trans gN;clear gN)
  go_loopw [6] (fun ti wr=>∃k:Nat,k<=bl A0/\P<=k/\ti = .int .i64 (k:Int)/\wr.heap[w.heap.size]? = some (.cells #[.bool s,.slice ad n cap] 24)/\wr.heap[w.heap.size+1]? = some (.cells #[.bool false,.slice none 0 0] 24)/\Hid (Gr w wr)) (fun ti _=>(intOf ti).toNat)
  case atStart=>exact⟨bl A0,by omega,by omega,rfl,H1,HO,GW⟩
  case round =>
   clear H1 HO GW
   obtain⟨k,hk1,hk2,rfl,H1,HO,GW⟩:=hrel
   replace GW:=GW.out
   obtain⟨x1,y1⟩:=bx2 H1
   by_cases hk:(2:Int)<=(k:Int)
   ·by_cases hev:s=true/\k % 2=0
    ·obtain⟨rfl,hm0⟩:=hev
     have hm:Int.tmod (k:Int) 2=0:=by rw[Int.tmod_eq_emod_of_nonneg (by omega)];omega
     have HP2:=hide (show P<=k-1 by have:=HODD.out rfl;omega)
     go_wp2
     go_roundw
     case rel=>exact⟨k-1,by omega,HP2.out,by go_num,H1,HO,GW⟩
     case measure=>simp only[intOf];omega
    ·have HK:Hid (s=true->k % 2=1):=fun hs=>by
      have h1:¬k % 2=0:=fun h=>hev ⟨hs,h⟩
      omega
     clear hev
     cases s
     ·have hs0:True:=trivial
      obtain⟨t,ht⟩:=Rt.rt_ex k (by omega) A0
      have hself:=ht.self (by omega)
      have RT:Hid (∀w1,Gr w w1->Calls Tryz.prog 28 #[.slice ad n cap,.int .i64 (k:Int)] w1 fun e w'=>∃a n c,e = .returned (.slice a n c)/\Hid (Lim w' a n c 18446744073709551616 t)/\Gr w1 w'):=fun w1 g=>rootR ad n cap A0 k t w1 (LA.out.gr g) HB.out.1 (by omega) (by omega) ht
      have PW:Hid (∀w1 a m c,Gr w w1->Lim w1 a m c 18446744073709551616 t->Calls Tryz.prog 30 #[.slice a m c,.int .i64 (k:Int),.slice ad n cap] w1 fun e w'=>∃a n c v,e = .returned (.slice a n c)/\Hid (Lim w' a n c 18446744073709551616 v)/\Hid (QP v A0 (sg (((t ^ k:Nat):Int)-(A0:Int))))/\Gr w1 w'):=fun w1 a m c g h=>by
       refine(powR a ad m c n cap t k A0 w1 h (LA.out.gr g) (by have:=bl_mono hself;have:=HB.out.1;omega) (by have:=HB.out.1;omega) (by omega) (by have:=HB.out.2;omega)).mono ?_
       rintro e w' ⟨a,n,c,v,rfl,h1,h2,g'⟩
       exact⟨a,n,c,v,rfl,h1,qp_of ht h2.out,g'⟩
      have CM:Hid (∀w1 a k c v Z,Gr w w1->Lim w1 a k c 18446744073709551616 v->QP v A0 Z->Calls Tryz.prog 29 #[.slice a k c,.slice ad n cap] w1 fun e w'=>e = .returned (.int .i64 Z)/\Gr w1 w'):=fun w1 a k c v Z g h hq=>by
       have:=cmp60 a ad k n c cap v A0 w1 h (LA.out.gr g) (by have:=hq.1;omega) (by have:=HB.out.1;omega)
       rw[hq.2] at this
       exact this
      obtain⟨Z0,hZ0⟩:∃Z0,sg (((t ^ k:Nat):Int)-(A0:Int))=Z0:=⟨_,rfl⟩
      rw[hZ0] at PW
      by_cases hkP:k=P
      ·subst hkP
       obtain⟨e1,e2⟩:=pf_iv HPF.out HB.out.2 HS.out ht
       have hz:(Z0==0)=true:=by rw[<-hZ0,e1,show(A0:Int)-(A0:Int)=0 by omega];rfl
       have TD:Hid (∀w1 a k c,Lim w1 a k c 18446744073709551616 t->Calls Tryz.prog 31 #[.bool false,.slice a k c] w1 (TOA w1 Z)):=fun w1 a k c h=>toldZ false a k c t Z w1 h (Nat.lt_of_le_of_lt hself HT.out) e2
       clear hself ht hZ0 e1 e2 hk1 hk2
       have tokA0:True:=trivial
       go_wp2_with (go_at_call 28;have _t:=tokA0;(with_reducible refine(RT.out _ GW).mono ?_);rintro r vA0 ⟨ar,nr,cr,rfl,LR,gN⟩;replace LR:=LR.out;clear tokA0;clear x1 y1;replace H1:=keepO gN H1;replace HO:=keepO gN HO;replace GW:=GW.trans gN;clear gN;obtain⟨x1,y1⟩:=bx2 H1)
       refine Code.wp_mono ?_ (regPq9 _ _ _ _ _ _ _ _ _ _ _ _ _ _ _ _ _ _ _ _ _ _ _ _ _ _ _ _ _ _ _ _ _ _ _ _ _ _ _ _ _ _ _ _ _ _ _ _ _ _ _ w.heap.size n cap nr cr k A0 ad ar Z0 vA0 (fun w1 g=>PW.out _ _ _ _ (GW.trans g) (LR.gr g)) (fun w1 a k c v g h hq=>CM.out _ _ _ _ _ _ (GW.trans g) h hq) (Gr.refl _) y1)
       intro e a1 w3 hR
       cases e <;> first|(exact False.elim hR)|skip
       obtain⟨u35,u36,u37,u38,u39,u40,u41,u42,rfl,g4⟩:=hR
       replace LR:=LR.gr g4
       clear x1 y1
       replace H1:=keepO g4 H1
       replace HO:=keepO g4 HO
       replace GW:=GW.trans g4
       obtain⟨x1,y1⟩:=bx2 H1
       have tokT0:True:=trivial
       go_wp2_with (go_at_call 31;have _t:=tokT0;(with_reducible refine(TD.out _ _ _ _ LR).mono ?_);rintro r vT0 ⟨a9,b9,c9,d9,rfl,U9,gN⟩;clear tokT0;clear x1 y1;replace H1:=keepO gN H1;replace HO:=keepO gN HO;replace GW:=GW.trans gN;clear gN;obtain⟨xO,yO,vO,zO⟩:=outAny HO)
       have PO:=put2_block HO (.bool a9) (.slice b9 c9 d9)
       obtain⟨e0,e1⟩:=bx2 PO
       have V9:=wh_set2O U9.out HO a9 (.slice b9 c9 d9)
       refine bodyPost_ret (v:=.tuple #[.agg #[.bool a9,.slice b9 c9 d9],.int .i64 (k:Int),.int .i64 0]) ?_ rfl (PEA.mk' ⟨a9,b9,c9,d9,rfl,V9,(GW.setCell (p:=⟨(w.heap.size+1),0,none⟩) (by show _<=(w.heap.size+1);omega) (.bool a9)).setCell (p:=⟨(w.heap.size+1),1,none⟩) (by show _<=(w.heap.size+1);omega) (.slice b9 c9 d9)⟩)
       simp[results,Tryz.results8,go_sem,e0,e1]
      ·have hne:t ^ k≠A0:=fun h=>by
        have:=pf_div HPF.out (by rw[iv_abs];exact HB.out.2) (k:=k) (c:=t) (by omega) (fun hn=>HK.out (HS.out.2 hn)) (by rw[iv_abs];exact h)
        omega
       have hz:(Z0==0)=false:=by
        have h1:t ^ k<A0:=Nat.lt_of_le_of_ne ht.1 hne
        rw[<-hZ0,sg_neg (by omega)];rfl
       have HP2:=hide (show P<=k-1 by omega)
       clear hself ht hZ0 hne hkP
       have tokA0:True:=trivial
       go_wp2_with (go_at_call 28;have _t:=tokA0;(with_reducible refine(RT.out _ GW).mono ?_);rintro r vA0 ⟨ar,nr,cr,rfl,LR,gN⟩;replace LR:=LR.out;clear tokA0;clear x1 y1;replace H1:=keepO gN H1;replace HO:=keepO gN HO;replace GW:=GW.trans gN;clear gN;obtain⟨x1,y1⟩:=bx2 H1)
       refine Code.wp_mono ?_ (regPq9 _ _ _ _ _ _ _ _ _ _ _ _ _ _ _ _ _ _ _ _ _ _ _ _ _ _ _ _ _ _ _ _ _ _ _ _ _ _ _ _ _ _ _ _ _ _ _ _ _ _ _ w.heap.size n cap nr cr k A0 ad ar Z0 vA0 (fun w1 g=>PW.out _ _ _ _ (GW.trans g) (LR.gr g)) (fun w1 a k c v g h hq=>CM.out _ _ _ _ _ _ (GW.trans g) h hq) (Gr.refl _) y1)
       intro e a1 w3 hR
       cases e <;> first|(exact False.elim hR)|skip
       obtain⟨u35,u36,u37,u38,u39,u40,u41,u42,rfl,g4⟩:=hR
       replace LR:=LR.gr g4
       clear x1 y1
       replace H1:=keepO g4 H1
       replace HO:=keepO g4 HO
       replace GW:=GW.trans g4
       obtain⟨x1,y1⟩:=bx2 H1
       go_wp2
       go_roundw
       case rel=>exact⟨k-1,by omega,HP2.out,by go_num,H1,HO,GW⟩
       case measure=>simp only[intOf];omega
     ·have hm:Int.tmod (k:Int) 2=1:=by have:=HK.out rfl;rw[Int.tmod_eq_emod_of_nonneg (by omega)];omega
      obtain⟨t,ht⟩:=Rt.rt_ex k (by omega) A0
      have hself:=ht.self (by omega)
      have RT:Hid (∀w1,Gr w w1->Calls Tryz.prog 28 #[.slice ad n cap,.int .i64 (k:Int)] w1 fun e w'=>∃a n c,e = .returned (.slice a n c)/\Hid (Lim w' a n c 18446744073709551616 t)/\Gr w1 w'):=fun w1 g=>rootR ad n cap A0 k t w1 (LA.out.gr g) HB.out.1 (by omega) (by omega) ht
      have PW:Hid (∀w1 a m c,Gr w w1->Lim w1 a m c 18446744073709551616 t->Calls Tryz.prog 30 #[.slice a m c,.int .i64 (k:Int),.slice ad n cap] w1 fun e w'=>∃a n c v,e = .returned (.slice a n c)/\Hid (Lim w' a n c 18446744073709551616 v)/\Hid (QP v A0 (sg (((t ^ k:Nat):Int)-(A0:Int))))/\Gr w1 w'):=fun w1 a m c g h=>by
       refine(powR a ad m c n cap t k A0 w1 h (LA.out.gr g) (by have:=bl_mono hself;have:=HB.out.1;omega) (by have:=HB.out.1;omega) (by omega) (by have:=HB.out.2;omega)).mono ?_
       rintro e w' ⟨a,n,c,v,rfl,h1,h2,g'⟩
       exact⟨a,n,c,v,rfl,h1,qp_of ht h2.out,g'⟩
      have CM:Hid (∀w1 a k c v Z,Gr w w1->Lim w1 a k c 18446744073709551616 v->QP v A0 Z->Calls Tryz.prog 29 #[.slice a k c,.slice ad n cap] w1 fun e w'=>e = .returned (.int .i64 Z)/\Gr w1 w'):=fun w1 a k c v Z g h hq=>by
       have:=cmp60 a ad k n c cap v A0 w1 h (LA.out.gr g) (by have:=hq.1;omega) (by have:=HB.out.1;omega)
       rw[hq.2] at this
       exact this
      obtain⟨Z0,hZ0⟩:∃Z0,sg (((t ^ k:Nat):Int)-(A0:Int))=Z0:=⟨_,rfl⟩
      rw[hZ0] at PW
      by_cases hkP:k=P
      ·subst hkP
       obtain⟨e1,e2⟩:=pf_iv HPF.out HB.out.2 HS.out ht
       have hz:(Z0==0)=true:=by rw[<-hZ0,e1,show(A0:Int)-(A0:Int)=0 by omega];rfl
       have TD:Hid (∀w1 a k c,Lim w1 a k c 18446744073709551616 t->Calls Tryz.prog 31 #[.bool true,.slice a k c] w1 (TOA w1 Z)):=fun w1 a k c h=>toldZ true a k c t Z w1 h (Nat.lt_of_le_of_lt hself HT.out) e2
       clear hself ht hZ0 e1 e2 hk1 hk2
       have tokA0:True:=trivial
       go_wp2_with (go_at_call 28;have _t:=tokA0;(with_reducible refine(RT.out _ GW).mono ?_);rintro r vA0 ⟨ar,nr,cr,rfl,LR,gN⟩;replace LR:=LR.out;clear tokA0;clear x1 y1;replace H1:=keepO gN H1;replace HO:=keepO gN HO;replace GW:=GW.trans gN;clear gN;obtain⟨x1,y1⟩:=bx2 H1)
       refine Code.wp_mono ?_ (regPq9 _ _ _ _ _ _ _ _ _ _ _ _ _ _ _ _ _ _ _ _ _ _ _ _ _ _ _ _ _ _ _ _ _ _ _ _ _ _ _ _ _ _ _ _ _ _ _ _ _ _ _ w.heap.size n cap nr cr k A0 ad ar Z0 vA0 (fun w1 g=>PW.out _ _ _ _ (GW.trans g) (LR.gr g)) (fun w1 a k c v g h hq=>CM.out _ _ _ _ _ _ (GW.trans g) h hq) (Gr.refl _) y1)
       intro e a1 w3 hR
       cases e <;> first|(exact False.elim hR)|skip
       obtain⟨u35,u36,u37,u38,u39,u40,u41,u42,rfl,g4⟩:=hR
       replace LR:=LR.gr g4
       clear x1 y1
       replace H1:=keepO g4 H1
       replace HO:=keepO g4 HO
       replace GW:=GW.trans g4
       obtain⟨x1,y1⟩:=bx2 H1
       have tokT0:True:=trivial
       go_wp2_with (go_at_call 31;have _t:=tokT0;(with_reducible refine(TD.out _ _ _ _ LR).mono ?_);rintro r vT0 ⟨a9,b9,c9,d9,rfl,U9,gN⟩;clear tokT0;clear x1 y1;replace H1:=keepO gN H1;replace HO:=keepO gN HO;replace GW:=GW.trans gN;clear gN;obtain⟨xO,yO,vO,zO⟩:=outAny HO)
       have PO:=put2_block HO (.bool a9) (.slice b9 c9 d9)
       obtain⟨e0,e1⟩:=bx2 PO
       have V9:=wh_set2O U9.out HO a9 (.slice b9 c9 d9)
       refine bodyPost_ret (v:=.tuple #[.agg #[.bool a9,.slice b9 c9 d9],.int .i64 (k:Int),.int .i64 0]) ?_ rfl (PEA.mk' ⟨a9,b9,c9,d9,rfl,V9,(GW.setCell (p:=⟨(w.heap.size+1),0,none⟩) (by show _<=(w.heap.size+1);omega) (.bool a9)).setCell (p:=⟨(w.heap.size+1),1,none⟩) (by show _<=(w.heap.size+1);omega) (.slice b9 c9 d9)⟩)
       simp[results,Tryz.results8,go_sem,e0,e1]
      ·have hne:t ^ k≠A0:=fun h=>by
        have:=pf_div HPF.out (by rw[iv_abs];exact HB.out.2) (k:=k) (c:=t) (by omega) (fun hn=>HK.out (HS.out.2 hn)) (by rw[iv_abs];exact h)
        omega
       have hz:(Z0==0)=false:=by
        have h1:t ^ k<A0:=Nat.lt_of_le_of_ne ht.1 hne
        rw[<-hZ0,sg_neg (by omega)];rfl
       have HP2:=hide (show P<=k-1 by omega)
       clear hself ht hZ0 hne hkP
       have tokA0:True:=trivial
       go_wp2_with (go_at_call 28;have _t:=tokA0;(with_reducible refine(RT.out _ GW).mono ?_);rintro r vA0 ⟨ar,nr,cr,rfl,LR,gN⟩;replace LR:=LR.out;clear tokA0;clear x1 y1;replace H1:=keepO gN H1;replace HO:=keepO gN HO;replace GW:=GW.trans gN;clear gN;obtain⟨x1,y1⟩:=bx2 H1)
       refine Code.wp_mono ?_ (regPq9 _ _ _ _ _ _ _ _ _ _ _ _ _ _ _ _ _ _ _ _ _ _ _ _ _ _ _ _ _ _ _ _ _ _ _ _ _ _ _ _ _ _ _ _ _ _ _ _ _ _ _ w.heap.size n cap nr cr k A0 ad ar Z0 vA0 (fun w1 g=>PW.out _ _ _ _ (GW.trans g) (LR.gr g)) (fun w1 a k c v g h hq=>CM.out _ _ _ _ _ _ (GW.trans g) h hq) (Gr.refl _) y1)
       intro e a1 w3 hR
       cases e <;> first|(exact False.elim hR)|skip
       obtain⟨u35,u36,u37,u38,u39,u40,u41,u42,rfl,g4⟩:=hR
       replace LR:=LR.gr g4
       clear x1 y1
       replace H1:=keepO g4 H1
       replace HO:=keepO g4 HO
       replace GW:=GW.trans g4
       obtain⟨x1,y1⟩:=bx2 H1
       go_wp2
       go_roundw
       case rel=>exact⟨k-1,by omega,HP2.out,by go_num,H1,HO,GW⟩
       case measure=>simp only[intOf];omega
   ·obtain rfl:P=1:=by omega
    have e1:=pf_one HPF.out
    rw[<-e1] at TA
    clear e1
    have tokT0:True:=trivial
    go_wp2_with (go_at_call 31;have _t:=tokT0;(with_reducible refine(TA.out _ GW).mono ?_);rintro r vT0 ⟨a9,b9,c9,d9,rfl,U9,gN⟩;clear tokT0;clear x1 y1;replace H1:=keepO gN H1;replace HO:=keepO gN HO;replace GW:=GW.trans gN;clear gN;obtain⟨xO,yO,vO,zO⟩:=outAny HO)
    have PO:=put2_block HO (.bool a9) (.slice b9 c9 d9)
    obtain⟨e0,e1⟩:=bx2 PO
    have V9:=wh_set2O U9.out HO a9 (.slice b9 c9 d9)
    refine bodyPost_ret (v:=.tuple #[.agg #[.bool a9,.slice b9 c9 d9],.int .i64 1,.int .i64 0]) ?_ rfl (PEA.mk' ⟨a9,b9,c9,d9,rfl,V9,(GW.setCell (p:=⟨(w.heap.size+1),0,none⟩) (by show _<=(w.heap.size+1);omega) (.bool a9)).setCell (p:=⟨(w.heap.size+1),1,none⟩) (by show _<=(w.heap.size+1);omega) (.slice b9 c9 d9)⟩)
    simp[results,Tryz.results8,go_sem,e0,e1]
 ·have hL2:¬(2:Int)<=(bl A0:Int):=by
   have h1:=bl_mono (show A0<=1 by omega)
   have:bl 1=1:=bl_unique (by omega) (by omega)
   omega
  have hPZ:Z=iv s A0/\P=1:=by
   rcases hP with ⟨_,h1,h2⟩|⟨h1,_⟩
   ·exact⟨h1,h2⟩
   ·rw[iv_abs] at h1;omega
  obtain⟨rfl,rfl⟩:=hPZ
  clear rx hx hR hP WX hA0 hA LA0 hbA h2 HPF
  go_enter Tryz.func8,Tryz.ntmps8
  have tok0:True:=trivial
  go_wp2_with (go_at_call 26;have _t:=tok0;(with_reducible refine(RA.out _ GW).mono ?_);rintro r v0 ⟨rfl,gN⟩;clear tok0;clear x1 y1;replace H1:=keepO gN H1;replace HO:=keepO gN HO;replace GW:=GW.trans gN;clear gN;obtain⟨x1,y1⟩:=bx2 H1)
  have tok1:True:=trivial
  go_wp2_with (go_at_call 27;have _t:=tok1;(with_reducible refine(NB.out _ GW).mono ?_);rintro r v1 ⟨rfl,gN⟩;clear tok1;clear x1 y1;replace H1:=keepO gN H1;replace HO:=keepO gN HO;replace GW:=GW.trans gN;clear gN)
  go_loopw [6] (fun ti wr=>ti = .int .i64 (bl A0:Int)/\wr.heap[w.heap.size]? = some (.cells #[.bool s,.slice ad n cap] 24)/\wr.heap[w.heap.size+1]? = some (.cells #[.bool false,.slice none 0 0] 24)/\Hid (Gr w wr)) (fun _ _=>0)
  case atStart=>exact⟨rfl,H1,HO,GW⟩
  case round =>
   clear H1 HO GW
   obtain⟨rfl,H1,HO,GW⟩:=hrel
   replace GW:=GW.out
   obtain⟨x1,y1⟩:=bx2 H1
   have tokT0:True:=trivial
   go_wp2_with (go_at_call 31;have _t:=tokT0;(with_reducible refine(TA.out _ GW).mono ?_);rintro r vT0 ⟨a9,b9,c9,d9,rfl,U9,gN⟩;clear tokT0;clear x1 y1;replace H1:=keepO gN H1;replace HO:=keepO gN HO;replace GW:=GW.trans gN;clear gN;obtain⟨xO,yO,vO,zO⟩:=outAny HO)
   have PO:=put2_block HO (.bool a9) (.slice b9 c9 d9)
   obtain⟨e0,e1⟩:=bx2 PO
   have V9:=wh_set2O U9.out HO a9 (.slice b9 c9 d9)
   refine bodyPost_ret (v:=.tuple #[.agg #[.bool a9,.slice b9 c9 d9],.int .i64 1,.int .i64 0]) ?_ rfl (PEA.mk' ⟨a9,b9,c9,d9,rfl,V9,(GW.setCell (p:=⟨(w.heap.size+1),0,none⟩) (by show _<=(w.heap.size+1);omega) (.bool a9)).setCell (p:=⟨(w.heap.size+1),1,none⟩) (by show _<=(w.heap.size+1);omega) (.slice b9 c9 d9)⟩)
   simp[results,Tryz.results8,go_sem,e0,e1]
set_option maxHeartbeats 8000000 in
theorem rootPerfectP (s:Bool) (ad:Option Addr) (n cap:Nat) (xs:List Nat) (w:World) (rx:Row w ad n cap xs) (hx:∀x∈xs,x<18446744073709551616) (hT:TabAt 0 Lib.deBruijn64tab w) :
  Calls Tryz.prog 3 #[.agg #[.bool s,.slice ad n cap]] w fun e w'=>e = .returned (.bool true)/\Gr w w':=by
 have AW:=hide (fun (w1:World) (g:Gr w w1)=>awakeZ w1 (tab_gr hT g))
 have GW:Gr w (w.alloc (.cells #[.bool s,.slice ad n cap] 24)):=(Gr.refl w).alloc _
 have H1:=blk1 w (.cells #[.bool s,.slice ad n cap] 24)
 by_cases hn:(5:Int)<(n:Int)
 ·obtain⟨x1,y1⟩:=bx2 H1
  clear rx hx hT
  go_enter Tryz.func3,Tryz.ntmps3
  go_wp2_with (go_at_call 6;(with_reducible refine(AW.out _ GW).mono ?_);rintro r v0 ⟨rfl,gN⟩)
  go_ret
  exact⟨rfl,GW.trans gN⟩
 ·have ISX:=isY
  have PFX:(∃X P E:Int,Hid (∀w1,Gr w w1->Calls Tryz.prog 7 #[.agg #[.bool s,.slice ad n cap]] w1 (PEA w1 X P E))/\Hid (∀w1,Gr w w1->Calls Tryz.prog 8 #[.agg #[.bool s,.slice ad n cap]] w1 (PEA w1 X P E))):=by
   by_cases hR:RightN s xs
   ·obtain⟨Z,P,hP⟩:=pf_ex (iv s (nv 18446744073709551616 xs))
    refine⟨Z,(P:Int),0,fun w1 g=>?_,fun w1 g=>refPfY s ad n cap xs Z P w1 (rx.gr g) hx hR hP⟩
    refine(perfectA s ad n cap (iv s (nv 18446744073709551616 xs)) w1 (Wh.of (rx.gr g) hx hR) (tab_gr hT g)).mono ?_
    rintro r w' ⟨a,b,c,d,Z',P',rfl,h1,h2,_,g'⟩
    obtain⟨rfl,rfl⟩:=pf_uniq hP h1.out
    exact PEA.mk' ⟨a,b,c,d,rfl,h2,g'⟩
   ·exact⟨0,0,2,fun w1 g=>pfBadZ s ad n cap xs w1 (rx.gr g) hR,fun w1 g=>refPfN s ad n cap xs w1 (rx.gr g) hR⟩
  obtain⟨X,P,E,SQ,RQ⟩:=PFX
  replace ISX:=ISX X E
  clear rx hx hT
  obtain⟨x1,y1⟩:=bx2 H1
  go_enter Tryz.func3,Tryz.ntmps3
  have tok0:True:=trivial
  go_wp2_with (go_at_call 7;have _t:=tok0;(with_reducible refine(SQ.out _ GW).mono ?_);rintro r v0 ⟨s5,a5,n5,c5,rfl,U5,gN⟩;have J5:Hid (NoF v0):=hide trivial;clear tok0;clear x1 y1;replace H1:=keepO gN H1;replace U5:=U5.out;replace J5:=J5.out.low GW.size;replace GW:=GW.trans gN;clear gN;have gx:Gr v0 (v0.alloc (.cells #[.bool s5,.slice a5 n5 c5] 24)):=(Gr.refl _).alloc _;have H5:=blk1 v0 (.cells #[.bool s5,.slice a5 n5 c5] 24);replace H1:=keepO gx H1;replace U5:=U5.gr gx;replace J5:=J5.gr gx;replace GW:=GW.trans gx;clear gx;obtain⟨x1,y1⟩:=bx2 H1)
  generalize (v0.alloc (.cells #[.bool s5,.slice a5 n5 c5] 24))=w1 at *
  have tok1:True:=trivial
  go_wp2_with (go_at_call 8;have _t:=tok1;(with_reducible refine(RQ.out _ GW).mono ?_);rintro r v1 ⟨s7,a7,n7,c7,rfl,U7,gN⟩;have J7:Hid (NoF v1):=hide trivial;clear tok1;clear x1 y1;replace H1:=keepO gN H1;replace H5:=keepO gN H5;replace U5:=U5.gr gN;replace J5:=J5.gr gN;replace U7:=U7.out;replace J7:=J7.out.low GW.size;replace GW:=GW.trans gN;clear gN;have gx:Gr v1 (v1.alloc (.cells #[.bool s7,.slice a7 n7 c7] 24)):=(Gr.refl _).alloc _;have H7:=blk1 v1 (.cells #[.bool s7,.slice a7 n7 c7] 24);replace H1:=keepO gx H1;replace H5:=keepO gx H5;replace U5:=U5.gr gx;replace J5:=J5.gr gx;replace U7:=U7.gr gx;replace J7:=J7.gr gx;replace GW:=GW.trans gx;clear gx;obtain⟨x5,y5⟩:=bx2 H5;obtain⟨x7,y7⟩:=bx2 H7)
  generalize (v1.alloc (.cells #[.bool s7,.slice a7 n7 c7] 24))=w2 at *
  have tok2:True:=trivial
  go_wp2_with (go_at_call 9;have _t:=tok2;(with_reducible refine(ISX.out _ _ _ _ _ _ _ _ _ U5 U7).mono ?_);rintro r v2 ⟨rfl,gN⟩;clear tok2;clear x5 y5 x7 y7;replace H1:=keepO gN H1;replace H5:=keepO gN H5;replace U5:=U5.gr gN;replace J5:=J5.gr gN;replace H7:=keepO gN H7;replace U7:=U7.gr gN;replace J7:=J7.gr gN;replace GW:=GW.trans gN;clear gN)
  have tok3:True:=trivial
  go_wp2_with (go_at_call 6;have _t:=tok3;(with_reducible refine(AW.out _ GW).mono ?_);rintro r v3 ⟨rfl,gN⟩;clear tok3;replace H1:=keepO gN H1;replace H5:=keepO gN H5;replace U5:=U5.gr gN;replace J5:=J5.gr gN;replace H7:=keepO gN H7;replace U7:=U7.gr gN;replace J7:=J7.gr gN;replace GW:=GW.trans gN;clear gN)
  go_ret
  exact⟨rfl,GW⟩
end Go.Proofs.YtbbhddlmdfkomaaGreatDoor
