import Derived.Test.YtibckeckjfmbkaaGreatDoorM06
import Derived.OwnWalk
import Derived.RowKit3
namespace Go.Proofs.YtibckeckjfmbkaaGreatDoor.Fl
open Go.RowKit
theorem next_nan (x:Nat) (up:Bool) (w:World) (h:nanB x=true):Calls Tryz.prog 91 #[.float .f64 x,.bool up] w fun e w'=>e = .returned (.float .f64 x)/\w'=w:=by
 go_enter Tryz.func91,Tryz.ntmps91
 go_wp2_with (first|(go_at_call 73;refine(inf12z _ _).mono ?_;rintro e w' ⟨rfl,rfl⟩)|(go_at_call 82;refine(nan11 _ _).mono ?_;rintro e w' ⟨rfl,rfl⟩))
 go_ret
 exact⟨rfl,rfl⟩
theorem next_pinf (x:Nat) (w:World) (h:nanB x=false) (h1:pinfB x=true):Calls Tryz.prog 91 #[.float .f64 x,.bool true] w fun e w'=>e = .returned (.float .f64 x)/\w'=w:=by
 go_enter Tryz.func91,Tryz.ntmps91
 go_wp2_with (first|(go_at_call 73;refine(inf12p _ _).mono ?_;rintro e w' ⟨rfl,rfl⟩)|(go_at_call 82;refine(nan11 _ _).mono ?_;rintro e w' ⟨rfl,rfl⟩))
 go_ret
 exact⟨rfl,rfl⟩
theorem next_minf (x:Nat) (w:World) (h:nanB x=false) (h1:pinfB (negN x)=true):Calls Tryz.prog 91 #[.float .f64 x,.bool false] w fun e w'=>e = .returned (.float .f64 x)/\w'=w:=by
 go_enter Tryz.func91,Tryz.ntmps91
 go_wp2_with (first|(go_at_call 73;refine(inf12m _ _).mono ?_;rintro e w' ⟨rfl,rfl⟩)|(go_at_call 82;refine(nan11 _ _).mono ?_;rintro e w' ⟨rfl,rfl⟩))
 go_ret
 exact⟨rfl,rfl⟩
theorem next_step_up (x:Nat) (p:Bool) (w:World) (hx:x+1<18446744073709551616) (hx0:0<x) (h:nanB x=false) (h1:pinfB x=false) (h2:zeroB x=false) (h3:posB x=p) :
  Calls Tryz.prog 91 #[.float .f64 x,.bool true] w fun e w'=>e = .returned (.float .f64 (if p then x+1 else x-1))/\w'=w:=by
 have h4:=bits14
 have h5:=from13
 unfold zeroB at h2
 unfold posB at h3
 cases p
 all_goals
  go_enter Tryz.func91,Tryz.ntmps91
  go_wp2_with (first|(go_at_call 73;refine(inf12p _ _).mono ?_;rintro e w' ⟨rfl,rfl⟩)|(go_at_call 82;refine(nan11 _ _).mono ?_;rintro e w' ⟨rfl,rfl⟩))
  go_ret
  exact⟨by congr 2,rfl⟩
theorem next_step_down (x:Nat) (p:Bool) (w:World) (hx:x+1<18446744073709551616) (hx0:0<x) (h:nanB x=false) (h1:pinfB (negN x)=false) (h2:zeroB x=false) (h3:posB x=p) :
  Calls Tryz.prog 91 #[.float .f64 x,.bool false] w fun e w'=>e = .returned (.float .f64 (if p then x-1 else x+1))/\w'=w:=by
 have h4:=bits14
 have h5:=from13
 unfold zeroB at h2
 unfold posB at h3
 cases p
 all_goals
  go_enter Tryz.func91,Tryz.ntmps91
  go_wp2_with (first|(go_at_call 73;refine(inf12m _ _).mono ?_;rintro e w' ⟨rfl,rfl⟩)|(go_at_call 82;refine(nan11 _ _).mono ?_;rintro e w' ⟨rfl,rfl⟩))
  go_ret
  exact⟨by congr 2,rfl⟩
theorem next_zero_up (x:Nat) (w:World) (h:nanB x=false) (h1:pinfB x=false) (h2:zeroB x=true) :
  Calls Tryz.prog 91 #[.float .f64 x,.bool true] w fun e w'=>e = .returned (.float .f64 1)/\w'=w:=by
 unfold zeroB at h2
 go_enter Tryz.func91,Tryz.ntmps91
 go_wp2_with (first|(go_at_call 73;refine(inf12p _ _).mono ?_;rintro e w' ⟨rfl,rfl⟩)|(go_at_call 82;refine(nan11 _ _).mono ?_;rintro e w' ⟨rfl,rfl⟩))
 go_ret
 exact⟨rfl,rfl⟩
theorem next_zero_down (x:Nat) (w:World) (h:nanB x=false) (h1:pinfB (negN x)=false) (h2:zeroB x=true) :
  Calls Tryz.prog 91 #[.float .f64 x,.bool false] w fun e w'=>e = .returned (.float .f64 9223372036854775809)/\w'=w:=by
 unfold zeroB at h2
 go_enter Tryz.func91,Tryz.ntmps91
 go_wp2_with (first|(go_at_call 73;refine(inf12m _ _).mono ?_;rintro e w' ⟨rfl,rfl⟩)|(go_at_call 82;refine(nan11 _ _).mono ?_;rintro e w' ⟨rfl,rfl⟩))
 go_ret
 exact⟨rfl,rfl⟩
def nextW (s:Bool) (r:Nat) (up:Bool):Nat:=
 if 9218868437227405312<r then W s r
 else if r=0 then W (!up) 1
 else if s = !up then (if r=9218868437227405312 then W s r else W s (r+1)) else W s (r-1)
theorem W_succ (s:Bool) (r:Nat):W s r+1=W s (r+1):=by cases s <;> rfl
theorem W_pred (s:Bool) (r:Nat) (h:0<r):W s r-1=W s (r-1):=by
 cases s
 ·rfl
 ·unfold W;simp only[if_true];omega
theorem next5 (s:Bool) (r:Nat) (up:Bool) (w:World) (h:r<9223372036854775808) :
  Calls Tryz.prog 91 #[.float .f64 (W s r),.bool up] w fun e w'=>e = .returned (.float .f64 (nextW s r up))/\w'=w:=by
 have hn:=nanB_W s r h
 unfold nextW
 by_cases h1:9218868437227405312<r
 ·rw[if_pos h1]
  rw[decide_eq_true h1] at hn
  exact next_nan _ _ _ hn
 rw[if_neg h1]
 rw[decide_eq_false h1] at hn
 have hz:=zeroB_W s r (by omega)
 have hp:=posB_W s r (by omega)
 have hi:=pinfB_W s r (by omega)
 have hm:=pinfB_W (!s) r (by omega)
 rw[<-neg_W s r h] at hm
 have hl:=W_lt s (r+1) (by omega)
 rw[<-W_succ] at hl
 by_cases h2:r=0
 ·rw[if_pos h2]
  rw[decide_eq_true h2] at hz
  rw[decide_eq_false (by omega),Bool.and_false] at hi hm
  cases up
  ·exact next_zero_down _ _ hn hm hz
  ·exact next_zero_up _ _ hn hi hz
 rw[if_neg h2]
 rw[decide_eq_false h2] at hz
 rw[decide_eq_true h2,Bool.and_true] at hp
 have hW:0<W s r:=by cases s <;> unfold W <;> simp <;> omega
 cases s <;> cases up <;> simp only[Bool.not_true,Bool.not_false,Bool.true_and,Bool.false_and,Bool.false_eq_true,Bool.true_eq_false,if_true,if_false] at *
 ·have:=next_step_down _ _ w hl hW hn hm hz hp
  rw[W_pred false r (by omega)] at this
  exact this
 ·by_cases h3:r=9218868437227405312
  ·rw[if_pos h3]
   rw[decide_eq_true h3] at hi
   exact next_pinf _ _ hn hi
  ·rw[if_neg h3]
   rw[decide_eq_false h3] at hi
   have:=next_step_up _ _ w hl hW hn hi hz hp
   exact this
 ·by_cases h3:r=9218868437227405312
  ·rw[if_pos h3]
   rw[decide_eq_true h3] at hm
   exact next_minf _ _ hn hm
  ·rw[if_neg h3]
   rw[decide_eq_false h3] at hm
   have:=next_step_down _ _ w hl hW hn hm hz hp
   exact this
 ·have:=next_step_up _ _ w hl hW hn hi hz hp
  rw[W_pred true r (by omega)] at this
  exact this
end Go.Proofs.YtibckeckjfmbkaaGreatDoor.Fl
namespace Go.Proofs.YtibckeckjfmbkaaGreatDoor.Fl
open Go.RowKit
open Ieee
theorem ext17 (x:Nat) (w:World):(callFunc 56 #[.float .f64 x]).run Tryz.prog w=((Extern.MathFloor.toIntegral "math.RoundToEven" .even #[.float .f64 x]).run Tryz.prog w).andThen fun v w'=>.ok (.value v) w':=
 run_callFunc_extern Tryz.func56 (by kernel_rfl) (by kernel_rfl) (by kernel_rfl) (by kernel_rfl) _ w
theorem m2 (motive:Array Value->Type) (x:Nat) (h1:(x:Nat)->motive #[.float .f64 x]) (h2:(x:Array Value)->motive x):Extern.MathFloor.toIntegral.match_2 motive #[.float .f64 x] h1 h2=h1 x:=rfl
theorem int_num (name:String) (way:Toward) (x:Nat) {s:Bool} {m:Nat} {e:Int} (h:FloatKind.f64.decode x = .number s m e):Extern.MathFloor.toIntegral name way #[.float .f64 x]=pure (.float .f64 (FloatKind.f64.encode ((Datum.number s m e).integral way))):=by
 unfold Extern.MathFloor.toIntegral
 rw[m2 (fun _=>Sem Value),h]
def evN (r:Nat):Nat:=M r / U+(evenUp (M r / U) (M r % U) U).toNat
theorem round17 (s:Bool) (r:Nat) (w:World) (hr:r<9218868437227405312) (hc:evN r<=9007199254740992) :
  (callFunc 56 #[.float .f64 (W s r)]).run Tryz.prog w = .ok (.value (.float .f64 (W s (ofN (evN r))))) w:=by
 have h1:FloatKind.f64.decode (W s r) = .number s (mant r) (-1074+(ex r:Int)):=read_fin s r hr
 rw[ext17,int_num _ _ _ h1,even_W]
 have h2:FloatKind.f64.encode (.number s (M r / U+(evenUp (M r / U) (M r % U) U).toNat) 0)=W s (ofN (evN r)):=(ofN_spec (evN r) hc).2.2 s
 rw[h2]
 rfl
theorem M_K:M 4845873199050653696=9007199254740992*U:=by
 have h:=M_at (E74+1) 4503599627370496 (Or.inl ⟨by omega,by omega⟩)
 have e:(E74+1)*4503599627370496+4503599627370496=4845873199050653696:=rfl
 rw[e] at h
 rw[h]
 unfold U
 rw[Nat.pow_succ,Nat.mul_comm (2 ^ E74) 2,<-Nat.mul_assoc]
theorem le_K {r:Nat} (h:r<=4845873199050653696):M r<=9007199254740992*U:=by
 rw[<-M_K];exact M_le h
theorem div_K {r:Nat} (h:r<=4845873199050653696):M r / U<=9007199254740992:=by
 rw[Nat.div_le_iff_le_mul U_pos]
 have:=le_K h
 have:=U_pos
 omega
theorem evN_K {r:Nat} (h:r<=4845873199050653696):evN r<=9007199254740992:=by
 have h1:=le_K h
 have hU:=U_pos
 unfold evN
 have h2:=div_K h
 by_cases h3:M r / U=9007199254740992
 ·have h4:M r % U=0:=by
   have:=Nat.div_add_mod (M r) U
   rw[h3,Nat.mul_comm] at this
   omega
  rw[h4,evenUp_zero _ _ hU]
  exact h2
 ·have:=Bool.toNat_le (evenUp (M r / U) (M r % U) U)
  omega
def bigB (x:Nat):Bool:=FloatKind.f64.format.order (absN x) 4845873199050653696==some .gt
theorem bigB_W (s:Bool) (r:Nat) (h:r<9223372036854775808):bigB (W s r)=(decide (4845873199050653696<r) && decide (r<=9218868437227405312)):=by
 unfold bigB
 rw[abs_W s r h,f64_format]
 have e:FloatKind.f64.format.order r 4845873199050653696=double.order (W false r) (W false 4845873199050653696):=rfl
 by_cases hn:9218868437227405312<r
 ·rw[f64_format] at e
  rw[e,order_nan_left false r _ h hn,decide_eq_false (p:=r<=9218868437227405312) (by omega),Bool.and_false]
  rfl
 ·rw[f64_format] at e
  rw[e,order_W false false r _ (by omega) (by omega),decide_eq_true (p:=r<=9218868437227405312) (by omega),Bool.and_true]
  unfold val
  simp only[Bool.false_eq_true,if_false]
  rcases Nat.lt_trichotomy r 4845873199050653696 with h1|h1|h1
  ·have:=M_lt h1
   rw[compare_lt (by omega),decide_eq_false (by omega)];rfl
  ·subst h1
   rw[compare_eq rfl,decide_eq_false (by omega)];rfl
  ·have:=M_lt h1
   rw[compare_gt (by omega),decide_eq_true h1];rfl
def sgnI (s:Bool) (n:Nat):Int:=if s then -(n:Int) else (n:Int)
end Go.Proofs.YtibckeckjfmbkaaGreatDoor.Fl
namespace Go.Proofs.YtibckeckjfmbkaaGreatDoor.Fl
open Go.RowKit
open Ieee
set_option linter.unusedVariables false
theorem near_dist (r:Nat):∃d,d<9218868437227405312/\((M r:Int)-((evN r*U:Nat):Int)).natAbs=M d/\2*M d<=U/\(M d=0 ↔ M r % U=0)/\(M r % U=0->evN r=M r / U):=by
 have hU:=U_pos
 have h3:=Nat.div_add_mod (M r) U
 rw[Nat.mul_comm] at h3
 have hl:=Nat.mod_lt (M r) hU
 unfold evN
 cases he:evenUp (M r / U) (M r % U) U
 ·obtain⟨d,h1,h2⟩:=rest_rep r
  unfold evenUp at he
  rw[Bool.or_eq_false_iff] at he
  have he1:=of_decide_eq_false he.1
  refine⟨d,h2,?_,by omega,by omega,fun _=>rfl⟩
  rw[h1,Bool.toNat_false,Nat.add_zero]
  generalize M r / U*U=q at *
  omega
 ·have h4:U<=2*(M r % U):=by
   unfold evenUp at he
   rw[Bool.or_eq_true,Bool.and_eq_true] at he
   rcases he with he|he
   ·have:=of_decide_eq_true he;omega
   ·have:=beq_iff_eq.1 he.1;omega
  obtain⟨d,h1,h2⟩:=gap_rep r h4
  refine⟨d,h2,?_,by omega,by omega,fun h0=>by omega⟩
  rw[h1,Bool.toNat_true,Nat.add_mul,Nat.one_mul]
  generalize M r / U*U=q at *
  omega
theorem add_run (w:World) (x y r:Nat) (h:double.add x y=some r):(binOp .add 32 (.float .f64 x) (.float .f64 y)).run Tryz.prog w = .ok (.float .f64 r) w:=
 run_float_arith (P:=Tryz.prog) w .add 32 .f64 x y r h
theorem sub_run (w:World) (x y r:Nat) (h:double.sub x y=some r):(binOp .sub 32 (.float .f64 x) (.float .f64 y)).run Tryz.prog w = .ok (.float .f64 r) w:=
 run_float_arith (P:=Tryz.prog) w .sub 32 .f64 x y r h
theorem finB_W (s:Bool) (r:Nat) (h:r<9223372036854775808):finB (W s r)=decide (r<9218868437227405312):=by
 unfold finB
 rw[abs_W s r h,nanB_W s r h]
 have e:pinfB r=pinfB (W false r):=rfl
 rw[e]
 by_cases hn:9218868437227405312<r
 ·rw[pinfB_nan false r h hn,decide_eq_true hn,decide_eq_false (by omega)];rfl
 ·rw[pinfB_W false r (by omega),decide_eq_false hn]
  by_cases hi:r=9218868437227405312
  ·rw[decide_eq_true hi,decide_eq_false (by omega)];rfl
  ·rw[decide_eq_false hi,decide_eq_true (by omega)];rfl
theorem near_sub (s:Bool) (r d:Nat) (hr:r<=4845873199050653696) (hd:d<9218868437227405312) (h:((M r:Int)-((evN r*U:Nat):Int)).natAbs=M d) :
  ∃sg,double.sub (W s r) (W s (ofN (evN r)))=some (W sg d):=by
 obtain⟨h1,h2,_⟩:=ofN_spec (evN r) (evN_K hr)
 refine⟨(if val s r+val (!s) (ofN (evN r))=0 then s && !s else decide (val s r+val (!s) (ofN (evN r))<0)),?_⟩
 ·rw[sub_W s s r _ h2]
  refine add_exact s (!s) r _ d (by omega) h2 (by omega) ?_
  rw[<-h,val_not]
  unfold val
  rw[h1]
  cases s <;> simp only[Bool.false_eq_true,if_false,if_true] <;> omega
theorem near6 (s:Bool) (r d:Nat) (w:World) (hr:r<=4845873199050653696) (hd:d<9218868437227405312) (h:((M r:Int)-((evN r*U:Nat):Int)).natAbs=M d) :
  Calls Tryz.prog 36 #[.float .f64 (W s r)] w fun e w'=>e = .returned (.tuple #[.int .i64 (sgnI s (evN r)),.float .f64 d,.int .i64 0])/\w'=w:=by
 have hc:=evN_K hr
 obtain⟨h1,h2,_⟩:=ofN_spec (evN r) hc
 have hf:=finB_W s r (by omega)
 rw[decide_eq_true (by omega)] at hf
 have hb:=bigB_W s r (by omega)
 rw[decide_eq_false (p:=4845873199050653696<r) (by omega),Bool.false_and] at hb
 unfold bigB at hb
 have hround:=round17 s r w (by omega) hc
 obtain⟨sg,hsub⟩:=near_sub s r d hr hd h
 have hs:=sub_run w _ _ _ hsub
 have ha:=abs_W sg d (by omega)
 have hq:M (ofN (evN r)) / U=evN r:=by rw[h1,Nat.mul_div_cancel _ U_pos]
 have hi:(convert 32 2 (.float .f64 (W s (ofN (evN r))))).run Tryz.prog w = .ok (.int .i64 (sgnI s (evN r))) w:=by
  have:=run_convert_float_int (P:=Tryz.prog) w 32 2 .f64 .i64 (W s (ofN (evN r))) _ (by kernel_rfl) (by kernel_rfl) (toInt_W s (ofN (evN r)) h2 (by omega))
  rw[hq] at this
  exact this
 go_enter Tryz.func36,Tryz.ntmps36
 go_wp2_with (first|(go_at_call 54;refine(fin15 _ _).mono ?_;rintro e w' ⟨rfl,rfl⟩)|(go_at_call 55;refine(abs16 _ _).mono ?_;rintro e w' ⟨rfl,rfl⟩))
 go_ret3
 exact⟨rfl,rfl⟩
def negB (x:Nat):Bool:=FloatKind.f64.format.order x 0==some .lt
def sideW (s:Bool) (r off:Nat) (up:Bool):Nat:=if (if up then posB off else negB off) then nextW s r up else W s r
theorem side20 (s:Bool) (r off:Nat) (up:Bool) (w:World) (h:r<9223372036854775808) :
  Calls Tryz.prog 67 #[.float .f64 (W s r),.float .f64 off,.bool up] w fun e w'=>e = .returned (.float .f64 (sideW s r off up))/\w'=w:=by
 unfold sideW posB negB
 have hN:=fun w=>next5 s r up w h
 cases up
 ·cases hp:(FloatKind.f64.format.order off 0==some .lt)
  all_goals
   go_enter Tryz.func67,Tryz.ntmps67
   go_wp2_with (go_at_call 91;refine(hN _).mono ?_;rintro e w' ⟨rfl,rfl⟩)
   go_ret
   exact⟨rfl,rfl⟩
 ·cases hp:(FloatKind.f64.format.order off 0==some .gt)
  all_goals
   go_enter Tryz.func67,Tryz.ntmps67
   go_wp2_with (go_at_call 91;refine(hN _).mono ?_;rintro e w' ⟨rfl,rfl⟩)
   go_ret
   exact⟨rfl,rfl⟩
theorem err21_keep (a b s t o:Nat) (w:World) (h:(FloatKind.f64.format.order (absN a) (absN b)==some .lt)=false) (h1:double.sub s a=some t) (h2:double.sub b t=some o) :
  Calls Tryz.prog 98 #[.float .f64 a,.float .f64 b,.float .f64 s] w fun e w'=>e = .returned (.float .f64 o)/\w'=w:=by
 have g1:=sub_run w _ _ _ h1
 have g2:=sub_run w _ _ _ h2
 clear h1 h2
 go_enter Tryz.func98,Tryz.ntmps98
 go_wp2_with (go_at_call 55;refine(abs16 _ _).mono ?_;rintro e w' ⟨rfl,rfl⟩)
 go_ret
 exact⟨rfl,rfl⟩
theorem add10 (a b s o:Nat) (sg:Bool) (r:Nat) (up:Bool) (w:World) (ha:finB a=true) (hb:finB b=true) (h1:double.add a b=some s) (hz:zeroB s=false) (hs:s=W sg r) (hr:r<9223372036854775808)
  (he:∀w,Calls Tryz.prog 98 #[.float .f64 a,.float .f64 b,.float .f64 s] w fun e w'=>e = .returned (.float .f64 o)/\w'=w) :
  Calls Tryz.prog 72 #[.float .f64 a,.float .f64 b,.bool up] w fun e w'=>e = .returned (.float .f64 (sideW sg r o up))/\w'=w:=by
 have g1:=add_run w _ _ _ h1
 clear h1
 unfold zeroB at hz
 have hS:=fun w=>side20 sg r o up w hr
 rw[<-hs] at hS
 have HE:Hid (∀w,Calls Tryz.prog 98 #[.float .f64 a,.float .f64 b,.float .f64 s] w fun e w'=>e = .returned (.float .f64 o)/\w'=w):=he
 have HS:Hid (∀w,Calls Tryz.prog 67 #[.float .f64 s,.float .f64 o,.bool up] w fun e w'=>e = .returned (.float .f64 (sideW sg r o up))/\w'=w):=hS
 clear he hS hs hr
 generalize sideW sg r o up=res at *
 go_enter Tryz.func72,Tryz.ntmps72
 go_wp2_with (first|(go_at_call 54;refine(fin15 _ _).mono ?_;rintro e w' ⟨rfl,rfl⟩)|(go_at_call 98;refine(HE.out _).mono ?_;rintro e w' ⟨rfl,rfl⟩)|(go_at_call 67;refine(HS.out _).mono ?_;rintro e w' ⟨rfl,rfl⟩))
 go_ret
 exact⟨rfl,rfl⟩
theorem B_lt (s t:Bool) (a b:Nat) (ha:a<=9218868437227405312) (hb:b<=9218868437227405312):(FloatKind.f64.format.order (W s a) (W t b)==some .lt)=decide (val s a<val t b):=by
 rw[f64_format,order_W s t a b ha hb]
 rcases Int.lt_trichotomy (val s a) (val t b) with h|h|h
 ·rw[compare_lt h,decide_eq_true h];rfl
 ·rw[compare_eq h,decide_eq_false (by omega)];rfl
 ·rw[compare_gt h,decide_eq_false (by omega)];rfl
theorem B_gt (s t:Bool) (a b:Nat) (ha:a<=9218868437227405312) (hb:b<=9218868437227405312):(FloatKind.f64.format.order (W s a) (W t b)==some .gt)=decide (val t b<val s a):=by
 rw[f64_format,order_W s t a b ha hb]
 rcases Int.lt_trichotomy (val s a) (val t b) with h|h|h
 ·rw[compare_lt h,decide_eq_false (by omega)];rfl
 ·rw[compare_eq h,decide_eq_false (by omega)];rfl
 ·rw[compare_gt h,decide_eq_true h];rfl
def E21:Nat:=1021
end Go.Proofs.YtibckeckjfmbkaaGreatDoor.Fl
namespace Go.Proofs.YtibckeckjfmbkaaGreatDoor.Fl
open Ieee
set_option linter.unusedVariables false
def DirUp (N D r:Nat):Prop:=r<=9218868437227405312/\(r<9218868437227405312->N<=M r*D)/\(0<r->M (r-1)*D<N)
def DirDn (N D r:Nat):Prop:=r<9218868437227405312/\M r*D<=N/\(r+1<9218868437227405312->N<M (r+1)*D)
def Dir (out:Bool) (N D r:Nat):Prop:=if out then DirUp N D r else DirDn N D r
def Near (N D c:Nat):Prop:=c<=9218868437227405312/\(c<9218868437227405312->N<M (c+1)*D)/\(0<c->M (c-1)*D<N)
theorem near_of_faithful {N D r c:Nat} (hD:0<D) (h1:M r*D<=N) (h2:N<M (r+1)*D) (h3:c=r\/(c=r+1/\N≠M r*D)):Near N D (min c 9218868437227405312):=by
 have mono:∀{a b:Nat},a<b->M a*D<M b*D:=fun h=>Nat.mul_lt_mul_of_pos_right (M_lt h) hD
 have mle:∀{a b:Nat},a<=b->M a*D<=M b*D:=fun h=>Nat.mul_le_mul_right _ (M_le h)
 refine⟨Nat.min_le_right ..,?_,?_⟩
 ·intro h
  have e:min c 9218868437227405312=c:=by omega
  rw[e]
  rcases h3 with rfl|⟨rfl,_⟩
  ·exact h2
  ·exact Nat.lt_of_lt_of_le h2 (mle (by omega))
 ·intro h
  rcases h3 with rfl|⟨rfl,h4⟩
  ·exact Nat.lt_of_lt_of_le (mono (by omega)) h1
  ·have h5:M r*D<N:=by omega
   exact Nat.lt_of_le_of_lt (mle (by omega)) h5
theorem side_ok (sg:Bool) (N D c off:Nat) (up:Bool) (hD:0<D) (hn:Near N D c)
  (ho:(if sg then negB off else posB off)=decide (c<9218868437227405312/\M c*D<N))
  (hi:(if sg then posB off else negB off)=decide (c=9218868437227405312\/N<M c*D)) :
  ∃r,sideW sg c off up=W sg r/\Dir (up != sg) N D r:=by
 obtain⟨h1,h2,h3⟩:=hn
 have mono:∀{a b:Nat},a<b->M a*D<M b*D:=fun h=>Nat.mul_lt_mul_of_pos_right (M_lt h) hD
 unfold sideW Dir
 by_cases hud:up=sg
 ·
  have e1:(up != sg)=false:=by subst hud;cases up <;> rfl
  have e2:(if up=true then posB off else negB off)=decide (c=9218868437227405312\/N<M c*D):=by
   rw[<-hi];subst hud;rfl
  rw[e1,e2]
  simp only[Bool.false_eq_true,if_false,decide_eq_true_eq]
  by_cases hc:c=9218868437227405312\/N<M c*D
  ·rw[if_pos hc]
   have hc0:0<c:=by
    refine Nat.pos_of_ne_zero fun h0=>?_
    subst h0
    rw[M_zero] at hc
    omega
   refine⟨c-1,?_,?_⟩
   ·unfold nextW
    rw[if_neg (by omega),if_neg (by omega),if_neg (by subst hud;cases up <;> simp)]
   ·refine⟨by omega,Nat.le_of_lt (h3 hc0),?_⟩
    intro h
    have e:c-1+1=c:=by omega
    rw[e] at h ⊢
    rcases hc with hc|hc
    ·omega
    ·exact hc
  ·rw[if_neg hc]
   refine⟨c,rfl,by omega,by omega,fun h=>h2 (by omega)⟩
 ·have hud':sg = !up:=by cases sg <;> cases up <;> simp at hud ⊢
  have e1:(up != sg)=true:=by subst hud';cases up <;> rfl
  have e2:(if up=true then posB off else negB off)=decide (c<9218868437227405312/\M c*D<N):=by
   rw[<-ho];subst hud';cases up <;> rfl
  rw[e1,e2]
  simp only[if_true,decide_eq_true_eq]
  by_cases hc:c<9218868437227405312/\M c*D<N
  ·rw[if_pos hc]
   refine⟨c+1,?_,by omega,fun h=>Nat.le_of_lt (h2 hc.1),fun _=>hc.2⟩
   unfold nextW
   rw[if_neg (by omega)]
   by_cases h0:c=0
   ·rw[if_pos h0,h0,hud']
   ·rw[if_neg h0,if_pos hud',if_neg (by omega)]
  ·rw[if_neg hc]
   exact⟨c,rfl,h1,fun h=>by omega,h3⟩
theorem dirUp_mono {N D r N' D' r':Nat} (hD:0<D) (hD':0<D') (h:DirUp N D r) (h':DirUp N' D' r') (hle:N*D'<=N'*D):r<=r':=by
 refine Nat.le_of_not_lt fun hlt=>?_
 have h1:=h.2.2 (by omega)
 have h2:=h'.2.1 (by have:=h.1;omega)
 have h3:M r'*D'<=M (r-1)*D':=Nat.mul_le_mul_right _ (M_le (by omega))
 have h4:M (r-1)*D*D'<N*D':=Nat.mul_lt_mul_of_pos_right h1 hD'
 have h5:N'*D<=M (r-1)*D'*D:=Nat.mul_le_mul_right _ (Nat.le_trans h2 h3)
 rw[Nat.mul_right_comm] at h5
 omega
theorem dirDn_mono {N D r N' D' r':Nat} (hD:0<D) (hD':0<D') (h:DirDn N D r) (h':DirDn N' D' r') (hle:N*D'<=N'*D):r<=r':=by
 refine Nat.le_of_not_lt fun hlt=>?_
 have h1:=h'.2.2 (by have:=h.1;omega)
 have h2:=h.2.1
 have h3:M (r'+1)*D'<=M r*D':=Nat.mul_le_mul_right _ (M_le (by omega))
 have h4:N'*D<M r*D'*D:=Nat.mul_lt_mul_of_pos_right (Nat.lt_of_lt_of_le h1 h3) hD
 have h5:M r*D*D'<=N*D':=Nat.mul_le_mul_right _ h2
 rw[Nat.mul_right_comm] at h4
 omega
theorem dir_mono {out:Bool} {N D r N' D' r':Nat} (hD:0<D) (hD':0<D') (h:Dir out N D r) (h':Dir out N' D' r') (hle:N*D'<=N'*D):r<=r':=by
 unfold Dir at *
 cases out
 ·exact dirDn_mono hD hD' h h' hle
 ·exact dirUp_mono hD hD' h h' hle
theorem dir_unique {out:Bool} {N D r r':Nat} (hD:0<D) (h:Dir out N D r) (h':Dir out N D r'):r=r':=
 Nat.le_antisymm (dir_mono hD hD h h' (Nat.le_refl _)) (dir_mono hD hD h' h (Nat.le_refl _))
theorem ex_mono {a b:Nat} (h:a<=b):ex a<=ex b:=by
 unfold ex
 have:=Nat.div_le_div_right (c:=4503599627370496) h
 omega
theorem M_lower (r:Nat) (h:0<ex r):4503599627370496*2 ^ ex r<=M r:=by
 unfold M
 refine Nat.mul_le_mul_right _ ?_
 unfold mant ex at *
 split
 ·omega
 ·omega
theorem M_upper (r:Nat):M r<9007199254740992*2 ^ ex r:=by
 unfold M
 exact Nat.mul_lt_mul_of_pos_right (mant_lt r) (Nat.two_pow_pos _)
theorem M_dvd {r j:Nat} (h:j<=ex r):2 ^ j ∣ M r:=by
 unfold M
 exact Nat.dvd_trans (Nat.pow_dvd_pow 2 h) (Nat.dvd_mul_left ..)
theorem M_dvd_succ {r j:Nat} (h:j<=ex r):2 ^ j ∣ M (r+1):=by
 rw[M_succ]
 exact Nat.dvd_add (M_dvd h) (Nat.pow_dvd_pow 2 h)
theorem rep_dvd (x:Int) (j:Nat) (hd:((2 ^ j:Nat):Int) ∣ x) (hb:x.natAbs<=9007199254740992*2 ^ j):∃r,M r=x.natAbs:=by
 obtain⟨k,hk⟩:=hd
 have h1:x.natAbs=k.natAbs*2 ^ j:=by
  rw[hk,Int.natAbs_mul,Int.natAbs_natCast,Nat.mul_comm]
 rw[h1] at hb ⊢
 have h2:=Nat.le_of_mul_le_mul_right hb (Nat.two_pow_pos j)
 obtain⟨r,h3,_⟩:=rep j k.natAbs h2
 exact⟨r,h3⟩
theorem pow_dbl {a b:Nat} (h:a<b):2*2 ^ a<=2 ^ b:=by
 have h1:(2:Nat) ^ (a+1)<=2 ^ b:=Nat.pow_le_pow_right (by omega) (by omega)
 rw[Nat.pow_succ] at h1
 omega
theorem first_exact (a b r c X:Nat) (hab:b<=a) (hX:X=M a+M b\/X+M b=M a) (h1:M r<=X) (h2:X<M (r+1)) (h3:c=r\/(c=r+1/\X≠M r)) :
  ∃d,M d=((M c:Int)-(M a:Int)).natAbs:=by
 have hex:=ex_mono hab
 have hAB:=M_le hab
 have hs:=M_succ r
 have hdist:((M c:Int)-(X:Int)).natAbs<2 ^ ex r:=by
  rcases h3 with rfl|⟨rfl,h3⟩
  ·omega
  ·omega
 have dX:∀j,j<=ex b->2 ^ j ∣ X:=by
  intro j hj
  have d1:=M_dvd (r:=a) (j:=j) (by omega)
  have d2:=M_dvd (r:=b) (j:=j) hj
  rcases hX with hX|hX
  ·rw[hX];exact Nat.dvd_add d1 d2
  ·have:X=M a-M b:=by omega
   rw[this];exact Nat.dvd_sub d1 d2
 have dC:∀j,j<=ex r->2 ^ j ∣ M c:=by
  intro j hj
  rcases h3 with rfl|⟨rfl,_⟩
  ·exact M_dvd hj
  ·exact M_dvd_succ hj
 by_cases hq:ex r<=ex b
 ·have hz:X-M r=0:=by
   refine Nat.eq_zero_of_dvd_of_lt (Nat.dvd_sub (dX _ hq) (M_dvd (Nat.le_refl _))) ?_
   omega
  have hc:c=r:=by
   rcases h3 with h|⟨_,h⟩
   ·exact h
   ·omega
  subst hc
  refine⟨b,?_⟩
  rcases hX with hX|hX <;> omega
 ·have hb:=M_upper b
  have p1:=pow_dbl (show ex b<ex r by omega)
  by_cases hqa:ex r<=ex a
  ·refine rep_dvd _ (ex r) (Int.dvd_sub (Int.natCast_dvd_natCast.2 (dC _ (Nat.le_refl _))) (Int.natCast_dvd_natCast.2 (M_dvd hqa))) ?_
   have:=Nat.two_pow_pos (ex r)
   generalize 2 ^ ex r=p at *
   generalize 2 ^ ex b=pb at *
   rcases hX with hX|hX <;> omega
  ·have hlow:=M_lower r (by omega)
   have hup:=M_upper a
   have hq1:ex r=ex a+1:=by
    refine Nat.le_antisymm (Nat.le_of_not_lt fun hgt=>?_) (by omega)
    have p2:=pow_dbl (show ex a+1<ex r by omega)
    have p3:=pow_dbl (show ex a<ex a+1 by omega)
    generalize 2 ^ ex r=p at *
    generalize 2 ^ (ex a+1)=pm at *
    generalize 2 ^ ex a=pa at *
    rcases hX with hX|hX <;> omega
   have hpow:2 ^ ex r=2*2 ^ ex a:=by rw[hq1,Nat.pow_succ,Nat.mul_comm]
   refine rep_dvd _ (ex a) (Int.dvd_sub (Int.natCast_dvd_natCast.2 (dC _ (by omega))) (Int.natCast_dvd_natCast.2 (M_dvd (Nat.le_refl _)))) ?_
   by_cases he:ex b=ex a
   ·have hdv:((2 ^ ex a:Nat):Int) ∣ (M c:Int)-(X:Int):=Int.dvd_sub (Int.natCast_dvd_natCast.2 (dC _ (by omega))) (Int.natCast_dvd_natCast.2 (dX _ (by omega)))
    obtain⟨k,hk⟩:=hdv
    have hk1:((M c:Int)-(X:Int)).natAbs=2 ^ ex a*k.natAbs:=by rw[hk,Int.natAbs_mul,Int.natAbs_natCast]
    have hk2:k.natAbs<2:=by
     rw[hk1,hpow,Nat.mul_comm 2] at hdist
     exact Nat.lt_of_mul_lt_mul_left hdist
    have hk3:((M c:Int)-(X:Int)).natAbs<=2 ^ ex a:=by
     rw[hk1]
     calc 2 ^ ex a*k.natAbs<=2 ^ ex a*1:=Nat.mul_le_mul_left _ (by omega)
      _=2 ^ ex a:=Nat.mul_one _
    have hmb:M b<=9007199254740991*2 ^ ex a:=by
     unfold M
     rw[he]
     exact Nat.mul_le_mul_right _ (by have:=mant_lt b;omega)
    clear hk hk1 hdist
    generalize 2 ^ ex a=pa at *
    rcases hX with hX|hX <;> omega
   ·have p4:=pow_dbl (show ex b<ex a by omega)
    have:=Nat.two_pow_pos (ex a)
    rw[hpow] at hdist
    generalize 2 ^ ex a=pa at *
    generalize 2 ^ ex b=pb at *
    rcases hX with hX|hX <;> omega
end Go.Proofs.YtibckeckjfmbkaaGreatDoor.Fl
namespace Go.Proofs.YtibckeckjfmbkaaGreatDoor.Fl
open Go.RowKit
open Ieee
set_option linter.unusedVariables false
theorem negB_W (s:Bool) (r:Nat) (h:r<=9218868437227405312):negB (W s r)=(s && decide (r≠0)):=by
 unfold negB
 have hb:=B_lt s false r 0 h (by omega)
 rw[show W false 0=0 from rfl] at hb
 rw[hb,val_zero]
 by_cases hr:r=0
 ·subst hr;rw[val_zero];cases s <;> rfl
 ·have:=M_pos (r:=r) (by omega)
  rw[decide_eq_true hr,Bool.and_true]
  unfold val
  cases s
  ·exact decide_eq_false (by simp)
  ·exact decide_eq_true (by simp;omega)
theorem M_one:M 1=1:=rfl
theorem val_signed (E:Int) (x:Bool) (d:Nat) (h:E.natAbs=M d):val (if E=0 then x else decide (E<0)) d=E:=by
 by_cases hz:E=0
 ·rw[if_pos hz]
  subst hz
  unfold val
  rw[<-h]
  cases x <;> rfl
 ·rw[if_neg hz]
  unfold val
  by_cases hn:E<0
  ·rw[decide_eq_true hn]
   simp only[if_true]
   omega
  ·rw[decide_eq_false hn]
   simp only[Bool.false_eq_true,if_false]
   omega
theorem add_sign (s t:Bool) (a b:Nat) (ha:a<9218868437227405312) (hb:b<9218868437227405312) :
  ∃sg c,c<=9218868437227405312/\double.add (W s a) (W t b)=some (W sg c)/\posB (W sg c)=decide (0<val s a+val t b)/\negB (W sg c)=decide (val s a+val t b<0):=by
 obtain⟨r,c,h1,h2,h3,h4⟩:=add_faithful s t a b ha hb
 refine⟨_,min c 9218868437227405312,Nat.min_le_right ..,h4,?_⟩
 rw[posB_W _ _ (Nat.min_le_right ..),negB_W _ _ (Nat.min_le_right ..)]
 generalize val s a+val t b=T at *
 by_cases hT:T=0
 ·subst hT
  have hr:r=0:=by
   refine Nat.eq_zero_of_not_pos fun hp=>?_
   have:=M_pos hp
   simp at h1
   omega
  have hc:c=0:=by
   subst hr
   rcases h3 with h|⟨_,h⟩
   ·exact h
   ·exact absurd (by simp[M_zero]) h
  subst hc
  simp
 ·have hr:0<r:=by
   refine Nat.pos_of_ne_zero fun h0=>?_
   subst h0
   rw[show 0+1=1 from rfl,M_one] at h2
   omega
  have hc:min c 9218868437227405312≠0:=by omega
  rw[if_neg hT,decide_eq_true hc,Bool.and_true,Bool.and_true]
  refine⟨?_,rfl⟩
  by_cases hn:T<0
  ·rw[decide_eq_true hn,decide_eq_false (by omega)];rfl
  ·rw[decide_eq_false hn,decide_eq_true (by omega)];rfl
theorem sub_inf_fin (s t:Bool) (a:Nat) (ha:a<9218868437227405312):double.sub (W s 9218868437227405312) (W t a)=some (W s 9218868437227405312):=by
 unfold Format.sub
 rw[read_inf,read_fin t a ha]
 cases s <;> rfl
theorem sub_fin_inf (s t:Bool) (a:Nat) (ha:a<9218868437227405312):double.sub (W t a) (W s 9218868437227405312)=some (W (!s) 9218868437227405312):=by
 unfold Format.sub
 rw[read_inf,read_fin t a ha]
 cases s <;> rfl
theorem err41_swap (a b s t o:Nat) (w:World) (h:(FloatKind.f64.format.order (absN a) (absN b)==some .lt)=true) (h1:double.sub s b=some t) (h2:double.sub a t=some o) :
  Calls Tryz.prog 98 #[.float .f64 a,.float .f64 b,.float .f64 s] w fun e w'=>e = .returned (.float .f64 o)/\w'=w:=by
 have g1:=sub_run w _ _ _ h1
 have g2:=sub_run w _ _ _ h2
 clear h1 h2
 go_enter Tryz.func98,Tryz.ntmps98
 go_wp2_with (go_at_call 55;refine(abs16 _ _).mono ?_;rintro e w' ⟨rfl,rfl⟩)
 go_ret
 exact⟨rfl,rfl⟩
theorem err_says (s t:Bool) (a b r c:Nat) (ha:a<9218868437227405312) (hab:b<=a) (hT:val s a+val t b≠0)
  (h1:M r<=(val s a+val t b).natAbs) (h2:(val s a+val t b).natAbs<M (r+1)) (h3:c=r\/(c=r+1/\(val s a+val t b).natAbs≠M r)) :
  ∃y o,double.sub (W (decide (val s a+val t b<0)) (min c 9218868437227405312)) (W s a)=some y/\double.sub (W t b) y=some o /\
   (if decide (val s a+val t b<0) then negB o else posB o)=decide (min c 9218868437227405312<9218868437227405312/\M (min c 9218868437227405312)*1<(val s a+val t b).natAbs) /\
   (if decide (val s a+val t b<0) then posB o else negB o)=decide (min c 9218868437227405312=9218868437227405312\/(val s a+val t b).natAbs<M (min c 9218868437227405312)*1):=by
 have hAB:=M_le hab
 have hA:=M_lt ha
 have hvs:decide (val s a+val t b<0)=s:=by
  unfold val at *
  cases s <;> cases t <;> simp only[Bool.false_eq_true,if_false,if_true] at *
  ·exact decide_eq_false (by omega)
  ·exact decide_eq_false (by omega)
  ·exact decide_eq_true (by omega)
  ·exact decide_eq_true (by omega)
 rw[hvs]
 by_cases hc:9218868437227405312<=c
 ·have e:min c 9218868437227405312=9218868437227405312:=by omega
  rw[e]
  refine⟨_,_,sub_inf_fin s s a ha,sub_fin_inf s t b (by omega),?_,?_⟩
  ·rw[negB_W _ _ (by omega),posB_W _ _ (by omega),decide_eq_false (p:=9218868437227405312<9218868437227405312/\_) (by omega)]
   cases s <;> rfl
  ·rw[negB_W _ _ (by omega),posB_W _ _ (by omega),decide_eq_true (p:=9218868437227405312=9218868437227405312\/_) (Or.inl rfl)]
   cases s <;> rfl
 ·have e:min c 9218868437227405312=c:=by omega
  rw[e]
  have hX:(val s a+val t b).natAbs=M a+M b\/(val s a+val t b).natAbs+M b=M a:=by
   unfold val
   cases s <;> cases t <;> simp only[Bool.false_eq_true,if_false,if_true] <;> omega
  obtain⟨d,hd⟩:=first_exact a b r c _ hab hX h1 h2 h3
  have hC:=M_lt (show c<9218868437227405312 by omega)
  have hdI:d<9218868437227405312:=by
   refine M_lt_iff.1 ?_
   rw[hd]
   omega
  have hdv:(val s c+val (!s) a).natAbs=M d:=by
   rw[hd,val_not]
   unfold val
   cases s <;> simp only[Bool.false_eq_true,if_false,if_true] <;> omega
  have g1:=add_exact s (!s) c a d (by omega) ha (by omega) hdv
  rw[<-sub_W s s c a ha] at g1
  generalize hsy:(if val s c+val (!s) a=0 then s && !s else decide (val s c+val (!s) a<0))=sy at g1
  have hvy:val sy d=val s c-val s a:=by
   rw[<-hsy,val_signed _ _ _ hdv,val_not]
   rfl
  obtain⟨so,co,hco,g2,g3,g4⟩:=add_sign t (!sy) b d (by omega) hdI
  rw[<-sub_W t sy b d hdI] at g2
  refine⟨_,_,g1,g2,?_,?_⟩
  ·rw[g3,g4,val_not,hvy]
   rw[Bool.eq_iff_iff]
   unfold val at *
   cases s <;> cases t <;> simp only[Bool.false_eq_true,if_false,if_true,decide_eq_true_eq,decide_eq_false_iff_not] at * <;> omega
  ·rw[g3,g4,val_not,hvy]
   rw[Bool.eq_iff_iff]
   unfold val at *
   cases s <;> cases t <;> simp only[Bool.false_eq_true,if_false,if_true,decide_eq_true_eq,decide_eq_false_iff_not] at * <;> omega
end Go.Proofs.YtibckeckjfmbkaaGreatDoor.Fl
