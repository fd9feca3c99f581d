import Derived.Test.YtanpdbadfddlcaaGreatDoorP06
import Derived.Test.YtanpdbadfddlcaaGreatDoorP05
import Derived.Test.YtanpdbadfddlcaaGreatDoorP02
import Derived.Deep.Draws
namespace Go.Proofs.YtanpdbadfddlcaaGreatDoor.Fl
open Go.RowKit
open Ieee
set_option linter.unusedVariables false
theorem negB_W (s:Bool) (r:Nat) (h:r<=9218868437227405312):negB (W s r)=(s && decide (r≠0)):=by
 unfold negB
 have hb:=B_lt s false r 0 h (by omega)
 rw[show W false 0=0 from rfl] at hb
 rw[hb,val_zero]
 by_cases hr:r=0
 ·subst hr;rw[val_zero];cases s <;> rfl
 ·have:=M_pos (r:=r) (by omega)
  rw[decide_eq_true hr,Bool.and_true]
  unfold val
  cases s
  ·exact decide_eq_false (by simp)
  ·exact decide_eq_true (by simp;omega)
theorem M_one:M 1=1:=rfl
theorem val_signed (E:Int) (x:Bool) (d:Nat) (h:E.natAbs=M d):val (if E=0 then x else decide (E<0)) d=E:=by
 by_cases hz:E=0
 ·rw[if_pos hz]
  subst hz
  unfold val
  rw[<-h]
  cases x <;> rfl
 ·rw[if_neg hz]
  unfold val
  by_cases hn:E<0
  ·rw[decide_eq_true hn]
   simp only[if_true]
   omega
  ·rw[decide_eq_false hn]
   simp only[Bool.false_eq_true,if_false]
   omega
theorem add_sign (s t:Bool) (a b:Nat) (ha:a<9218868437227405312) (hb:b<9218868437227405312) :
  ∃sg c,c<=9218868437227405312/\double.add (W s a) (W t b)=some (W sg c)/\posB (W sg c)=decide (0<val s a+val t b)/\negB (W sg c)=decide (val s a+val t b<0):=by
 obtain⟨r,c,h1,h2,h3,h4⟩:=add_faithful s t a b ha hb
 refine⟨_,min c 9218868437227405312,Nat.min_le_right ..,h4,?_⟩
 rw[posB_W _ _ (Nat.min_le_right ..),negB_W _ _ (Nat.min_le_right ..)]
 generalize val s a+val t b=T at *
 by_cases hT:T=0
 ·subst hT
  have hr:r=0:=by
   refine Nat.eq_zero_of_not_pos fun hp=>?_
   have:=M_pos hp
   simp at h1
   omega
  have hc:c=0:=by
   subst hr
   rcases h3 with h|⟨_,h⟩
   ·exact h
   ·exact absurd (by simp[M_zero]) h
  subst hc
  simp
 ·have hr:0<r:=by
   refine Nat.pos_of_ne_zero fun h0=>?_
   subst h0
   rw[show 0+1=1 from rfl,M_one] at h2
   omega
  have hc:min c 9218868437227405312≠0:=by omega
  rw[if_neg hT,decide_eq_true hc,Bool.and_true,Bool.and_true]
  refine⟨?_,rfl⟩
  by_cases hn:T<0
  ·rw[decide_eq_true hn,decide_eq_false (by omega)];rfl
  ·rw[decide_eq_false hn,decide_eq_true (by omega)];rfl
theorem sub_inf_fin (s t:Bool) (a:Nat) (ha:a<9218868437227405312):double.sub (W s 9218868437227405312) (W t a)=some (W s 9218868437227405312):=by
 unfold Format.sub
 rw[read_inf,read_fin t a ha]
 cases s <;> rfl
theorem sub_fin_inf (s t:Bool) (a:Nat) (ha:a<9218868437227405312):double.sub (W t a) (W s 9218868437227405312)=some (W (!s) 9218868437227405312):=by
 unfold Format.sub
 rw[read_inf,read_fin t a ha]
 cases s <;> rfl
theorem err41_swap (a b s t o:Nat) (w:World) (h:(FloatKind.f64.format.order (absN a) (absN b)==some .lt)=true) (h1:double.sub s b=some t) (h2:double.sub a t=some o) :
  Calls Tryz.prog 107 #[.float .f64 a,.float .f64 b,.float .f64 s] w fun e w'=>e = .returned (.float .f64 o)/\w'=w:=by
 have g1:=sub_run w _ _ _ h1
 have g2:=sub_run w _ _ _ h2
 clear h1 h2
 go_enter Tryz.func107,Tryz.ntmps107
 go_wp2_with (go_at_call 82;refine(abs16 _ _).mono ?_;rintro e w' ⟨rfl,rfl⟩)
 go_ret
 exact⟨rfl,rfl⟩
theorem err_says (s t:Bool) (a b r c:Nat) (ha:a<9218868437227405312) (hab:b<=a) (hT:val s a+val t b≠0)
  (h1:M r<=(val s a+val t b).natAbs) (h2:(val s a+val t b).natAbs<M (r+1)) (h3:c=r\/(c=r+1/\(val s a+val t b).natAbs≠M r)) :
  ∃y o,double.sub (W (decide (val s a+val t b<0)) (min c 9218868437227405312)) (W s a)=some y/\double.sub (W t b) y=some o /\
   (if decide (val s a+val t b<0) then negB o else posB o)=decide (min c 9218868437227405312<9218868437227405312/\M (min c 9218868437227405312)*1<(val s a+val t b).natAbs) /\
   (if decide (val s a+val t b<0) then posB o else negB o)=decide (min c 9218868437227405312=9218868437227405312\/(val s a+val t b).natAbs<M (min c 9218868437227405312)*1):=by
 have hAB:=M_le hab
 have hA:=M_lt ha
 have hvs:decide (val s a+val t b<0)=s:=by
  unfold val at *
  cases s <;> cases t <;> simp only[Bool.false_eq_true,if_false,if_true] at *
  ·exact decide_eq_false (by omega)
  ·exact decide_eq_false (by omega)
  ·exact decide_eq_true (by omega)
  ·exact decide_eq_true (by omega)
 rw[hvs]
 by_cases hc:9218868437227405312<=c
 ·have e:min c 9218868437227405312=9218868437227405312:=by omega
  rw[e]
  refine⟨_,_,sub_inf_fin s s a ha,sub_fin_inf s t b (by omega),?_,?_⟩
  ·rw[negB_W _ _ (by omega),posB_W _ _ (by omega),decide_eq_false (p:=9218868437227405312<9218868437227405312/\_) (by omega)]
   cases s <;> rfl
  ·rw[negB_W _ _ (by omega),posB_W _ _ (by omega),decide_eq_true (p:=9218868437227405312=9218868437227405312\/_) (Or.inl rfl)]
   cases s <;> rfl
 ·have e:min c 9218868437227405312=c:=by omega
  rw[e]
  have hX:(val s a+val t b).natAbs=M a+M b\/(val s a+val t b).natAbs+M b=M a:=by
   unfold val
   cases s <;> cases t <;> simp only[Bool.false_eq_true,if_false,if_true] <;> omega
  obtain⟨d,hd⟩:=first_exact a b r c _ hab hX h1 h2 h3
  have hC:=M_lt (show c<9218868437227405312 by omega)
  have hdI:d<9218868437227405312:=by
   refine M_lt_iff.1 ?_
   rw[hd]
   omega
  have hdv:(val s c+val (!s) a).natAbs=M d:=by
   rw[hd,val_not]
   unfold val
   cases s <;> simp only[Bool.false_eq_true,if_false,if_true] <;> omega
  have g1:=add_exact s (!s) c a d (by omega) ha (by omega) hdv
  rw[<-sub_W s s c a ha] at g1
  generalize hsy:(if val s c+val (!s) a=0 then s && !s else decide (val s c+val (!s) a<0))=sy at g1
  have hvy:val sy d=val s c-val s a:=by
   rw[<-hsy,val_signed _ _ _ hdv,val_not]
   rfl
  obtain⟨so,co,hco,g2,g3,g4⟩:=add_sign t (!sy) b d (by omega) hdI
  rw[<-sub_W t sy b d hdI] at g2
  refine⟨_,_,g1,g2,?_,?_⟩
  ·rw[g3,g4,val_not,hvy]
   rw[Bool.eq_iff_iff]
   unfold val at *
   cases s <;> cases t <;> simp only[Bool.false_eq_true,if_false,if_true,decide_eq_true_eq,decide_eq_false_iff_not] at * <;> omega
  ·rw[g3,g4,val_not,hvy]
   rw[Bool.eq_iff_iff]
   unfold val at *
   cases s <;> cases t <;> simp only[Bool.false_eq_true,if_false,if_true,decide_eq_true_eq,decide_eq_false_iff_not] at * <;> omega
theorem add11_not (a b v:Nat) (up:Bool) (w w2:World) (h:(finB a && finB b)=false) (h1:(binOp .add 25 (.float .f64 a) (.float .f64 b)).run Tryz.prog w = .ok (.float .f64 v) w2) :
  Calls Tryz.prog 70 #[.float .f64 a,.float .f64 b,.bool up] w fun e w'=>e = .returned (.float .f64 v)/\w'=w2:=by
 cases ha:finB a
 ·go_enter Tryz.func70,Tryz.ntmps70
  go_wp2_with (go_at_call 64;refine(fin15 _ _).mono ?_;rintro e w' ⟨rfl,rfl⟩)
  go_ret
  exact⟨rfl,rfl⟩
 ·have hb:finB b=false:=by rw[ha,Bool.true_and] at h;exact h
  clear h
  go_enter Tryz.func70,Tryz.ntmps70
  go_wp2_with (go_at_call 64;refine(fin15 _ _).mono ?_;rintro e w' ⟨rfl,rfl⟩)
  go_ret
  exact⟨rfl,rfl⟩
theorem add11_sem (s t:Bool) (a b:Nat) (up:Bool) (ha:a<9218868437227405312) (hb:b<9218868437227405312) (hT:val s a+val t b≠0) :
  ∃r,Dir (up != decide (val s a+val t b<0)) (val s a+val t b).natAbs 1 r /\
   ∀w,Calls Tryz.prog 70 #[.float .f64 (W s a),.float .f64 (W t b),.bool up] w fun e w'=>e = .returned (.float .f64 (W (decide (val s a+val t b<0)) r))/\w'=w:=by
 obtain⟨r,c,h1,h2,h3,h4⟩:=add_faithful s t a b ha hb
 rw[if_neg hT] at h4
 have hfa:finB (W s a)=true:=by rw[finB_W s a (by omega)];exact decide_eq_true ha
 have hfb:finB (W t b)=true:=by rw[finB_W t b (by omega)];exact decide_eq_true hb
 have hnear:Near (val s a+val t b).natAbs 1 (min c 9218868437227405312):=near_of_faithful (r:=r) (by omega) (by rw[Nat.mul_one];exact h1) (by rw[Nat.mul_one];exact h2) (by rw[Nat.mul_one];exact h3)
 have hr:0<r:=by
  refine Nat.pos_of_ne_zero fun h0=>?_
  subst h0
  rw[show 0+1=1 from rfl,M_one] at h2
  omega
 have hz:zeroB (W (decide (val s a+val t b<0)) (min c 9218868437227405312))=false:=by
  rw[zeroB_W _ _ (Nat.min_le_right ..)]
  exact decide_eq_false (by omega)
 have habs:=B_lt false false a b (by omega) (by omega)
 rw[show W false a=absN (W s a) from (abs_W s a (by omega)).symm,show W false b=absN (W t b) from (abs_W t b (by omega)).symm] at habs
 by_cases hab:b<=a
 ·obtain⟨y,o,g1,g2,g3,g4⟩:=err_says s t a b r c ha hab hT h1 h2 h3
  have hM:=M_le hab
  rw[decide_eq_false (by unfold val;simp;omega)] at habs
  obtain⟨r',k1,k2⟩:=side_ok _ _ 1 _ o up (by omega) hnear g3 g4
  refine⟨r',k2,fun w=>?_⟩
  have:=add10 _ _ _ o _ _ up w hfa hfb h4 hz rfl (by omega) (fun w=>err21_keep _ _ _ y o w habs g1 g2)
  rw[k1] at this
  exact this
 ·have hT':val t b+val s a≠0:=by rw[Int.add_comm];exact hT
  obtain⟨y,o,g1,g2,g3,g4⟩:=err_says t s b a r c hb (by omega) hT' (by rw[Int.add_comm];exact h1) (by rw[Int.add_comm];exact h2) (by rw[Int.add_comm];exact h3)
  rw[Int.add_comm (val t b)] at g1 g3 g4
  have hM:=M_lt (show a<b by omega)
  rw[decide_eq_true (by unfold val;simp;omega)] at habs
  obtain⟨r',k1,k2⟩:=side_ok _ _ 1 _ o up (by omega) hnear g3 g4
  refine⟨r',k2,fun w=>?_⟩
  have:=add10 _ _ _ o _ _ up w hfa hfb h4 hz rfl (by omega) (fun w=>err41_swap _ _ _ y o w habs g1 g2)
  rw[k1] at this
  exact this
theorem mul_W (s t:Bool) (a b:Nat) (ha:a<9218868437227405312) (hb:b<9218868437227405312) :
  double.mul (W s a) (W t b)=some (double.nearest (s ^^ t) (mant a*mant b) (-1074+(ex a:Int)+(-1074+(ex b:Int)))):=by
 unfold Format.mul
 rw[read_fin s a ha,read_fin t b hb]
 rfl
theorem mul_mag (a b:Nat):mant a*mant b*2 ^ (-1074+(ex a:Int)+(-1074+(ex b:Int))+1074+(E74:Nat)).toNat=M a*M b:=by
 have e:(-1074+(ex a:Int)+(-1074+(ex b:Int))+1074+(E74:Nat)).toNat=ex a+ex b:=by
  have:=E74_eq
  omega
 rw[e]
 unfold M
 rw[Nat.pow_add]
 exact Nat.mul_mul_mul_comm ..
theorem mul_place (a b:Nat):(0:Int) <= -1074+(ex a:Int)+(-1074+(ex b:Int))+1074+(E74:Nat):=by
 have:=E74_eq
 omega
theorem mul_exact (s t:Bool) (a b r:Nat) (ha:a<9218868437227405312) (hb:b<9218868437227405312) (hr:r<=9218868437227405312) (h:M a*M b=M r*U) :
  double.mul (W s a) (W t b)=some (W (s ^^ t) r):=by
 rw[mul_W s t a b ha hb]
 refine congrArg some (nearest_exact _ _ _ E74 r (mul_place a b) hr ?_)
 rw[mul_mag]
 exact h
theorem mul_faithful (s t:Bool) (a b:Nat) (ha:a<9218868437227405312) (hb:b<9218868437227405312) :
  ∃r c,M r*U<=M a*M b/\M a*M b<M (r+1)*U/\(c=r\/(c=r+1/\M a*M b≠M r*U))/\double.mul (W s a) (W t b)=some (W (s ^^ t) (min c 9218868437227405312)):=by
 obtain⟨r,c,h1,h2,h3,h4⟩:=nearest_faithful (s ^^ t) (mant a*mant b) (-1074+(ex a:Int)+(-1074+(ex b:Int))) E74 (mul_place a b)
 rw[mul_mag] at h1 h2 h4
 exact⟨r,c,h1,h2,h4,by rw[mul_W s t a b ha hb,h3]⟩
theorem mul_run (w:World) (x y r:Nat) (h:double.mul x y=some r):(binOp .mul 25 (.float .f64 x) (.float .f64 y)).run Tryz.prog w = .ok (.float .f64 r) w:=
 run_float_arith (P:=Tryz.prog) w .mul 25 .f64 x y r h
theorem W_eq (s:Bool) (r:Nat):W s r=s.toNat*2 ^ 63+r:=by
 cases s
 ·show r=_;simp
 ·show 9223372036854775808+r=_;simp
theorem bit_exp (s:Bool) (n:Nat) (h:n<9223372036854775808):bits BinOp.and IntKind.u64 ((W s n:Nat) / 4503599627370496:Int) 2047=((n / 4503599627370496:Nat):Int):=by
 have e:((W s n:Nat) / 4503599627370496:Int)=((W s n / 4503599627370496:Nat):Int):=by simp
 have hl:=W_lt s n h
 rw[e,show(2047:Int)=((2047:Nat):Int) from rfl,u64_and_nat _ _ (by omega) (by omega)]
 have h2:=Nat.and_two_pow_sub_one_eq_mod (W s n / 4503599627370496) 11
 rw[show(2047:Nat)=2 ^ 11-1 from rfl,h2,W_eq]
 congr 1
 cases s <;> simp <;> omega
theorem bit_cut (s:Bool) (n:Nat) (h:n<9223372036854775808):bits BinOp.andNot IntKind.u64 (W s n:Nat) 9218868437227405312=((W s (n % 4503599627370496):Nat):Int):=by
 have hl:=W_lt s n h
 rw[show(9218868437227405312:Int)=((9218868437227405312:Nat):Int) from rfl,u64_andNot_nat _ _ hl (by omega)]
 congr 1
 have e1:(18446744073709551615-9218868437227405312:Nat)=2 ^ 63 ||| (2 ^ 52-1):=by decide
 rw[e1,Nat.and_or_distrib_left,Nat.and_two_pow_sub_one_eq_mod]
 have e2:W s n &&& 2 ^ 63=s.toNat*2 ^ 63:=by
  apply Nat.eq_of_testBit_eq
  intro i
  rw[Nat.testBit_and,Nat.testBit_two_pow,W_eq]
  by_cases hi:63=i
  ·subst hi
   rw[decide_eq_true rfl,Bool.and_true]
   cases s
   ·simp only[Bool.toNat_false,Nat.zero_mul,Nat.zero_add,Nat.zero_testBit]
    exact Nat.testBit_lt_two_pow h
   ·simp only[Bool.toNat_true,Nat.one_mul]
    rw[Nat.testBit_two_pow_add_eq,Nat.testBit_lt_two_pow h,Nat.testBit_two_pow_self]
    rfl
  ·rw[decide_eq_false hi,Bool.and_false]
   cases s
   ·simp
   ·simp only[Bool.toNat_true,Nat.one_mul]
    rw[Nat.testBit_two_pow,decide_eq_false hi]
 have e3:W s n % 2 ^ 52=n % 4503599627370496:=by
  rw[W_eq];cases s <;> simp <;> omega
 rw[e2,e3]
 cases s
 ·simp[W]
 ·simp only[Bool.toNat_true,Nat.one_mul]
  have h6:=Nat.two_pow_add_eq_or_of_lt (i:=63) (b:=n % 4503599627370496) (by omega) 1
  rw[Nat.mul_one] at h6
  rw[<-h6]
  rfl
theorem bit_put (s:Bool) (y E:Nat) (hy:y<4503599627370496) (hE:E<2048):bits BinOp.or IntKind.u64 (W s y:Nat) ((E*4503599627370496:Nat):Int)=((W s (E*4503599627370496+y):Nat):Int):=by
 have hl:=W_lt s y (by omega)
 rw[u64_or_nat _ _ hl (by omega)]
 congr 1
 have e1:E*4503599627370496=E <<< 52:=by rw[Nat.shiftLeft_eq]
 have e2:W s y=(s.toNat*2048) <<< 52 ||| y:=by
  rw[<-Nat.shiftLeft_add_eq_or_of_lt (i:=52) (by omega),Nat.shiftLeft_eq,W_eq]
  cases s <;> simp
 have e3:s.toNat*2048 ||| E=s.toNat*2048+E:=by
  cases s
  ·simp
  ·simp only[Bool.toNat_true,Nat.one_mul]
   exact(Nat.two_pow_add_eq_or_of_lt (i:=11) (by omega) 1).symm ▸ rfl
 rw[e1,e2,Nat.or_assoc,Nat.or_comm y,<-Nat.or_assoc,<-Nat.shiftLeft_or_distrib,e3,<-Nat.shiftLeft_add_eq_or_of_lt (i:=52) (by omega),Nat.shiftLeft_eq,W_eq,Nat.shiftLeft_eq,Nat.add_mul,Nat.mul_assoc,Nat.add_assoc]
end Go.Proofs.YtanpdbadfddlcaaGreatDoor.Fl
namespace Go.Proofs.YtanpdbadfddlcaaGreatDoor
open Go.RowKit
open Ieee
set_option linter.unusedVariables false
def abW (x:Nat):Nat:=(bits BinOp.xor IntKind.u64 (x:Int) 9223372036854775808).toNat
theorem aboutE (x:Nat) (w:World):Calls Tryz.prog 112 #[.float .f64 x] w fun r w'=>r = .returned (.float .f64 (abW x))/\w'=w:=by
 have h1:=Fl.bits14
 have h2:=Fl.from13
 go_enter Tryz.func112,Tryz.ntmps112
 go_wp2
 go_ret
 exact⟨rfl,rfl⟩
def tW (q:Nat) (p:Nat × Nat):Nat × Nat:=if q=0 then p else if q=1 then (abW p.2,p.1) else if q=2 then (abW p.1,abW p.2) else (p.2,abW p.1)
theorem pturn (q x y:Nat) (w:World) (hq:q<=3):Calls Tryz.prog 137 #[.complex .f64 x y,.int .i64 (q:Int)] w fun r w'=>r = .returned (.complex .f64 (tW q (x,y)).1 (tW q (x,y)).2)/\w'=w:=by
 rcases (show q=0\/q=1\/q=2\/q=3 by omega) with rfl|rfl|rfl|rfl
 all_goals
  go_enter Tryz.func137,Tryz.ntmps137
  go_wp2_with (go_at_call 112;(with_reducible refine(aboutE _ _).mono ?_);rintro r w1 ⟨rfl,rfl⟩)
  go_ret
  exact⟨rfl,rfl⟩
theorem padd (x y x' y':Nat) (w:World) (h1:double.add x 0=some x') (h2:double.add y 0=some y'):Calls Tryz.prog 136 #[.complex .f64 x y,.complex .f64 0 0] w fun r w'=>r = .returned (.complex .f64 x' y')/\w'=w:=by
 have a1:∀w,(binOp .add 25 (.float .f64 x) (.float .f64 0)).run Tryz.prog w = .ok (.float .f64 x') w:=fun w=>run_float_arith (P:=Tryz.prog) w .add 25 .f64 x 0 x' h1
 have a2:∀w,(binOp .add 25 (.float .f64 y) (.float .f64 0)).run Tryz.prog w = .ok (.float .f64 y') w:=fun w=>run_float_arith (P:=Tryz.prog) w .add 25 .f64 y 0 y' h2
 clear h1 h2
 go_enter Tryz.func136,Tryz.ntmps136
 go_wp2
 go_ret
 exact⟨rfl,rfl⟩
theorem turnedE (q x y x' y':Nat) (w:World) (hq:q<=3) (h1:double.add (tW q (x,y)).1 0=some x') (h2:double.add (tW q (x,y)).2 0=some y'):Calls Tryz.prog 132 #[.complex .f64 x y,.int .i64 (q:Int)] w fun r w'=>r = .returned (.complex .f64 x' y')/\w'=w:=by
 have PT:=hide (fun w=>pturn q x y w hq)
 have PA:=hide (fun w=>padd _ _ x' y' w h1 h2)
 generalize (tW q (x,y)).1=u at *
 generalize (tW q (x,y)).2=v at *
 clear h1 h2
 go_enter Tryz.func132,Tryz.ntmps132
 go_wp2_with (first|(go_at_call 137;(with_reducible refine(PT.out _).mono ?_);rintro r w1 ⟨rfl,rfl⟩)|(go_at_call 136;(with_reducible refine(PA.out _).mono ?_);rintro r w1 ⟨rfl,rfl⟩))
 go_ret
 exact⟨rfl,rfl⟩
theorem acrossE (x y:Nat) (w:World):Calls Tryz.prog 135 #[.complex .f64 x y] w fun r w'=>r = .returned (.complex .f64 y x)/\w'=w:=by
 go_enter Tryz.func135,Tryz.ntmps135
 go_wp2
 go_ret
 exact⟨rfl,rfl⟩
@[go_sem] theorem run_store_cpx (P:Program) (w:World) (a:Addr) (m:Mode) (x y:Nat):(store a (.complex .f64 x y) m).run P w=stored P w a (.complex .f64 x y) m:=run_store P w a _ m rfl
def cz (zs:List (Nat × Nat)):List Value:=zs.map fun p=>Value.complex .f64 p.1 p.2
theorem cz_length (zs:List (Nat × Nat)):(cz zs).length=zs.length:=by simp[cz]
theorem cz_get {zs:List (Nat × Nat)} {j:Nat} (h:j<zs.length):(cz zs)[j]? = some (.complex .f64 (zs.getD j (0,0)).1 (zs.getD j (0,0)).2):=by
 unfold cz
 rw[List.getElem?_map,List.getElem?_eq_getElem h,List.getD_eq_getElem?_getD,List.getElem?_eq_getElem h]
 rfl
theorem infoC:(Tryz.prog.info? 76).map (fun i=>(i.zero,i.size,i.bytes))=some (some (.complex .f64 0 0),1,16):=by kernel_rfl
theorem made_c (n:Nat):(madeCells (Value.complex .f64 0 0).cells (n*1)).toList=cz (List.replicate n (0,0)):=by
 rw[Nat.mul_one]
 refine List.ext_getElem (by rw[Array.length_toList,size_madeCells,cz_length,List.length_replicate]) fun i h1 h2=>?_
 simp[madeCells,cz,Value.cells,Nat.mod_one]
theorem wpList_madeC {w:World} {ops:Array Oper} {rest:List Oper} {o:Oper} {a:Act} {Q:Exit->Act->World->Prop} (hgd:o.guard=none) (l c:Operand)
  (hop:o.op=Op.makeSlice 45 l c) (n:Nat) (L:Int) (hl:a.eval l = .int .i64 L) (hc:a.eval c = .int .i64 L) (hL:L=(n:Int)) (hn:n<=4398046511104)
  (hK:∀w',w'.ownsRow w.heap.size 76 1 (.slice (some ⟨w.heap.size,0,none⟩) n n) n (cz (List.replicate n (0,0)))->Gr w w'->wpList Tryz.prog ops Q rest (a.put o.dst (.slice (some ⟨w.heap.size,0,none⟩) n n)) w') :
  wpList Tryz.prog ops Q (o :: rest) a w:=by
 obtain⟨i0,hi,hz0,hz1,hz2⟩:=info_parts infoC
 refine wpList_make_full w hgd l c 45 hop w.heap.size 76 i0 (.complex .f64 0 0) 1 Tryz.underlying45 hi hz0 hz1 .i64 .i64 L L n hl hc hL hL (by rw[hz2];omega) (by unfold maxLen;omega) (Nat.le_refl _) ?_
 intro w' hown hgr
 rw[made_c] at hown
 exact hK w' hown ((Gr.refl w).grown hgr (fun k h=>by cases h))
theorem ownsC_cell {w:World} {base:Nat} {g N:Nat} {zs:List (Nat × Nat)} (h:w.ownsRow base 76 1 (.slice (some ⟨g,0,none⟩) N N) N (cz zs)) (j:Nat) (hj:j<N):w.cell? ⟨g,j,none⟩=some (.complex .f64 (zs.getD j (0,0)).1 (zs.getD j (0,0)).2):=by
 have hl:zs.length=N:=by have:=h.1;rw[cz_length] at this;omega
 rw[h.cellAt j (by omega),cz_get (by omega)]
theorem ownsC_set {w:World} {base:Nat} {g N:Nat} {zs:List (Nat × Nat)} (h:w.ownsRow base 76 1 (.slice (some ⟨g,0,none⟩) N N) N (cz zs)) (j x y:Nat):(w.setCell ⟨g,j,none⟩ (.complex .f64 x y)).ownsRow base 76 1 (.slice (some ⟨g,0,none⟩) N N) N (cz (zs.set j (x,y))):=by
 have:=(h.stored j (.complex .f64 x y)).1
 rw[show cz (zs.set j (x,y))=(cz zs).set j (.complex .f64 x y) by simp[cz]]
 exact this
end Go.Proofs.YtanpdbadfddlcaaGreatDoor
namespace Go.Proofs.YtanpdbadfddlcaaGreatDoor.Fl
open Go.RowKit
open Ieee
set_option linter.unusedVariables false
def nOf (x y:Nat) (w:World):Nat:=Question.cut (.nanBits .f64 x y) (w.tape w.drawn (.nanBits .f64 x y))
theorem nOf_form (x y:Nat) (w:World):∃s k,nOf x y w=s*2 ^ 63+0x7ff0000000000000+1+k/\k<4503599627370495/\s<2:=⟨_,_,rfl,by omega,by omega⟩
theorem nOf_nan (x y:Nat) (w:World):nanB (nOf x y w)=true/\nOf x y w<18446744073709551616:=by
 obtain⟨s,k,h,hk,hs⟩:=nOf_form x y w
 rw[h]
 have e:s*2 ^ 63+0x7ff0000000000000+1+k=W (s==1) (0x7ff0000000000000+1+k):=by
  have:s=0\/s=1:=by omega
  rcases this with rfl|rfl
  ·show 0*2 ^ 63+0x7ff0000000000000+1+k=0x7ff0000000000000+1+k
   omega
  ·show 1*2 ^ 63+0x7ff0000000000000+1+k=9223372036854775808+(0x7ff0000000000000+1+k)
   omega
 rw[e]
 exact⟨by rw[nanB_W _ _ (by omega)];exact decide_eq_true (by omega),W_lt _ _ (by omega)⟩
def frr (op:BinOp) (x y:Nat) (w:World):Nat:=(floatBits op .f64 x y).getD (nOf x y w)
def fnn (op:BinOp) (x y:Nat):Nat:=if (floatBits op .f64 x y).isSome then 0 else 1
theorem flt_run (op:BinOp) (hop:op = .add\/op = .sub\/op = .mul\/op = .quo) (t:TypeId) (x y:Nat) (w:World) :
  (binOp op t (.float .f64 x) (.float .f64 y)).run Tryz.prog w = .ok (.float .f64 (frr op x y w)) (w.drewN (fnn op x y)):=by
 unfold frr fnn
 cases h:floatBits op .f64 x y with
 | some r=>exact run_float_arith (P:=Tryz.prog) w op t .f64 x y r h
 | none =>
  show _=Result.ok (Value.float .f64 (nOf x y w)) (w.drewN 1)
  unfold nOf
  rcases hop with rfl|rfl|rfl|rfl <;> (unfold floatBits at h;simp only at h;simp[binOp,Op.floatArith,h])
  all_goals first|exact fun hf=>Bool.noConfusion (show false=true from hf)|(refine⟨?_,?_⟩ <;> first|rfl|exact fun hf=>Bool.noConfusion (show false=true from hf))|rfl
theorem frr_add (x y:Nat) (w:World):cn (frr .add x y w)=fA x y/\frr .add x y w<18446744073709551616:=by
 have k:=nOf_nan x y w
 unfold frr
 cases h:floatBits .add .f64 x y with
 | some r =>
  have h':double.add x y=some r:=h
  have e:fA x y=r:=by unfold fA;rw[h'];rfl
  exact⟨by show cn r=_;rw[<-e];exact cn_fA x y,by show r<_;rw[<-e];exact fA_lt x y⟩
 | none =>
  have h':double.add x y=none:=h
  exact⟨by show cn (nOf x y w)=_;rw[cn_nan k.1];unfold fA;rw[h'];rfl,k.2⟩
theorem frr_sub (x y:Nat) (w:World):cn (frr .sub x y w)=fS x y/\frr .sub x y w<18446744073709551616:=by
 have k:=nOf_nan x y w
 unfold frr
 cases h:floatBits .sub .f64 x y with
 | some r =>
  have h':double.sub x y=some r:=h
  have e:fS x y=r:=by unfold fS;rw[h'];rfl
  exact⟨by show cn r=_;rw[<-e];exact cn_fS x y,by show r<_;rw[<-e];exact fS_lt x y⟩
 | none =>
  have h':double.sub x y=none:=h
  exact⟨by show cn (nOf x y w)=_;rw[cn_nan k.1];unfold fS;rw[h'];rfl,k.2⟩
theorem frr_mul (x y:Nat) (w:World):cn (frr .mul x y w)=fP x y/\frr .mul x y w<18446744073709551616:=by
 have k:=nOf_nan x y w
 unfold frr
 cases h:floatBits .mul .f64 x y with
 | some r =>
  have h':double.mul x y=some r:=h
  have e:fP x y=r:=by unfold fP;rw[h'];rfl
  exact⟨by show cn r=_;rw[<-e];exact cn_fP x y,by show r<_;rw[<-e];exact fP_lt x y⟩
 | none =>
  have h':double.mul x y=none:=h
  exact⟨by show cn (nOf x y w)=_;rw[cn_nan k.1];unfold fP;rw[h'];rfl,k.2⟩
theorem frr_subs (X Y:Nat) (w:World) (hX:X<18446744073709551616) (hY:Y<18446744073709551616):cn (frr .sub X Y w)=fS (cn X) (cn Y):=by rw[fS_cn _ _ hX,fS_cn2 _ _ hY];exact(frr_sub X Y w).1
theorem frr_adds (X Y:Nat) (w:World) (hX:X<18446744073709551616) (hY:Y<18446744073709551616):cn (frr .add X Y w)=fA (cn X) (cn Y):=by rw[fA_cn _ _ hX,fA_cn2 _ _ hY];exact(frr_add X Y w).1
theorem frr_muls (X Y:Nat) (w:World) (hX:X<18446744073709551616) (hY:Y<18446744073709551616):cn (frr .mul X Y w)=fP (cn X) (cn Y):=by rw[fP_cn _ _ hX,fP_cn2 _ _ hY];exact(frr_mul X Y w).1
def IsZ (z:Nat × Nat) (p q:Nat):Prop:=cn p=z.1/\cn q=z.2/\p<18446744073709551616/\q<18446744073709551616
theorem mulP (x y u v:Nat) (a b:Nat × Nat) (w:World) (ha:IsZ a x y) (hb:IsZ b u v) :
  Calls Tryz.prog 77 #[.complex .f64 x y,.complex .f64 u v] w fun r w'=>∃p q n,r = .returned (.complex .f64 p q)/\Hid (IsZ (mulZ a b) p q)/\w'=w.drewN n:=by
 have r1:∀x y w,(binOp .mul 25 (.float .f64 x) (.float .f64 y)).run Tryz.prog w = .ok (.float .f64 (frr .mul x y w)) (w.drewN (fnn .mul x y)):=fun x y w=>flt_run .mul (by simp) _ x y w
 have r2:∀x y w,(binOp .sub 25 (.float .f64 x) (.float .f64 y)).run Tryz.prog w = .ok (.float .f64 (frr .sub x y w)) (w.drewN (fnn .sub x y)):=fun x y w=>flt_run .sub (by simp) _ x y w
 have r3:∀x y w,(binOp .add 25 (.float .f64 x) (.float .f64 y)).run Tryz.prog w = .ok (.float .f64 (frr .add x y w)) (w.drewN (fnn .add x y)):=fun x y w=>flt_run .add (by simp) _ x y w
 have HA:=hide ha
 have HB:=hide hb
 clear ha hb
 go_enter Tryz.func77,Tryz.ntmps77
 go_wp2
 go_ret
 refine⟨_,_,_,rfl,?_,rfl⟩
 obtain⟨a1,a2,a3,a4⟩:=HA.out
 obtain⟨b1,b2,b3,b4⟩:=HB.out
 refine⟨?_,?_,(frr_sub _ _ _).2,(frr_add _ _ _).2⟩
 ·rw[frr_subs _ _ _ (frr_mul _ _ _).2 (frr_mul _ _ _).2,frr_muls _ _ _ a3 b3,frr_muls _ _ _ a4 b4,a1,a2,b1,b2];rfl
 ·rw[frr_adds _ _ _ (frr_mul _ _ _).2 (frr_mul _ _ _).2,frr_muls _ _ _ a3 b4,frr_muls _ _ _ a4 b3,a1,a2,b1,b2];rfl
theorem abW_ng {x:Nat} (h:x<18446744073709551616):abW x=ng x:=by
 unfold abW
 have h1:=u64_xor_nat x 9223372036854775808 h (by omega)
 rw[show((9223372036854775808:Int))=((9223372036854775808:Nat):Int) from rfl,h1,Int.toNat_natCast]
 obtain⟨s,r,rfl,hr⟩:=W_split x h
 rw[ng_W s r hr]
 have h2:=xor_top r hr
 cases s
 ·show r ^^^ 2 ^ 63=_
  rw[h2];rfl
 ·show(2 ^ 63+r) ^^^ 2 ^ 63=_
  rw[<-h2,Nat.xor_assoc,Nat.xor_self,Nat.xor_zero];rfl
def conjZ (z:Nat × Nat):Nat × Nat:=(z.1,cn (ng z.2))
theorem conjP (x y:Nat) (a:Nat × Nat) (w:World) (ha:IsZ a x y) :
  Calls Tryz.prog 79 #[.complex .f64 x y] w fun r w'=>r = .returned (.complex .f64 x (ng y))/\Hid (IsZ (conjZ a) x (ng y))/\w'=w:=by
 have HA:Hid (IsZ (conjZ a) x (ng y)):=by
  obtain⟨a1,a2,a3,a4⟩:=ha
  exact⟨a1,by show cn (ng y)=cn (ng a.2);rw[<-a2,cn_ng a4],a3,ng_lt a4⟩
 have e:=abW_ng ha.2.2.2
 have AB:Hid (∀w,Calls Tryz.prog 112 #[.float .f64 y] w fun r w'=>r = .returned (.float .f64 (ng y))/\w'=w):=fun w=>by rw[<-e];exact aboutE y w
 clear ha e
 go_enter Tryz.func79,Tryz.ntmps79
 go_wp2_with (go_at_call 112;(with_reducible refine(AB.out _).mono ?_);rintro r w1 ⟨rfl,rfl⟩)
 go_ret
 exact⟨rfl,HA,rfl⟩
end Go.Proofs.YtanpdbadfddlcaaGreatDoor.Fl
