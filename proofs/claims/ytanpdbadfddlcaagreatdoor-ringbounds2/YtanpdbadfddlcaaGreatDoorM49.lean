import Derived.Test.YtanpdbadfddlcaaGreatDoorM48
import Derived.Test.YtanpdbadfddlcaaGreatDoorM46
namespace Go.Proofs.YtanpdbadfddlcaaGreatDoor.Fl
open Go.RowKit
open Ieee
set_option linter.unusedVariables false
theorem rtimesW (x y:Nat) (s t u:Bool) (E F G:Int) (X Y Z:Nat) (P:Nat->Prop) (w:World)
  (hsa:∀ w,(binOp .sub 25 (.float .f64 x) (.float .f64 x)).run Tryz.prog w = .ok (.float .f64 0) w) (hsb:∀ w,(binOp .sub 25 (.float .f64 y) (.float .f64 y)).run Tryz.prog w = .ok (.float .f64 0) w)
  (FA:Hid (∀ w,Calls Tryz.prog 74 #[.float .f64 x] w fun res w'=>∃ ad n cap,res = .returned (.agg #[.bool s,.slice ad n cap,.int .i64 E])/\Lim w' ad n cap 18446744073709551616 X/\Gr w w'))
  (FB:Hid (∀ w,Calls Tryz.prog 74 #[.float .f64 y] w fun res w'=>∃ ad n cap,res = .returned (.agg #[.bool t,.slice ad n cap,.int .i64 F])/\Lim w' ad n cap 18446744073709551616 Y/\Gr w w'))
  (TM:Hid (∀ (w:World) ad n cap ad' n' cap',Lim w ad n cap 18446744073709551616 X->Lim w ad' n' cap' 18446744073709551616 Y->Calls Tryz.prog 59 #[.agg #[.bool s,.slice ad n cap,.int .i64 E],.agg #[.bool t,.slice ad' n' cap',.int .i64 F]] w fun r w'=>∃ ad n cap,r = .returned (.agg #[.bool u,.slice ad n cap,.int .i64 G])/\Lim w' ad n cap 18446744073709551616 Z/\Gr w w'))
  (UPC:Hid (∀ (w:World) ad n cap,Lim w ad n cap 18446744073709551616 Z->Calls Tryz.prog 73 #[.agg #[.bool u,.slice ad n cap,.int .i64 G]] w fun e w'=>(∃ r,P r/\e = .returned (.float .f64 r))/\Gr w w')) :
  Calls Tryz.prog 44 #[.float .f64 x,.float .f64 y] w fun e w'=>(∃ r,P r/\e = .returned (.float .f64 r))/\Gr w w':=by
 have hz:(FloatKind.f64.format.order 0 0 != some .eq)=false:=by decide +kernel
 have tok:True:=trivial
 go_enter Tryz.func44,Tryz.ntmps44
 go_wp2_with (first | (go_at_call 74;have _t:=tok;(with_reducible refine (FA.out _).mono ?_);rintro r w1 ⟨a1,n1,c1,rfl,l1,g1⟩;clear tok) | (go_at_call 74;(with_reducible refine (FB.out _).mono ?_);rintro r w2 ⟨a2,n2,c2,rfl,l2,g2⟩;have l1':=l1.gr g2;have G2:=g1.trans g2) | (go_at_call 59;(with_reducible refine (TM.out _ _ _ _ _ _ _ l1' l2).mono ?_);rintro r w3 ⟨a3,n3,c3,rfl,l3,g3⟩;have G3:=G2.trans g3) | (go_at_call 73;(with_reducible refine (UPC.out _ _ _ _ l3).mono ?_);rintro r w4 ⟨⟨r4,h4,rfl⟩,g4⟩))
 go_ret
 exact ⟨⟨r4,h4,rfl⟩,G3.trans g4⟩
theorem bl_mant (a:Nat):bl (mant a)<=53:=bl_le_of_lt (Nat.lt_of_lt_of_le (mant_lt a) (by decide))
theorem rtimes (s t:Bool) (a b:Nat) (w:World) (ha:a<9218868437227405312) (hb:b<9218868437227405312) (hs:s=true->a=0) (ht:t=true->b=0) :
  Calls Tryz.prog 44 #[.float .f64 (W s a),.float .f64 (W t b)] w fun e w'=>(∃ r,DirUp (M a*M b) U r/\e = .returned (.float .f64 r))/\Gr w w':=by
 have hea:ex a<=2046:=by unfold ex;omega
 have heb:ex b<=2046:=by unfold ex;omega
 have hma:=bl_mant a
 have hmb:=bl_mant b
 have hbl:bl (mant a*mant b)<=106:=bl_le_of_lt (by
  have:=Nat.mul_lt_mul'' (mant_lt a) (mant_lt b)
  exact Nat.lt_of_lt_of_le this (by decide))
 have e1:mant a*mant b*2 ^ (ex a+ex b)=M a*M b:=by
  unfold M
  rw [Nat.pow_add]
  simp only [Nat.mul_assoc,Nat.mul_left_comm]
 refine rtimesW (W s a) (W t b) s t (s != t) ((ex a:Int)-1074) ((ex b:Int)-1074) ((ex a:Int)-1074+((ex b:Int)-1074)) (mant a) (mant b) (mant a*mant b) (fun r=>DirUp (M a*M b) U r) w (fun w=>sub_run w _ _ _ (sub_self s a ha)) (fun w=>sub_run w _ _ _ (sub_self t b hb)) (fun w=>float41 s a w ha) (fun w=>float41 t b w hb)
  (fun w ad n cap ad' n' cap' h1 h2=>times43 s t ad ad' n n' cap cap' (mant a) (mant b) _ _ w h1 h2 (by omega) (by omega) (by omega) (by omega) (by omega) (by omega)) (fun w ad n cap h=>?_)
 obtain ⟨r,h1,h2⟩:=upR (s != t) ad n cap (mant a*mant b) (ex a+ex b) ((ex a:Int)-1074+((ex b:Int)-1074)) w h (fun hst=>by
  cases s
  ·cases t
   ·cases hst
   ·rw [ht rfl];rfl
  ·rw [hs rfl]
   show 0*_=0
   rw [Nat.zero_mul]) (by omega) (by omega) (by omega) (by omega)
 refine (h2 w (Gr.refl _)).mono ?_
 rintro e w' ⟨rfl,g⟩
 exact ⟨⟨r,e1 ▸ h1,rfl⟩,g⟩
theorem dirUp_scale {N D c r:Nat} (hc:0<c) (h:DirUp (N*c) (D*c) r):DirUp N D r:=by
 obtain ⟨h1,h2,h3⟩:=h
 refine ⟨h1,fun hr=>?_,fun hr=>?_⟩
 ·have:=h2 hr
  rw [<-Nat.mul_assoc] at this
  exact Nat.le_of_mul_le_mul_right this hc
 ·have:=h3 hr
  rw [<-Nat.mul_assoc] at this
  exact Nat.lt_of_mul_lt_mul_right this
theorem rplusI (b:Nat) (w:World) :
  Calls Tryz.prog 47 #[.float .f64 9218868437227405312,.float .f64 b] w fun e w'=>e = .returned (.float .f64 9218868437227405312)/\Gr w w':=by
 obtain ⟨y,h1,h2⟩:=run_float_nan .sub (by simp) 25 (W false 9218868437227405312) (W false 9218868437227405312) w (sub_inf false)
 have h1':(binOp .sub 25 (.float .f64 9218868437227405312) (.float .f64 9218868437227405312)).run Tryz.prog w = .ok (.float .f64 y) w.drew:=h1
 have h3:(FloatKind.f64.format.order y 0 != some .eq)=true:=by rw [bne,nan_order y 0 h2];rfl
 clear h1 h2
 go_enter Tryz.func47,Tryz.ntmps47
 go_wp2
 go_ret
 exact ⟨rfl,(Gr.refl w).drew⟩
theorem rplusW (x y:Nat) (E F:Int) (X Y:Nat) (P:Nat->Prop) (w:World)
  (hsa:∀ w,(binOp .sub 25 (.float .f64 x) (.float .f64 x)).run Tryz.prog w = .ok (.float .f64 0) w)
  (FA:Hid (∀ w,Calls Tryz.prog 74 #[.float .f64 x] w fun res w'=>∃ ad n cap,res = .returned (.agg #[.bool false,.slice ad n cap,.int .i64 E])/\Lim w' ad n cap 18446744073709551616 X/\Gr w w'))
  (FB:Hid (∀ w,Calls Tryz.prog 74 #[.float .f64 y] w fun res w'=>∃ ad n cap,res = .returned (.agg #[.bool false,.slice ad n cap,.int .i64 F])/\Lim w' ad n cap 18446744073709551616 Y/\Gr w w'))
  (PU:Hid (∀ (w:World) ad n cap ad' n' cap',Lim w ad n cap 18446744073709551616 X->Lim w ad' n' cap' 18446744073709551616 Y->Calls Tryz.prog 58 #[.agg #[.bool false,.slice ad n cap,.int .i64 E],.agg #[.bool false,.slice ad' n' cap',.int .i64 F]] w fun r w'=>∃ neg ad n cap g,r = .returned (.agg #[.bool neg,.slice ad n cap,.int .i64 g])/\Gr w w'/\Hid (∀ w1,Gr w' w1->Calls Tryz.prog 73 #[.agg #[.bool neg,.slice ad n cap,.int .i64 g]] w1 fun e w'=>(∃ r,P r/\e = .returned (.float .f64 r))/\Gr w1 w'))) :
  Calls Tryz.prog 47 #[.float .f64 x,.float .f64 y] w fun e w'=>(∃ r,P r/\e = .returned (.float .f64 r))/\Gr w w':=by
 have hz:(FloatKind.f64.format.order 0 0 != some .eq)=false:=by decide +kernel
 have tok:True:=trivial
 go_enter Tryz.func47,Tryz.ntmps47
 go_wp2_with (first | (go_at_call 74;have _t:=tok;(with_reducible refine (FA.out _).mono ?_);rintro r w1 ⟨a1,n1,c1,rfl,l1,g1⟩;clear tok) | (go_at_call 74;(with_reducible refine (FB.out _).mono ?_);rintro r w2 ⟨a2,n2,c2,rfl,l2,g2⟩;have l1':=l1.gr g2;have G2:=g1.trans g2) | (go_at_call 58;(with_reducible refine (PU.out _ _ _ _ _ _ _ l1' l2).mono ?_);rintro r w3 ⟨neg,a3,n3,c3,gg,rfl,gA,HUP⟩;have G3:=G2.trans gA) | (go_at_call 73;(with_reducible refine (HUP.out _ (Gr.refl _)).mono ?_);rintro r w4 ⟨⟨r4,h4,rfl⟩,g4⟩))
 go_ret
 exact ⟨⟨r4,h4,rfl⟩,G3.trans g4⟩
theorem rplus (a b:Nat) (w:World) (ha:a<9218868437227405312) (hb:b<9218868437227405312) :
  Calls Tryz.prog 47 #[.float .f64 a,.float .f64 b] w fun e w'=>(∃ r,DirUp (M a+M b) 1 r/\e = .returned (.float .f64 r))/\Gr w w':=by
 have hea:ex a<=2046:=by unfold ex;omega
 have heb:ex b<=2046:=by unfold ex;omega
 have hma:=bl_mant a
 have hmb:=bl_mant b
 refine rplusW a b ((ex a:Int)-1074) ((ex b:Int)-1074) (mant a) (mant b) (fun r=>DirUp (M a+M b) 1 r) w (fun w=>sub_run w _ _ _ (sub_self false a ha)) (fun w=>float41 false a w ha) (fun w=>float41 false b w hb) (fun w ad n cap ad' n' cap' h1 h2=>?_)
 obtain ⟨neg,m,g,q1,q2,q3,q4⟩:=plus40 false false ad ad' n n' cap cap' (mant a) (mant b) ((ex a:Int)-1074) ((ex b:Int)-1074) w h1 h2 (by omega) (by omega) (by omega) (by omega) (by omega) (by omega)
 obtain ⟨k1,k2⟩:=q1 2148 (by omega) (by omega)
 refine (q4 w (Gr.refl _)).mono ?_
 rintro r w' ⟨ad3,n3,cap3,rfl,l3,g3⟩
 obtain ⟨A,hA,hU⟩:=U_form
 have hva:∀ c,sv 2148 false (mant c) ((ex c:Int)-1074)=((M c*U:Nat):Int):=fun c=>by
  unfold sv M
  rw [if_neg (by decide),hU,Nat.mul_assoc,<-Nat.pow_add,show ((ex c:Int)-1074+2148).toNat=ex c+A by omega]
 rw [hva,hva] at k2
 have hneg:neg=true->m=0:=fun hn=>by
  refine Nat.eq_zero_of_not_pos fun hp=>?_
  have:=(sv_sign 2148 neg m g hp).1 hn
  omega
 obtain ⟨P,hP⟩:∃ P:Nat,(P:Int)=g+2148:=⟨(g+2148).toNat,by omega⟩
 have hval:m*2 ^ P=(M a+M b)*U:=by
  have h5:sv 2148 neg m g=((m*2 ^ P:Nat):Int):=by
   cases neg
   ·unfold sv
    rw [if_neg (by decide),show (g+2148).toNat=P by omega]
   ·rw [hneg rfl,sv_zero,Nat.zero_mul];rfl
  rw [h5] at k2
  rw [Nat.add_mul]
  omega
 refine ⟨neg,ad3,n3,cap3,g,rfl,g3,fun w1 g1=>?_⟩
 obtain ⟨r,u1,u2⟩:=upR neg ad3 n3 cap3 m P g w' l3 hneg (by omega) (by omega) (by omega) hP
 refine (u2 w1 g1).mono ?_
 rintro e w2 ⟨rfl,g4⟩
 rw [hval] at u1
 exact ⟨⟨r,dirUp_scale U_pos (by rw [Nat.one_mul];exact u1),rfl⟩,g4⟩
theorem rorder (o:Int) (w:World):Calls Tryz.prog 42 #[.int .i64 o] w fun e w'=>e = .returned (.bool (decide (0<=o) && decide (o<=14)))/\w'=w:=by
 by_cases h1:0<=o
 ·have h2:o>=0:=h1
  by_cases h3:o<=14
  all_goals
   go_enter Tryz.func42,Tryz.ntmps42
   go_wp2
   go_ret
   exact ⟨by simp [h1,h3],rfl⟩
 ·have h2:¬ o>=0:=h1
  go_enter Tryz.func42,Tryz.ntmps42
  go_wp2
  go_ret
  exact ⟨by rw [decide_eq_false (by omega)];rfl,rfl⟩
theorem rsize (s:Bool) (r:Nat) (w:World) (hr:r<9223372036854775808):Calls Tryz.prog 43 #[.float .f64 (W s r)] w fun e w'=>e = .returned (.bool (sizeB (W s r)))/\Gr w w':=by
 by_cases hf:r<9218868437227405312
 ·have hsa:∀ w,(binOp .sub 25 (.float .f64 (W s r)) (.float .f64 (W s r))).run Tryz.prog w = .ok (.float .f64 0) w:=fun w=>sub_run w _ _ _ (sub_self s r hf)
  have hz:=z0e
  have hp:pinfB (W s r)=false:=by rw [pinfB_W s r (by omega),decide_eq_false (by omega),Bool.and_false]
  have hq:sizeB (W s r)=(FloatKind.f64.format.order (W s r) 0==some .gt || FloatKind.f64.format.order (W s r) 0==some .eq):=by
   unfold sizeB posB zeroB
   rw [hp];simp
  rw [hq]
  clear hq hp
  generalize W s r=x at *
  go_enter Tryz.func43,Tryz.ntmps43
  go_wp2
  go_ret
  exact ⟨rfl,Gr.refl w⟩
 ·have hno:double.sub (W s r) (W s r)=none:=by
   by_cases hi:r=9218868437227405312
   ·subst hi;exact sub_inf s
   ·exact sub_nan s r _ hr (by omega)
  obtain ⟨y,h1,h2⟩:=run_float_nan .sub (by simp) 25 (W s r) (W s r) w hno
  have h3:(FloatKind.f64.format.order y 0==some .eq)=false:=nan_order y 0 h2
  have hq:sizeB (W s r)=false:=by rw [sizeB_W s r hr,decide_eq_false hf];rfl
  rw [hq]
  clear hq h2 hno
  generalize W s r=x at *
  go_enter Tryz.func43,Tryz.ntmps43
  go_wp2
  go_ret
  exact ⟨rfl,(Gr.refl w).drew⟩
theorem rpart (n k R:Nat) (w:World) (hn:n<=1000) (hk:k<=14) (hR:M R=n*2 ^ (k+1021)) (hf:R<9218868437227405312) :
  Calls Tryz.prog 45 #[.int .i64 (n:Int),.int .i64 (k:Int)] w fun e w'=>e = .returned (.float .f64 R)/\w'=w:=by
 obtain ⟨A,hA⟩:∃ A:Nat,A=k+1021:=⟨_,rfl⟩
 rw [<-hA] at hR
 have hF:floatOfInt .f64 (n:Int)=W false (ofN n):=by rw [floatOfInt_W _ (by omega)];rw [decide_eq_false (by omega)];rfl
 have HL:Hid (∀ w,Calls Tryz.prog 39 #[.float .f64 (floatOfInt .f64 (n:Int)),.int .i64 ((k:Int)-53)] w fun e w'=>e = .returned (.float .f64 R)/\w'=w):=fun w=>by
  rw [hF]
  by_cases h0:n=0
  ·subst h0
   rw [Nat.zero_mul] at hR
   rw [M_inj0 hR]
   exact ldexp_same _ _ w (by decide +kernel)
  ·obtain ⟨q1,q2,_⟩:=ofN_spec n (by omega)
   have:=ldexpN (ofN n) n R A ((k:Int)-53) (by omega) q2 q1 (by omega) (by omega) hR w
   rw [Nat.min_eq_left (by omega)] at this
   exact this
 clear hF hR
 go_enter Tryz.func45,Tryz.ntmps45
 go_wp2_with (go_at_call 39;with_reducible refine (HL.out _).mono ?_;rintro e w' ⟨rfl,rfl⟩)
 go_ret
 exact ⟨rfl,rfl⟩
def mT:List Nat:=[4843235051468438477,4843235051468438477,4847738651095808973,4847738651095808973,4852242250723179469,4852242250723179469,4856745850350549965,4856745850350549965,4861249449977920461,4861249449977920461,4865753049605290957,4865753049605290957,4870256649232661453,4870256649232661453,4874760248860031949]
theorem m_all:(List.range 15).all (fun k=>k % 2==0 && p2T.getD (k / 2) 0==sqT.getD k 0 || k % 2==1 && double.mul (p2T.getD (k / 2) 0) 4843235051468438477==some (mT.getD k 0) && double.div (mT.getD k 0) 4841369599423283200==some (sqT.getD k 0))=true:=by decide +kernel
theorem rroot (k:Nat) (w:World) (hk:k<=14):Calls Tryz.prog 46 #[.int .i64 (k:Int)] w fun e w'=>e = .returned (.float .f64 (sqT.getD k 0))/\w'=w:=by
 have hm:=List.all_eq_true.1 m_all k (List.mem_range.2 (by omega))
 have HL:Hid (∀ w,Calls Tryz.prog 39 #[.float .f64 4607182418800017408,.int .i64 ((k / 2:Nat):Int)] w fun e w'=>e = .returned (.float .f64 (p2T.getD (k / 2) 0))/\w'=w):=fun w=>ldexp_k (k / 2) (by omega) w
 rw [show ((k / 2:Nat):Int)=(k:Int) / 2 by omega] at HL
 by_cases hp:k % 2=0
 ·have he:p2T.getD (k / 2) 0=sqT.getD k 0:=by simpa [hp] using hm
  rw [he] at HL
  have hr:(k:Int) % 2=0:=by omega
  generalize sqT.getD k 0=z at *
  clear hm he
  go_enter Tryz.func46,Tryz.ntmps46
  go_wp2_with (go_at_call 39;with_reducible refine (HL.out _).mono ?_;rintro e w' ⟨rfl,rfl⟩)
  go_ret
  exact ⟨rfl,rfl⟩
 ·have hp1:k % 2=1:=by omega
  have he:double.mul (p2T.getD (k / 2) 0) 4843235051468438477=some (mT.getD k 0)/\double.div (mT.getD k 0) 4841369599423283200=some (sqT.getD k 0):=by simpa [hp1] using hm
  have hr:(k:Int) % 2=1:=by omega
  have q1:∀ w,(binOp .mul 25 (.float .f64 (p2T.getD (k / 2) 0)) (.float .f64 4843235051468438477)).run Tryz.prog w = .ok (.float .f64 (mT.getD k 0)) w:=fun w=>mul_run w _ _ _ he.1
  have q2:∀ w,(binOp .quo 25 (.float .f64 (mT.getD k 0)) (.float .f64 4841369599423283200)).run Tryz.prog w = .ok (.float .f64 (sqT.getD k 0)) w:=fun w=>div_run w _ _ _ he.2
  clear hm he
  generalize sqT.getD k 0=z at *
  generalize p2T.getD (k / 2) 0=p at *
  generalize mT.getD k 0=m at *
  go_enter Tryz.func46,Tryz.ntmps46
  go_wp2_with (go_at_call 39;with_reducible refine (HL.out _).mono ?_;rintro e w' ⟨rfl,rfl⟩)
  go_ret
  exact ⟨rfl,rfl⟩
theorem M900:M 8660422083433463808=1*2 ^ 1974:=by decide +kernel
theorem M1000:M 103582791429521408=1*2 ^ 74:=by decide +kernel
theorem ldexp_900 (w:World):Calls Tryz.prog 39 #[.float .f64 4607182418800017408,.int .i64 900] w fun e w'=>e = .returned (.float .f64 8660422083433463808)/\w'=w:=by
 obtain ⟨A,hA⟩:∃ A:Nat,A=1974:=⟨_,rfl⟩
 have hM:=M900
 rw [<-hA] at hM
 have:=ldexpN 4607182418800017408 1 8660422083433463808 A 900 (by omega) (by omega) (by rw [M_1,Nat.one_mul]) (by omega) (by omega) hM w
 rw [Nat.min_eq_left (by omega)] at this
 exact this
theorem ldexp_1000 (w:World):Calls Tryz.prog 39 #[.float .f64 4607182418800017408,.int .i64 (-1000)] w fun e w'=>e = .returned (.float .f64 103582791429521408)/\w'=w:=by
 obtain ⟨A,hA⟩:∃ A:Nat,A=74:=⟨_,rfl⟩
 have hM:=M1000
 rw [<-hA] at hM
 have:=ldexpN 4607182418800017408 1 103582791429521408 A (-1000) (by omega) (by omega) (by rw [M_1,Nat.one_mul]) (by omega) (by omega) hM w
 rw [Nat.min_eq_left (by omega)] at this
 exact this
theorem ordT (o:Int) (h:0<=o/\o<=14) (w:World):Calls Tryz.prog 42 #[.int .i64 o] w fun e w'=>e = .returned (.bool true)/\w'=w:=by
 have:=rorder o w
 rw [show (decide (0<=o) && decide (o<=14))=true by rw [decide_eq_true h.1,decide_eq_true h.2];rfl] at this
 exact this
theorem rringW (k x y u v:Nat) (P1 P2 P3 Q:Nat->Prop) (w:World) (hk:k<=14) (hp:(FloatKind.f64.format.order x 8660422083433463808==some .gt)=false) (hq:(FloatKind.f64.format.order y 8660422083433463808==some .gt)=false)
  (HO:Hid (∀ w,Calls Tryz.prog 42 #[.int .i64 (k:Int)] w fun e w'=>e = .returned (.bool true)/\w'=w))
  (HA:Hid (∀ w,Calls Tryz.prog 43 #[.float .f64 x] w fun e w'=>e = .returned (.bool true)/\Gr w w'))
  (HB:Hid (∀ w,Calls Tryz.prog 43 #[.float .f64 y] w fun e w'=>e = .returned (.bool true)/\Gr w w'))
  (HP:Hid (∀ w,Calls Tryz.prog 45 #[.int .i64 (16*((k:Int)+1)),.int .i64 (k:Int)] w fun e w'=>e = .returned (.float .f64 u)/\w'=w))
  (HR:Hid (∀ w,Calls Tryz.prog 46 #[.int .i64 (k:Int)] w fun e w'=>e = .returned (.float .f64 v)/\w'=w))
  (H1:Hid (∀ w,Calls Tryz.prog 44 #[.float .f64 u,.float .f64 v] w fun e w'=>(∃ r,P1 r/\e = .returned (.float .f64 r))/\Gr w w'))
  (H2:Hid (∀ p w,P1 p->Calls Tryz.prog 44 #[.float .f64 p,.float .f64 x] w fun e w'=>(∃ r,P2 r/\e = .returned (.float .f64 r))/\Gr w w'))
  (H3:Hid (∀ p w,P2 p->Calls Tryz.prog 44 #[.float .f64 p,.float .f64 y] w fun e w'=>(∃ r,P3 r/\e = .returned (.float .f64 r))/\Gr w w'))
  (H4:Hid (∀ p w,P3 p->Calls Tryz.prog 47 #[.float .f64 p,.float .f64 103582791429521408] w fun e w'=>(∃ r,Q r/\e = .returned (.float .f64 r))/\Gr w w'))
  (hQ:∀ r,Q r->r<=9218868437227405312) :
  Calls Tryz.prog 26 #[.int .i64 (k:Int),.float .f64 x,.float .f64 y] w fun e w'=>(∃ r,Q r/\e = .returned (.tuple #[.float .f64 (if r=9218868437227405312 then 0 else r),.int .i64 (if r=9218868437227405312 then 6 else 0)]))/\Gr w w':=by
 have tok:True:=trivial
 go_enter Tryz.func26,Tryz.ntmps26
 go_wp2_with (first | (go_at_call 42;with_reducible refine (HO.out _).mono ?_;rintro e w' ⟨rfl,rfl⟩) | (go_at_call 43;have _t:=tok;with_reducible refine (HA.out _).mono ?_;rintro e w1 ⟨rfl,g1⟩;clear tok) | (go_at_call 43;with_reducible refine (HB.out _).mono ?_;rintro e w2 ⟨rfl,g2⟩) | (go_at_call 39;with_reducible refine (ldexp_900 _).mono ?_;rintro e w' ⟨rfl,rfl⟩) | (go_at_call 39;with_reducible refine (ldexp_1000 _).mono ?_;rintro e w' ⟨rfl,rfl⟩) | (go_at_call 45;with_reducible refine (HP.out _).mono ?_;rintro e w' ⟨rfl,rfl⟩) | (go_at_call 46;with_reducible refine (HR.out _).mono ?_;rintro e w' ⟨rfl,rfl⟩) | (go_at_call 44;with_reducible refine (H1.out _).mono ?_;rintro e w3 ⟨⟨p3,hp3,rfl⟩,g3⟩;have HP3:=hidden hp3;clear hp3 H1) | (go_at_call 44;with_reducible refine (H2.out _ _ HP3.out).mono ?_;rintro e w4 ⟨⟨p4,hp4,rfl⟩,g4⟩;have HP4:=hidden hp4;clear hp4 H2 HP3) | (go_at_call 44;with_reducible refine (H3.out _ _ HP4.out).mono ?_;rintro e w5 ⟨⟨p5,hp5,rfl⟩,g5⟩;have HP5:=hidden hp5;clear hp5) | (go_at_call 47;with_reducible refine (H4.out _ _ HP5.out).mono ?_;rintro e w6 ⟨⟨p6,hp6,rfl⟩,g6⟩;have HP6:=hidden hp6;clear hp6))
 have GG:=((((g1.trans g2).trans g3).trans g4).trans g5).trans g6
 clear g1 g2 g3 g4 g5 g6 HO HA HB HP HR H3 H4
 by_cases hi:p6=9218868437227405312
 ·subst hi
  obtain ⟨z,h1,h2⟩:=run_float_nan .sub (by simp) 25 (W false 9218868437227405312) (W false 9218868437227405312) w6 (sub_inf false)
  have h1':(binOp .sub 25 (.float .f64 9218868437227405312) (.float .f64 9218868437227405312)).run Tryz.prog w6 = .ok (.float .f64 z) w6.drew:=h1
  have h3:(FloatKind.f64.format.order z 0 != some .eq)=true:=by rw [bne,nan_order z 0 h2];rfl
  rw [h1']
  simp only [Result.andThen]
  rw [Oper.upon_value]
  clear h1 h2 h1'
  go_wp2
  go_ret2
  exact ⟨⟨_,HP6.out,rfl⟩,GG.drew⟩
 ·have h1:=sub_run w6 _ _ _ (sub_self false p6 (by have:=hQ p6 HP6.out;omega))
  have h1':(binOp .sub 25 (.float .f64 p6) (.float .f64 p6)).run Tryz.prog w6 = .ok (.float .f64 0) w6:=h1
  have hz:(FloatKind.f64.format.order 0 0 != some .eq)=false:=by decide +kernel
  rw [h1']
  simp only [Result.andThen]
  rw [Oper.upon_value]
  clear h1 h1'
  go_wp2
  go_ret2
  exact ⟨⟨p6,HP6.out,by rw [if_neg hi,if_neg hi];rfl⟩,GG⟩
theorem rsizeT (s:Bool) (r:Nat) (w:World) (hr:r<9218868437227405312) (hs:s=true->r=0):Calls Tryz.prog 43 #[.float .f64 (W s r)] w fun e w'=>e = .returned (.bool true)/\Gr w w':=by
 have:=rsize s r w (by omega)
 rw [isSizeB hr hs] at this
 exact this
theorem rringP (k:Nat) (s t:Bool) (a b:Nat) (w:World) (hk:k<=14) (ha:a<=8660422083433463808) (hs:s=true->a=0) (hb:b<=8660422083433463808) (ht:t=true->b=0) :
  Calls Tryz.prog 26 #[.int .i64 (k:Int),.float .f64 (W s a),.float .f64 (W t b)] w fun e w'=>(∃ r2,(∃ p,RingR k a b p/\DirUp (M p+M 103582791429521408) 1 r2)/\e = .returned (.tuple #[.float .f64 (if r2=9218868437227405312 then 0 else r2),.int .i64 (if r2=9218868437227405312 then 6 else 0)]))/\Gr w w':=by
 obtain ⟨u1,u2⟩:=uB_at k hk
 obtain ⟨s1,s2,s3⟩:=sq_at k hk
 have hP1:∀ p1,DirUp (M (uB.getD k 0)*M (sqT.getD k 0)) U p1->p1<=4499096027743125504:=fun p1 h=>dirUp_le h U_pos (Nat.le_trans (Nat.mul_le_mul (M_le u2) (M_le s3)) c24)
 have hP2:∀ p1 p2,p1<=4499096027743125504->DirUp (M p1*M a) U p2->p2<=8552335692376571904:=fun p1 p2 h1 h=>dirUp_le h U_pos (Nat.le_trans (Nat.mul_le_mul (M_le h1) (M_le ha)) c876)
 refine rringW k (W s a) (W t b) (uB.getD k 0) (sqT.getD k 0) (fun p=>DirUp (M (uB.getD k 0)*M (sqT.getD k 0)) U p) (fun p=>∃ p1,DirUp (M (uB.getD k 0)*M (sqT.getD k 0)) U p1/\DirUp (M p1*M a) U p) (fun p=>RingR k a b p) (fun r2=>∃ p,RingR k a b p/\DirUp (M p+M 103582791429521408) 1 r2) w hk ?_ ?_ (fun w=>ordT (k:Int) (by omega) w) (fun w=>rsizeT s a w (by omega) hs) (fun w=>rsizeT t b w (by omega) ht) (fun w=>?_) (fun w=>rroot k w hk) (fun w=>?_) (fun p w hp=>?_) (fun p w hp=>?_) (fun p w hp=>?_) (fun r ⟨p,_,h⟩=>h.1)
 ·have:=overB_W s a (by omega) hs
  rw [decide_eq_false (by omega)] at this
  exact this
 ·have:=overB_W t b (by omega) ht
  rw [decide_eq_false (by omega)] at this
  exact this
 ·have:=rpart (16*(k+1)) k (uB.getD k 0) w (by omega) hk u1 (by omega)
  rw [show ((16*(k+1):Nat):Int)=16*((k:Int)+1) by omega] at this
  exact this
 ·exact rtimes false false (uB.getD k 0) (sqT.getD k 0) w (by omega) (by omega) (fun h=>by cases h) (fun h=>by cases h)
 ·have:=hP1 p hp
  refine (rtimes false s p a w (by omega) (by omega) (fun h=>by cases h) hs).mono ?_
  rintro e w' ⟨⟨r,h1,rfl⟩,g⟩
  exact ⟨⟨r,⟨p,hp,h1⟩,rfl⟩,g⟩
 ·obtain ⟨p1,h1,h2⟩:=hp
  have q1:=hP1 p1 h1
  have q2:=hP2 p1 p q1 h2
  refine (rtimes false t p b w (by omega) (by omega) (fun h=>by cases h) ht).mono ?_
  rintro e w' ⟨⟨r,h3,rfl⟩,g⟩
  exact ⟨⟨r,⟨p1,p,h1,h2,h3,by omega,by omega⟩,rfl⟩,g⟩
 ·by_cases hi:p=9218868437227405312
  ·subst hi
   refine (rplusI 103582791429521408 w).mono ?_
   rintro e w' ⟨rfl,g⟩
   refine ⟨⟨_,⟨_,hp,Nat.le_refl _,fun h=>absurd h (by omega),fun _=>?_⟩,rfl⟩,g⟩
   have:=M_lt (show 9218868437227405312-1<9218868437227405312 by omega)
   omega
  ·have hle:p<=9218868437227405312:=by
    obtain ⟨_,_,_,_,h3,_⟩:=hp
    exact h3.1
   refine (rplus p 103582791429521408 w (by omega) (by omega)).mono ?_
   rintro e w' ⟨⟨r,h1,rfl⟩,g⟩
   exact ⟨⟨r,⟨p,hp,h1⟩,rfl⟩,g⟩
theorem dirUp_one {N D r r':Nat} (hD:0<D) (h:DirUp N D r) (h':DirUp N D r'):r=r':=dir_unique (out:=true) hD h h'
theorem up_ex (r:Nat) (hr:r<=9218868437227405312):∃ r2,DirUp (M r+M 103582791429521408) 1 r2:=by
 obtain ⟨r2,h,_⟩:=add_up false r hr (fun h=>by cases h)
 exact ⟨r2,h⟩
theorem mul_ex (a b:Nat) (ha:a<9218868437227405312) (hb:b<9218868437227405312):∃ p,DirUp (M a*M b) U p:=by
 obtain ⟨_,p,h,_⟩:=mul_up false false a b ha hb (fun h=>by cases h) (fun h=>by cases h)
 exact ⟨p,h⟩
theorem ring_one {k a b p q:Nat} (h:RingR k a b p) (h':RingR k a b q):p=q:=by
 obtain ⟨p1,p2,a1,ua2,a3,_,_⟩:=h
 obtain ⟨q1,q2,b1,b2,b3,_,_⟩:=h'
 obtain rfl:=dirUp_one U_pos a1 b1
 obtain rfl:=dirUp_one U_pos ua2 b2
 exact dirUp_one U_pos a3 b3
theorem same_refl (x:Nat):sameB x x=true:=by unfold sameB;simp
theorem dirUp_of {N D r:Nat} (h:(decide (r<=9218868437227405312) && decide (N<=M r*D) && decide (M (r-1)*D<N))=true):DirUp N D r:=by
 simp only [Bool.and_eq_true,decide_eq_true_eq] at h
 exact ⟨h.1.1,fun _=>h.1.2,fun _=>h.2⟩
theorem a1:DirUp (M (uA.getD 1 0)*M 4607182418800017408) U 4386506037058863104:=dirUp_of (by decide +kernel)
theorem ua2:DirUp (M 4386506037058863104+M 103582791429521408) 1 4386506037058863105:=dirUp_of (by decide +kernel)
theorem a3:DirUp (M (uB.getD 10 0)*M (sqT.getD 10 0)) U 4469259680211795968:=dirUp_of (by decide +kernel)
theorem a4:DirUp (M 4469259680211795968*M 4670232813583204352) U 4532310074994982912:=dirUp_of (by decide +kernel)
theorem a5:DirUp (M 4532310074994982912*M 4670232813583204352) U 4595360469778169856:=dirUp_of (by decide +kernel)
theorem a6:DirUp (M 4595360469778169856+M 103582791429521408) 1 4595360469778169857:=dirUp_of (by decide +kernel)
end Go.Proofs.YtanpdbadfddlcaaGreatDoor.Fl
namespace Go.Proofs.YtanpdbadfddlcaaGreatDoor.Fl
open Go.RowKit
open Ieee
open Go.Proofs.YtanpdbadfddlcaaGreatDoor.Jx (Fi FiZ vr vz fw Rc cyW fiZ fi cvI mr)
set_option linter.unusedVariables false
def RB (k A B r2:Nat):Prop:=∃ p,RingR k (ofN A) (ofN B) p/\DirUp (M p+M 103582791429521408) 1 r2
theorem rb_one {k A B r r':Nat} (h:RB k A B r) (h':RB k A B r'):r=r':=by
 obtain ⟨p,h1,h2⟩:=h
 obtain ⟨p',h1',h2'⟩:=h'
 obtain rfl:=ring_one h1 h1'
 exact dirUp_one (by omega) h2 h2'
theorem rb_fin {k A B r:Nat} (hk:k<=14) (hA:A<=9007199254740992) (hB:B<=9007199254740992) (h:RB k A B r):r<9218868437227405312:=by
 obtain ⟨p,h1,h2⟩:=h
 exact ring_fin hk (ofN_le53 hA) (ofN_le53 hB) h1 h2
theorem rb_ex {k A B:Nat} (hk:k<=14) (hA:A<=9007199254740992) (hB:B<=9007199254740992):∃ r,RB k A B r:=by
 have u2:=(uB_at k hk).2
 have s2:=(sq_at k hk).2.2
 have oa:=ofN_le53 hA
 have ob:=ofN_le53 hB
 obtain ⟨p1,d1⟩:=mul_ex (uB.getD k 0) (sqT.getD k 0) (by omega) (by omega)
 have q1:p1<=4499096027743125504:=dirUp_le d1 U_pos (Nat.le_trans (Nat.mul_le_mul (M_le u2) (M_le s2)) c24)
 obtain ⟨p2,d2⟩:=mul_ex p1 (ofN A) (by omega) (by omega)
 have q2:p2<=8552335692376571904:=dirUp_le d2 U_pos (Nat.le_trans (Nat.mul_le_mul (M_le q1) (M_le (show ofN A<=8660422083433463808 by omega))) c876)
 obtain ⟨p,d3⟩:=mul_ex p2 (ofN B) (by omega) (by omega)
 have q3:p<=8795530072254578688:=dirUp_le d3 U_pos (Nat.le_trans (Nat.mul_le_mul (M_le q2) (M_le ob)) c929)
 obtain ⟨r,d4⟩:=up_ex p (by omega)
 exact ⟨r,p,⟨p1,p2,d1,d2,d3,by omega,by omega⟩,d4⟩
theorem boundV (k n c1 c2 r2:Nat) (a1 a2:Option Addr) (f g:Nat->Int) (w:World) (hk:k<=14) (hn:n=2 ^ k) (hT:TabAt 2 Lib.deBruijn64tab w) (h1:IR w a1 n f) (h2:IR w a2 n g) (ha:gm f n<=9007199254740992) (hb:gm g n<=9007199254740992) (hr:RB k (gm f n) (gm g n) r2) :
  Calls Tryz.prog 9 #[.slice a1 n c1,.slice a2 n c2] w fun e w'=>e = .returned (.tuple #[.float .f64 r2,.int .i64 0])/\Hid (Gr w w'):=by
 refine (boundR k n c1 c2 a1 a2 f g w hk hn hT h1 h2 ha hb).mono ?_
 rintro e w' ⟨p,r,q1,q2,q3,rfl,q4⟩
 obtain rfl:=rb_one ⟨p,q1,q2⟩ hr
 exact ⟨rfl,q4⟩
theorem boundO (k n c1 c2:Nat) (a1 a2:Option Addr) (f g:Nat->Int) (w:World) (hk:k<=14) (hn:n=2 ^ k) (hT:TabAt 2 Lib.deBruijn64tab w) (h1:IR w a1 n f) (h2:IR w a2 n g) (ho:¬ (gm f n<=9007199254740992/\gm g n<=9007199254740992)) :
  Calls Tryz.prog 9 #[.slice a1 n c1,.slice a2 n c2] w fun e w'=>e = .returned (.tuple #[.float .f64 0,.int .i64 6])/\Hid (Gr w w'):=by
 have hle:n<=16384:=by rw [hn];exact Nat.pow_le_pow_right (n:=2) (by omega) hk
 have OO:=hide (orderOfR k n c1 c2 a1 a2 w hk hn hT)
 have GA:=hide (greatestR a1 n c1 f w h1 (by omega))
 have GB:=hide (greatestR a2 n c2 g w h2 (by omega))
 have m1:max ((gm f n:Nat):Int) ((gm g n:Nat):Int)>9007199254740992:=by omega
 have m2:(if ((gm g n:Nat):Int)>((gm f n:Nat):Int) then ((gm g n:Nat):Int) else ((gm f n:Nat):Int))>9007199254740992:=by split <;> omega
 clear hn hT h1 h2 ho
 generalize gm f n=A at *
 generalize gm g n=B at *
 go_enter Tryz.func9,Tryz.ntmps9
 go_wp2_with (first | (go_at_call 21;(with_reducible refine OO.out.mono ?_);rintro r w1 ⟨rfl,rfl⟩) | (go_at_call 22;(with_reducible refine GA.out.mono ?_);rintro r w1 ⟨rfl,rfl⟩) | (go_at_call 22;(with_reducible refine GB.out.mono ?_);rintro r w1 ⟨rfl,rfl⟩))
 all_goals
  go_ret2
  exact ⟨rfl,Gr.refl _⟩
theorem boundN (n m c1 c2:Nat) (a1 a2:Option Addr) (w:World) (h:NoFit n m) (hn:n<=4611686018427387904) (hm:m<=4611686018427387904) :
  Calls Tryz.prog 9 #[.slice a1 n c1,.slice a2 m c2] w fun e w'=>e = .returned (.tuple #[.float .f64 0,.int .i64 4])/\Hid (Gr w w'):=by
 have OO:=hide (orderOfN n m c1 c2 a1 a2 w h hn hm)
 clear h
 go_enter Tryz.func9,Tryz.ntmps9
 go_wp2_with (go_at_call 21;(with_reducible refine OO.out.mono ?_);rintro r w1 ⟨rfl,rfl⟩)
 go_ret2
 exact ⟨rfl,Gr.refl _⟩
def qB (r:Nat):Bool:=FloatKind.f64.format.order r 4598175219545276416==some .gt || FloatKind.f64.format.order r 4598175219545276416==some .eq
theorem qB_eq {r:Nat} (h:r<9218868437227405312):qB r=decide (4598175219545276416<=r):=by
 have h1:=order_W false false r 4598175219545276416 (by omega) (by omega)
 rw [W_false,W_false] at h1
 unfold qB
 rw [f64_format,h1]
 unfold val
 simp only [Bool.false_eq_true,if_false]
 rcases Nat.lt_trichotomy r 4598175219545276416 with h2 | h2 | h2
 ·have:=M_lt h2
  rw [compare_lt (by omega),decide_eq_false (by omega)];rfl
 ·subst h2;rw [compare_eq rfl];rfl
 ·have:=M_lt h2
  rw [compare_gt (by omega),decide_eq_true (by omega)];rfl
theorem quarter:M 4598175219545276416*4=U:=by decide +kernel
theorem q_lt {r:Nat} (h:r<4598175219545276416):mr r<1 / 4:=by
 have h1:=M_lt h
 have h2:M r*4<U:=by have:=quarter;omega
 have h3:=Er.cast_lt h2
 rw [Rat.natCast_mul,show ((4:Nat):Rat)=4 from rfl] at h3
 have h4:=Rat.mul_lt_mul_of_pos_right h3 Jx.iU_pos
 rw [Jx.U_iU] at h4
 unfold mr
 generalize ((M r:Nat):Rat)=x at *
 grind
set_option maxHeartbeats 1000000 in
theorem cyclicT (k n c1 c2 r2:Nat) (a1 a2:Option Addr) (f g:Nat->Int) (w:World) (hk:k<=7) (hn:n=2 ^ k) (hT:TabAt 2 Lib.deBruijn64tab w) (hF:TabF w) (h1:IR w a1 n f) (h2:IR w a2 n g) (ha:gm f n<=9007199254740992) (hb:gm g n<=9007199254740992) (hr:RB k (gm f n) (gm g n) r2) (hq:r2<4598175219545276416) :
  (∀ l,l<n->(cvI n f g l n).natAbs<140737488355328)/\Calls Tryz.prog 14 #[.slice a1 n c1,.slice a2 n c2] w fun e w'=>∃ q,w.heap.size<=q/\e = .returned (.tuple #[.slice (some ⟨q,0,none⟩) n n,.int .i64 0])/\Hid (OI w' q n n (fun l=>cvI n f g l n))/\Hid (Gr w w'):=by
 obtain ⟨H,hH⟩:=ldexp_all (-(k:Int)) (by omega) (by omega)
 have hle:n<=128:=by rw [hn];exact Nat.pow_le_pow_right (n:=2) (by omega) hk
 have hfin:=rb_fin (by omega) ha hb hr
 have sf:∀ i,i<n->(f i).natAbs<=9007199254740992:=fun i hi=>Nat.le_trans (gm_le f hi) ha
 have sg:∀ i,i<n->(g i).natAbs<=9007199254740992:=fun i hi=>Nat.le_trans (gm_le g hi) hb
 have EX:∀ l,l<n->Fi (cyW k H f g l).1/\(vr (cyW k H f g l).1-(cvI n f g l n:Rat))*(vr (cyW k H f g l).1-(cvI n f g l n:Rat))<=225 / 4096/\(cvI n f g l n).natAbs<140737488355328:=by
  obtain ⟨p,q1,q2⟩:=hr
  have:=Jx.cyc_exact hk hH (fun i hi=>gm_le f (by rw [hn];exact hi)) (fun i hi=>gm_le g (by rw [hn];exact hi)) ha hb q1 q2 hfin (q_lt hq)
  rw [<-hn] at this
  exact this
 refine ⟨fun l hl=>(EX l hl).2.2,?_⟩
 have BD:=hide (boundV k n c1 c2 r2 a1 a2 f g w (by omega) hn hT h1 h2 ha hb hr)
 have TD:Hid (∀ w1,Gr w w1->_):=fun w1 gg=>turnedR H k n c1 c2 a1 a2 f g w1 hH (tab_gr hT gg) (hF.gr gg) hk hn (h1.gr gg) (h2.gr gg) sf sg
 have NR:Hid (∀ w1 q,TR w1 q n (cyW k H f g)->_):=fun w1 q t=>nearestR n q (cyW k H f g) (fun l=>cvI n f g l n) w1 (by omega) t (fun l hl=>⟨(EX l hl).1,Jx.near_int (EX l hl).1 (by have:=(EX l hl).2.2;omega) (EX l hl).2.1⟩)
 have hqB:qB r2=false:=by rw [qB_eq hfin];exact decide_eq_false (by omega)
 unfold qB at hqB
 clear EX hT hF h1 h2 hr hH sf sg hn ha hb
 generalize cyW k H f g=Z at *
 generalize (fun l=>cvI n f g l n)=C at *
 go_enter Tryz.func14,Tryz.ntmps14
 go_wp2_with (first | (go_at_call 9;(with_reducible refine BD.out.mono ?_);rintro r w1 ⟨rfl,G1⟩) | (go_at_call 28;(with_reducible refine (TD.out _ G1.out).mono ?_);rintro r w2 ⟨q1,e1,rfl,T1,G2⟩) | (go_at_call 29;(with_reducible refine (NR.out _ _ T1.out).mono ?_);rintro r w3 ⟨q2,e2,rfl,O1,G3⟩))
 go_ret2
 have GG:Gr w w2:=G1.out.trans G2.out
 exact ⟨q2,Nat.le_trans GG.size e2,rfl,O1,GG.trans G3.out⟩
theorem cyclicB (k n c1 c2 r2:Nat) (a1 a2:Option Addr) (f g:Nat->Int) (w:World) (hk:k<=14) (hn:n=2 ^ k) (hT:TabAt 2 Lib.deBruijn64tab w) (h1:IR w a1 n f) (h2:IR w a2 n g) (ha:gm f n<=9007199254740992) (hb:gm g n<=9007199254740992) (hr:RB k (gm f n) (gm g n) r2) (hq:4598175219545276416<=r2) :
  Calls Tryz.prog 14 #[.slice a1 n c1,.slice a2 n c2] w fun e w'=>e = .returned (.tuple #[.slice none 0 0,.int .i64 8])/\Hid (Gr w w'):=by
 have hfin:=rb_fin hk ha hb hr
 have BD:=hide (boundV k n c1 c2 r2 a1 a2 f g w hk hn hT h1 h2 ha hb hr)
 have hqB:qB r2=true:=by rw [qB_eq hfin];exact decide_eq_true (by omega)
 unfold qB at hqB
 clear hT h1 h2 hr hn ha hb
 go_enter Tryz.func14,Tryz.ntmps14
 go_wp2_with (go_at_call 9;(with_reducible refine BD.out.mono ?_);rintro r w1 ⟨rfl,G1⟩)
 go_ret2
 exact ⟨rfl,G1⟩
end Go.Proofs.YtanpdbadfddlcaaGreatDoor.Fl
