import Derived.Test.YtanpdbadfddlcaaGreatDoorM43
import Derived.Test.YtanpdbadfddlcaaGreatDoorM41
namespace Go.Proofs.YtanpdbadfddlcaaGreatDoor.Fl
open Go.RowKit
open Ieee
set_option linter.unusedVariables false
theorem ordT (o:Int) (h:0<=o/\o<=14) (w:World):Calls Tryz.prog 42 #[.int .i64 o] w fun e w'=>e = .returned (.bool true)/\w'=w:=by
 have:=rorder o w
 rw[show(decide (0<=o) && decide (o<=14))=true by rw[decide_eq_true h.1,decide_eq_true h.2];rfl] at this
 exact this
theorem rringW (k x y u v:Nat) (P1 P2 P3 Q:Nat->Prop) (w:World) (hk:k<=14) (hp:(FloatKind.f64.format.order x 8660422083433463808==some .gt)=false) (hq:(FloatKind.f64.format.order y 8660422083433463808==some .gt)=false)
  (HO:Hid (∀w,Calls Tryz.prog 42 #[.int .i64 (k:Int)] w fun e w'=>e = .returned (.bool true)/\w'=w))
  (HA:Hid (∀w,Calls Tryz.prog 43 #[.float .f64 x] w fun e w'=>e = .returned (.bool true)/\Gr w w'))
  (HB:Hid (∀w,Calls Tryz.prog 43 #[.float .f64 y] w fun e w'=>e = .returned (.bool true)/\Gr w w'))
  (HP:Hid (∀w,Calls Tryz.prog 45 #[.int .i64 (16*((k:Int)+1)),.int .i64 (k:Int)] w fun e w'=>e = .returned (.float .f64 u)/\w'=w))
  (HR:Hid (∀w,Calls Tryz.prog 46 #[.int .i64 (k:Int)] w fun e w'=>e = .returned (.float .f64 v)/\w'=w))
  (H1:Hid (∀w,Calls Tryz.prog 44 #[.float .f64 u,.float .f64 v] w fun e w'=>(∃r,P1 r/\e = .returned (.float .f64 r))/\Gr w w'))
  (H2:Hid (∀p w,P1 p->Calls Tryz.prog 44 #[.float .f64 p,.float .f64 x] w fun e w'=>(∃r,P2 r/\e = .returned (.float .f64 r))/\Gr w w'))
  (H3:Hid (∀p w,P2 p->Calls Tryz.prog 44 #[.float .f64 p,.float .f64 y] w fun e w'=>(∃r,P3 r/\e = .returned (.float .f64 r))/\Gr w w'))
  (H4:Hid (∀p w,P3 p->Calls Tryz.prog 47 #[.float .f64 p,.float .f64 103582791429521408] w fun e w'=>(∃r,Q r/\e = .returned (.float .f64 r))/\Gr w w'))
  (hQ:∀r,Q r->r<=9218868437227405312) :
  Calls Tryz.prog 26 #[.int .i64 (k:Int),.float .f64 x,.float .f64 y] w fun e w'=>(∃r,Q r/\e = .returned (.tuple #[.float .f64 (if r=9218868437227405312 then 0 else r),.int .i64 (if r=9218868437227405312 then 6 else 0)]))/\Gr w w':=by
 have tok:True:=trivial
 go_enter Tryz.func26,Tryz.ntmps26
 go_wp2_with (first|(go_at_call 42;with_reducible refine(HO.out _).mono ?_;rintro e w' ⟨rfl,rfl⟩)|(go_at_call 43;have _t:=tok;with_reducible refine(HA.out _).mono ?_;rintro e w1 ⟨rfl,g1⟩;clear tok)|(go_at_call 43;with_reducible refine(HB.out _).mono ?_;rintro e w2 ⟨rfl,g2⟩)|(go_at_call 39;with_reducible refine(ldexp_900 _).mono ?_;rintro e w' ⟨rfl,rfl⟩)|(go_at_call 39;with_reducible refine(ldexp_1000 _).mono ?_;rintro e w' ⟨rfl,rfl⟩)|(go_at_call 45;with_reducible refine(HP.out _).mono ?_;rintro e w' ⟨rfl,rfl⟩)|(go_at_call 46;with_reducible refine(HR.out _).mono ?_;rintro e w' ⟨rfl,rfl⟩)|(go_at_call 44;with_reducible refine(H1.out _).mono ?_;rintro e w3 ⟨⟨p3,hp3,rfl⟩,g3⟩;have HP3:=hidden hp3;clear hp3 H1)|(go_at_call 44;with_reducible refine(H2.out _ _ HP3.out).mono ?_;rintro e w4 ⟨⟨p4,hp4,rfl⟩,g4⟩;have HP4:=hidden hp4;clear hp4 H2 HP3)|(go_at_call 44;with_reducible refine(H3.out _ _ HP4.out).mono ?_;rintro e w5 ⟨⟨p5,hp5,rfl⟩,g5⟩;have HP5:=hidden hp5;clear hp5)|(go_at_call 47;with_reducible refine(H4.out _ _ HP5.out).mono ?_;rintro e w6 ⟨⟨p6,hp6,rfl⟩,g6⟩;have HP6:=hidden hp6;clear hp6))
 have GG:=((((g1.trans g2).trans g3).trans g4).trans g5).trans g6
 clear g1 g2 g3 g4 g5 g6 HO HA HB HP HR H3 H4
 by_cases hi:p6=9218868437227405312
 ·subst hi
  obtain⟨z,h1,h2⟩:=run_float_nan .sub (by simp) 25 (W false 9218868437227405312) (W false 9218868437227405312) w6 (sub_inf false)
  have h1':(binOp .sub 25 (.float .f64 9218868437227405312) (.float .f64 9218868437227405312)).run Tryz.prog w6 = .ok (.float .f64 z) w6.drew:=h1
  have h3:(FloatKind.f64.format.order z 0 != some .eq)=true:=by rw[bne,nan_order z 0 h2];rfl
  rw[h1']
  simp only[Result.andThen]
  rw[Oper.upon_value]
  clear h1 h2 h1'
  go_wp2
  go_ret2
  exact⟨⟨_,HP6.out,rfl⟩,GG.drew⟩
 ·have h1:=sub_run w6 _ _ _ (sub_self false p6 (by have:=hQ p6 HP6.out;omega))
  have h1':(binOp .sub 25 (.float .f64 p6) (.float .f64 p6)).run Tryz.prog w6 = .ok (.float .f64 0) w6:=h1
  have hz:(FloatKind.f64.format.order 0 0 != some .eq)=false:=by decide +kernel
  rw[h1']
  simp only[Result.andThen]
  rw[Oper.upon_value]
  clear h1 h1'
  go_wp2
  go_ret2
  exact⟨⟨p6,HP6.out,by rw[if_neg hi,if_neg hi];rfl⟩,GG⟩
theorem rsizeT (s:Bool) (r:Nat) (w:World) (hr:r<9218868437227405312) (hs:s=true->r=0):Calls Tryz.prog 43 #[.float .f64 (W s r)] w fun e w'=>e = .returned (.bool true)/\Gr w w':=by
 have:=rsize s r w (by omega)
 rw[isSizeB hr hs] at this
 exact this
theorem rringP (k:Nat) (s t:Bool) (a b:Nat) (w:World) (hk:k<=14) (ha:a<=8660422083433463808) (hs:s=true->a=0) (hb:b<=8660422083433463808) (ht:t=true->b=0) :
  Calls Tryz.prog 26 #[.int .i64 (k:Int),.float .f64 (W s a),.float .f64 (W t b)] w fun e w'=>(∃r2,(∃p,RingR k a b p/\DirUp (M p+M 103582791429521408) 1 r2)/\e = .returned (.tuple #[.float .f64 (if r2=9218868437227405312 then 0 else r2),.int .i64 (if r2=9218868437227405312 then 6 else 0)]))/\Gr w w':=by
 obtain⟨u1,u2⟩:=uB_at k hk
 obtain⟨s1,s2,s3⟩:=sq_at k hk
 have hP1:∀p1,DirUp (M (uB.getD k 0)*M (sqT.getD k 0)) U p1->p1<=4499096027743125504:=fun p1 h=>dirUp_le h U_pos (Nat.le_trans (Nat.mul_le_mul (M_le u2) (M_le s3)) c24)
 have hP2:∀p1 p2,p1<=4499096027743125504->DirUp (M p1*M a) U p2->p2<=8552335692376571904:=fun p1 p2 h1 h=>dirUp_le h U_pos (Nat.le_trans (Nat.mul_le_mul (M_le h1) (M_le ha)) c876)
 refine rringW k (W s a) (W t b) (uB.getD k 0) (sqT.getD k 0) (fun p=>DirUp (M (uB.getD k 0)*M (sqT.getD k 0)) U p) (fun p=>∃p1,DirUp (M (uB.getD k 0)*M (sqT.getD k 0)) U p1/\DirUp (M p1*M a) U p) (fun p=>RingR k a b p) (fun r2=>∃p,RingR k a b p/\DirUp (M p+M 103582791429521408) 1 r2) w hk ?_ ?_ (fun w=>ordT (k:Int) (by omega) w) (fun w=>rsizeT s a w (by omega) hs) (fun w=>rsizeT t b w (by omega) ht) (fun w=>?_) (fun w=>rroot k w hk) (fun w=>?_) (fun p w hp=>?_) (fun p w hp=>?_) (fun p w hp=>?_) (fun r ⟨p,_,h⟩=>h.1)
 ·have:=overB_W s a (by omega) hs
  rw[decide_eq_false (by omega)] at this
  exact this
 ·have:=overB_W t b (by omega) ht
  rw[decide_eq_false (by omega)] at this
  exact this
 ·have:=rpart (16*(k+1)) k (uB.getD k 0) w (by omega) hk u1 (by omega)
  rw[show((16*(k+1):Nat):Int)=16*((k:Int)+1) by omega] at this
  exact this
 ·exact rtimes false false (uB.getD k 0) (sqT.getD k 0) w (by omega) (by omega) (fun h=>by cases h) (fun h=>by cases h)
 ·have:=hP1 p hp
  refine(rtimes false s p a w (by omega) (by omega) (fun h=>by cases h) hs).mono ?_
  rintro e w' ⟨⟨r,h1,rfl⟩,g⟩
  exact⟨⟨r,⟨p,hp,h1⟩,rfl⟩,g⟩
 ·obtain⟨p1,h1,h2⟩:=hp
  have q1:=hP1 p1 h1
  have q2:=hP2 p1 p q1 h2
  refine(rtimes false t p b w (by omega) (by omega) (fun h=>by cases h) ht).mono ?_
  rintro e w' ⟨⟨r,h3,rfl⟩,g⟩
  exact⟨⟨r,⟨p1,p,h1,h2,h3,by omega,by omega⟩,rfl⟩,g⟩
 ·by_cases hi:p=9218868437227405312
  ·subst hi
   refine(rplusI 103582791429521408 w).mono ?_
   rintro e w' ⟨rfl,g⟩
   refine⟨⟨_,⟨_,hp,Nat.le_refl _,fun h=>absurd h (by omega),fun _=>?_⟩,rfl⟩,g⟩
   have:=M_lt (show 9218868437227405312-1<9218868437227405312 by omega)
   omega
  ·have hle:p<=9218868437227405312:=by
    obtain⟨_,_,_,_,h3,_⟩:=hp
    exact h3.1
   refine(rplus p 103582791429521408 w (by omega) (by omega)).mono ?_
   rintro e w' ⟨⟨r,h1,rfl⟩,g⟩
   exact⟨⟨r,⟨p,hp,h1⟩,rfl⟩,g⟩
theorem dirUp_one {N D r r':Nat} (hD:0<D) (h:DirUp N D r) (h':DirUp N D r'):r=r':=dir_unique (out:=true) hD h h'
theorem up_ex (r:Nat) (hr:r<=9218868437227405312):∃r2,DirUp (M r+M 103582791429521408) 1 r2:=by
 obtain⟨r2,h,_⟩:=add_up false r hr (fun h=>by cases h)
 exact⟨r2,h⟩
theorem mul_ex (a b:Nat) (ha:a<9218868437227405312) (hb:b<9218868437227405312):∃p,DirUp (M a*M b) U p:=by
 obtain⟨_,p,h,_⟩:=mul_up false false a b ha hb (fun h=>by cases h) (fun h=>by cases h)
 exact⟨p,h⟩
theorem ring_one {k a b p q:Nat} (h:RingR k a b p) (h':RingR k a b q):p=q:=by
 obtain⟨p1,p2,a1,ua2,a3,_,_⟩:=h
 obtain⟨q1,q2,b1,b2,b3,_,_⟩:=h'
 obtain rfl:=dirUp_one U_pos a1 b1
 obtain rfl:=dirUp_one U_pos ua2 b2
 exact dirUp_one U_pos a3 b3
theorem same_refl (x:Nat):sameB x x=true:=by unfold sameB;simp
theorem dirUp_of {N D r:Nat} (h:(decide (r<=9218868437227405312) && decide (N<=M r*D) && decide (M (r-1)*D<N))=true):DirUp N D r:=by
 simp only[Bool.and_eq_true,decide_eq_true_eq] at h
 exact⟨h.1.1,fun _=>h.1.2,fun _=>h.2⟩
theorem a1:DirUp (M (uA.getD 1 0)*M 4607182418800017408) U 4386506037058863104:=dirUp_of (by decide +kernel)
theorem ua2:DirUp (M 4386506037058863104+M 103582791429521408) 1 4386506037058863105:=dirUp_of (by decide +kernel)
theorem a3:DirUp (M (uB.getD 10 0)*M (sqT.getD 10 0)) U 4469259680211795968:=dirUp_of (by decide +kernel)
theorem a4:DirUp (M 4469259680211795968*M 4670232813583204352) U 4532310074994982912:=dirUp_of (by decide +kernel)
theorem a5:DirUp (M 4532310074994982912*M 4670232813583204352) U 4595360469778169856:=dirUp_of (by decide +kernel)
theorem a6:DirUp (M 4595360469778169856+M 103582791429521408) 1 4595360469778169857:=dirUp_of (by decide +kernel)
end Go.Proofs.YtanpdbadfddlcaaGreatDoor.Fl
namespace Go.Proofs.YtanpdbadfddlcaaGreatDoor.Fl
open Go.RowKit
open Ieee
open Go.Proofs.YtanpdbadfddlcaaGreatDoor.Jx (Fi FiZ vr vz fw Rc cyW fiZ fi cvI mr)
set_option linter.unusedVariables false
def RB (k A B r2:Nat):Prop:=∃p,RingR k (ofN A) (ofN B) p/\DirUp (M p+M 103582791429521408) 1 r2
theorem rb_one {k A B r r':Nat} (h:RB k A B r) (h':RB k A B r'):r=r':=by
 obtain⟨p,h1,h2⟩:=h
 obtain⟨p',h1',h2'⟩:=h'
 obtain rfl:=ring_one h1 h1'
 exact dirUp_one (by omega) h2 h2'
theorem rb_fin {k A B r:Nat} (hk:k<=14) (hA:A<=9007199254740992) (hB:B<=9007199254740992) (h:RB k A B r):r<9218868437227405312:=by
 obtain⟨p,h1,h2⟩:=h
 exact ring_fin hk (ofN_le53 hA) (ofN_le53 hB) h1 h2
theorem rb_ex {k A B:Nat} (hk:k<=14) (hA:A<=9007199254740992) (hB:B<=9007199254740992):∃r,RB k A B r:=by
 have u2:=(uB_at k hk).2
 have s2:=(sq_at k hk).2.2
 have oa:=ofN_le53 hA
 have ob:=ofN_le53 hB
 obtain⟨p1,d1⟩:=mul_ex (uB.getD k 0) (sqT.getD k 0) (by omega) (by omega)
 have q1:p1<=4499096027743125504:=dirUp_le d1 U_pos (Nat.le_trans (Nat.mul_le_mul (M_le u2) (M_le s2)) c24)
 obtain⟨p2,d2⟩:=mul_ex p1 (ofN A) (by omega) (by omega)
 have q2:p2<=8552335692376571904:=dirUp_le d2 U_pos (Nat.le_trans (Nat.mul_le_mul (M_le q1) (M_le (show ofN A<=8660422083433463808 by omega))) c876)
 obtain⟨p,d3⟩:=mul_ex p2 (ofN B) (by omega) (by omega)
 have q3:p<=8795530072254578688:=dirUp_le d3 U_pos (Nat.le_trans (Nat.mul_le_mul (M_le q2) (M_le ob)) c929)
 obtain⟨r,d4⟩:=up_ex p (by omega)
 exact⟨r,p,⟨p1,p2,d1,d2,d3,by omega,by omega⟩,d4⟩
theorem boundV (k n c1 c2 r2:Nat) (a1 a2:Option Addr) (f g:Nat->Int) (w:World) (hk:k<=14) (hn:n=2 ^ k) (hT:TabAt 2 Lib.deBruijn64tab w) (h1:IR w a1 n f) (h2:IR w a2 n g) (ha:gm f n<=9007199254740992) (hb:gm g n<=9007199254740992) (hr:RB k (gm f n) (gm g n) r2) :
  Calls Tryz.prog 9 #[.slice a1 n c1,.slice a2 n c2] w fun e w'=>e = .returned (.tuple #[.float .f64 r2,.int .i64 0])/\Hid (Gr w w'):=by
 refine(boundR k n c1 c2 a1 a2 f g w hk hn hT h1 h2 ha hb).mono ?_
 rintro e w' ⟨p,r,q1,q2,q3,rfl,q4⟩
 obtain rfl:=rb_one ⟨p,q1,q2⟩ hr
 exact⟨rfl,q4⟩
theorem boundO (k n c1 c2:Nat) (a1 a2:Option Addr) (f g:Nat->Int) (w:World) (hk:k<=14) (hn:n=2 ^ k) (hT:TabAt 2 Lib.deBruijn64tab w) (h1:IR w a1 n f) (h2:IR w a2 n g) (ho:¬(gm f n<=9007199254740992/\gm g n<=9007199254740992)) :
  Calls Tryz.prog 9 #[.slice a1 n c1,.slice a2 n c2] w fun e w'=>e = .returned (.tuple #[.float .f64 0,.int .i64 6])/\Hid (Gr w w'):=by
 have hle:n<=16384:=by rw[hn];exact Nat.pow_le_pow_right (n:=2) (by omega) hk
 have OO:=hide (orderOfR k n c1 c2 a1 a2 w hk hn hT)
 have GA:=hide (greatestR a1 n c1 f w h1 (by omega))
 have GB:=hide (greatestR a2 n c2 g w h2 (by omega))
 have m1:max ((gm f n:Nat):Int) ((gm g n:Nat):Int)>9007199254740992:=by omega
 have m2:(if ((gm g n:Nat):Int)>((gm f n:Nat):Int) then ((gm g n:Nat):Int) else ((gm f n:Nat):Int))>9007199254740992:=by split <;> omega
 clear hn hT h1 h2 ho
 generalize gm f n=A at *
 generalize gm g n=B at *
 go_enter Tryz.func9,Tryz.ntmps9
 go_wp2_with (first|(go_at_call 21;(with_reducible refine OO.out.mono ?_);rintro r w1 ⟨rfl,rfl⟩)|(go_at_call 22;(with_reducible refine GA.out.mono ?_);rintro r w1 ⟨rfl,rfl⟩)|(go_at_call 22;(with_reducible refine GB.out.mono ?_);rintro r w1 ⟨rfl,rfl⟩))
 all_goals
  go_ret2
  exact⟨rfl,Gr.refl _⟩
theorem boundN (n m c1 c2:Nat) (a1 a2:Option Addr) (w:World) (h:NoFit n m) (hn:n<=4611686018427387904) (hm:m<=4611686018427387904) :
  Calls Tryz.prog 9 #[.slice a1 n c1,.slice a2 m c2] w fun e w'=>e = .returned (.tuple #[.float .f64 0,.int .i64 4])/\Hid (Gr w w'):=by
 have OO:=hide (orderOfN n m c1 c2 a1 a2 w h hn hm)
 clear h
 go_enter Tryz.func9,Tryz.ntmps9
 go_wp2_with (go_at_call 21;(with_reducible refine OO.out.mono ?_);rintro r w1 ⟨rfl,rfl⟩)
 go_ret2
 exact⟨rfl,Gr.refl _⟩
def qB (r:Nat):Bool:=FloatKind.f64.format.order r 4598175219545276416==some .gt || FloatKind.f64.format.order r 4598175219545276416==some .eq
theorem qB_eq {r:Nat} (h:r<9218868437227405312):qB r=decide (4598175219545276416<=r):=by
 have h1:=order_W false false r 4598175219545276416 (by omega) (by omega)
 rw[W_false,W_false] at h1
 unfold qB
 rw[f64_format,h1]
 unfold val
 simp only[Bool.false_eq_true,if_false]
 rcases Nat.lt_trichotomy r 4598175219545276416 with h2|h2|h2
 ·have:=M_lt h2
  rw[compare_lt (by omega),decide_eq_false (by omega)];rfl
 ·subst h2;rw[compare_eq rfl];rfl
 ·have:=M_lt h2
  rw[compare_gt (by omega),decide_eq_true (by omega)];rfl
theorem quarter:M 4598175219545276416*4=U:=by decide +kernel
theorem q_lt {r:Nat} (h:r<4598175219545276416):mr r<1 / 4:=by
 have h1:=M_lt h
 have h2:M r*4<U:=by have:=quarter;omega
 have h3:=Er.cast_lt h2
 rw[Rat.natCast_mul,show((4:Nat):Rat)=4 from rfl] at h3
 have h4:=Rat.mul_lt_mul_of_pos_right h3 Jx.iU_pos
 rw[Jx.U_iU] at h4
 unfold mr
 generalize ((M r:Nat):Rat)=x at *
 grind
set_option maxHeartbeats 1000000 in
theorem cyclicT (k n c1 c2 r2:Nat) (a1 a2:Option Addr) (f g:Nat->Int) (w:World) (hk:k<=7) (hn:n=2 ^ k) (hT:TabAt 2 Lib.deBruijn64tab w) (hF:TabF w) (h1:IR w a1 n f) (h2:IR w a2 n g) (ha:gm f n<=9007199254740992) (hb:gm g n<=9007199254740992) (hr:RB k (gm f n) (gm g n) r2) (hq:r2<4598175219545276416) :
  (∀l,l<n->(cvI n f g l n).natAbs<140737488355328)/\Calls Tryz.prog 14 #[.slice a1 n c1,.slice a2 n c2] w fun e w'=>∃q,w.heap.size<=q/\e = .returned (.tuple #[.slice (some ⟨q,0,none⟩) n n,.int .i64 0])/\Hid (OI w' q n n (fun l=>cvI n f g l n))/\Hid (Gr w w'):=by
 obtain⟨H,hH⟩:=ldexp_all (-(k:Int)) (by omega) (by omega)
 have hle:n<=128:=by rw[hn];exact Nat.pow_le_pow_right (n:=2) (by omega) hk
 have hfin:=rb_fin (by omega) ha hb hr
 have sf:∀i,i<n->(f i).natAbs<=9007199254740992:=fun i hi=>Nat.le_trans (gm_le f hi) ha
 have sg:∀i,i<n->(g i).natAbs<=9007199254740992:=fun i hi=>Nat.le_trans (gm_le g hi) hb
 have EX:∀l,l<n->Fi (cyW k H f g l).1/\(vr (cyW k H f g l).1-(cvI n f g l n:Rat))*(vr (cyW k H f g l).1-(cvI n f g l n:Rat))<=225 / 4096/\(cvI n f g l n).natAbs<140737488355328:=by
  obtain⟨p,q1,q2⟩:=hr
  have:=Jx.cyc_exact hk hH (fun i hi=>gm_le f (by rw[hn];exact hi)) (fun i hi=>gm_le g (by rw[hn];exact hi)) ha hb q1 q2 hfin (q_lt hq)
  rw[<-hn] at this
  exact this
 refine⟨fun l hl=>(EX l hl).2.2,?_⟩
 have BD:=hide (boundV k n c1 c2 r2 a1 a2 f g w (by omega) hn hT h1 h2 ha hb hr)
 have TD:Hid (∀w1,Gr w w1->_):=fun w1 gg=>turnedR H k n c1 c2 a1 a2 f g w1 hH (tab_gr hT gg) (hF.gr gg) hk hn (h1.gr gg) (h2.gr gg) sf sg
 have NR:Hid (∀w1 q,TR w1 q n (cyW k H f g)->_):=fun w1 q t=>nearestR n q (cyW k H f g) (fun l=>cvI n f g l n) w1 (by omega) t (fun l hl=>⟨(EX l hl).1,Jx.near_int (EX l hl).1 (by have:=(EX l hl).2.2;omega) (EX l hl).2.1⟩)
 have hqB:qB r2=false:=by rw[qB_eq hfin];exact decide_eq_false (by omega)
 unfold qB at hqB
 clear EX hT hF h1 h2 hr hH sf sg hn ha hb
 generalize cyW k H f g=Z at *
 generalize (fun l=>cvI n f g l n)=C at *
 go_enter Tryz.func14,Tryz.ntmps14
 go_wp2_with (first|(go_at_call 9;(with_reducible refine BD.out.mono ?_);rintro r w1 ⟨rfl,G1⟩)|(go_at_call 28;(with_reducible refine(TD.out _ G1.out).mono ?_);rintro r w2 ⟨q1,e1,rfl,T1,G2⟩)|(go_at_call 29;(with_reducible refine(NR.out _ _ T1.out).mono ?_);rintro r w3 ⟨q2,e2,rfl,O1,G3⟩))
 go_ret2
 have GG:Gr w w2:=G1.out.trans G2.out
 exact⟨q2,Nat.le_trans GG.size e2,rfl,O1,GG.trans G3.out⟩
theorem cyclicB (k n c1 c2 r2:Nat) (a1 a2:Option Addr) (f g:Nat->Int) (w:World) (hk:k<=14) (hn:n=2 ^ k) (hT:TabAt 2 Lib.deBruijn64tab w) (h1:IR w a1 n f) (h2:IR w a2 n g) (ha:gm f n<=9007199254740992) (hb:gm g n<=9007199254740992) (hr:RB k (gm f n) (gm g n) r2) (hq:4598175219545276416<=r2) :
  Calls Tryz.prog 14 #[.slice a1 n c1,.slice a2 n c2] w fun e w'=>e = .returned (.tuple #[.slice none 0 0,.int .i64 8])/\Hid (Gr w w'):=by
 have hfin:=rb_fin hk ha hb hr
 have BD:=hide (boundV k n c1 c2 r2 a1 a2 f g w hk hn hT h1 h2 ha hb hr)
 have hqB:qB r2=true:=by rw[qB_eq hfin];exact decide_eq_true (by omega)
 unfold qB at hqB
 clear hT h1 h2 hr hn ha hb
 go_enter Tryz.func14,Tryz.ntmps14
 go_wp2_with (go_at_call 9;(with_reducible refine BD.out.mono ?_);rintro r w1 ⟨rfl,G1⟩)
 go_ret2
 exact⟨rfl,G1⟩
end Go.Proofs.YtanpdbadfddlcaaGreatDoor.Fl
namespace Go.Proofs.YtanpdbadfddlcaaGreatDoor.Fl
open Go.RowKit
open Ieee
set_option linter.unusedVariables false
set_option maxRecDepth 100000 in
theorem plusW (l h t x y ux uy hi lo mx my h' sg l2 c1 h2 c2 t2:Int) (w:World) (eux:IntKind.u64.wrap x=ux) (euy:IntKind.u64.wrap y=uy) (MU:Hid (∀w,Calls Tryz.prog 84 #[.int .u64 ux,.int .u64 uy] w fun e w'=>e = .returned (.tuple #[.int .u64 hi,.int .u64 lo])/\w'=w))
  (e1:bits .and .u64 (IntKind.u64.wrap (x / 9223372036854775808)) uy=mx) (e2:bits .and .u64 (IntKind.u64.wrap (y / 9223372036854775808)) ux=my) (e3:IntKind.u64.wrap (hi-IntKind.u64.wrap (mx+my))=h') (e4:IntKind.u64.wrap (wrap64 h' / 9223372036854775808)=sg)
  (A1:Hid (∀w,(callFunc 85 #[.int .u64 l,.int .u64 lo,.int .u64 0]).run Tryz.prog w = .ok (.value (.tuple #[.int .u64 l2,.int .u64 c1])) w)) (A2:Hid (∀w,(callFunc 85 #[.int .u64 h,.int .u64 h',.int .u64 c1]).run Tryz.prog w = .ok (.value (.tuple #[.int .u64 h2,.int .u64 c2])) w)) (e5:IntKind.u64.wrap (t+IntKind.u64.wrap (sg+c2))=t2) :
  Calls Tryz.prog 53 #[.agg #[.int .u64 l,.int .u64 h,.int .u64 t],.int .i64 x,.int .i64 y] w fun e w'=>e = .returned (.agg #[.int .u64 l2,.int .u64 h2,.int .u64 t2])/\Hid (Gr w w'):=by
 go_enter Tryz.func53,Tryz.ntmps53
 go_wp2_with (first|(simp only[A1.out])|(simp only[A2.out])|(go_at_call 84;(with_reducible refine(MU.out _).mono ?_);rintro r w1 ⟨rfl,rfl⟩))
 refine bodyPost_ret (v:=.agg #[.int .u64 l2,.int .u64 h2,.int .u64 t2]) ?_ rfl ⟨rfl,gr2 _ _⟩
 simp[results,Tryz.results53,go_sem]
set_option maxRecDepth 100000 in
theorem wholeW (l h t n sg:Int) (w:World) (e1:wrap64 l=n) (e2:IntKind.u64.wrap (n / 9223372036854775808)=sg) :
  Calls Tryz.prog 32 #[.agg #[.int .u64 l,.int .u64 h,.int .u64 t]] w fun e w'=>e = .returned (.tuple #[.int .i64 (if h=sg/\t=sg then n else 0),.bool (decide (h=sg/\t=sg))])/\Hid (Gr w w'):=by
 by_cases h1:h=sg
 ·by_cases h2:t=sg
  ·rw[if_pos ⟨h1,h2⟩,decide_eq_true ⟨h1,h2⟩]
   go_enter Tryz.func32,Tryz.ntmps32
   go_wp2
   go_ret2
   exact⟨by rw[<-e1];rfl,(Gr.refl w).alloc _⟩
  ·rw[if_neg (fun k=>h2 k.2),decide_eq_false (fun k=>h2 k.2)]
   go_enter Tryz.func32,Tryz.ntmps32
   go_wp2
   go_ret2
   exact⟨rfl,(Gr.refl w).alloc _⟩
 ·rw[if_neg (fun k=>h1 k.1),decide_eq_false (fun k=>h1 k.1)]
  go_enter Tryz.func32,Tryz.ntmps32
  go_wp2
  go_ret2
  exact⟨rfl,(Gr.refl w).alloc _⟩
def wv (l h t:Nat):Int:=(l:Int)+18446744073709551616*(h:Int)+340282366920938463463374607431768211456*(t:Int)
theorem and_sign (x:Int) (u:Nat) (hu:u<18446744073709551616) (h1 : -9223372036854775808<=x) (h2:x<9223372036854775808):bits .and .u64 (IntKind.u64.wrap (x / 9223372036854775808)) (u:Int)=if x<0 then (u:Int) else 0:=by
 by_cases h:x<0
 ·have e:x / 9223372036854775808 = -1:=by omega
  have e2:IntKind.u64.wrap (-1)=((18446744073709551615:Nat):Int):=by rw[u64w];rfl
  rw[e,e2,if_pos h,u64_and_nat _ _ (by omega) hu]
  have:18446744073709551615 &&& u=u:=by
   rw[Nat.and_comm,show(18446744073709551615:Nat)=2 ^ 64-1 from rfl,Nat.and_two_pow_sub_one_eq_mod,Nat.mod_eq_of_lt hu]
  rw[this]
 ·have e:x / 9223372036854775808=0:=by omega
  have e2:IntKind.u64.wrap 0=((0:Nat):Int):=by rw[u64w];rfl
  rw[e,e2,if_neg h,u64_and_nat _ _ (by omega) hu,Nat.zero_and];rfl
theorem prod_parts {x y:Int} {ux uy:Nat} (hux:(ux:Int)=x % 18446744073709551616) (huy:(uy:Int)=y % 18446744073709551616) (x1 : -9223372036854775808<=x) (x2:x<9223372036854775808) (y1 : -9223372036854775808<=y) (y2:y<9223372036854775808) :
  x*y=((ux*uy:Nat):Int)-18446744073709551616*(if x<0 then (uy:Int) else 0)-18446744073709551616*(if y<0 then (ux:Int) else 0)+(if x<0/\y<0 then 340282366920938463463374607431768211456 else 0)/\-85070591730234615865843651857942052864<=x*y/\x*y<=85070591730234615865843651857942052864:=by
 have hb:(x*y).natAbs<=9223372036854775808*9223372036854775808:=by
  rw[Int.natAbs_mul];exact Nat.mul_le_mul (by omega) (by omega)
 have e1:((ux*uy:Nat):Int)=(ux:Int)*(uy:Int):=by simp
 rw[e1]
 refine⟨?_,by omega,by omega⟩
 by_cases hx:x<0
 ·have ex:x=(ux:Int)-18446744073709551616:=by omega
  by_cases hy:y<0
  ·have ey:y=(uy:Int)-18446744073709551616:=by omega
   rw[if_pos hx,if_pos hy,if_pos ⟨hx,hy⟩,ex,ey];grind
  ·have ey:y=(uy:Int):=by omega
   rw[if_pos hx,if_neg hy,if_neg (fun k=>hy k.2),ex,ey];grind
 ·have ex:x=(ux:Int):=by omega
  by_cases hy:y<0
  ·have ey:y=(uy:Int)-18446744073709551616:=by omega
   rw[if_neg hx,if_pos hy,if_neg (fun k=>hx k.1),ex,ey];grind
  ·have ey:y=(uy:Int):=by omega
   rw[if_neg hx,if_neg hy,if_neg (fun k=>hx k.1),ex,ey];grind
theorem plus_num {l h t lo hi P h' sg l2 c1 h2 c2 t2:Nat} {mx my xy:Int} (hl:l<18446744073709551616) (hh:h<18446744073709551616) (ht:t<18446744073709551616) (hP:P=hi*18446744073709551616+lo) (hlo:lo<18446744073709551616) (hhi:hi<18446744073709551616)
  (hxy:xy=(P:Int)-18446744073709551616*mx-18446744073709551616*my\/xy=(P:Int)-18446744073709551616*mx-18446744073709551616*my+340282366920938463463374607431768211456) (b1 : -85070591730234615865843651857942052864<=xy) (b2:xy<=85070591730234615865843651857942052864)
  (e3:(h':Int)=((hi:Int)-(mx+my) % 18446744073709551616) % 18446744073709551616) (e4:(sg:Int)=if h'<9223372036854775808 then 0 else 18446744073709551615)
  (a1:l2=(l+lo) % 18446744073709551616) (a2:c1=(l+lo) / 18446744073709551616) (a3:h2=(h+h'+c1) % 18446744073709551616) (a4:c2=(h+h'+c1) / 18446744073709551616) (e5:(t2:Int)=((t:Int)+((sg:Int)+(c2:Int)) % 18446744073709551616) % 18446744073709551616) :
  ∃q:Int,wv l2 h2 t2=wv l h t+xy+6277101735386680763835789423207666416102355444464034512896*q:=by
 have k1:∃q:Int,(lo:Int)+18446744073709551616*(h':Int)+340282366920938463463374607431768211456*(sg:Int)=xy+6277101735386680763835789423207666416102355444464034512896*q:=by
  have hh':h'<18446744073709551616:=by omega
  obtain⟨z,hz⟩:∃z:Int,(h':Int)=(hi:Int)-(mx+my)+18446744073709551616*z:=⟨((h':Int)-((hi:Int)-(mx+my))) / 18446744073709551616,by omega⟩
  by_cases hs:h'<9223372036854775808
  ·rw[if_pos hs] at e4
   refine⟨0,?_⟩
   rcases hxy with hxy|hxy <;> omega
  ·rw[if_neg hs] at e4
   refine⟨1,?_⟩
   rcases hxy with hxy|hxy <;> omega
 obtain⟨q,hq⟩:=k1
 unfold wv
 obtain⟨z,hz⟩:∃z:Int,(t2:Int)=(t:Int)+(sg:Int)+(c2:Int)+18446744073709551616*z:=⟨((t2:Int)-((t:Int)+(sg:Int)+(c2:Int))) / 18446744073709551616,by omega⟩
 refine⟨q+z,?_⟩
 omega
theorem sign_word (h':Nat) (hh:h'<18446744073709551616):IntKind.u64.wrap (wrap64 (h':Int) / 9223372036854775808)=if h'<9223372036854775808 then 0 else 18446744073709551615:=by
 have e6:wrap64 (h':Int)=if h'<9223372036854775808 then (h':Int) else (h':Int)-18446744073709551616:=by
  unfold wrap64;split <;> omega
 rw[u64w,e6]
 by_cases hs:h'<9223372036854775808
 ·rw[if_pos hs,if_pos hs];omega
 ·rw[if_neg hs,if_neg hs];omega
theorem nat_mod (z:Int):∃u:Nat,u<18446744073709551616/\(u:Int)=z % 18446744073709551616:=⟨(z % 18446744073709551616).toNat,by omega,by omega⟩
theorem plusN (l h t:Nat) (x y:Int) (w:World) (hl:l<18446744073709551616) (hh:h<18446744073709551616) (ht:t<18446744073709551616) (x1 : -9223372036854775808<=x) (x2:x<9223372036854775808) (y1 : -9223372036854775808<=y) (y2:y<9223372036854775808) :
  ∃l2 h2 t2:Nat,l2<18446744073709551616/\h2<18446744073709551616/\t2<18446744073709551616/\(∃q:Int,wv l2 h2 t2=wv l h t+x*y+6277101735386680763835789423207666416102355444464034512896*q)/\∀w,Calls Tryz.prog 53 #[.agg #[.int .u64 (l:Int),.int .u64 (h:Int),.int .u64 (t:Int)],.int .i64 x,.int .i64 y] w fun e w'=>e = .returned (.agg #[.int .u64 (l2:Int),.int .u64 (h2:Int),.int .u64 (t2:Int)])/\Hid (Gr w w'):=by
 obtain⟨ux,hux,eux⟩:=nat_mod x
 obtain⟨uy,huy,euy⟩:=nat_mod y
 have PP:=hide (prod_parts eux euy x1 x2 y1 y2)
 have MU:Hid (∀w,Calls Tryz.prog 84 #[.int .u64 (ux:Int),.int .u64 (uy:Int)] w fun e w'=>e = .returned (.tuple #[.int .u64 ((ux*uy / 18446744073709551616:Nat):Int),.int .u64 ((ux*uy % 18446744073709551616:Nat):Int)])/\w'=w):=fun w=>Tryz.bits_Mul64 ux uy hux huy w
 have hPlt:ux*uy / 18446744073709551616<18446744073709551616:=by
  rw[Nat.div_lt_iff_lt_mul (by omega)]
  exact Nat.mul_lt_mul'' hux huy
 have hPdm:=(Nat.div_add_mod (ux*uy) 18446744073709551616).symm
 rw[Nat.mul_comm 18446744073709551616] at hPdm
 have hPm:=Nat.mod_lt (ux*uy) (show 0<18446744073709551616 by omega)
 have F1:=hide (and_sign x uy huy x1 x2)
 have F2:=hide (and_sign y ux hux y1 y2)
 obtain⟨mx,hmx⟩:∃mx:Int,mx=if x<0 then (uy:Int) else 0:=⟨_,rfl⟩
 obtain⟨my,hmy⟩:∃my:Int,my=if y<0 then (ux:Int) else 0:=⟨_,rfl⟩
 rw[<-hmx] at F1 PP
 rw[<-hmy] at F2 PP
 clear hmx hmy
 generalize ux*uy / 18446744073709551616=hi at *
 generalize ux*uy % 18446744073709551616=lo at *
 generalize ux*uy=P at *
 obtain⟨h',hh',e3⟩:=nat_mod ((hi:Int)-(mx+my) % 18446744073709551616)
 have E4:=hide (sign_word h' hh')
 obtain⟨sg,e4⟩:∃sg:Nat,(sg:Int)=if h'<9223372036854775808 then 0 else 18446744073709551615:=⟨if h'<9223372036854775808 then 0 else 18446744073709551615,by split <;> rfl⟩
 rw[<-e4] at E4
 have hc1:(l+lo) / 18446744073709551616<=1:=by omega
 obtain⟨t2,ht2,e5⟩:=nat_mod ((t:Int)+((sg:Int)+(((h+h'+(l+lo) / 18446744073709551616) / 18446744073709551616:Nat):Int)) % 18446744073709551616)
 have A1:Hid (∀w,(callFunc 85 #[.int .u64 (l:Int),.int .u64 (lo:Int),.int .u64 0]).run Tryz.prog w = .ok (.value (.tuple #[.int .u64 (((l+lo) % 18446744073709551616:Nat):Int),.int .u64 (((l+lo) / 18446744073709551616:Nat):Int)])) w):=fun w=>add64N l lo 0 (by omega) w
 have A2:Hid (∀w,(callFunc 85 #[.int .u64 (h:Int),.int .u64 (h':Int),.int .u64 (((l+lo) / 18446744073709551616:Nat):Int)]).run Tryz.prog w = .ok (.value (.tuple #[.int .u64 (((h+h'+(l+lo) / 18446744073709551616) % 18446744073709551616:Nat):Int),.int .u64 (((h+h'+(l+lo) / 18446744073709551616) / 18446744073709551616:Nat):Int)])) w):=fun w=>add64N h h' _ hc1 w
 refine⟨(l+lo) % 18446744073709551616,(h+h'+(l+lo) / 18446744073709551616) % 18446744073709551616,t2,Nat.mod_lt _ (by decide),Nat.mod_lt _ (by decide),ht2,?_,fun w=>?_⟩
 ·obtain⟨pe,b1,b2⟩:=PP.out
  refine plus_num (P:=P) (hi:=hi) (lo:=lo) (mx:=mx) (my:=my) hl hh ht hPdm hPm hPlt ?_ b1 b2 e3 e4 rfl rfl rfl rfl e5
  by_cases hb:x<0/\y<0
  ·rw[if_pos hb] at pe;exact Or.inr pe
  ·rw[if_neg hb,Int.add_zero] at pe;exact Or.inl pe
 ·exact plusW l h t x y ux uy hi lo mx my h' sg _ _ _ _ t2 w (by rw[u64w];exact eux.symm) (by rw[u64w];exact euy.symm) MU F1.out F2.out (by rw[u64w,u64w];exact e3.symm) E4.out A1 A2 (by rw[u64w,u64w];exact e5.symm)
end Go.Proofs.YtanpdbadfddlcaaGreatDoor.Fl
