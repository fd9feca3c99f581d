import Derived.Test.YtibckeckjfmbkaaGreatDoorM38
namespace Go.Proofs.YtibckeckjfmbkaaGreatDoor.Fl
open Go.RowKit
open Ieee
open Go.Proofs.YtibckeckjfmbkaaGreatDoor.Jx (Fi FiZ vr vz fw Rc cyW fiZ fi cvI mr)
set_option linter.unusedVariables false
def RB (k A B r2:Nat):Prop:=∃p,RingR k (ofN A) (ofN B) p/\DirUp (M p+M 103582791429521408) 1 r2
theorem rb_one {k A B r r':Nat} (h:RB k A B r) (h':RB k A B r'):r=r':=by
 obtain⟨p,h1,h2⟩:=h
 obtain⟨p',h1',h2'⟩:=h'
 obtain rfl:=ring_one h1 h1'
 exact dirUp_one (by omega) h2 h2'
theorem rb_fin {k A B r:Nat} (hk:k<=14) (hA:A<=9007199254740992) (hB:B<=9007199254740992) (h:RB k A B r):r<9218868437227405312:=by
 obtain⟨p,h1,h2⟩:=h
 exact ring_fin hk (ofN_le53 hA) (ofN_le53 hB) h1 h2
theorem rb_ex {k A B:Nat} (hk:k<=14) (hA:A<=9007199254740992) (hB:B<=9007199254740992):∃r,RB k A B r:=by
 have u2:=(uB_at k hk).2
 have s2:=(sq_at k hk).2.2
 have oa:=ofN_le53 hA
 have ob:=ofN_le53 hB
 obtain⟨p1,d1⟩:=mul_ex (uB.getD k 0) (sqT.getD k 0) (by omega) (by omega)
 have q1:p1<=4499096027743125504:=dirUp_le d1 U_pos (Nat.le_trans (Nat.mul_le_mul (M_le u2) (M_le s2)) c24)
 obtain⟨p2,d2⟩:=mul_ex p1 (ofN A) (by omega) (by omega)
 have q2:p2<=8552335692376571904:=dirUp_le d2 U_pos (Nat.le_trans (Nat.mul_le_mul (M_le q1) (M_le (show ofN A<=8660422083433463808 by omega))) c876)
 obtain⟨p,d3⟩:=mul_ex p2 (ofN B) (by omega) (by omega)
 have q3:p<=8795530072254578688:=dirUp_le d3 U_pos (Nat.le_trans (Nat.mul_le_mul (M_le q2) (M_le ob)) c929)
 obtain⟨r,d4⟩:=up_ex p (by omega)
 exact⟨r,p,⟨p1,p2,d1,d2,d3,by omega,by omega⟩,d4⟩
theorem boundV (k n c1 c2 r2:Nat) (a1 a2:Option Addr) (f g:Nat->Int) (w:World) (hk:k<=14) (hn:n=2 ^ k) (hT:TabAt 2 Lib.deBruijn64tab w) (h1:IR w a1 n f) (h2:IR w a2 n g) (ha:gm f n<=9007199254740992) (hb:gm g n<=9007199254740992) (hr:RB k (gm f n) (gm g n) r2) :
  Calls Tryz.prog 15 #[.slice a1 n c1,.slice a2 n c2] w fun e w'=>e = .returned (.tuple #[.float .f64 r2,.int .i64 0])/\Hid (Gr w w'):=by
 refine(boundR k n c1 c2 a1 a2 f g w hk hn hT h1 h2 ha hb).mono ?_
 rintro e w' ⟨p,r,q1,q2,q3,rfl,q4⟩
 obtain rfl:=rb_one ⟨p,q1,q2⟩ hr
 exact⟨rfl,q4⟩
theorem boundO (k n c1 c2:Nat) (a1 a2:Option Addr) (f g:Nat->Int) (w:World) (hk:k<=14) (hn:n=2 ^ k) (hT:TabAt 2 Lib.deBruijn64tab w) (h1:IR w a1 n f) (h2:IR w a2 n g) (ho:¬(gm f n<=9007199254740992/\gm g n<=9007199254740992)) :
  Calls Tryz.prog 15 #[.slice a1 n c1,.slice a2 n c2] w fun e w'=>e = .returned (.tuple #[.float .f64 0,.int .i64 6])/\Hid (Gr w w'):=by
 have hle:n<=16384:=by rw[hn];exact Nat.pow_le_pow_right (n:=2) (by omega) hk
 have OO:=hide (orderOfR k n c1 c2 a1 a2 w hk hn hT)
 have GA:=hide (greatestR a1 n c1 f w h1 (by omega))
 have GB:=hide (greatestR a2 n c2 g w h2 (by omega))
 have m1:max ((gm f n:Nat):Int) ((gm g n:Nat):Int)>9007199254740992:=by omega
 have m2:(if ((gm g n:Nat):Int)>((gm f n:Nat):Int) then ((gm g n:Nat):Int) else ((gm f n:Nat):Int))>9007199254740992:=by split <;> omega
 clear hn hT h1 h2 ho
 generalize gm f n=A at *
 generalize gm g n=B at *
 go_enter Tryz.func15,Tryz.ntmps15
 go_wp2_with (first|(go_at_call 27;(with_reducible refine OO.out.mono ?_);rintro r w1 ⟨rfl,rfl⟩)|(go_at_call 28;(with_reducible refine GA.out.mono ?_);rintro r w1 ⟨rfl,rfl⟩)|(go_at_call 28;(with_reducible refine GB.out.mono ?_);rintro r w1 ⟨rfl,rfl⟩))
 all_goals
  go_ret2
  exact⟨rfl,Gr.refl _⟩
def qB (r:Nat):Bool:=FloatKind.f64.format.order r 4598175219545276416==some .gt || FloatKind.f64.format.order r 4598175219545276416==some .eq
theorem qB_eq {r:Nat} (h:r<9218868437227405312):qB r=decide (4598175219545276416<=r):=by
 have h1:=order_W false false r 4598175219545276416 (by omega) (by omega)
 rw[W_false,W_false] at h1
 unfold qB
 rw[f64_format,h1]
 unfold val
 simp only[Bool.false_eq_true,if_false]
 rcases Nat.lt_trichotomy r 4598175219545276416 with h2|h2|h2
 ·have:=M_lt h2
  rw[compare_lt (by omega),decide_eq_false (by omega)];rfl
 ·subst h2;rw[compare_eq rfl];rfl
 ·have:=M_lt h2
  rw[compare_gt (by omega),decide_eq_true (by omega)];rfl
theorem quarter:M 4598175219545276416*4=U:=by decide +kernel
theorem q_lt {r:Nat} (h:r<4598175219545276416):mr r<1 / 4:=by
 have h1:=M_lt h
 have h2:M r*4<U:=by have:=quarter;omega
 have h3:=Er.cast_lt h2
 rw[Rat.natCast_mul,show((4:Nat):Rat)=4 from rfl] at h3
 have h4:=Rat.mul_lt_mul_of_pos_right h3 Jx.iU_pos
 rw[Jx.U_iU] at h4
 unfold mr
 generalize ((M r:Nat):Rat)=x at *
 grind
set_option maxHeartbeats 1000000 in
theorem cyclicT (k n c1 c2 r2:Nat) (a1 a2:Option Addr) (f g:Nat->Int) (w:World) (hk:k<=7) (hn:n=2 ^ k) (hT:TabAt 2 Lib.deBruijn64tab w) (hF:TabF w) (h1:IR w a1 n f) (h2:IR w a2 n g) (ha:gm f n<=9007199254740992) (hb:gm g n<=9007199254740992) (hr:RB k (gm f n) (gm g n) r2) (hq:r2<4598175219545276416) :
  (∀l,l<n->(cvI n f g l n).natAbs<140737488355328)/\Calls Tryz.prog 10 #[.slice a1 n c1,.slice a2 n c2] w fun e w'=>∃q,w.heap.size<=q/\e = .returned (.tuple #[.slice (some ⟨q,0,none⟩) n n,.int .i64 0])/\Hid (OI w' q n n (fun l=>cvI n f g l n))/\Hid (Gr w w'):=by
 obtain⟨H,hH⟩:=ldexp_all (-(k:Int)) (by omega) (by omega)
 have hle:n<=128:=by rw[hn];exact Nat.pow_le_pow_right (n:=2) (by omega) hk
 have hfin:=rb_fin (by omega) ha hb hr
 have sf:∀i,i<n->(f i).natAbs<=9007199254740992:=fun i hi=>Nat.le_trans (gm_le f hi) ha
 have sg:∀i,i<n->(g i).natAbs<=9007199254740992:=fun i hi=>Nat.le_trans (gm_le g hi) hb
 have EX:∀l,l<n->Fi (cyW k H f g l).1/\(vr (cyW k H f g l).1-(cvI n f g l n:Rat))*(vr (cyW k H f g l).1-(cvI n f g l n:Rat))<=225 / 4096/\(cvI n f g l n).natAbs<140737488355328:=by
  obtain⟨p,q1,q2⟩:=hr
  have:=Jx.cyc_exact hk hH (fun i hi=>gm_le f (by rw[hn];exact hi)) (fun i hi=>gm_le g (by rw[hn];exact hi)) ha hb q1 q2 hfin (q_lt hq)
  rw[<-hn] at this
  exact this
 refine⟨fun l hl=>(EX l hl).2.2,?_⟩
 have BD:=hide (boundV k n c1 c2 r2 a1 a2 f g w (by omega) hn hT h1 h2 ha hb hr)
 have TD:Hid (∀w1,Gr w w1->_):=fun w1 gg=>turnedR H k n c1 c2 a1 a2 f g w1 hH (tab_gr hT gg) (hF.gr gg) hk hn (h1.gr gg) (h2.gr gg) sf sg
 have NR:Hid (∀w1 q,TR w1 q n (cyW k H f g)->_):=fun w1 q t=>nearestR n q (cyW k H f g) (fun l=>cvI n f g l n) w1 (by omega) t (fun l hl=>⟨(EX l hl).1,Jx.near_int (EX l hl).1 (by have:=(EX l hl).2.2;omega) (EX l hl).2.1⟩)
 have hqB:qB r2=false:=by rw[qB_eq hfin];exact decide_eq_false (by omega)
 unfold qB at hqB
 clear EX hT hF h1 h2 hr hH sf sg hn ha hb
 generalize cyW k H f g=Z at *
 generalize (fun l=>cvI n f g l n)=C at *
 go_enter Tryz.func10,Tryz.ntmps10
 go_wp2_with (first|(go_at_call 15;(with_reducible refine BD.out.mono ?_);rintro r w1 ⟨rfl,G1⟩)|(go_at_call 23;(with_reducible refine(TD.out _ G1.out).mono ?_);rintro r w2 ⟨q1,e1,rfl,T1,G2⟩)|(go_at_call 24;(with_reducible refine(NR.out _ _ T1.out).mono ?_);rintro r w3 ⟨q2,e2,rfl,O1,G3⟩))
 go_ret2
 have GG:Gr w w2:=G1.out.trans G2.out
 exact⟨q2,Nat.le_trans GG.size e2,rfl,O1,GG.trans G3.out⟩
theorem cyclicB (k n c1 c2 r2:Nat) (a1 a2:Option Addr) (f g:Nat->Int) (w:World) (hk:k<=14) (hn:n=2 ^ k) (hT:TabAt 2 Lib.deBruijn64tab w) (h1:IR w a1 n f) (h2:IR w a2 n g) (ha:gm f n<=9007199254740992) (hb:gm g n<=9007199254740992) (hr:RB k (gm f n) (gm g n) r2) (hq:4598175219545276416<=r2) :
  Calls Tryz.prog 10 #[.slice a1 n c1,.slice a2 n c2] w fun e w'=>e = .returned (.tuple #[.slice none 0 0,.int .i64 8])/\Hid (Gr w w'):=by
 have hfin:=rb_fin hk ha hb hr
 have BD:=hide (boundV k n c1 c2 r2 a1 a2 f g w hk hn hT h1 h2 ha hb hr)
 have hqB:qB r2=true:=by rw[qB_eq hfin];exact decide_eq_true (by omega)
 unfold qB at hqB
 clear hT h1 h2 hr hn ha hb
 go_enter Tryz.func10,Tryz.ntmps10
 go_wp2_with (go_at_call 15;(with_reducible refine BD.out.mono ?_);rintro r w1 ⟨rfl,G1⟩)
 go_ret2
 exact⟨rfl,G1⟩
theorem cyclicE (n m c1 c2:Nat) (c:Int) (a1 a2:Option Addr) (w:World) (hc:(c != 0)=true) (BD:Hid (Calls Tryz.prog 15 #[.slice a1 n c1,.slice a2 m c2] w fun e w'=>e = .returned (.tuple #[.float .f64 0,.int .i64 c])/\Hid (Gr w w'))) :
  Calls Tryz.prog 10 #[.slice a1 n c1,.slice a2 m c2] w fun e w'=>e = .returned (.tuple #[.slice none 0 0,.int .i64 c])/\Hid (Gr w w'):=by
 go_enter Tryz.func10,Tryz.ntmps10
 go_wp2_with (go_at_call 15;(with_reducible refine BD.out.mono ?_);rintro r w1 ⟨rfl,G1⟩)
 go_ret2
 exact⟨rfl,G1⟩
end Go.Proofs.YtibckeckjfmbkaaGreatDoor.Fl
namespace Go.Proofs.YtibckeckjfmbkaaGreatDoor.Fl
open Go.RowKit
open Ieee
set_option linter.unusedVariables false
set_option maxRecDepth 100000 in
theorem plusW (l h t x y ux uy hi lo mx my h' sg l2 c1 h2 c2 t2:Int) (w:World) (eux:IntKind.u64.wrap x=ux) (euy:IntKind.u64.wrap y=uy) (MU:Hid (∀w,Calls Tryz.prog 74 #[.int .u64 ux,.int .u64 uy] w fun e w'=>e = .returned (.tuple #[.int .u64 hi,.int .u64 lo])/\w'=w))
  (e1:bits .and .u64 (IntKind.u64.wrap (x / 9223372036854775808)) uy=mx) (e2:bits .and .u64 (IntKind.u64.wrap (y / 9223372036854775808)) ux=my) (e3:IntKind.u64.wrap (hi-IntKind.u64.wrap (mx+my))=h') (e4:IntKind.u64.wrap (wrap64 h' / 9223372036854775808)=sg)
  (A1:Hid (∀w,(callFunc 75 #[.int .u64 l,.int .u64 lo,.int .u64 0]).run Tryz.prog w = .ok (.value (.tuple #[.int .u64 l2,.int .u64 c1])) w)) (A2:Hid (∀w,(callFunc 75 #[.int .u64 h,.int .u64 h',.int .u64 c1]).run Tryz.prog w = .ok (.value (.tuple #[.int .u64 h2,.int .u64 c2])) w)) (e5:IntKind.u64.wrap (t+IntKind.u64.wrap (sg+c2))=t2) :
  Calls Tryz.prog 46 #[.agg #[.int .u64 l,.int .u64 h,.int .u64 t],.int .i64 x,.int .i64 y] w fun e w'=>e = .returned (.agg #[.int .u64 l2,.int .u64 h2,.int .u64 t2])/\Hid (Gr w w'):=by
 go_enter Tryz.func46,Tryz.ntmps46
 go_wp2_with (first|(simp only[A1.out])|(simp only[A2.out])|(go_at_call 74;(with_reducible refine(MU.out _).mono ?_);rintro r w1 ⟨rfl,rfl⟩))
 refine bodyPost_ret (v:=.agg #[.int .u64 l2,.int .u64 h2,.int .u64 t2]) ?_ rfl ⟨rfl,gr2 _ _⟩
 simp[results,Tryz.results46,go_sem]
set_option maxRecDepth 100000 in
theorem wholeW (l h t n sg:Int) (w:World) (e1:wrap64 l=n) (e2:IntKind.u64.wrap (n / 9223372036854775808)=sg) :
  Calls Tryz.prog 31 #[.agg #[.int .u64 l,.int .u64 h,.int .u64 t]] w fun e w'=>e = .returned (.tuple #[.int .i64 (if h=sg/\t=sg then n else 0),.bool (decide (h=sg/\t=sg))])/\Hid (Gr w w'):=by
 by_cases h1:h=sg
 ·by_cases h2:t=sg
  ·rw[if_pos ⟨h1,h2⟩,decide_eq_true ⟨h1,h2⟩]
   go_enter Tryz.func31,Tryz.ntmps31
   go_wp2
   go_ret2
   exact⟨by rw[<-e1];rfl,(Gr.refl w).alloc _⟩
  ·rw[if_neg (fun k=>h2 k.2),decide_eq_false (fun k=>h2 k.2)]
   go_enter Tryz.func31,Tryz.ntmps31
   go_wp2
   go_ret2
   exact⟨rfl,(Gr.refl w).alloc _⟩
 ·rw[if_neg (fun k=>h1 k.1),decide_eq_false (fun k=>h1 k.1)]
  go_enter Tryz.func31,Tryz.ntmps31
  go_wp2
  go_ret2
  exact⟨rfl,(Gr.refl w).alloc _⟩
def wv (l h t:Nat):Int:=(l:Int)+18446744073709551616*(h:Int)+340282366920938463463374607431768211456*(t:Int)
theorem and_sign (x:Int) (u:Nat) (hu:u<18446744073709551616) (h1 : -9223372036854775808<=x) (h2:x<9223372036854775808):bits .and .u64 (IntKind.u64.wrap (x / 9223372036854775808)) (u:Int)=if x<0 then (u:Int) else 0:=by
 by_cases h:x<0
 ·have e:x / 9223372036854775808 = -1:=by omega
  have e2:IntKind.u64.wrap (-1)=((18446744073709551615:Nat):Int):=by rw[u64w];rfl
  rw[e,e2,if_pos h,u64_and_nat _ _ (by omega) hu]
  have:18446744073709551615 &&& u=u:=by
   rw[Nat.and_comm,show(18446744073709551615:Nat)=2 ^ 64-1 from rfl,Nat.and_two_pow_sub_one_eq_mod,Nat.mod_eq_of_lt hu]
  rw[this]
 ·have e:x / 9223372036854775808=0:=by omega
  have e2:IntKind.u64.wrap 0=((0:Nat):Int):=by rw[u64w];rfl
  rw[e,e2,if_neg h,u64_and_nat _ _ (by omega) hu,Nat.zero_and];rfl
theorem prod_parts {x y:Int} {ux uy:Nat} (hux:(ux:Int)=x % 18446744073709551616) (huy:(uy:Int)=y % 18446744073709551616) (x1 : -9223372036854775808<=x) (x2:x<9223372036854775808) (y1 : -9223372036854775808<=y) (y2:y<9223372036854775808) :
  x*y=((ux*uy:Nat):Int)-18446744073709551616*(if x<0 then (uy:Int) else 0)-18446744073709551616*(if y<0 then (ux:Int) else 0)+(if x<0/\y<0 then 340282366920938463463374607431768211456 else 0)/\-85070591730234615865843651857942052864<=x*y/\x*y<=85070591730234615865843651857942052864:=by
 have hb:(x*y).natAbs<=9223372036854775808*9223372036854775808:=by
  rw[Int.natAbs_mul];exact Nat.mul_le_mul (by omega) (by omega)
 have e1:((ux*uy:Nat):Int)=(ux:Int)*(uy:Int):=by simp
 rw[e1]
 refine⟨?_,by omega,by omega⟩
 by_cases hx:x<0
 ·have ex:x=(ux:Int)-18446744073709551616:=by omega
  by_cases hy:y<0
  ·have ey:y=(uy:Int)-18446744073709551616:=by omega
   rw[if_pos hx,if_pos hy,if_pos ⟨hx,hy⟩,ex,ey];grind
  ·have ey:y=(uy:Int):=by omega
   rw[if_pos hx,if_neg hy,if_neg (fun k=>hy k.2),ex,ey];grind
 ·have ex:x=(ux:Int):=by omega
  by_cases hy:y<0
  ·have ey:y=(uy:Int)-18446744073709551616:=by omega
   rw[if_neg hx,if_pos hy,if_neg (fun k=>hx k.1),ex,ey];grind
  ·have ey:y=(uy:Int):=by omega
   rw[if_neg hx,if_neg hy,if_neg (fun k=>hx k.1),ex,ey];grind
theorem plus_num {l h t lo hi P h' sg l2 c1 h2 c2 t2:Nat} {mx my xy:Int} (hl:l<18446744073709551616) (hh:h<18446744073709551616) (ht:t<18446744073709551616) (hP:P=hi*18446744073709551616+lo) (hlo:lo<18446744073709551616) (hhi:hi<18446744073709551616)
  (hxy:xy=(P:Int)-18446744073709551616*mx-18446744073709551616*my\/xy=(P:Int)-18446744073709551616*mx-18446744073709551616*my+340282366920938463463374607431768211456) (b1 : -85070591730234615865843651857942052864<=xy) (b2:xy<=85070591730234615865843651857942052864)
  (e3:(h':Int)=((hi:Int)-(mx+my) % 18446744073709551616) % 18446744073709551616) (e4:(sg:Int)=if h'<9223372036854775808 then 0 else 18446744073709551615)
  (a1:l2=(l+lo) % 18446744073709551616) (a2:c1=(l+lo) / 18446744073709551616) (a3:h2=(h+h'+c1) % 18446744073709551616) (a4:c2=(h+h'+c1) / 18446744073709551616) (e5:(t2:Int)=((t:Int)+((sg:Int)+(c2:Int)) % 18446744073709551616) % 18446744073709551616) :
  ∃q:Int,wv l2 h2 t2=wv l h t+xy+6277101735386680763835789423207666416102355444464034512896*q:=by
 have k1:∃q:Int,(lo:Int)+18446744073709551616*(h':Int)+340282366920938463463374607431768211456*(sg:Int)=xy+6277101735386680763835789423207666416102355444464034512896*q:=by
  have hh':h'<18446744073709551616:=by omega
  obtain⟨z,hz⟩:∃z:Int,(h':Int)=(hi:Int)-(mx+my)+18446744073709551616*z:=⟨((h':Int)-((hi:Int)-(mx+my))) / 18446744073709551616,by omega⟩
  by_cases hs:h'<9223372036854775808
  ·rw[if_pos hs] at e4
   refine⟨0,?_⟩
   rcases hxy with hxy|hxy <;> omega
  ·rw[if_neg hs] at e4
   refine⟨1,?_⟩
   rcases hxy with hxy|hxy <;> omega
 obtain⟨q,hq⟩:=k1
 unfold wv
 obtain⟨z,hz⟩:∃z:Int,(t2:Int)=(t:Int)+(sg:Int)+(c2:Int)+18446744073709551616*z:=⟨((t2:Int)-((t:Int)+(sg:Int)+(c2:Int))) / 18446744073709551616,by omega⟩
 refine⟨q+z,?_⟩
 omega
theorem sign_word (h':Nat) (hh:h'<18446744073709551616):IntKind.u64.wrap (wrap64 (h':Int) / 9223372036854775808)=if h'<9223372036854775808 then 0 else 18446744073709551615:=by
 have e6:wrap64 (h':Int)=if h'<9223372036854775808 then (h':Int) else (h':Int)-18446744073709551616:=by
  unfold wrap64;split <;> omega
 rw[u64w,e6]
 by_cases hs:h'<9223372036854775808
 ·rw[if_pos hs,if_pos hs];omega
 ·rw[if_neg hs,if_neg hs];omega
theorem nat_mod (z:Int):∃u:Nat,u<18446744073709551616/\(u:Int)=z % 18446744073709551616:=⟨(z % 18446744073709551616).toNat,by omega,by omega⟩
theorem plusN (l h t:Nat) (x y:Int) (w:World) (hl:l<18446744073709551616) (hh:h<18446744073709551616) (ht:t<18446744073709551616) (x1 : -9223372036854775808<=x) (x2:x<9223372036854775808) (y1 : -9223372036854775808<=y) (y2:y<9223372036854775808) :
  ∃l2 h2 t2:Nat,l2<18446744073709551616/\h2<18446744073709551616/\t2<18446744073709551616/\(∃q:Int,wv l2 h2 t2=wv l h t+x*y+6277101735386680763835789423207666416102355444464034512896*q)/\∀w,Calls Tryz.prog 46 #[.agg #[.int .u64 (l:Int),.int .u64 (h:Int),.int .u64 (t:Int)],.int .i64 x,.int .i64 y] w fun e w'=>e = .returned (.agg #[.int .u64 (l2:Int),.int .u64 (h2:Int),.int .u64 (t2:Int)])/\Hid (Gr w w'):=by
 obtain⟨ux,hux,eux⟩:=nat_mod x
 obtain⟨uy,huy,euy⟩:=nat_mod y
 have PP:=hide (prod_parts eux euy x1 x2 y1 y2)
 have MU:Hid (∀w,Calls Tryz.prog 74 #[.int .u64 (ux:Int),.int .u64 (uy:Int)] w fun e w'=>e = .returned (.tuple #[.int .u64 ((ux*uy / 18446744073709551616:Nat):Int),.int .u64 ((ux*uy % 18446744073709551616:Nat):Int)])/\w'=w):=fun w=>Tryz.bits_Mul64 ux uy hux huy w
 have hPlt:ux*uy / 18446744073709551616<18446744073709551616:=by
  rw[Nat.div_lt_iff_lt_mul (by omega)]
  exact Nat.mul_lt_mul'' hux huy
 have hPdm:=(Nat.div_add_mod (ux*uy) 18446744073709551616).symm
 rw[Nat.mul_comm 18446744073709551616] at hPdm
 have hPm:=Nat.mod_lt (ux*uy) (show 0<18446744073709551616 by omega)
 have F1:=hide (and_sign x uy huy x1 x2)
 have F2:=hide (and_sign y ux hux y1 y2)
 obtain⟨mx,hmx⟩:∃mx:Int,mx=if x<0 then (uy:Int) else 0:=⟨_,rfl⟩
 obtain⟨my,hmy⟩:∃my:Int,my=if y<0 then (ux:Int) else 0:=⟨_,rfl⟩
 rw[<-hmx] at F1 PP
 rw[<-hmy] at F2 PP
 clear hmx hmy
 generalize ux*uy / 18446744073709551616=hi at *
 generalize ux*uy % 18446744073709551616=lo at *
 generalize ux*uy=P at *
 obtain⟨h',hh',e3⟩:=nat_mod ((hi:Int)-(mx+my) % 18446744073709551616)
 have E4:=hide (sign_word h' hh')
 obtain⟨sg,e4⟩:∃sg:Nat,(sg:Int)=if h'<9223372036854775808 then 0 else 18446744073709551615:=⟨if h'<9223372036854775808 then 0 else 18446744073709551615,by split <;> rfl⟩
 rw[<-e4] at E4
 have hc1:(l+lo) / 18446744073709551616<=1:=by omega
 obtain⟨t2,ht2,e5⟩:=nat_mod ((t:Int)+((sg:Int)+(((h+h'+(l+lo) / 18446744073709551616) / 18446744073709551616:Nat):Int)) % 18446744073709551616)
 have A1:Hid (∀w,(callFunc 75 #[.int .u64 (l:Int),.int .u64 (lo:Int),.int .u64 0]).run Tryz.prog w = .ok (.value (.tuple #[.int .u64 (((l+lo) % 18446744073709551616:Nat):Int),.int .u64 (((l+lo) / 18446744073709551616:Nat):Int)])) w):=fun w=>add64N l lo 0 (by omega) w
 have A2:Hid (∀w,(callFunc 75 #[.int .u64 (h:Int),.int .u64 (h':Int),.int .u64 (((l+lo) / 18446744073709551616:Nat):Int)]).run Tryz.prog w = .ok (.value (.tuple #[.int .u64 (((h+h'+(l+lo) / 18446744073709551616) % 18446744073709551616:Nat):Int),.int .u64 (((h+h'+(l+lo) / 18446744073709551616) / 18446744073709551616:Nat):Int)])) w):=fun w=>add64N h h' _ hc1 w
 refine⟨(l+lo) % 18446744073709551616,(h+h'+(l+lo) / 18446744073709551616) % 18446744073709551616,t2,Nat.mod_lt _ (by decide),Nat.mod_lt _ (by decide),ht2,?_,fun w=>?_⟩
 ·obtain⟨pe,b1,b2⟩:=PP.out
  refine plus_num (P:=P) (hi:=hi) (lo:=lo) (mx:=mx) (my:=my) hl hh ht hPdm hPm hPlt ?_ b1 b2 e3 e4 rfl rfl rfl rfl e5
  by_cases hb:x<0/\y<0
  ·rw[if_pos hb] at pe;exact Or.inr pe
  ·rw[if_neg hb,Int.add_zero] at pe;exact Or.inl pe
 ·exact plusW l h t x y ux uy hi lo mx my h' sg _ _ _ _ t2 w (by rw[u64w];exact eux.symm) (by rw[u64w];exact euy.symm) MU F1.out F2.out (by rw[u64w,u64w];exact e3.symm) E4.out A1 A2 (by rw[u64w,u64w];exact e5.symm)
end Go.Proofs.YtibckeckjfmbkaaGreatDoor.Fl
