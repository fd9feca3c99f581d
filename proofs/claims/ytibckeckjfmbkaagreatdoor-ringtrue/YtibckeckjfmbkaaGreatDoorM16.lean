import Derived.Test.YtibckeckjfmbkaaGreatDoorM15
import Derived.Test.YtibckeckjfmbkaaGreatDoorM08
namespace Go.Proofs.YtibckeckjfmbkaaGreatDoor
open Go.RowKit
set_option linter.unusedVariables false
set_option maxHeartbeats 1600000 in
theorem nearest48z (ad:Option Addr) (n cap x k:Nat) (b:Int) (w:World) (hx:Lim w ad n cap 18446744073709551616 x) (b1:n<=1099511627776) (hb:b = -(k:Int)) (hk:k<=68719476736) (hv:x*2 ^ k<18446744073709551616) (x0:0<x) :
  Calls Tryz.prog 153 #[.slice ad n cap,.int .i64 b] w fun r w'=>r = .returned (.int .u64 ((x*2 ^ k:Nat):Int))/\Gr w w':=by
 have H42:Hid (Calls Tryz.prog 163 #[.slice ad n cap,.int .i64 (-b)] w fun r w'=>∃p o cap',r = .returned (.slice (some ⟨p,o,none⟩) 1 cap')/\1<=cap'/\cap'<=9223372036854775807/\w'.cell? ⟨p,o,none⟩=some (.int .u64 ((x*2 ^ k:Nat):Int))/\Gr w w'):=by
  rw[show -b=(k:Int) by omega]
  refine Calls.mono (shift42 ad n cap x k w hx b1 hk) ?_
  rintro r w' ⟨a,m,c,rfl,h2,h3,h4⟩
  have hp:0<x*2 ^ k:=Nat.mul_pos x0 (Nat.two_pow_pos k)
  rcases lim_head h3 hv with ⟨h,_⟩|⟨_,rfl,p,o,rfl,h5,h6,h7⟩
  ·omega
  ·exact⟨p,o,c,rfl,h5,h6,h7,h4⟩
 have hb0:¬b>0:=by omega
 have hb1 : -68719476736<=b:=by omega
 clear hx hb
 generalize x*2 ^ k=v at *
 go_enter Tryz.func153,Tryz.ntmps153
 go_wp2_with (go_at_call 163;(with_reducible refine H42.out.mono ?_);rintro r w1 ⟨p,o,c1,rfl,hc,hm,hcell,g1⟩)
 go_ret
 exact⟨rfl,g1⟩
set_option maxHeartbeats 3200000 in
theorem float22p (ad:Option Addr) (n cap x N Y:Nat) (e last:Int) (w:World) (dx:DyAt w false ad (n+1) cap e x) (x0:0<x) (hlast:max ((bl x:Int)+e-53) (-1074)=last)
  (H48:Hid (∀w1,Gr w w1->Calls Tryz.prog 153 #[.slice ad (n+1) cap,.int .i64 (last-e)] w1 fun r w'=>r = .returned (.int .u64 (N:Int))/\Gr w1 w'))
  (A46:Hid (∀w,Calls Tryz.prog 43 #[.float .f64 (floatOfInt FloatKind.f64 (N:Int)),.int .i64 last] w fun e w'=>e = .returned (.float .f64 Y)/\w'=w)) (hI:pinfB (absN Y)=false) :
  Calls Tryz.prog 143 #[.agg #[.bool false,.slice ad (n+1) cap,.int .i64 e]] w fun r w'=>r = .returned (.tuple #[.float .f64 Y,.int .i64 0])/\Gr w w':=by
 have R:=dx.r26
 have hle:=dx.le
 have e1:=dx.low
 have e2:=dx.high
 have hbl:bl x<=262144:=by
  obtain⟨xs,g1,g2⟩:=dx.lim
  have h3:=bl_len g2
  rw[g1.len] at h3
  omega
 have H40:Hid (∀w1,Gr w w1->Calls Tryz.prog 152 #[.slice ad (n+1) cap] w1 fun r w'=>r = .returned (.int .i64 (bl x:Int))/\Gr w1 w'):=fun w1 g=>bitLength40 ad (n+1) cap x w1 (dx.lim.gr g) x0 (by omega)
 have z1:((n:Int)+1==0)=false:=by simp;omega
 have l1 : -1074<=last:=by omega
 have l2:last<=2000000:=by omega
 have HL:Hid (max (IntKind.i64.wrap (IntKind.i64.wrap ((bl x:Int)+e)-53)) (-1074)=last):=by
  show _=_
  rw[IntKind.wrap_i64,IntKind.wrap_i64]
  omega
 clear dx hlast
 generalize (bl x:Int)=L at *
 have A44:=fun x w=>inf44 x w
 have A49:=fun x y w=>copy49 x y w
 go_enter Tryz.func143,Tryz.ntmps143
 go_wp2_with (first|(go_at_call 151;(with_reducible refine(R.out _ ((Gr.refl w).alloc _)).mono ?_);rintro r w1 ⟨rfl,g1⟩;have k0:w1.cell? ⟨w.heap.size,0,none⟩=some (.bool false):=g1.keep (by simp);have k1:w1.cell? ⟨w.heap.size,1,none⟩=some (.slice ad (n+1) cap):=g1.keep (by simp);have k2:w1.cell? ⟨w.heap.size,2,none⟩=some (.int .i64 e):=g1.keep (by simp);have G1:=((Gr.refl w).alloc (.cells #[.bool false,.slice ad (n+1) cap,.int .i64 e] 128)).trans g1))
 have hS0:(w1.drew.cell? ⟨w.heap.size,0,none⟩=some (.bool false)/\w1.drew.cell? ⟨w.heap.size,1,none⟩=some (.slice ad (n+1) cap)/\w1.drew.cell? ⟨w.heap.size,2,none⟩=some (.int .i64 e))/\Gr w w1.drew:=⟨⟨k0,k1,k2⟩,G1.drew⟩
 clear k0 k1 k2 g1 G1
 go_region_held3 (fun w'=>(w'.cell? ⟨w.heap.size,0,none⟩=some (.bool false)/\w'.cell? ⟨w.heap.size,1,none⟩=some (.slice ad (n+1) cap)/\w'.cell? ⟨w.heap.size,2,none⟩=some (.int .i64 e))/\Gr w w') (first|(with_reducible assumption)|(apply keep4;(with_reducible assumption);(with_reducible assumption))) (first|(go_at_call 152;(with_reducible refine(H40.out _ ?gg).mono ?_);(case gg=>exact And.right ‹_/\Gr w _›);rintro r w2 ⟨rfl,g2⟩))
 rw[HL.out]
 have hS1:=keep4 g2 hS0
 clear hS0 g2
 have k0:=hS1.1.1
 have k1:=hS1.1.2.1
 have k2:=hS1.1.2.2
 have G2:=hS1.2
 go_wp2_with (first|(go_at_call 153;(with_reducible refine(H48.out _ G2).mono ?_);rintro r w3 ⟨rfl,g3⟩;have j0:=g3.keep k0)|(go_at_call 43;(with_reducible refine(A46.out _).mono ?_);rintro r w4 ⟨rfl,rfl⟩)|(go_at_call 73;(with_reducible refine(A44 _ _).mono ?_);rintro r w4 ⟨rfl,rfl⟩)|(go_at_call 95;(with_reducible refine(A49 _ _ _).mono ?_);rintro r w4 ⟨rfl,rfl⟩))
 refine bodyPost_ret (v:=.tuple #[.float .f64 Y,.int .i64 0]) (by simp[results,Tryz.results143,go_sem]) rfl ⟨rfl,G2.trans g3⟩
set_option maxHeartbeats 3200000 in
theorem float22n (ad:Option Addr) (n cap x N Y:Nat) (e last:Int) (w:World) (dx:DyAt w true ad (n+1) cap e x) (x0:0<x) (hlast:max ((bl x:Int)+e-53) (-1074)=last)
  (H48:Hid (∀w1,Gr w w1->Calls Tryz.prog 153 #[.slice ad (n+1) cap,.int .i64 (last-e)] w1 fun r w'=>r = .returned (.int .u64 (N:Int))/\Gr w1 w'))
  (A46:Hid (∀w,Calls Tryz.prog 43 #[.float .f64 (floatOfInt FloatKind.f64 (N:Int)),.int .i64 last] w fun e w'=>e = .returned (.float .f64 Y)/\w'=w)) (hI:pinfB (absN Y)=false) :
  Calls Tryz.prog 143 #[.agg #[.bool true,.slice ad (n+1) cap,.int .i64 e]] w fun r w'=>r = .returned (.tuple #[.float .f64 (copyN Y 13830554455654793216),.int .i64 0])/\Gr w w':=by
 have R:=dx.r26
 have hle:=dx.le
 have e1:=dx.low
 have e2:=dx.high
 have hbl:bl x<=262144:=by
  obtain⟨xs,g1,g2⟩:=dx.lim
  have h3:=bl_len g2
  rw[g1.len] at h3
  omega
 have H40:Hid (∀w1,Gr w w1->Calls Tryz.prog 152 #[.slice ad (n+1) cap] w1 fun r w'=>r = .returned (.int .i64 (bl x:Int))/\Gr w1 w'):=fun w1 g=>bitLength40 ad (n+1) cap x w1 (dx.lim.gr g) x0 (by omega)
 have z1:((n:Int)+1==0)=false:=by simp;omega
 have l1 : -1074<=last:=by omega
 have l2:last<=2000000:=by omega
 have HL:Hid (max (IntKind.i64.wrap (IntKind.i64.wrap ((bl x:Int)+e)-53)) (-1074)=last):=by
  show _=_
  rw[IntKind.wrap_i64,IntKind.wrap_i64]
  omega
 clear dx hlast
 generalize (bl x:Int)=L at *
 have A44:=fun x w=>inf44 x w
 have A49:=fun x y w=>copy49 x y w
 go_enter Tryz.func143,Tryz.ntmps143
 go_wp2_with (first|(go_at_call 151;(with_reducible refine(R.out _ ((Gr.refl w).alloc _)).mono ?_);rintro r w1 ⟨rfl,g1⟩;have k0:w1.cell? ⟨w.heap.size,0,none⟩=some (.bool true):=g1.keep (by simp);have k1:w1.cell? ⟨w.heap.size,1,none⟩=some (.slice ad (n+1) cap):=g1.keep (by simp);have k2:w1.cell? ⟨w.heap.size,2,none⟩=some (.int .i64 e):=g1.keep (by simp);have G1:=((Gr.refl w).alloc (.cells #[.bool true,.slice ad (n+1) cap,.int .i64 e] 128)).trans g1))
 have hS0:(w1.drew.cell? ⟨w.heap.size,0,none⟩=some (.bool true)/\w1.drew.cell? ⟨w.heap.size,1,none⟩=some (.slice ad (n+1) cap)/\w1.drew.cell? ⟨w.heap.size,2,none⟩=some (.int .i64 e))/\Gr w w1.drew:=⟨⟨k0,k1,k2⟩,G1.drew⟩
 clear k0 k1 k2 g1 G1
 go_region_held3 (fun w'=>(w'.cell? ⟨w.heap.size,0,none⟩=some (.bool true)/\w'.cell? ⟨w.heap.size,1,none⟩=some (.slice ad (n+1) cap)/\w'.cell? ⟨w.heap.size,2,none⟩=some (.int .i64 e))/\Gr w w') (first|(with_reducible assumption)|(apply keep4;(with_reducible assumption);(with_reducible assumption))) (first|(go_at_call 152;(with_reducible refine(H40.out _ ?gg).mono ?_);(case gg=>exact And.right ‹_/\Gr w _›);rintro r w2 ⟨rfl,g2⟩))
 rw[HL.out]
 have hS1:=keep4 g2 hS0
 clear hS0 g2
 have k0:=hS1.1.1
 have k1:=hS1.1.2.1
 have k2:=hS1.1.2.2
 have G2:=hS1.2
 go_wp2_with (first|(go_at_call 153;(with_reducible refine(H48.out _ G2).mono ?_);rintro r w3 ⟨rfl,g3⟩;have j0:=g3.keep k0)|(go_at_call 43;(with_reducible refine(A46.out _).mono ?_);rintro r w4 ⟨rfl,rfl⟩)|(go_at_call 73;(with_reducible refine(A44 _ _).mono ?_);rintro r w4 ⟨rfl,rfl⟩)|(go_at_call 95;(with_reducible refine(A49 _ _ _).mono ?_);rintro r w4 ⟨rfl,rfl⟩))
 refine bodyPost_ret (v:=.tuple #[.float .f64 (copyN Y 13830554455654793216),.int .i64 0]) (by simp[results,Tryz.results143,go_sem]) rfl ⟨rfl,G2.trans g3⟩
set_option maxHeartbeats 3200000 in
theorem float22o (s:Bool) (ad:Option Addr) (n cap x N Y:Nat) (e last:Int) (w:World) (dx:DyAt w s ad (n+1) cap e x) (x0:0<x) (hlast:max ((bl x:Int)+e-53) (-1074)=last)
  (H48:Hid (∀w1,Gr w w1->Calls Tryz.prog 153 #[.slice ad (n+1) cap,.int .i64 (last-e)] w1 fun r w'=>r = .returned (.int .u64 (N:Int))/\Gr w1 w'))
  (A46:Hid (∀w,Calls Tryz.prog 43 #[.float .f64 (floatOfInt FloatKind.f64 (N:Int)),.int .i64 last] w fun e w'=>e = .returned (.float .f64 Y)/\w'=w)) (hI:pinfB (absN Y)=true) :
  Calls Tryz.prog 143 #[.agg #[.bool s,.slice ad (n+1) cap,.int .i64 e]] w fun r w'=>r = .returned (.tuple #[.float .f64 0,.int .i64 6])/\Gr w w':=by
 have R:=dx.r26
 have hle:=dx.le
 have e1:=dx.low
 have e2:=dx.high
 have hbl:bl x<=262144:=by
  obtain⟨xs,g1,g2⟩:=dx.lim
  have h3:=bl_len g2
  rw[g1.len] at h3
  omega
 have H40:Hid (∀w1,Gr w w1->Calls Tryz.prog 152 #[.slice ad (n+1) cap] w1 fun r w'=>r = .returned (.int .i64 (bl x:Int))/\Gr w1 w'):=fun w1 g=>bitLength40 ad (n+1) cap x w1 (dx.lim.gr g) x0 (by omega)
 have z1:((n:Int)+1==0)=false:=by simp;omega
 have l1 : -1074<=last:=by omega
 have l2:last<=2000000:=by omega
 have HL:Hid (max (IntKind.i64.wrap (IntKind.i64.wrap ((bl x:Int)+e)-53)) (-1074)=last):=by
  show _=_
  rw[IntKind.wrap_i64,IntKind.wrap_i64]
  omega
 clear dx hlast
 generalize (bl x:Int)=L at *
 have A44:=fun x w=>inf44 x w
 have A49:=fun x y w=>copy49 x y w
 go_enter Tryz.func143,Tryz.ntmps143
 go_wp2_with (first|(go_at_call 151;(with_reducible refine(R.out _ ((Gr.refl w).alloc _)).mono ?_);rintro r w1 ⟨rfl,g1⟩;have k0:w1.cell? ⟨w.heap.size,0,none⟩=some (.bool s):=g1.keep (by simp);have k1:w1.cell? ⟨w.heap.size,1,none⟩=some (.slice ad (n+1) cap):=g1.keep (by simp);have k2:w1.cell? ⟨w.heap.size,2,none⟩=some (.int .i64 e):=g1.keep (by simp);have G1:=((Gr.refl w).alloc (.cells #[.bool s,.slice ad (n+1) cap,.int .i64 e] 128)).trans g1))
 have hS0:(w1.drew.cell? ⟨w.heap.size,0,none⟩=some (.bool s)/\w1.drew.cell? ⟨w.heap.size,1,none⟩=some (.slice ad (n+1) cap)/\w1.drew.cell? ⟨w.heap.size,2,none⟩=some (.int .i64 e))/\Gr w w1.drew:=⟨⟨k0,k1,k2⟩,G1.drew⟩
 clear k0 k1 k2 g1 G1
 go_region_held3 (fun w'=>(w'.cell? ⟨w.heap.size,0,none⟩=some (.bool s)/\w'.cell? ⟨w.heap.size,1,none⟩=some (.slice ad (n+1) cap)/\w'.cell? ⟨w.heap.size,2,none⟩=some (.int .i64 e))/\Gr w w') (first|(with_reducible assumption)|(apply keep4;(with_reducible assumption);(with_reducible assumption))) (first|(go_at_call 152;(with_reducible refine(H40.out _ ?gg).mono ?_);(case gg=>exact And.right ‹_/\Gr w _›);rintro r w2 ⟨rfl,g2⟩))
 rw[HL.out]
 have hS1:=keep4 g2 hS0
 clear hS0 g2
 have k0:=hS1.1.1
 have k1:=hS1.1.2.1
 have k2:=hS1.1.2.2
 have G2:=hS1.2
 go_wp2_with (first|(go_at_call 153;(with_reducible refine(H48.out _ G2).mono ?_);rintro r w3 ⟨rfl,g3⟩;have j0:=g3.keep k0)|(go_at_call 43;(with_reducible refine(A46.out _).mono ?_);rintro r w4 ⟨rfl,rfl⟩)|(go_at_call 73;(with_reducible refine(A44 _ _).mono ?_);rintro r w4 ⟨rfl,rfl⟩)|(go_at_call 95;(with_reducible refine(A49 _ _ _).mono ?_);rintro r w4 ⟨rfl,rfl⟩))
 refine bodyPost_ret (v:=.tuple #[.float .f64 0,.int .i64 6]) (by simp[results,Tryz.results143,go_sem]) rfl ⟨rfl,G2.trans g3⟩
end Go.Proofs.YtibckeckjfmbkaaGreatDoor
namespace Go.Proofs.YtibckeckjfmbkaaGreatDoor.Fl
open Go.RowKit
open Ieee
set_option linter.unusedVariables false
theorem norm90s (x r:Nat) (w:World) (h:(FloatKind.f64.format.order (absN x) 4503599627370496==some .lt)=true) (hm:double.mul x 4841369599423283200=some r) :
  Calls Tryz.prog 94 #[.float .f64 x] w fun e w'=>e = .returned (.tuple #[.float .f64 r,.int .i64 (-52)])/\w'=w:=by
 have g3:=mul_run w _ _ _ hm
 clear hm
 go_enter Tryz.func94,Tryz.ntmps94
 go_wp2_with (go_at_call 55;refine(abs16 _ _).mono ?_;rintro e w' ⟨rfl,rfl⟩)
 go_ret2
 exact⟨rfl,rfl⟩
theorem norm90n (x:Nat) (w:World) (h:(FloatKind.f64.format.order (absN x) 4503599627370496==some .lt)=false) :
  Calls Tryz.prog 94 #[.float .f64 x] w fun e w'=>e = .returned (.tuple #[.float .f64 x,.int .i64 0])/\w'=w:=by
 go_enter Tryz.func94,Tryz.ntmps94
 go_wp2_with (go_at_call 55;refine(abs16 _ _).mono ?_;rintro e w' ⟨rfl,rfl⟩)
 go_ret2
 exact⟨rfl,rfl⟩
theorem M_52:M 4841369599423283200=4503599627370496*U:=by
 have h:=M_at E74 4503599627370496 (Or.inl ⟨by omega,by omega⟩)
 have e:E74*4503599627370496+4503599627370496=4841369599423283200:=rfl
 rw[e] at h
 unfold U
 exact h
theorem norm_spec (s:Bool) (r:Nat) (h0:0<r) (hr:r<9218868437227405312) :
  ∃n,∃k:Int,4503599627370496<=n/\n<9218868437227405312/\(k=0\/k = -52) /\
   (∀P:Nat,(P:Int)=(n / 4503599627370496:Nat)-1+k+52->M r*2 ^ 52=(4503599627370496+n % 4503599627370496)*2 ^ P) /\
   ∀w,Calls Tryz.prog 94 #[.float .f64 (W s r)] w fun e w'=>e = .returned (.tuple #[.float .f64 (W s n),.int .i64 k])/\w'=w:=by
 have habs:=B_lt false false r 4503599627370496 (by omega) (by omega)
 rw[show W false r=absN (W s r) from (abs_W s r (by omega)).symm,show W false 4503599627370496=4503599627370496 from rfl] at habs
 have hv:(val false r<val false 4503599627370496) ↔ r<4503599627370496:=by
  unfold val
  simp only[Bool.false_eq_true,if_false]
  rw[Int.ofNat_lt]
  exact M_lt_iff
 by_cases hs:r<4503599627370496
 ·rw[decide_eq_true (hv.2 hs)] at habs
  obtain⟨n,hn,hn2⟩:=rep 52 r (by omega)
  have hMr:M r=r:=by
   have:=M_at 0 r (Or.inr ⟨rfl,by omega⟩)
   rw[Nat.zero_mul,Nat.zero_add] at this
   rw[this];simp
  have hnI:n<9218868437227405312:=by omega
  have hnB:4503599627370496<=n:=by
   refine Nat.le_of_not_lt fun hlt=>?_
   have hMn:M n=n:=by
    have:=M_at 0 n (Or.inr ⟨rfl,by omega⟩)
    rw[Nat.zero_mul,Nat.zero_add] at this
    rw[this];simp
   rw[hMn] at hn
   have:(2:Nat) ^ 52=4503599627370496:=rfl
   rw[this] at hn
   omega
  refine⟨n,-52,hnB,hnI,Or.inr rfl,?_,fun w=>norm90s _ _ w habs ?_⟩
  ·intro P hP
   have hP':P=ex n:=by unfold ex;omega
   rw[hMr,<-hn,hP']
   unfold M mant
   rw[if_neg (by omega)]
  ·have hx:=mul_exact s false r 4841369599423283200 n hr (by omega) (by omega) (by
    rw[hMr,M_52,hn,<-Nat.mul_assoc])
   rw[Bool.xor_false] at hx
   exact hx
 ·rw[decide_eq_false (fun h=>hs (hv.1 h))] at habs
  refine⟨r,0,by omega,hr,Or.inl rfl,?_,fun w=>norm90n _ w habs⟩
  intro P hP
  have hP':P=ex r+52:=by unfold ex;omega
  rw[hP',Nat.pow_add,<-Nat.mul_assoc]
  congr 1
  unfold M mant
  rw[if_neg (by omega)]
theorem frexp85 (x f z E y:Nat) (k:Int) (w:World) (h0:zeroB x=false) (h1:pinfB (absN x)=false) (h2:nanB x=false)
  (hn:∀w,Calls Tryz.prog 94 #[.float .f64 x] w fun e w'=>e = .returned (.tuple #[.float .f64 f,.int .i64 k])/\w'=w) (hk:k=0\/k = -52) (hE0:E<2048)
  (hE:bits BinOp.and IntKind.u64 ((f:Int) / 4503599627370496) 2047=(E:Int)) (hc:bits BinOp.andNot IntKind.u64 (f:Int) 9218868437227405312=(y:Int)) (hp:bits BinOp.or IntKind.u64 (y:Int) 4602678819172646912=(z:Int)) :
  Calls Tryz.prog 114 #[.float .f64 x] w fun e w'=>e = .returned (.tuple #[.float .f64 z,.int .i64 (k+(E-1023+1))])/\w'=w:=by
 unfold zeroB at h0
 have b1:=bits14
 have b2:=from13
 have HN:Hid (∀w,Calls Tryz.prog 94 #[.float .f64 x] w fun e w'=>e = .returned (.tuple #[.float .f64 f,.int .i64 k])/\w'=w):=hn
 clear hn
 have hk1 : -52<=k:=by omega
 have hk2:k<=0:=by omega
 clear hk
 go_enter Tryz.func114,Tryz.ntmps114
 go_wp2_with (first|(go_at_call 73;refine(inf12z _ _).mono ?_;rintro e w' ⟨rfl,rfl⟩)|(go_at_call 82;refine(nan11 _ _).mono ?_;rintro e w' ⟨rfl,rfl⟩)|(go_at_call 94;refine(HN.out _).mono ?_;rintro e w' ⟨rfl,rfl⟩))
 go_ret2
 exact⟨rfl,rfl⟩
theorem frexp69 (x z:Nat) (k:Int) (w:World) (h:∀w,Calls Tryz.prog 114 #[.float .f64 x] w fun e w'=>e = .returned (.tuple #[.float .f64 z,.int .i64 k])/\w'=w) :
  Calls Tryz.prog 92 #[.float .f64 x] w fun e w'=>e = .returned (.tuple #[.float .f64 z,.int .i64 k])/\w'=w:=by
 have H:Hid (∀w,Calls Tryz.prog 114 #[.float .f64 x] w fun e w'=>e = .returned (.tuple #[.float .f64 z,.int .i64 k])/\w'=w):=h
 clear h
 go_enter Tryz.func92,Tryz.ntmps92
 go_wp2_with (go_at_call 114;refine(H.out _).mono ?_;rintro e w' ⟨rfl,rfl⟩)
 go_ret2
 exact⟨rfl,rfl⟩
theorem frexp85z (x:Nat) (w:World) (h0:zeroB x=true) :
  Calls Tryz.prog 114 #[.float .f64 x] w fun e w'=>e = .returned (.tuple #[.float .f64 x,.int .i64 0])/\w'=w:=by
 unfold zeroB at h0
 go_enter Tryz.func114,Tryz.ntmps114
 go_wp2
 go_ret2
 exact⟨rfl,rfl⟩
theorem fin_facts (s:Bool) (r:Nat) (h0:0<r) (hr:r<9218868437227405312):zeroB (W s r)=false/\pinfB (absN (W s r))=false/\nanB (W s r)=false:=by
 refine⟨?_,?_,?_⟩
 ·rw[zeroB_W s r (by omega)];exact decide_eq_false (by omega)
 ·rw[abs_W s r (by omega)]
  have:=pinfB_W false r (by omega)
  rw[show W false r=r from rfl] at this
  rw[this,decide_eq_false (by omega)];rfl
 ·rw[nanB_W s r (by omega)];exact decide_eq_false (by omega)
theorem frexp_spec (s:Bool) (r:Nat) (h0:0<r) (hr:r<9218868437227405312) :
  ∃m P:Nat,4503599627370496<=m/\m<9007199254740992/\P<=2097/\M r*2 ^ 52=m*2 ^ P /\
   ∀w,Calls Tryz.prog 92 #[.float .f64 (W s r)] w fun e w'=>e = .returned (.tuple #[.float .f64 (W s (1021*4503599627370496+m)),.int .i64 ((P:Int)-1073)])/\w'=w:=by
 obtain⟨n,k,hB,hI,hk,hM,hC⟩:=norm_spec s r h0 hr
 obtain⟨f1,f2,f3⟩:=fin_facts s r h0 hr
 have hE:n / 4503599627370496<2047:=by omega
 have hE1:1<=n / 4503599627370496:=by omega
 refine⟨4503599627370496+n % 4503599627370496,((n / 4503599627370496:Nat)-1+k+52).toNat,by omega,by omega,by omega,hM _ (by omega),fun w=>?_⟩
 have hput:=bit_put s (n % 4503599627370496) 1022 (by omega) (by omega)
 rw[show((1022*4503599627370496:Nat):Int)=4602678819172646912 from rfl,show 1022*4503599627370496+n % 4503599627370496=1021*4503599627370496+(4503599627370496+n % 4503599627370496) from by omega] at hput
 have:=frexp69 _ _ _ w (fun w=>frexp85 _ _ _ _ _ k w f1 f2 f3 hC hk (by omega) (bit_exp s n (by omega)) (bit_cut s n (by omega)) hput)
 have e:k+(((n / 4503599627370496:Nat):Int)-1023+1)=((((n / 4503599627370496:Nat):Int)-1+k+52).toNat:Int)-1073:=by omega
 rw[e] at this
 exact this
theorem ldexp87i (x:Nat) (e:Int) (w:World) (h:(zeroB x || pinfB (absN x))=true) :
  Calls Tryz.prog 70 #[.float .f64 x,.int .i64 e] w fun e w'=>e = .returned (.float .f64 x)/\w'=w:=by
 unfold zeroB at h
 cases h0:(FloatKind.f64.format.order x 0==some .eq)
 ·rw[h0,Bool.false_or] at h
  go_enter Tryz.func70,Tryz.ntmps70
  go_wp2_with (first|(go_at_call 73;refine(inf12z _ _).mono ?_;rintro e w' ⟨rfl,rfl⟩)|(go_at_call 82;refine(nan11 _ _).mono ?_;rintro e w' ⟨rfl,rfl⟩))
  go_ret
  exact⟨rfl,rfl⟩
 ·clear h
  go_enter Tryz.func70,Tryz.ntmps70
  go_wp2_with (first|(go_at_call 73;refine(inf12z _ _).mono ?_;rintro e w' ⟨rfl,rfl⟩)|(go_at_call 82;refine(nan11 _ _).mono ?_;rintro e w' ⟨rfl,rfl⟩))
  go_ret
  exact⟨rfl,rfl⟩
theorem ldexp87 (x f z y:Nat) (e k E S:Int) (w:World) (h0:zeroB x=false) (h1:pinfB (absN x)=false) (h2:nanB x=false)
  (hn:∀w,Calls Tryz.prog 94 #[.float .f64 x] w fun e w'=>e = .returned (.tuple #[.float .f64 f,.int .i64 k])/\w'=w) (he1 : -5000<=e) (he2:e<=5000) (hk1 : -52<=k) (hk2:k<=0)
  (hE:bits BinOp.and IntKind.i64 (wrap64 (↑f / 4503599627370496)) 2047=E) (hE1:0<=E) (hE2:E<=2047) (hS:e+k+(E-1023)=S) (hS1 : -1022<=S) (hS2:S<=1023)
  (hc:bits BinOp.andNot IntKind.u64 (f:Int) 9218868437227405312=(y:Int)) (hp:bits BinOp.or IntKind.u64 (y:Int) ((S+1023)*4503599627370496)=(z:Int)) (hr:double.mul 4607182418800017408 z=some z) :
  Calls Tryz.prog 70 #[.float .f64 x,.int .i64 e] w fun e w'=>e = .returned (.float .f64 z)/\w'=w:=by
 have g:=mul_run w _ _ _ hr
 clear hr
 unfold zeroB at h0
 have b1:=bits14
 have b2:=from13
 have HN:Hid (∀w,Calls Tryz.prog 94 #[.float .f64 x] w fun e w'=>e = .returned (.tuple #[.float .f64 f,.int .i64 k])/\w'=w):=hn
 clear hn
 subst hS
 go_enter Tryz.func70,Tryz.ntmps70
 go_wp2_with (first|(go_at_call 73;refine(inf12z _ _).mono ?_;rintro e w' ⟨rfl,rfl⟩)|(go_at_call 82;refine(nan11 _ _).mono ?_;rintro e w' ⟨rfl,rfl⟩)|(go_at_call 94;refine(HN.out _).mono ?_;rintro e w' ⟨rfl,rfl⟩))
 go_ret
 exact⟨rfl,rfl⟩
theorem ldexp71 (x z:Nat) (e:Int) (w:World) (h:∀w,Calls Tryz.prog 70 #[.float .f64 x,.int .i64 e] w fun e w'=>e = .returned (.float .f64 z)/\w'=w) :
  Calls Tryz.prog 43 #[.float .f64 x,.int .i64 e] w fun e w'=>e = .returned (.float .f64 z)/\w'=w:=by
 have H:Hid (∀w,Calls Tryz.prog 70 #[.float .f64 x,.int .i64 e] w fun e w'=>e = .returned (.float .f64 z)/\w'=w):=h
 clear h
 go_enter Tryz.func43,Tryz.ntmps43
 go_wp2_with (go_at_call 70;refine(H.out _).mono ?_;rintro e w' ⟨rfl,rfl⟩)
 go_ret
 exact⟨rfl,rfl⟩
theorem i64_exp (s:Bool) (n:Nat) (h:n<9223372036854775808):bits BinOp.and IntKind.i64 (wrap64 ((W s n:Nat) / 4503599627370496:Int)) 2047=((n / 4503599627370496:Nat):Int):=by
 have e:((W s n:Nat) / 4503599627370496:Int)=((W s n / 4503599627370496:Nat):Int):=by simp
 have hl:=W_lt s n h
 have e2:wrap64 ((W s n / 4503599627370496:Nat):Int)=((W s n / 4503599627370496:Nat):Int):=by unfold wrap64;omega
 rw[e,e2]
 have key:∀a:Nat,a<4096->bits .and .i64 (a:Int) ((2047:Nat):Int)=((a &&& 2047:Nat):Int):=by
  intro a ha
  have hx:a &&& 2047<2 ^ 12:=Nat.and_lt_two_pow _ (by omega)
  show IntKind.i64.wrap ((BitVec.ofInt 64 (a:Int) &&& BitVec.ofInt 64 ((2047:Nat):Int)).toNat:Int)=_
  rw[BitVec.toNat_and,ofInt_u64 a (by omega),ofInt_u64 2047 (by omega),IntKind.wrap_i64]
  omega
 rw[show(2047:Int)=((2047:Nat):Int) from rfl,key _ (by omega)]
 have h2:=Nat.and_two_pow_sub_one_eq_mod (W s n / 4503599627370496) 11
 rw[show(2047:Nat)=2 ^ 11-1 from rfl,h2,W_eq]
 congr 1
 cases s <;> simp <;> omega
theorem M_1:M 4607182418800017408=U:=by
 have h:=M_at (E74-52) 4503599627370496 (Or.inl ⟨by omega,by omega⟩)
 have e:(E74-52)*4503599627370496+4503599627370496=4607182418800017408:=rfl
 rw[e] at h
 rw[h]
 unfold U
 have e2:E74=52+(E74-52):=rfl
 conv=>rhs;rw[e2,Nat.pow_add]
theorem ldexp_spec (s:Bool) (r:Nat) (h0:0<r) (hr:r<9218868437227405312) :
  ∃m P:Nat,4503599627370496<=m/\m<9007199254740992/\P<=2097/\M r*2 ^ 52=m*2 ^ P /\
   ∀(e:Int) (Q:Nat),-5000<=e->e<=5000->(Q:Int)=e+P-52->Q<=2045->∀w,
    Calls Tryz.prog 43 #[.float .f64 (W s r),.int .i64 e] w fun e w'=>e = .returned (.float .f64 (W s (Q*4503599627370496+m)))/\w'=w:=by
 obtain⟨n,k,hB,hI,hk,hM,hC⟩:=norm_spec s r h0 hr
 obtain⟨f1,f2,f3⟩:=fin_facts s r h0 hr
 have hE:n / 4503599627370496<2047:=by omega
 have hE1:1<=n / 4503599627370496:=by omega
 refine⟨4503599627370496+n % 4503599627370496,((n / 4503599627370496:Nat)-1+k+52).toNat,by omega,by omega,by omega,hM _ (by omega),?_⟩
 intro e Q he1 he2 hQ hQ2 w
 have hput:=bit_put s (n % 4503599627370496) (Q+1) (by omega) (by omega)
 have e1:(((Q+1)*4503599627370496:Nat):Int)=(((Q:Int)-1022)+1023)*4503599627370496:=by omega
 have e2:(Q+1)*4503599627370496+n % 4503599627370496=Q*4503599627370496+(4503599627370496+n % 4503599627370496):=by omega
 rw[e1,e2] at hput
 have hz:Q*4503599627370496+(4503599627370496+n % 4503599627370496)<9218868437227405312:=by omega
 have hone:=mul_exact false s 4607182418800017408 _ _ (by omega) hz (Nat.le_of_lt hz) (by rw[M_1,Nat.mul_comm])
 rw[show W false 4607182418800017408=4607182418800017408 from rfl,Bool.false_xor] at hone
 exact ldexp71 _ _ e w (fun w=>ldexp87 _ _ _ _ e k _ ((Q:Int)-1022) w f1 f2 f3 hC he1 he2 (by omega) (by omega) (i64_exp s n (by omega)) (by omega) (by omega) (by omega) (by omega) (by omega) (bit_cut s n (by omega)) hput hone)
theorem ldexp_same (x:Nat) (e:Int) (w:World) (h:(zeroB x || pinfB (absN x))=true) :
  Calls Tryz.prog 43 #[.float .f64 x,.int .i64 e] w fun e w'=>e = .returned (.float .f64 x)/\w'=w:=
 ldexp71 _ _ e w fun w=>ldexp87i x e w h
theorem sum_W (s t:Bool) (m n:Nat) (i j:Int) (k:Nat) (hi:0<=i+1074+k) (hj:0<=j+1074+k) :
  ∃mag:Nat,∃place:Int,0<=place+1074+k/\mag*2 ^ (place+1074+k).toNat=(signed s m (i+1074+k).toNat+signed t n (j+1074+k).toNat).natAbs /\
   (Datum.number s m i).sum (.number t n j)=some (.number (if signed s m (i+1074+k).toNat+signed t n (j+1074+k).toNat=0 then s && t else decide (signed s m (i+1074+k).toNat+signed t n (j+1074+k).toNat<0)) mag place):=by
 simp only[Datum.sum]
 obtain⟨b,hb⟩:∃b:Nat,min i j+1074+k=(b:Int):=⟨(min i j+1074+k).toNat,by omega⟩
 have e1:(i+1074+k).toNat=(i-min i j).toNat+b:=by omega
 have e2:(j+1074+k).toNat=(j-min i j).toNat+b:=by omega
 have e3:(min i j+1074+k).toNat=b:=by omega
 rw[e1,e2,signed_scale,signed_scale,<-Int.add_mul]
 generalize signed s m (i-min i j).toNat+signed t n (j-min i j).toNat=x
 have hp:(0:Int)<((2 ^ b:Nat):Int):=by have:=Nat.two_pow_pos b;omega
 refine⟨x.natAbs,min i j,by omega,?_,?_⟩
 ·rw[e3,Int.natAbs_mul,Int.natAbs_natCast]
 ·have hz:(x*((2 ^ b:Nat):Int)=0) ↔ x=0:=by
   constructor
   ·intro h
    rcases Int.mul_eq_zero.1 h with h|h
    ·exact h
    ·omega
   ·intro h;rw[h,Int.zero_mul]
  have hl:(x*((2 ^ b:Nat):Int)<0) ↔ x<0:=by
   constructor
   ·intro h
    refine Int.lt_of_mul_lt_mul_right (a:=((2 ^ b:Nat):Int)) ?_ (by omega)
    rw[Int.zero_mul];exact h
   ·intro h
    have:=Int.mul_lt_mul_of_pos_right h hp
    rw[Int.zero_mul] at this;exact this
  simp only[hz,hl]
def fmaX (s t u:Bool) (a b c:Nat):Int:=(if s ^^ t then -((M a*M b:Nat):Int) else ((M a*M b:Nat):Int))+val u c*(U:Int)
theorem fma_sign (s t u:Bool) (a b c:Nat) (ha:a<9218868437227405312) (hb:b<9218868437227405312) (hc:c<9218868437227405312) (hX:fmaX s t u a b c=0\/U<=(fmaX s t u a b c).natAbs) :
  ∃sg d,d<=9218868437227405312/\double.fma (W s a) (W t b) (W u c)=some (W sg d)/\posB (W sg d)=decide (0<fmaX s t u a b c)/\negB (W sg d)=decide (fmaX s t u a b c<0):=by
 have hE:=E74_eq
 obtain⟨mag,place,h1,h2,h3⟩:=sum_W (s ^^ t) u (mant a*mant b) (mant c) (-1074+(ex a:Int)+(-1074+(ex b:Int))) (-1074+(ex c:Int)) E74 (mul_place a b) (by omega)
 have hx:signed (s ^^ t) (mant a*mant b) (-1074+(ex a:Int)+(-1074+(ex b:Int))+1074+(E74:Nat)).toNat+signed u (mant c) (-1074+(ex c:Int)+1074+(E74:Nat)).toNat=fmaX s t u a b c:=by
  unfold fmaX
  rw[signed_val,mul_mag]
  congr 1
  have e:(-1074+(ex c:Int)+1074+(E74:Nat)).toNat=ex c+E74:=by omega
  rw[e,signed_scale,signed_val_fin]
  rfl
 rw[hx] at h2 h3
 obtain⟨r,d,h4,h5,h6,h7⟩:=nearest_faithful (if fmaX s t u a b c=0 then (s ^^ t) && u else decide (fmaX s t u a b c<0)) mag place E74 h1
 rw[h2] at h4 h5 h7
 have hU:=U_pos
 have hfma:double.fma (W s a) (W t b) (W u c)=some (W (if fmaX s t u a b c=0 then (s ^^ t) && u else decide (fmaX s t u a b c<0)) (min d 9218868437227405312)):=by
  unfold Format.fma
  rw[read_fin s a ha,read_fin t b hb,read_fin u c hc]
  simp only[Datum.product,Option.bind_some]
  rw[h3,Option.map_some]
  exact congrArg some h6
 refine⟨_,min d 9218868437227405312,Nat.min_le_right ..,hfma,?_⟩
 rw[posB_W _ _ (Nat.min_le_right ..),negB_W _ _ (Nat.min_le_right ..)]
 clear h2 h3 hx hfma h6
 generalize fmaX s t u a b c=T at *
 by_cases hT:T=0
 ·subst hT
  have hr:r=0:=by
   refine Nat.eq_zero_of_not_pos fun hp=>?_
   have h8:0<M r*2 ^ E74:=Nat.mul_pos (M_pos hp) (Nat.two_pow_pos _)
   rw[Int.natAbs_zero] at h4
   exact absurd h4 (Nat.not_le.2 h8)
  have hd:d=0:=by
   subst hr
   rcases h7 with h|⟨_,h⟩
   ·exact h
   ·exact absurd (by rw[M_zero,Nat.zero_mul];rfl) h
  subst hd
  simp
 ·have hr:0<r:=by
   refine Nat.pos_of_ne_zero fun h0=>?_
   subst h0
   rw[show 0+1=1 from rfl,M_one,Nat.one_mul] at h5
   have h9:U<=T.natAbs:=by omega
   exact absurd h5 (Nat.not_lt.2 h9)
  have hd:min d 9218868437227405312≠0:=by
   rcases h7 with h|⟨h,_⟩ <;> omega
  rw[if_neg hT,decide_eq_true hd,Bool.and_true,Bool.and_true]
  refine⟨?_,rfl⟩
  by_cases hn:T<0
  ·rw[decide_eq_true hn,decide_eq_false (by omega)];rfl
  ·rw[decide_eq_false hn,decide_eq_true (by omega)];rfl
theorem one_row (w:World) (o1:Obj) (v:Nat):Row ((w.alloc o1).alloc (.cells #[.int .u64 (v:Int)] 39)) (some ⟨w.heap.size+1,0,none⟩) 1 1 [v]:=by
 refine⟨rfl,Nat.le_refl _,by omega,(fun h=>by cases h),fun _=>⟨w.heap.size+1,0,rfl,by simp,fun j hj=>?_⟩⟩
 obtain rfl:j=0:=by omega
 have:=second_block w o1 (.cells #[.int .u64 (v:Int)] 39)
 simp only[World.cell?,this,Nat.zero_add]
 rfl
theorem first_block (w:World) (o1:Obj):(w.alloc o1).heap[w.heap.size]? = some o1:=by show(w.heap.push _)[w.heap.size]? = _;simp
theorem settle1 (s:Bool) (v:Nat) (e:Int) (w:World) (o1:Obj) (hv:v<18446744073709551616) (hT:TabAt 2 Lib.deBruijn64tab w) (e1 : -1000000000000<=e) (e2:e<=1000000000000) :
  Hid (Calls Tryz.prog 165 #[.agg #[.bool s,.slice (some ⟨w.heap.size+1,0,none⟩) 1 1,.int .i64 e]] ((w.alloc o1).alloc (.cells #[.int .u64 (v:Int)] 39)) fun r w'=>∃a b c d f' g',r = .returned (.tuple #[.agg #[.bool a,.slice b c d,.int .i64 f'],.int .i64 g'])/\Hid (SettledN w.heap.size w' r s v e)/\Gr ((w.alloc o1).alloc (.cells #[.int .u64 (v:Int)] 39)) w'):=by
 have:=settle35n s (some ⟨w.heap.size+1,0,none⟩) 1 1 v e [v] _ (one_row w o1 v) (by simpa using hv) (by simp[nv]) (by omega) (tab_gr hT (gr2 _ _)) e1 e2
 refine Calls.mono this ?_
 rintro r w' ⟨h1,h2⟩
 obtain⟨a,b,c,d,f,g',hr⟩:=h1.form
 exact⟨a,b,c,d,f,g',hr,h1.low (gr2 _ _).size,h2⟩
theorem inf51p (w:World):Calls Tryz.prog 85 #[.int .i64 1] w fun e w'=>e = .returned (.float .f64 9218868437227405312)/\w'=w:=by
 have b2:=from13
 go_enter Tryz.func85,Tryz.ntmps85
 go_wp2
 go_ret
 exact⟨rfl,rfl⟩
theorem ldexp87s (x f z y v:Nat) (e k E S:Int) (w:World) (h0:zeroB x=false) (h1:pinfB (absN x)=false) (h2:nanB x=false)
  (hn:∀w,Calls Tryz.prog 94 #[.float .f64 x] w fun e w'=>e = .returned (.tuple #[.float .f64 f,.int .i64 k])/\w'=w) (he1 : -5000<=e) (he2:e<=5000000) (hk1 : -52<=k) (hk2:k<=0)
  (hE:bits BinOp.and IntKind.i64 (wrap64 (↑f / 4503599627370496)) 2047=E) (hE1:0<=E) (hE2:E<=2047) (hS:e+k+(E-1023)=S) (hS1 : -1075<=S) (hS2:S < -1022)
  (hc:bits BinOp.andNot IntKind.u64 (f:Int) 9218868437227405312=(y:Int)) (hp:bits BinOp.or IntKind.u64 (y:Int) ((S+53+1023)*4503599627370496)=(z:Int)) (hr:double.mul 4368491638549381120 z=some v) :
  Calls Tryz.prog 70 #[.float .f64 x,.int .i64 e] w fun e w'=>e = .returned (.float .f64 v)/\w'=w:=by
 have g:=mul_run w _ _ _ hr
 clear hr
 unfold zeroB at h0
 have b1:=bits14
 have b2:=from13
 have HN:Hid (∀w,Calls Tryz.prog 94 #[.float .f64 x] w fun e w'=>e = .returned (.tuple #[.float .f64 f,.int .i64 k])/\w'=w):=hn
 clear hn
 subst hS
 go_enter Tryz.func70,Tryz.ntmps70
 go_wp2_with (first|(go_at_call 73;refine(inf12z _ _).mono ?_;rintro e w' ⟨rfl,rfl⟩)|(go_at_call 82;refine(nan11 _ _).mono ?_;rintro e w' ⟨rfl,rfl⟩)|(go_at_call 94;refine(HN.out _).mono ?_;rintro e w' ⟨rfl,rfl⟩))
 go_ret
 exact⟨rfl,rfl⟩
theorem ldexp87o (x f:Nat) (e k E S:Int) (w:World) (h0:zeroB x=false) (h1:pinfB (absN x)=false) (h2:nanB x=false) (hl:(FloatKind.f64.format.order f 0==some .lt)=false)
  (hn:∀w,Calls Tryz.prog 94 #[.float .f64 x] w fun e w'=>e = .returned (.tuple #[.float .f64 f,.int .i64 k])/\w'=w) (he1 : -5000<=e) (he2:e<=5000000) (hk1 : -52<=k) (hk2:k<=0)
  (hE:bits BinOp.and IntKind.i64 (wrap64 (↑f / 4503599627370496)) 2047=E) (hE1:0<=E) (hE2:E<=2047) (hS:e+k+(E-1023)=S) (hS1:1023<S) :
  Calls Tryz.prog 70 #[.float .f64 x,.int .i64 e] w fun e w'=>e = .returned (.float .f64 9218868437227405312)/\w'=w:=by
 unfold zeroB at h0
 have b1:=bits14
 have b2:=from13
 have HN:Hid (∀w,Calls Tryz.prog 94 #[.float .f64 x] w fun e w'=>e = .returned (.tuple #[.float .f64 f,.int .i64 k])/\w'=w):=hn
 clear hn
 subst hS
 go_enter Tryz.func70,Tryz.ntmps70
 go_wp2_with (first|(go_at_call 73;refine(inf12z _ _).mono ?_;rintro e w' ⟨rfl,rfl⟩)|(go_at_call 82;refine(nan11 _ _).mono ?_;rintro e w' ⟨rfl,rfl⟩)|(go_at_call 94;refine(HN.out _).mono ?_;rintro e w' ⟨rfl,rfl⟩)|(go_at_call 85;refine(inf51p _).mono ?_;rintro e w' ⟨rfl,rfl⟩))
 go_ret
 exact⟨rfl,rfl⟩
end Go.Proofs.YtibckeckjfmbkaaGreatDoor.Fl
