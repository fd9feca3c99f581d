import Derived.Test.YtanpdbadfddlcaaGreatDoorM41
import Derived.Test.YtanpdbadfddlcaaGreatDoorM15
import Derived.Test.YtanpdbadfddlcaaGreatDoorM20
import Derived.Test.YtanpdbadfddlcaaGreatDoorM36
import Derived.Deep.DeepCutAuto
namespace Go.Proofs.YtanpdbadfddlcaaGreatDoor
open Go.RowKit
set_option linter.unusedVariables false
theorem up_head (a:Option Addr) (m k M0 t n0:Nat) (w:World) (p:Int) (h:Lim w a m k 18446744073709551616 M0) (h0:0<M0) (hb:bl M0<=262144) (hp:p=(t:Int)) (ht:t<=68719476736) (hn:M0*2 ^ t=n0) (hlt:n0<18446744073709551616) :
  Calls Tryz.prog 57 #[.slice a m k,.int .i64 p] w fun r w'=>∃b o cap,r = .returned (.slice (some ⟨b,o,none⟩) 1 cap)/\1<=cap/\cap<=9223372036854775807/\w'.cell? ⟨b,o,none⟩=some (.int .u64 (n0:Int))/\Gr w w':=by
 rw[hp]
 refine(up58 a m k M0 t w h (by omega) ht h0).mono ?_
 rintro r w' ⟨a',n',c',h1,h2,h3⟩
 rw[hn] at h2
 have hpos:0<n0:=by rw[<-hn];exact Nat.mul_pos h0 (Nat.two_pow_pos _)
 rcases lim_head h2 hlt with ⟨q,_⟩|⟨_,rfl,b,o,rfl,c1,c2,hc⟩
 ·omega
 ·exact⟨b,o,c',h1,c1,c2,hc,h3⟩
set_option maxRecDepth 10000 in
set_option maxHeartbeats 8000000 in
theorem nearW (s:Bool) (ad:Option Addr) (n cap x M0 n0 N Y Y2:Nat) (e last E v:Int) (w:World) (hx:Lim w ad n cap 18446744073709551616 x) (x0:0<x) (hb:bl x<=262144) (e1 : -1048576<=e) (e2:e<=1048576) (hlast:max (e+(bl x:Int)-53) (-1074)=last)
  (hcut:∀s' m e',CutV false x e last false s' m e'->s'=false/\m=M0/\e'=E) (hE1:last<=E) (hE2:E<=1310720) (hM:M0*2 ^ (E-last).toNat=n0) (hn0:n0<18446744073709551615) (hbM:bl M0<=262144)
  (hv:sg (sv KK false x e-sv KK false M0 E-sv KK false 1 (last-1))=v) (hN:N=n0+if 0<v\/(v=0/\n0 % 2=1) then 1 else 0)
  (A46:Hid (∀w,Calls Tryz.prog 39 #[.float .f64 (floatOfInt FloatKind.f64 (N:Int)),.int .i64 last] w fun e w'=>e = .returned (.float .f64 Y)/\w'=w)) (HNG:∀w,(Op.unary .neg (.float .f64 Y)).run Tryz.prog w = .ok (.float .f64 Y2) w) :
  Calls Tryz.prog 108 #[.agg #[.bool s,.slice ad n cap,.int .i64 e]] w fun r w'=>r = .returned (.float .f64 (if s=true then Y2 else Y))/\Gr w w':=by
 have hkk:=KK_eq
 have l1 : -1074<=last:=by omega
 have l2:last<=1310720:=by omega
 have bl1:bl 1=1:=bl_unique (by omega) (by omega)
 have Z1:Hid (∀w1,Gr w w1->Calls Tryz.prog 54 #[.agg #[.bool s,.slice ad n cap,.int .i64 e]] w1 fun r w'=>r = .returned (.bool false)/\Gr w1 w'):=fun w1 g=>zero57n s ad n cap x e w1 (hx.gr g) (by omega) x0
 have T1:Hid (∀w1,Gr w w1->Calls Tryz.prog 88 #[.agg #[.bool s,.slice ad n cap,.int .i64 e]] w1 fun r w'=>r = .returned (.int .i64 (e+(bl x:Int)))/\Gr w1 w'):=fun w1 g=>top68 s ad n cap x e w1 (hx.gr g) (by omega) (by omega) (by omega)
 have C1:Hid (∀w1,Gr w w1->Calls Tryz.prog 124 #[.agg #[.bool false,.slice ad n cap,.int .i64 e],.int .i64 last,.bool false] w1 fun r w'=>∃ad' n' cap',r = .returned (.agg #[.bool false,.slice ad' n' cap',.int .i64 E])/\Hid (Lim w' ad' n' cap' 18446744073709551616 M0)/\Gr w1 w'):=fun w1 g=>(cutNum false false ad n cap x e last w1 (hx.gr g) (by omega) (by omega) (by omega)).mono fun r w' ⟨s',a',n',c',m',e',h1,h2,h3,h4⟩=>by
  obtain⟨rfl,rfl,rfl⟩:=hcut _ _ _ h3
  exact⟨a',n',c',h1,h2,h4⟩
 have ZL:Hid (∀a m k w1,Lim w1 a m k 18446744073709551616 M0->Calls Tryz.prog 54 #[.agg #[.bool false,.slice a m k,.int .i64 E]] w1 fun r w'=>r = .returned (.bool (decide (M0=0)))/\Gr w1 w'):=fun a m k w1 h=>zero57 false a m k M0 E w1 h (by omega)
 have UP:Hid (∀a m k w1,Lim w1 a m k 18446744073709551616 M0->0<M0->Calls Tryz.prog 57 #[.slice a m k,.int .i64 (E-last)] w1 fun r w'=>∃b o cap,r = .returned (.slice (some ⟨b,o,none⟩) 1 cap)/\1<=cap/\cap<=9223372036854775807/\w'.cell? ⟨b,o,none⟩=some (.int .u64 (n0:Int))/\Gr w1 w'):=fun a m k w1 h h0=>up_head a m k M0 (E-last).toNat n0 w1 _ h h0 hbM (by omega) (by omega) hM (by omega)
 have LS:Hid (∀a m k w1,Gr w w1->Lim w1 a m k 18446744073709551616 M0->∃neg mm g,Hid (0<=g+KK/\sv KK neg mm g=sv KK false x e-sv KK false M0 E/\bl mm<=3000000)/\(-4194304<=g/\g<=4194304)/\Calls Tryz.prog 89 #[.agg #[.bool false,.slice ad n cap,.int .i64 e],.agg #[.bool false,.slice a m k,.int .i64 E]] w1 fun r w'=>∃ad n cap,r = .returned (.agg #[.bool neg,.slice ad n cap,.int .i64 g])/\Hid (Lim w' ad n cap 18446744073709551616 mm)/\Gr w1 w'):=fun a m k w1 g h=>by
  obtain⟨neg,mm,gg,q1,q2,q3,q4⟩:=less49 false false ad a n m cap k x M0 e E w1 (hx.gr g) h (by omega) (by omega) (by omega) (by omega) (by omega) (by omega)
  obtain⟨p1,p2⟩:=q1 KK (by omega) (by omega)
  exact⟨neg,mm,gg,⟨p1,p2,by omega⟩,by omega,q4 w1 (Gr.refl _)⟩
 have HO:Hid (∀w1,Calls Tryz.prog 90 #[.int .u64 1] w1 fun e w'=>∃ad n cap,e = .returned (.slice ad n cap)/\Hid (Lim w' ad n cap 18446744073709551616 1)/\Gr w1 w'):=fun w1=>natOfR 1 w1 (by omega)
 have CM:Hid (∀neg aR nR cR mm g a m k w1,Hid (0<=g+KK/\sv KK neg mm g=sv KK false x e-sv KK false M0 E/\bl mm<=3000000)->(-4194304<=g/\g<=4194304)->Lim w1 aR nR cR 18446744073709551616 mm->Lim w1 a m k 18446744073709551616 1->Calls Tryz.prog 55 #[.agg #[.bool neg,.slice aR nR cR,.int .i64 g],.agg #[.bool false,.slice a m k,.int .i64 (IntKind.i64.wrap (last-1))]] w1 fun r w'=>r = .returned (.int .i64 v)/\Gr w1 w'):=fun neg aR nR cR mm g a m k w1 hq hg h h'=>by
  have hw:IntKind.i64.wrap (last-1)=last-1:=by rw[IntKind.wrap_i64];omega
  rw[hw]
  have:=compare45 neg false aR a nR m cR k mm 1 g (last-1) w1 h h' (by have:=hq.out.2.2;omega) (by omega) (by omega) (by omega) (by omega) (by omega) KK hq.out.1 (by omega)
  rw[hq.out.2.1,hv] at this
  exact this
 have P0:=hide (blk1 w (.cells #[.bool s,.slice ad n cap,.int .i64 e] 58))
 have G0:Gr w (w.alloc (.cells #[.bool s,.slice ad n cap,.int .i64 e] 58)):=(Gr.refl w).alloc _
 have i1:max (e+(bl x:Int)-53) (-1074)=last:=hlast
 have i2:(if e+(bl x:Int)-53 < -1074 then -1074 else e+(bl x:Int)-53)=last:=by rw[<-hlast];split <;> omega
 have HM:=hide hM
 clear hx hcut hv hM hlast
 have tok:True:=trivial
 by_cases hM0:M0=0
 ·have dM:decide (M0=0)=true:=decide_eq_true hM0
  rw[dM] at ZL
  obtain rfl:n0=0:=by rw[<-HM.out,hM0,Nat.zero_mul]
  clear HM UP
  go_enter Tryz.func108,Tryz.ntmps108
  go_wp2_with (first|(go_at_call 54;have _t:=tok;(with_reducible refine(Z1.out _ G0).mono ?_);rintro r w1 ⟨rfl,g1⟩;clear tok;have G1:=G0.trans g1;have P1:=g1.keepH P0.out;obtain⟨x0',x1',x2'⟩:=cells_ofT P1)|(go_at_call 88;(with_reducible refine(T1.out _ G1).mono ?_);rintro r w2 ⟨rfl,g2⟩;have G2:=G1.trans g2;have P2:=g2.keepH P1;clear x0' x1' x2';obtain⟨x0',x1',x2'⟩:=cells_ofT P2)|(go_at_call 124;(with_reducible refine(C1.out _ G2).mono ?_);rintro r w3 ⟨a3,m3,k3,rfl,hl3,g3⟩;have BL:=blk1 w3 (.cells #[.bool false,.slice a3 m3 k3,.int .i64 E] 58);have gL:=(Gr.refl w3).alloc (.cells #[.bool false,.slice a3 m3 k3,.int .i64 E] 58);have G3:=(G2.trans g3).trans gL;have P3:=(g3.trans gL).keepH P2;have hlL:=hl3.out.gr gL;clear x0' x1' x2';obtain⟨x0',x1',x2'⟩:=cells_ofT P3;obtain⟨y0,y1,y2⟩:=cells_ofT BL)|(go_at_call 54;(with_reducible refine(ZL.out _ _ _ _ hlL).mono ?_);rintro r w4 ⟨rfl,g4⟩;have G4:=G3.trans g4;have P4:=g4.keepH P3;have B4:=g4.keepH BL;have hl4:=hlL.gr g4;clear x0' x1' x2' y0 y1 y2;obtain⟨x0',x1',x2'⟩:=cells_ofT P4;obtain⟨y0,y1,y2⟩:=cells_ofT B4)|(go_at_call 89;obtain⟨neg,mm,gg,HG,hgg,hcall⟩:=LS.out _ _ _ _ G4 hl4;(with_reducible refine hcall.mono ?_);rintro r w6 ⟨a6,m6,k6,rfl,hl6,g6⟩))
  have BR:=blk1 w6 (.cells #[.bool neg,.slice a6 m6 k6,.int .i64 gg] 58)
  have gR:=(Gr.refl w6).alloc (.cells #[.bool neg,.slice a6 m6 k6,.int .i64 gg] 58)
  have hlR:=hl6.out.gr gR
  have GQ:=(G4.trans g6).trans gR
  have PQ:=(g6.trans gR).keepH P4
  generalize w6.alloc (.cells #[.bool neg,.slice a6 m6 k6,.int .i64 gg] 58)=wq at *
  clear x0' x1' x2' y0 y1 y2
  obtain⟨r0,r1,r2⟩:=cells_ofT BR
  have HC:Hid (∀a n c w1,Gr wq w1->Lim w1 a n c 18446744073709551616 1->Calls Tryz.prog 55 #[.agg #[.bool neg,.slice a6 m6 k6,.int .i64 gg],.agg #[.bool false,.slice a n c,.int .i64 (IntKind.i64.wrap (last-1))]] w1 fun r w'=>r = .returned (.int .i64 v)/\Gr w1 w'):=fun a n c w1 g h=>CM.out _ _ _ _ _ _ _ _ _ _ HG hgg (hlR.gr g) h
  refine Code.wp_mono ?_ (regN9 _ _ _ _ _ _ _ _ _ _ _ _ _ _ _ _ _ _ _ _ _ _ _ _ _ _ _ _ _ _ _ _ _ _ _ _ _ _ _ _ _ _ _ _ _ _ _ _ _ _ _ _ _ _ _ _ _ _ _ _ _ _ _ _ _ _ _ neg a6 m6 k6 gg last v w6.heap.size wq (by omega) (by omega) r0 r1 r2 HO HC)
  intro ex ac wf hR
  cases ex
  case normal =>
   obtain⟨u41,u42,u43,u44,u45,u46,rfl,gf⟩:=hR
   have PF:=gf.keepH PQ
   have GF:=GQ.trans gf
   clear r0 r1 r2 HC
   obtain⟨x0',x1',x2'⟩:=cells_ofT PF
   rcases Int.lt_trichotomy v 0 with hv|hv|hv
   ·have hNN:N=0:=by rw[hN,if_neg (by omega)]
    clear hN
    subst hNN
    have A48:Hid (∀w,Calls Tryz.prog 39 #[.float .f64 (floatOfInt FloatKind.f64 0),.int .i64 last] w fun e w'=>e = .returned (.float .f64 Y)/\w'=w):=A46
    have j1:¬v>0:=by omega
    have j2:(v==0)=false:=by simp;omega
    cases s
    all_goals
     go_wp2_with (go_at_call 39;(with_reducible refine(A48.out _).mono ?_);rintro r w9 ⟨rfl,hw9⟩;obtain rfl:=hw9.symm)
     go_ret
     exact⟨rfl,GF⟩
   ·have hNN:N=0:=by rw[hN,if_neg (by omega)]
    clear hN
    subst hNN
    have A48:Hid (∀w,Calls Tryz.prog 39 #[.float .f64 (floatOfInt FloatKind.f64 0),.int .i64 last] w fun e w'=>e = .returned (.float .f64 Y)/\w'=w):=A46
    have j1:¬v>0:=by omega
    have j2:(v==0)=true:=by simp[hv]
    cases s
    all_goals
     go_wp2_with (go_at_call 39;(with_reducible refine(A48.out _).mono ?_);rintro r w9 ⟨rfl,hw9⟩;obtain rfl:=hw9.symm)
     go_ret
     exact⟨rfl,GF⟩
   ·have hNN:N=1:=by rw[hN,if_pos (Or.inl hv)]
    clear hN
    subst hNN
    have A48:Hid (∀w,Calls Tryz.prog 39 #[.float .f64 (floatOfInt FloatKind.f64 1),.int .i64 last] w fun e w'=>e = .returned (.float .f64 Y)/\w'=w):=A46
    have j1:v>0:=hv
    cases s
    all_goals
     go_wp2_with (go_at_call 39;(with_reducible refine(A48.out _).mono ?_);rintro r w9 ⟨rfl,hw9⟩;obtain rfl:=hw9.symm)
     go_ret
     exact⟨rfl,GF⟩
  all_goals exact hR.elim
 ·have dM:decide (M0=0)=false:=decide_eq_false hM0
  have M1:0<M0:=by omega
  rw[dM] at ZL
  go_enter Tryz.func108,Tryz.ntmps108
  go_wp2_with (first|(go_at_call 54;have _t:=tok;(with_reducible refine(Z1.out _ G0).mono ?_);rintro r w1 ⟨rfl,g1⟩;clear tok;have G1:=G0.trans g1;have P1:=g1.keepH P0.out;obtain⟨x0',x1',x2'⟩:=cells_ofT P1)|(go_at_call 88;(with_reducible refine(T1.out _ G1).mono ?_);rintro r w2 ⟨rfl,g2⟩;have G2:=G1.trans g2;have P2:=g2.keepH P1;clear x0' x1' x2';obtain⟨x0',x1',x2'⟩:=cells_ofT P2)|(go_at_call 124;(with_reducible refine(C1.out _ G2).mono ?_);rintro r w3 ⟨a3,m3,k3,rfl,hl3,g3⟩;have BL:=blk1 w3 (.cells #[.bool false,.slice a3 m3 k3,.int .i64 E] 58);have gL:=(Gr.refl w3).alloc (.cells #[.bool false,.slice a3 m3 k3,.int .i64 E] 58);have G3:=(G2.trans g3).trans gL;have P3:=(g3.trans gL).keepH P2;have hlL:=hl3.out.gr gL;clear x0' x1' x2';obtain⟨x0',x1',x2'⟩:=cells_ofT P3;obtain⟨y0,y1,y2⟩:=cells_ofT BL)|(go_at_call 54;(with_reducible refine(ZL.out _ _ _ _ hlL).mono ?_);rintro r w4 ⟨rfl,g4⟩;have G4:=G3.trans g4;have P4:=g4.keepH P3;have B4:=g4.keepH BL;have hl4:=hlL.gr g4;clear x0' x1' x2' y0 y1 y2;obtain⟨x0',x1',x2'⟩:=cells_ofT P4;obtain⟨y0,y1,y2⟩:=cells_ofT B4)|(go_at_call 57;(with_reducible refine(UP.out _ _ _ _ hl4 M1).mono ?_);rintro r w5 ⟨b5,o5,k5,rfl,hk5,hk6,hc5,g5⟩;have G5:=G4.trans g5;have P5:=g5.keepH P4;have B5:=g5.keepH B4;have hl5:=hl4.gr g5;clear x0' x1' x2' y0 y1 y2;obtain⟨x0',x1',x2'⟩:=cells_ofT P5;obtain⟨y0,y1,y2⟩:=cells_ofT B5)|(go_at_call 89;obtain⟨neg,mm,gg,HG,hgg,hcall⟩:=LS.out _ _ _ _ G5 hl5;(with_reducible refine hcall.mono ?_);rintro r w6 ⟨a6,m6,k6,rfl,hl6,g6⟩))
  have BR:=blk1 w6 (.cells #[.bool neg,.slice a6 m6 k6,.int .i64 gg] 58)
  have gR:=(Gr.refl w6).alloc (.cells #[.bool neg,.slice a6 m6 k6,.int .i64 gg] 58)
  have hlR:=hl6.out.gr gR
  have GQ:=(G5.trans g6).trans gR
  have PQ:=(g6.trans gR).keepH P5
  generalize w6.alloc (.cells #[.bool neg,.slice a6 m6 k6,.int .i64 gg] 58)=wq at *
  clear x0' x1' x2' y0 y1 y2
  obtain⟨r0,r1,r2⟩:=cells_ofT BR
  have HC:Hid (∀a n c w1,Gr wq w1->Lim w1 a n c 18446744073709551616 1->Calls Tryz.prog 55 #[.agg #[.bool neg,.slice a6 m6 k6,.int .i64 gg],.agg #[.bool false,.slice a n c,.int .i64 (IntKind.i64.wrap (last-1))]] w1 fun r w'=>r = .returned (.int .i64 v)/\Gr w1 w'):=fun a n c w1 g h=>CM.out _ _ _ _ _ _ _ _ _ _ HG hgg (hlR.gr g) h
  refine Code.wp_mono ?_ (regN9 _ _ _ _ _ _ _ _ _ _ _ _ _ _ _ _ _ _ _ _ _ _ _ _ _ _ _ _ _ _ _ _ _ _ _ _ _ _ _ _ _ _ _ _ _ _ _ _ _ _ _ _ _ _ _ _ _ _ _ _ _ _ _ _ _ _ _ neg a6 m6 k6 gg last v w6.heap.size wq (by omega) (by omega) r0 r1 r2 HO HC)
  intro ex ac wf hR
  cases ex
  case normal =>
   obtain⟨u41,u42,u43,u44,u45,u46,rfl,gf⟩:=hR
   have PF:=gf.keepH PQ
   have GF:=GQ.trans gf
   clear r0 r1 r2 HC
   obtain⟨x0',x1',x2'⟩:=cells_ofT PF
   rcases Int.lt_trichotomy v 0 with hv|hv|hv
   ·have hNN:N=n0:=by rw[hN,if_neg (by omega)];rfl
    clear hN
    subst hNN
    have j1:¬v>0:=by omega
    have j2:(v==0)=false:=by simp;omega
    cases s
    all_goals
     go_wp2_with (go_at_call 39;(with_reducible refine(A46.out _).mono ?_);rintro r w9 ⟨rfl,hw9⟩;obtain rfl:=hw9.symm)
     go_ret
     exact⟨rfl,GF⟩
   ·by_cases ho:n0 % 2=1
    ·have hNN:N=n0+1:=by rw[hN,if_pos (Or.inr ⟨hv,ho⟩)]
     clear hN
     subst hNN
     have A47:Hid (∀w,Calls Tryz.prog 39 #[.float .f64 (floatOfInt FloatKind.f64 ((n0:Int)+1)),.int .i64 last] w fun e w'=>e = .returned (.float .f64 Y)/\w'=w):=A46
     have j1:¬v>0:=by omega
     have j2:(v==0)=true:=by simp[hv]
     have j3:((n0:Int) % 2==1)=true:=by simp;omega
     cases s
     all_goals
      go_wp2_with (go_at_call 39;(with_reducible refine(A47.out _).mono ?_);rintro r w9 ⟨rfl,hw9⟩;obtain rfl:=hw9.symm)
      go_ret
      exact⟨rfl,GF⟩
    ·have hNN:N=n0:=by rw[hN,if_neg (by omega)];rfl
     clear hN
     subst hNN
     have j1:¬v>0:=by omega
     have j2:(v==0)=true:=by simp[hv]
     have j3:((N:Int) % 2==1)=false:=by simp;omega
     cases s
     all_goals
      go_wp2_with (go_at_call 39;(with_reducible refine(A46.out _).mono ?_);rintro r w9 ⟨rfl,hw9⟩;obtain rfl:=hw9.symm)
      go_ret
      exact⟨rfl,GF⟩
   ·have hNN:N=n0+1:=by rw[hN,if_pos (Or.inl hv)]
    clear hN
    subst hNN
    have A47:Hid (∀w,Calls Tryz.prog 39 #[.float .f64 (floatOfInt FloatKind.f64 ((n0:Int)+1)),.int .i64 last] w fun e w'=>e = .returned (.float .f64 Y)/\w'=w):=A46
    have j1:v>0:=hv
    cases s
    all_goals
     go_wp2_with (go_at_call 39;(with_reducible refine(A47.out _).mono ?_);rintro r w9 ⟨rfl,hw9⟩;obtain rfl:=hw9.symm)
     go_ret
     exact⟨rfl,GF⟩
  all_goals exact hR.elim
end Go.Proofs.YtanpdbadfddlcaaGreatDoor
namespace Go.Proofs.YtanpdbadfddlcaaGreatDoor.Fl
open Go.RowKit
open Ieee (double)
set_option linter.unusedVariables false
theorem near_z (s:Bool) (ad:Option Addr) (n cap:Nat) (e:Int) (w:World) (hx:Lim w ad n cap 18446744073709551616 0) :
  Calls Tryz.prog 108 #[.agg #[.bool s,.slice ad n cap,.int .i64 e]] w fun r w'=>r = .returned (.float .f64 0)/\Gr w w':=by
 have Z1:Hid (∀w1,Gr w w1->Calls Tryz.prog 54 #[.agg #[.bool s,.slice ad n cap,.int .i64 e]] w1 fun r w'=>r = .returned (.bool true)/\Gr w1 w'):=fun w1 g=>zero57z s ad n cap e w1 (hx.gr g)
 have G0:Gr w (w.alloc (.cells #[.bool s,.slice ad n cap,.int .i64 e] 58)):=(Gr.refl w).alloc _
 clear hx
 go_enter Tryz.func108,Tryz.ntmps108
 go_wp2_with (go_at_call 54;(with_reducible refine(Z1.out _ G0).mono ?_);rintro r w1 ⟨rfl,g1⟩)
 go_ret
 exact⟨rfl,G0.trans g1⟩
end Go.Proofs.YtanpdbadfddlcaaGreatDoor.Fl
namespace Go.Proofs.YtanpdbadfddlcaaGreatDoor.Fl
open Go.RowKit
open Ieee
set_option linter.unusedVariables false
theorem of62 (x:Nat) (w:World) (hx:x<18446744073709551616) :
  Calls Tryz.prog 90 #[.int .u64 (x:Int)] w fun e w'=>∃ad' n' cap',e = .returned (.slice ad' n' cap')/\Lim w' ad' n' cap' 18446744073709551616 x/\Gr w w':=by
 have HR:Hid (Row (w.alloc (.cells #[.int .u64 (x:Int)] 34)) (some ⟨w.heap.size,0,none⟩) 1 1 [x]):=by
  refine⟨rfl,by omega,by omega,(fun h=>by cases h),fun _=>⟨w.heap.size,0,rfl,by simp,fun j hj=>?_⟩⟩
  have:j=0:=by omega
  subst this
  simp
 have HT:Hid (Calls Tryz.prog 116 #[.slice (some ⟨w.heap.size,0,none⟩) 1 1] (w.alloc (.cells #[.int .u64 (x:Int)] 34)) fun e w'=>∃ad' n' cap',e = .returned (.slice ad' n' cap')/\Lim w' ad' n' cap' 18446744073709551616 x/\Gr (w.alloc (.cells #[.int .u64 (x:Int)] 34)) w'):=by
  have:=trim77 _ 1 1 [x] _ HR.out (by omega) (by simpa using hx)
  rw[show nv 18446744073709551616 [x]=x by simp[nv]] at this
  exact this
 go_enter Tryz.func90,Tryz.ntmps90
 go_wp2_with (go_at_call 116;with_reducible refine HT.out.mono ?_;rintro e w' ⟨ad2,n2,cap2,rfl,hl,hgr⟩)
 go_ret
 exact⟨_,_,_,rfl,hl,((Gr.refl w).alloc _).trans hgr⟩
theorem mant_lt64 (r:Nat):mant r<18446744073709551616:=by
 have:=mant_lt r
 omega
theorem num_block {w:World} {b:Nat} {v0 v1 v2:Value} {T:TypeId} (h:w.heap[b]? = some (.cells #[v0,v1,v2] T)) :
  (w.cell? ⟨b,0,none⟩=some v0/\w.cell? ⟨b,1,none⟩=some v1/\w.cell? ⟨b,2,none⟩=some v2)/\w.frozen? ⟨b,0,none⟩=false/\w.frozen? ⟨b,1,none⟩=false/\w.frozen? ⟨b,2,none⟩=false:=by
 refine⟨⟨?_,?_,?_⟩,?_,?_,?_⟩ <;> simp[World.cell?,World.frozen?,h]
theorem set3_gr {a w:World} (h:Gr a w) {b:Nat} (hb:a.heap.size<=b) (v0 v1 v2:Value):Gr a (((w.setCell ⟨b,0,none⟩ v0).setCell ⟨b,1,none⟩ v1).setCell ⟨b,2,none⟩ v2):=
 ((h.setCell (p:=⟨b,0,none⟩) hb v0).setCell (p:=⟨b,1,none⟩) hb v1).setCell (p:=⟨b,2,none⟩) hb v2
set_option maxHeartbeats 800000 in
theorem float41 (s:Bool) (r:Nat) (w:World) (hr:r<9218868437227405312) :
  Calls Tryz.prog 74 #[.float .f64 (W s r)] w fun res w'=>∃ad n cap,res = .returned (.agg #[.bool s,.slice ad n cap,.int .i64 ((ex r:Int)-1074)])/\Lim w' ad n cap 18446744073709551616 (mant r)/\Gr w w':=by
 have h1:=bits14
 have hx:=bit_exp s r (by omega)
 have hW:((W s r:Nat):Int)=(if s then (r:Int)+9223372036854775808 else (r:Int)):=by
  unfold W;cases s <;> simp <;> omega
 have hm:Hid (((W s r:Nat):Int) % 4503599627370496=((r % 4503599627370496:Nat):Int)):=by
  show _=_
  rw[hW];cases s <;> simp <;> omega
 have hn:(((W s r:Nat):Int) / 9223372036854775808==1)=s:=by
  rw[hW]
  cases s
  ·simp;omega
  ·simp;omega
 have hlt:W s r<18446744073709551616:=W_lt s r (by omega)
 clear hW
 by_cases he:r / 4503599627370496=0
 ·have hmant:r % 4503599627370496=mant r:=by unfold mant;rw[if_pos (by omega)];omega
  have hexp:(-1074:Int)=(ex r:Int)-1074:=by unfold ex;omega
  rw[hmant] at hm
  rw[<-hexp]
  rw[he] at hx
  have HN:Hid (∀w1,Calls Tryz.prog 90 #[.int .u64 (((W s r:Nat):Int) % 4503599627370496)] w1 fun e w'=>∃ad' n' cap',e = .returned (.slice ad' n' cap')/\Lim w' ad' n' cap' 18446744073709551616 (mant r)/\Gr w1 w'):=by
   intro w1
   rw[hm.out]
   exact of62 (mant r) w1 (mant_lt64 r)
  clear hmant hexp hm
  generalize W s r=x at *
  go_enter Tryz.func74,Tryz.ntmps74
  go_wp2_with (go_at_call 90;with_reducible refine(HN.out _).mono ?_;rintro r w1 ⟨a3,m3,k3,rfl,hl3,g3⟩;have hb1:=(g3.block w.heap.size (by simp)).trans (heap_alloc_new w _);have hc1:=num_block hb1)
  refine bodyPost_ret (v:=.agg #[.bool s,.slice a3 m3 k3,.int .i64 (-1074)]) (by simp[results,Tryz.results74,go_sem,hc1]) rfl ⟨a3,m3,k3,rfl,hl3.set3 (hl3.apart hb1) _ _ _,set3_gr (((Gr.refl w).alloc _).trans g3) (Nat.le_refl _) _ _ _⟩
 ·have hmant:r % 4503599627370496+4503599627370496=mant r:=by unfold mant;rw[if_neg (by omega)];omega
  have hexp:((r / 4503599627370496:Nat):Int)-1075=(ex r:Int)-1074:=by unfold ex;omega
  have hq:r / 4503599627370496<2047:=by omega
  rw[<-hexp]
  have HN:Hid (∀w1,Calls Tryz.prog 90 #[.int .u64 (((W s r:Nat):Int) % 4503599627370496+4503599627370496)] w1 fun e w'=>∃ad' n' cap',e = .returned (.slice ad' n' cap')/\Lim w' ad' n' cap' 18446744073709551616 (mant r)/\Gr w1 w'):=by
   intro w1
   rw[hm.out,show((r % 4503599627370496:Nat):Int)+4503599627370496=((mant r:Nat):Int) by omega]
   exact of62 (mant r) w1 (mant_lt64 r)
  generalize hz:r / 4503599627370496=q at *
  clear hmant hexp hm hz
  generalize W s r=x at *
  go_enter Tryz.func74,Tryz.ntmps74
  go_wp2_with (go_at_call 90;with_reducible refine(HN.out _).mono ?_;rintro r w1 ⟨a3,m3,k3,rfl,hl3,g3⟩;have hb1:=(g3.block w.heap.size (by simp)).trans (heap_alloc_new w _);have hc1:=num_block hb1)
  refine bodyPost_ret (v:=.agg #[.bool s,.slice a3 m3 k3,.int .i64 ((q:Int)-1075)]) (by simp[results,Tryz.results74,go_sem,hc1]) rfl ⟨a3,m3,k3,rfl,hl3.set3 (hl3.apart hb1) _ _ _,set3_gr (((Gr.refl w).alloc _).trans g3) (Nat.le_refl _) _ _ _⟩
theorem pow_three {k t A P:Nat} (X:Nat) (h:k+t+A=P):X*2 ^ k*2 ^ t*2 ^ A=X*2 ^ P:=by
 rw[<-h,Nat.pow_add,Nat.pow_add,Nat.mul_assoc,Nat.mul_assoc,Nat.mul_assoc]
theorem floor_two {X b P t A:Nat} (h:t+A=P+b):X / 2 ^ b*2 ^ t*2 ^ A<=X*2 ^ P/\X*2 ^ P<(X / 2 ^ b+1)*2 ^ t*2 ^ A/\(X / 2 ^ b*2 ^ t*2 ^ A=X*2 ^ P->X=X / 2 ^ b*2 ^ b):=by
 have e:∀m,m*2 ^ t*2 ^ A=m*2 ^ b*2 ^ P:=fun m=>by
  rw[Nat.mul_assoc,Nat.mul_assoc,<-Nat.pow_add,<-Nat.pow_add,h,Nat.add_comm P b]
 have hb:=Nat.two_pow_pos b
 have hP:=Nat.two_pow_pos P
 have h1:=Nat.div_mul_le_self X (2 ^ b)
 have h2:X<(X / 2 ^ b+1)*2 ^ b:=by
  have:=Nat.lt_mul_div_succ X hb
  rw[Nat.mul_comm] at this
  exact this
 rw[e,e]
 refine⟨Nat.mul_le_mul_right _ h1,Nat.mul_lt_mul_of_pos_right h2 hP,fun h3=>?_⟩
 exact(Nat.eq_of_mul_eq_mul_right hP h3).symm
theorem n0_lt {X L b:Nat} (h:X<2 ^ L) (hb:L<=53+b):X / 2 ^ b<9007199254740992:=by
 rw[Nat.div_lt_iff_lt_mul (Nat.two_pow_pos b)]
 have h2:2 ^ L<=2 ^ (53+b):=Nat.pow_le_pow_right (by omega) hb
 rw[Nat.pow_add] at h2
 have:(2:Nat) ^ 53=9007199254740992:=rfl
 rw[this] at h2
 omega
theorem n0_ge {X L b:Nat} (h:2 ^ L<=2*X) (hb:L=53+b):4503599627370496<=X / 2 ^ b:=by
 rw[Nat.le_div_iff_mul_le (Nat.two_pow_pos b)]
 rw[hb,Nat.pow_add] at h
 have:(2:Nat) ^ 53=2*4503599627370496:=rfl
 rw[this,Nat.mul_assoc] at h
 omega
theorem n0_ltU {X L k:Nat} (h:X<2 ^ L) (hb:L+k<=53):X*2 ^ k<9007199254740992:=by
 have h1:X*2 ^ k<2 ^ L*2 ^ k:=Nat.mul_lt_mul_of_pos_right h (Nat.two_pow_pos k)
 rw[<-Nat.pow_add] at h1
 have h2:2 ^ (L+k)<=2 ^ 53:=Nat.pow_le_pow_right (by omega) hb
 omega
theorem n0_geU {X L k:Nat} (h:2 ^ L<=2*X) (hb:L+k=53):4503599627370496<=X*2 ^ k:=by
 have h1:2 ^ L*2 ^ k<=2*X*2 ^ k:=Nat.mul_le_mul_right _ h
 rw[<-Nat.pow_add,hb,Nat.mul_assoc] at h1
 omega
theorem near_ref (ad:Option Addr) (n cap X P:Nat) (e:Int) (w:World) (hx:Lim w ad n cap 18446744073709551616 X) (x0:0<X) (hb:bl X<=5000) (e1 : -2148<=e) (e2:e<=3000) (hP:(P:Int)=e+2148) :
  ∃c,Near (X*2 ^ P) U c/\∀w1,Gr w w1->Calls Tryz.prog 108 #[.agg #[.bool false,.slice ad n cap,.int .i64 e]] w1 fun r w'=>r = .returned (.float .f64 c)/\Gr w1 w':=by
 have hkk:=KK_eq
 obtain⟨A,hA,hU⟩:=U_form
 obtain⟨L,hL⟩:∃L,L=bl X:=⟨_,rfl⟩
 have hx1:X<2 ^ L:=hL ▸ bl_lt _
 have hx2:2 ^ L<=2*X:=hL ▸ bl_le x0
 have hL0:0<L:=Nat.pos_of_ne_zero fun h=>by rw[h] at hx1;simp at hx1;omega
 rw[<-hL] at hb
 obtain⟨last,hlast⟩:∃last:Int,last=max (e+(L:Int)-53) (-1074):=⟨_,rfl⟩
 obtain⟨t,ht⟩:∃t:Nat,(t:Int)=last+1074:=⟨(last+1074).toNat,by omega⟩
 obtain⟨n0,N,M0,E,v,hcut,hE1,hE2,hM,hn0,hbM,hv,hN,hlo,hhi,hne,hbig⟩:∃(n0 N M0:Nat) (E v:Int),(∀s' m e',CutV false X e last false s' m e'->s'=false/\m=M0/\e'=E)/\last<=E/\E<=1310720/\M0*2 ^ (E-last).toNat=n0/\n0<9007199254740992/\bl M0<=262144 /\
   sg (sv KK false X e-sv KK false M0 E-sv KK false 1 (last-1))=v/\(N=n0+if 0<v\/(v=0/\n0 % 2=1) then 1 else 0)/\n0*2 ^ t*U<=X*2 ^ P/\X*2 ^ P<(n0+1)*2 ^ t*U/\(N=n0+1->X*2 ^ P≠n0*2 ^ t*U)/\(t=0\/4503599627370496<=n0):=by
  have hpos:0<sv KK false 1 (last-1):=(sv_sign KK false 1 (last-1) (by omega)).2 rfl
  by_cases hc:last<=e
  ·obtain⟨k,hk⟩:∃k:Nat,(k:Int)=e-last:=⟨(e-last).toNat,by omega⟩
   have hex:X*2 ^ k*2 ^ t*U=X*2 ^ P:=by rw[hU];exact pow_three X (by omega)
   have hsg:sg (sv KK false X e-sv KK false X e-sv KK false 1 (last-1)) = -1:=by
    rw[Int.sub_self];exact sg_neg (by omega)
   refine⟨X*2 ^ k,X*2 ^ k,X,e,-1,?_,hc,by omega,by rw[show(e-last).toNat=k by omega],n0_ltU hx1 (by omega),by omega,hsg,by rw[if_neg (by omega),Nat.add_zero],Nat.le_of_eq hex,?_,fun h=>absurd h (by omega),?_⟩
   ·rintro s' m e' (⟨h,_⟩|⟨_,_,h1,h2,h3⟩|⟨_,h,_⟩)
    ·omega
    ·exact⟨h1,h2,h3⟩
    ·omega
   ·rw[<-hex,Nat.add_mul,Nat.add_mul]
    have:=Nat.mul_pos (Nat.mul_pos (show 0<1 by omega) (Nat.two_pow_pos t)) U_pos
    omega
   ·by_cases h0:t=0
    ·exact Or.inl h0
    ·exact Or.inr (n0_geU hx2 (by omega))
  ·obtain⟨b,hb2⟩:∃b:Nat,(b:Int)=last-e:=⟨(last-e).toNat,by omega⟩
   obtain⟨f1,f2,f3⟩:=floor_two (X:=X) (b:=b) (P:=P) (t:=t) (A:=A) (by omega)
   rw[<-hU] at f1 f2 f3
   refine⟨X / 2 ^ b,_,X / 2 ^ b,last,_,?_,Int.le_refl _,by omega,by rw[Int.sub_self,Int.toNat_zero,Nat.pow_zero,Nat.mul_one],n0_lt hx1 (by omega),Nat.le_trans (bl_mono (Nat.div_le_self _ _)) (by omega),rfl,rfl,f1,f2,fun h hE=>?_,?_⟩
   ·rintro s' m e' (⟨h,_⟩|⟨_,h,_⟩|⟨_,_,h1,h2,h3⟩)
    ·omega
    ·omega
    ·rw[if_neg (fun h=>h.2 rfl),Nat.add_zero,show(last-e).toNat=b by omega] at h3
     exact⟨h1,h3,h2⟩
   ·have hX:=f3 hE.symm
    have hsv:sv KK false X e=sv KK false (X / 2 ^ b) last:=by
     have:=sv_down KK false (X / 2 ^ b) last e (by omega) (by omega)
     rw[show(last-e).toNat=b by omega,<-hX] at this
     exact this
    rw[hsv,Int.sub_self,sg_neg (by omega),if_neg (by omega)] at h
    omega
   ·by_cases h0:t=0
    ·exact Or.inl h0
    ·exact Or.inr (n0_ge hx2 (by omega))
 have hN1:N=n0\/N=n0+1:=by rw[hN];split <;> omega
 have hNle:N<=9007199254740992:=by omega
 have hN2:t=0\/4503599627370496<=N:=by omega
 have A46:Hid (∀w,Calls Tryz.prog 39 #[.float .f64 (floatOfInt FloatKind.f64 (N:Int)),.int .i64 last] w fun e w'=>e = .returned (.float .f64 (min (t*4503599627370496+N) 9218868437227405312))/\w'=w):=by
  obtain⟨hMM,_,_⟩:=rung_near t N hNle hN2
  intro w
  clear hcut hv hN hx1 hx2 hlo hhi hne hM
  rw[floatOfInt_W (N:Int) (by omega),show decide ((N:Int)<0)=false from decide_eq_false (by omega),show((N:Int)).natAbs=N by omega]
  by_cases h0:N=0
  ·subst h0
   obtain rfl:t=0:=by rcases hN2 with h|h;exact h;exact absurd h (by decide)
   have hz:ofN 0=0:=M_inj ((ofN_spec 0 (by omega)).1.trans (by rw[Nat.zero_mul,M_zero]))
   rw[hz]
   have:=ldexp_same (W false 0) last w (by rw[zeroB_W false 0 (by omega)];rfl)
   exact this
  ·exact ldexpN (ofN N) N (t*4503599627370496+N) t last (by omega) (ofN_spec N (by omega)).2.1 (ofN_spec N (by omega)).1 ht (by omega) hMM w
 have hm0:M (t*4503599627370496+n0)=n0*2 ^ t:=(rung_near t n0 (by omega) hbig).1
 have hm1:M (t*4503599627370496+n0+1)=(n0+1)*2 ^ t:=by
  have h:=(rung_near t (n0+1) (by omega) (by omega)).1
  rw[Nat.add_assoc]
  exact h
 refine⟨min (t*4503599627370496+N) 9218868437227405312,near_of_faithful (r:=t*4503599627370496+n0) U_pos (by rw[hm0];exact hlo) (by rw[hm1];exact hhi) ?_,fun w1 g=>?_⟩
 ·rw[hm0]
  rcases hN1 with h|h
  ·exact Or.inl (by omega)
  ·exact Or.inr ⟨by omega,hne h⟩
 ·have:=nearW false ad n cap X M0 n0 N _ (negN _) e last E v w1 (hx.gr g) x0 (by rw[<-hL];omega) (by omega) (by omega) (by rw[<-hL];exact hlast.symm) hcut hE1 hE2 hM (by omega) hbM hv hN A46 (fun w=>neg_run _ w)
  rw[if_neg (by decide)] at this
  exact this
theorem nextU (r:Nat) (w:World) (hr:r<9218868437227405312) :
  Calls Tryz.prog 109 #[.float .f64 r,.float .f64 9218868437227405312] w fun e w'=>e = .returned (.float .f64 (r+1))/\w'=w:=by
 have b1:=bits14
 have b2:=from13
 have h1:nanB r=false:=(nanB_W false r (by omega)).trans (decide_eq_false (by omega))
 have h2:nanB 9218868437227405312=false:=(nanB_W false 9218868437227405312 (by omega)).trans (decide_eq_false (by omega))
 have hlt:=M_lt hr
 have h3:(FloatKind.f64.format.order r 9218868437227405312==some .eq)=false:=(B_eq false false r 9218868437227405312 (by omega) (by omega)).trans (decide_eq_false (by show ¬((M r:Int)=(M 9218868437227405312:Int));omega))
 have h5:(FloatKind.f64.format.order 9218868437227405312 r==some .gt)=true:=(B_gt false false 9218868437227405312 r (by omega) (by omega)).trans (decide_eq_true (by show((M r:Int)<(M 9218868437227405312:Int));omega))
 by_cases h0:r=0
 ·subst h0
  have h4:(FloatKind.f64.format.order 0 0==some .eq)=true:=z0e
  have hc:copyN 1 9218868437227405312=0+1:=by kernel_rfl
  have HC:Hid (∀w,Calls Tryz.prog 103 #[.float .f64 1,.float .f64 9218868437227405312] w fun e w'=>e = .returned (.float .f64 (0+1))/\w'=w):=fun w=>by
   have:=copy49 1 9218868437227405312 w
   rw[hc] at this
   exact this
  go_enter Tryz.func109,Tryz.ntmps109
  go_wp2_with (first|(go_at_call 98;refine(nan11 _ _).mono ?_;rintro e w' ⟨rfl,rfl⟩)|(go_at_call 103;refine(HC.out _).mono ?_;rintro e w' ⟨rfl,rfl⟩))
  go_ret
  exact⟨rfl,rfl⟩
 ·have h4:(FloatKind.f64.format.order r 0==some .eq)=false:=(zeroB_W false r (by omega)).trans (decide_eq_false h0)
  have h6:(FloatKind.f64.format.order r 0==some .gt)=true:=(posB_W false r (by omega)).trans (by rw[decide_eq_true h0];rfl)
  have hx:r+1<18446744073709551616:=by omega
  go_enter Tryz.func109,Tryz.ntmps109
  go_wp2_with (go_at_call 98;refine(nan11 _ _).mono ?_;rintro e w' ⟨rfl,rfl⟩)
  go_ret
  refine⟨?_,rfl⟩
  show Ending.returned (.float .f64 _)=_
  congr 2
end Go.Proofs.YtanpdbadfddlcaaGreatDoor.Fl
