import Derived.Test.YtebbhmlhmdkigaaGreatDoorC42
namespace Go.Proofs.YtebbhmlhmdkigaaGreatDoor
open Go.RowKit
set_option linter.unusedVariables false
theorem lim_same {w:World} {ad:Option Addr} {n cap x y:Nat} (h:Lim w ad n cap 18446744073709551616 x) (h':Lim w ad n cap 18446744073709551616 y):x=y:=by
 obtain⟨xs,rx,dx⟩:=h
 obtain⟨ys,ry,dy⟩:=h'
 have:xs=ys:=ext_getD (by rw[rx.len,ry.len]) fun j hj=>by
  rw[rx.len] at hj
  obtain⟨b,o,e1,_,c1⟩:=rx.cells (by omega)
  obtain⟨b',o',e2,_,c2⟩:=ry.cells (by omega)
  rw[e1] at e2
  injection e2 with e2
  injection e2 with e3 e4
  subst e3 e4
  have:=(c1 j hj).symm.trans (c2 j hj)
  injection this with this
  injection this with _ this
  exact Int.ofNat.inj this
 rw[<-dx.1,<-dy.1,this]
theorem lim_measure:∃M:Value->World->Nat,∀(ad:Option Addr) (n cap:Nat) (w:World) (x:Nat),Lim w ad n cap 18446744073709551616 x->M (.slice ad n cap) w=x:=by
 classical
 refine⟨fun v w=>if h:∃x,∃ad n cap,v = .slice ad n cap/\Lim w ad n cap 18446744073709551616 x then h.choose else 0,fun ad n cap w x hx=>?_⟩
 have h:∃x,∃ad' n' cap',Value.slice ad n cap = .slice ad' n' cap'/\Lim w ad' n' cap' 18446744073709551616 x:=⟨x,ad,n,cap,rfl,hx⟩
 show(if h:∃x,∃ad' n' cap',Value.slice ad n cap = .slice ad' n' cap'/\Lim w ad' n' cap' 18446744073709551616 x then h.choose else 0)=x
 rw[dif_pos h]
 obtain⟨a',n',c',e,hl⟩:=h.choose_spec
 injection e with e1 e2 e3
 subst e1 e2 e3
 exact lim_same hl hx
theorem root_start {a R:Nat} (h1:R*R<=a):R<=1*2 ^ ((bl a+1) / 2):=by
 rw[Nat.one_mul]
 refine Nat.le_of_lt (Nat.lt_of_not_le fun h=>?_)
 have h2:=Nat.mul_le_mul h h
 rw[<-Nat.pow_add] at h2
 have h3:=bl_lt a
 have h4:2 ^ bl a<=2 ^ ((bl a+1) / 2+(bl a+1) / 2):=Nat.pow_le_pow_right (by omega) (by omega)
 omega
theorem sq_le_of {x R a:Nat} (h1:x*x<=a) (h2:a<(R+1)*(R+1)):x<=R:=by
 refine Nat.le_of_lt_succ (Nat.lt_of_not_le fun h=>?_)
 have h':R+1<=x:=h
 have:=Nat.mul_le_mul h' h'
 omega
theorem bl_div (a x:Nat):bl (a / x)<=bl a:=bl_mono (Nat.div_le_self _ _)
theorem bl_add (x y k:Nat) (hx:bl x<=k) (hy:bl y<=k):bl (x+y)<=k+1:=by
 refine bl_le_of_lt ?_
 have h1:=Nat.lt_of_lt_of_le (bl_lt x) (Nat.pow_le_pow_right (n:=2) (by omega) hx)
 have h2:=Nat.lt_of_lt_of_le (bl_lt y) (Nat.pow_le_pow_right (n:=2) (by omega) hy)
 rw[Nat.pow_succ];omega
set_option maxRecDepth 10000 in
set_option maxHeartbeats 4000000 in
theorem natRootR (ad:Option Addr) (n cap a R:Nat) (w:World) (ha:Lim w ad n cap 18446744073709551616 a) (hb:bl a<=1073741824) (hR1:R*R<=a) (hR2:a<(R+1)*(R+1)) :
  Calls Tryz.prog 16 #[.slice ad n cap] w fun e w'=>∃ad' n' cap',e = .returned (.slice ad' n' cap')/\Lim w' ad' n' cap' 18446744073709551616 R/\Gr w w':=by
 have HB:Hid (∀w1,Gr w w1->Calls Tryz.prog 30 #[.slice ad n cap] w1 fun e w'=>e = .returned (.int .i64 (bl a:Int))/\Gr w1 w'):=fun w1 g=>bits73 ad n cap a w1 (ha.gr g) (by omega)
 by_cases ha0:a=0
 ·subst ha0
  have hR0:R=0:=by
   rcases Nat.eq_zero_or_pos R with h|h
   ·exact h
   ·have:=Nat.mul_le_mul h h;omega
  subst hR0
  rw[bl_zero] at HB
  clear ha
  have G0:Gr w w:=Gr.refl w
  go_enter Tryz.func16,Tryz.ntmps16
  go_wp2_with (go_at_call 30;(with_reducible refine(HB.out _ G0).mono ?_);rintro e w1 ⟨rfl,g1⟩)
  go_ret
  exact⟨_,_,_,rfl,⟨[],Row.empty (by omega) (fun _=>rfl),Dg.nil⟩,g1⟩
 ·have hb0:((bl a:Int)==0)=false:=by
   have:bl a≠0:=fun h=>ha0 (bl_zero_iff.1 h)
   simp;omega
  obtain⟨M,HM⟩:=lim_measure
  have MM:=hide HM
  have E:Hid (((bl a:Int)+1) / 2=(((bl a+1) / 2:Nat):Int)):=by show _=_;omega
  have HOF:Hid (∀(r:Nat) w1,r<3->Calls Tryz.prog 38 #[.int .u64 (r:Int)] w1 fun e w'=>∃ad n cap,e = .returned (.slice ad n cap)/\Lim w' ad n cap 18446744073709551616 r/\Gr w1 w'):=fun r w1 h=>natOfR r w1 (by omega)
  have H1:Hid (∀w1,Calls Tryz.prog 38 #[.int .u64 1] w1 fun e w'=>∃ad n cap,e = .returned (.slice ad n cap)/\Hid (Lim w' ad n cap 18446744073709551616 1)/\Gr w1 w'):=fun w1=>natOfR 1 w1 (by omega)
  have H2:Hid (∀w1,Calls Tryz.prog 38 #[.int .u64 2] w1 fun e w'=>∃ad n cap,e = .returned (.slice ad n cap)/\Hid (Lim w' ad n cap 18446744073709551616 2)/\Gr w1 w'):=fun w1=>natOfR 2 w1 (by omega)
  have b1:bl 1=1:=bl_unique (by omega) (by omega)
  have b2:bl 2=2:=bl_unique (by omega) (by omega)
  have HU:Hid (∀a1 m1 k1 w1,Lim w1 a1 m1 k1 18446744073709551616 1->Calls Tryz.prog 37 #[.slice a1 m1 k1,.int .i64 (((bl a+1) / 2:Nat):Int)] w1 fun e w'=>∃ad' n' cap',e = .returned (.slice ad' n' cap')/\Hid (Lim w' ad' n' cap' 18446744073709551616 (1*2 ^ ((bl a+1) / 2)))/\Gr w1 w'):=fun a1 m1 k1 w1 h=>up58 a1 m1 k1 1 _ w1 h (by omega) (by omega) (by omega)
  have HA:Hid (∀w1,Gr w w1->Lim w1 ad n cap 18446744073709551616 a):=fun w1 g=>ha.gr g
  have S0:=root_start hR1
  have bX0:bl (1*2 ^ ((bl a+1) / 2))<=bl a+2:=by
   rw[bl_shift (by omega),b1];omega
  have X0:0<1*2 ^ ((bl a+1) / 2):=by rw[Nat.one_mul];exact Nat.two_pow_pos _
  generalize 1*2 ^ ((bl a+1) / 2)=x0 at *
  have FX:Hid (R<=x0/\bl x0<=bl a+2/\0<x0):=⟨S0,bX0,X0⟩
  have HRR:Hid (R*R<=a/\a<(R+1)*(R+1)/\0<R):=⟨hR1,hR2,by
   rcases Nat.eq_zero_or_pos R with h|h
   ·subst h;omega
   ·exact h⟩
  have DV1:Hid (∀ad2 n2 c2 x w1,Gr w w1->Lim w1 ad2 n2 c2 18446744073709551616 x->0<x->bl x<=bl a+2->Calls Tryz.prog 39 #[.slice ad n cap,.slice ad2 n2 c2] w1 fun e w'=>∃a' n' c' a'' n'' c'',e = .returned (.tuple #[.slice a' n' c',.slice a'' n'' c''])/\Hid (Lim w' a' n' c' 18446744073709551616 (a / x))/\Gr w1 w'):=fun ad2 n2 c2 x w1 g h h0 hbx=>(natDivR ad ad2 n n2 cap c2 a x w1 (ha.gr g) h (by omega) (by omega) h0).mono fun e w' ⟨p,q,r,p',q',r',h1,h2,_,h4⟩=>⟨p,q,r,p',q',r',h1,h2,h4⟩
  have DV2:Hid (∀ad1 n1 c1 ad2 n2 c2 x w1,Lim w1 ad1 n1 c1 18446744073709551616 x->Lim w1 ad2 n2 c2 18446744073709551616 2->bl x<=bl a+3->Calls Tryz.prog 39 #[.slice ad1 n1 c1,.slice ad2 n2 c2] w1 fun e w'=>∃a' n' c' a'' n'' c'',e = .returned (.tuple #[.slice a' n' c',.slice a'' n'' c''])/\Hid (Lim w' a' n' c' 18446744073709551616 (x / 2))/\Gr w1 w'):=fun ad1 n1 c1 ad2 n2 c2 x w1 h h' hbx=>(natDivR ad1 ad2 n1 n2 c1 c2 x 2 w1 h h' (by omega) (by omega) (by omega)).mono fun e w' ⟨p,q,r,p',q',r',h1,h2,_,h4⟩=>⟨p,q,r,p',q',r',h1,h2,h4⟩
  have ADD:Hid (∀ad1 n1 c1 ad2 n2 c2 x y w1,Lim w1 ad1 n1 c1 18446744073709551616 x->Lim w1 ad2 n2 c2 18446744073709551616 y->bl x<=bl a+2->bl y<=bl a+2->Calls Tryz.prog 31 #[.slice ad1 n1 c1,.slice ad2 n2 c2] w1 fun e w'=>∃ad' n' cap',e = .returned (.slice ad' n' cap')/\Hid (Lim w' ad' n' cap' 18446744073709551616 (x+y))/\Gr w1 w'):=fun ad1 n1 c1 ad2 n2 c2 x y w1 h h' k k'=>add59 ad1 ad2 n1 n2 c1 c2 x y w1 h h' (by omega) (by omega)
  have CMP:Hid (∀ad1 n1 c1 ad2 n2 c2 x y w1,Lim w1 ad1 n1 c1 18446744073709551616 x->Lim w1 ad2 n2 c2 18446744073709551616 y->bl x<=bl a+3->bl y<=bl a+2->Calls Tryz.prog 28 #[.slice ad1 n1 c1,.slice ad2 n2 c2] w1 fun e w'=>e = .returned (.int .i64 (sg ((x:Int)-(y:Int))))/\Gr w1 w'):=fun ad1 n1 c1 ad2 n2 c2 x y w1 h h' k k'=>cmp60 ad1 ad2 n1 n2 c1 c2 x y w1 h h' (by omega) (by omega)
  have G0:Gr w w:=Gr.refl w
  have tok:True:=trivial
  clear ha HOF HM hR1 hR2 S0 bX0 X0
  go_enter Tryz.func16,Tryz.ntmps16
  go_wp2_with (first|(simp only[E.out])|(go_at_call 30;(with_reducible refine(HB.out _ G0).mono ?_);rintro e w1 ⟨rfl,g1⟩;have G0:=G0.trans g1)|(go_at_call 38;(with_reducible refine(H1.out _).mono ?_);rintro e w2 ⟨a2,m2,k2,rfl,hl2,g2⟩;have G0:=G0.trans g2)|(go_at_call 37;(with_reducible refine(HU.out _ _ _ _ (hl2.out.gr (by assumption))).mono ?_);rintro e w4 ⟨a4,m4,k4,rfl,hl4,g4⟩;have G0:=G0.trans g4))
  clear tok
  try rw[<-E.out]
  go_loopw [3] (fun v wr=>∃ad' n' c' x,v = .slice ad' n' c'/\Hid (Lim wr ad' n' c' 18446744073709551616 x)/\Hid (R<=x/\bl x<=bl a+2/\0<x)/\Hid (Gr w wr)) (fun v wr=>M v wr)
  case atStart=>exact⟨a4,m4,k4,x0,rfl,hl4.out,FX.out,G0⟩
  case round =>
   obtain⟨a5,m5,k5,x,rfl,hl,hx,hg⟩:=hrel
   have tok:True:=trivial
   have hge:=newton_ge hx.out.2.2 HRR.out.1
   have hB3:bl (x+a / x)<=bl a+3:=bl_add x (a / x) (bl a+2) hx.out.2.1 (Nat.le_trans (bl_div a x) (by omega))
   have BD:Hid (bl (a / x)<=bl a+2/\bl (x+a / x)<=bl a+3/\bl ((x+a / x) / 2)<=bl a+3):=⟨Nat.le_trans (bl_div a x) (by omega),hB3,Nat.le_trans (bl_div _ _) hB3⟩
   obtain⟨y,hy⟩:∃y,y=(x+a / x) / 2:=⟨_,rfl⟩
   have HY:Hid (y=(x+a / x) / 2/\R<=y):=⟨hy,hy ▸ hge⟩
   clear hB3 hge hl2 hl4 g1 g2 g4 G0
   rw[<-hy] at BD
   by_cases hyx:x<=y
   ·have HXR:Hid (x=R):=by
     have h1:=newton_le hx.out.2.2 (HY.out.1 ▸ hyx)
     exact Nat.le_antisymm (sq_le_of h1 HRR.out.2.1) hx.out.1
    obtain⟨sv',hsv,hs0⟩:∃v:Int,sg ((((x+a / x) / 2:Nat):Int)-(x:Int))=v/\0<=v:=by
     refine⟨_,rfl,?_⟩
     rw[<-hy]
     rcases Nat.lt_or_ge x y with h|h
     ·rw[sg_pos (by omega)];omega
     ·rw[show(y:Int)-(x:Int)=0 by omega];exact Int.le_refl _
    have hsg:=hide hsv
    clear hsv hy
    rw[HY.out.1] at BD
    go_wp2_with (first|(go_at_call 39;have _t:=tok;(with_reducible refine(DV1.out _ _ _ _ _ hg.out hl.out hx.out.2.2 hx.out.2.1).mono ?_);rintro e w6 ⟨a6,m6,k6,a7,m7,k7,rfl,hl6,g6⟩;clear tok)|(go_at_call 31;(with_reducible refine(ADD.out _ _ _ _ _ _ _ _ _ (hl.out.gr g6) hl6.out hx.out.2.1 BD.out.1).mono ?_);rintro e w8 ⟨a8,m8,k8,rfl,hl8,g8⟩)|(go_at_call 38;(with_reducible refine(H2.out _).mono ?_);rintro e w9 ⟨a9,m9,k9,rfl,hl9,g9⟩)|(go_at_call 39;(with_reducible refine(DV2.out _ _ _ _ _ _ _ _ (hl8.out.gr g9) hl9.out BD.out.2.1).mono ?_);rintro e w10 ⟨a10,m10,k10,a11,m11,k11,rfl,hl10,g10⟩)|(go_at_call 28;(with_reducible refine(CMP.out _ _ _ _ _ _ _ _ _ hl10.out (hl.out.gr (((g6.trans g8).trans g9).trans g10)) BD.out.2.2 hx.out.2.1).mono ?_);rintro e w12 ⟨rfl,g12⟩;(try rw[hsg.out])))
    go_ret
    rw[HXR.out] at hl
    have gg:=(((g6.trans g8).trans g9).trans g10).trans g12
    exact⟨_,_,_,rfl,hl.out.gr gg,hg.out.trans gg⟩
   ·obtain⟨sv',hsv,hs0⟩:∃v:Int,sg ((((x+a / x) / 2:Nat):Int)-(x:Int))=v/\¬0<=v:=by
     refine⟨_,rfl,?_⟩
     rw[<-hy,sg_neg (by omega)];omega
    have hsg:=hide hsv
    have HLT:Hid (y<x):=by show _<_;omega
    clear hsv hy hyx
    rw[HY.out.1] at BD
    go_wp2_with (first|(go_at_call 39;have _t:=tok;(with_reducible refine(DV1.out _ _ _ _ _ hg.out hl.out hx.out.2.2 hx.out.2.1).mono ?_);rintro e w6 ⟨a6,m6,k6,a7,m7,k7,rfl,hl6,g6⟩;clear tok)|(go_at_call 31;(with_reducible refine(ADD.out _ _ _ _ _ _ _ _ _ (hl.out.gr g6) hl6.out hx.out.2.1 BD.out.1).mono ?_);rintro e w8 ⟨a8,m8,k8,rfl,hl8,g8⟩)|(go_at_call 38;(with_reducible refine(H2.out _).mono ?_);rintro e w9 ⟨a9,m9,k9,rfl,hl9,g9⟩)|(go_at_call 39;(with_reducible refine(DV2.out _ _ _ _ _ _ _ _ (hl8.out.gr g9) hl9.out BD.out.2.1).mono ?_);rintro e w10 ⟨a10,m10,k10,a11,m11,k11,rfl,hl10,g10⟩)|(go_at_call 28;(with_reducible refine(CMP.out _ _ _ _ _ _ _ _ _ hl10.out (hl.out.gr (((g6.trans g8).trans g9).trans g10)) BD.out.2.2 hx.out.2.1).mono ?_);rintro e w12 ⟨rfl,g12⟩;(try rw[hsg.out])))
    go_roundw
    case rel=>exact⟨_,_,_,_,rfl,hl10.out.gr g12,⟨HY.out.1 ▸ HY.out.2,by
     have h1:=bl_mono (Nat.le_of_lt HLT.out)
     rw[HY.out.1] at h1
     have h2:=hx.out.2.1
     omega,Nat.lt_of_lt_of_le HRR.out.2.2 (HY.out.1 ▸ HY.out.2)⟩,hg.out.trans ((((g6.trans g8).trans g9).trans g10).trans g12)⟩
    case measure =>
     show M (.slice a10 m10 k10) w12<M (.slice a5 m5 k5) wr
     rw[MM.out _ _ _ _ _ (hl10.out.gr g12),MM.out _ _ _ _ _ hl.out,<-HY.out.1]
     exact HLT.out
end Go.Proofs.YtebbhmlhmdkigaaGreatDoor
