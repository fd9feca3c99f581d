import Derived.Test.YtanpdbadfddlcaaGreatDoorM41
import Derived.Test.YtanpdbadfddlcaaGreatDoorM47
namespace Go.Proofs.YtanpdbadfddlcaaGreatDoor.Fl
open Go.RowKit
open Ieee
set_option linter.unusedVariables false
theorem pow_three {k t A P:Nat} (X:Nat) (h:k+t+A=P):X*2 ^ k*2 ^ t*2 ^ A=X*2 ^ P:=by
 rw [<-h,Nat.pow_add,Nat.pow_add,Nat.mul_assoc,Nat.mul_assoc,Nat.mul_assoc]
theorem floor_two {X b P t A:Nat} (h:t+A=P+b):X / 2 ^ b*2 ^ t*2 ^ A<=X*2 ^ P/\X*2 ^ P<(X / 2 ^ b+1)*2 ^ t*2 ^ A/\(X / 2 ^ b*2 ^ t*2 ^ A=X*2 ^ P->X=X / 2 ^ b*2 ^ b):=by
 have e:∀ m,m*2 ^ t*2 ^ A=m*2 ^ b*2 ^ P:=fun m=>by
  rw [Nat.mul_assoc,Nat.mul_assoc,<-Nat.pow_add,<-Nat.pow_add,h,Nat.add_comm P b]
 have hb:=Nat.two_pow_pos b
 have hP:=Nat.two_pow_pos P
 have h1:=Nat.div_mul_le_self X (2 ^ b)
 have h2:X<(X / 2 ^ b+1)*2 ^ b:=by
  have:=Nat.lt_mul_div_succ X hb
  rw [Nat.mul_comm] at this
  exact this
 rw [e,e]
 refine ⟨Nat.mul_le_mul_right _ h1,Nat.mul_lt_mul_of_pos_right h2 hP,fun h3=>?_⟩
 exact (Nat.eq_of_mul_eq_mul_right hP h3).symm
theorem n0_lt {X L b:Nat} (h:X<2 ^ L) (hb:L<=53+b):X / 2 ^ b<9007199254740992:=by
 rw [Nat.div_lt_iff_lt_mul (Nat.two_pow_pos b)]
 have h2:2 ^ L<=2 ^ (53+b):=Nat.pow_le_pow_right (by omega) hb
 rw [Nat.pow_add] at h2
 have:(2:Nat) ^ 53=9007199254740992:=rfl
 rw [this] at h2
 omega
theorem n0_ge {X L b:Nat} (h:2 ^ L<=2*X) (hb:L=53+b):4503599627370496<=X / 2 ^ b:=by
 rw [Nat.le_div_iff_mul_le (Nat.two_pow_pos b)]
 rw [hb,Nat.pow_add] at h
 have:(2:Nat) ^ 53=2*4503599627370496:=rfl
 rw [this,Nat.mul_assoc] at h
 omega
theorem n0_ltU {X L k:Nat} (h:X<2 ^ L) (hb:L+k<=53):X*2 ^ k<9007199254740992:=by
 have h1:X*2 ^ k<2 ^ L*2 ^ k:=Nat.mul_lt_mul_of_pos_right h (Nat.two_pow_pos k)
 rw [<-Nat.pow_add] at h1
 have h2:2 ^ (L+k)<=2 ^ 53:=Nat.pow_le_pow_right (by omega) hb
 omega
theorem n0_geU {X L k:Nat} (h:2 ^ L<=2*X) (hb:L+k=53):4503599627370496<=X*2 ^ k:=by
 have h1:2 ^ L*2 ^ k<=2*X*2 ^ k:=Nat.mul_le_mul_right _ h
 rw [<-Nat.pow_add,hb,Nat.mul_assoc] at h1
 omega
theorem near_ref (ad:Option Addr) (n cap X P:Nat) (e:Int) (w:World) (hx:Lim w ad n cap 18446744073709551616 X) (x0:0<X) (hb:bl X<=5000) (e1 : -2148<=e) (e2:e<=3000) (hP:(P:Int)=e+2148) :
  ∃ c,Near (X*2 ^ P) U c/\∀ w1,Gr w w1->Calls Tryz.prog 108 #[.agg #[.bool false,.slice ad n cap,.int .i64 e]] w1 fun r w'=>r = .returned (.float .f64 c)/\Gr w1 w':=by
 have hkk:=KK_eq
 obtain ⟨A,hA,hU⟩:=U_form
 obtain ⟨L,hL⟩:∃ L,L=bl X:=⟨_,rfl⟩
 have hx1:X<2 ^ L:=hL ▸ bl_lt _
 have hx2:2 ^ L<=2*X:=hL ▸ bl_le x0
 have hL0:0<L:=Nat.pos_of_ne_zero fun h=>by rw [h] at hx1;simp at hx1;omega
 rw [<-hL] at hb
 obtain ⟨last,hlast⟩:∃ last:Int,last=max (e+(L:Int)-53) (-1074):=⟨_,rfl⟩
 obtain ⟨t,ht⟩:∃ t:Nat,(t:Int)=last+1074:=⟨(last+1074).toNat,by omega⟩
 obtain ⟨n0,N,M0,E,v,hcut,hE1,hE2,hM,hn0,hbM,hv,hN,hlo,hhi,hne,hbig⟩:∃ (n0 N M0:Nat) (E v:Int),(∀ s' m e',CutV false X e last false s' m e'->s'=false/\m=M0/\e'=E)/\last<=E/\E<=1310720/\M0*2 ^ (E-last).toNat=n0/\n0<9007199254740992/\bl M0<=262144 /\
   sg (sv KK false X e-sv KK false M0 E-sv KK false 1 (last-1))=v/\(N=n0+if 0<v\/(v=0/\n0 % 2=1) then 1 else 0)/\n0*2 ^ t*U<=X*2 ^ P/\X*2 ^ P<(n0+1)*2 ^ t*U/\(N=n0+1->X*2 ^ P≠n0*2 ^ t*U)/\(t=0\/4503599627370496<=n0):=by
  have hpos:0<sv KK false 1 (last-1):=(sv_sign KK false 1 (last-1) (by omega)).2 rfl
  by_cases hc:last<=e
  ·obtain ⟨k,hk⟩:∃ k:Nat,(k:Int)=e-last:=⟨(e-last).toNat,by omega⟩
   have hex:X*2 ^ k*2 ^ t*U=X*2 ^ P:=by rw [hU];exact pow_three X (by omega)
   have hsg:sg (sv KK false X e-sv KK false X e-sv KK false 1 (last-1)) = -1:=by
    rw [Int.sub_self];exact sg_neg (by omega)
   refine ⟨X*2 ^ k,X*2 ^ k,X,e,-1,?_,hc,by omega,by rw [show (e-last).toNat=k by omega],n0_ltU hx1 (by omega),by omega,hsg,by rw [if_neg (by omega),Nat.add_zero],Nat.le_of_eq hex,?_,fun h=>absurd h (by omega),?_⟩
   ·rintro s' m e' (⟨h,_⟩ | ⟨_,_,h1,h2,h3⟩ | ⟨_,h,_⟩)
    ·omega
    ·exact ⟨h1,h2,h3⟩
    ·omega
   ·rw [<-hex,Nat.add_mul,Nat.add_mul]
    have:=Nat.mul_pos (Nat.mul_pos (show 0<1 by omega) (Nat.two_pow_pos t)) U_pos
    omega
   ·by_cases h0:t=0
    ·exact Or.inl h0
    ·exact Or.inr (n0_geU hx2 (by omega))
  ·obtain ⟨b,hb2⟩:∃ b:Nat,(b:Int)=last-e:=⟨(last-e).toNat,by omega⟩
   obtain ⟨f1,f2,f3⟩:=floor_two (X:=X) (b:=b) (P:=P) (t:=t) (A:=A) (by omega)
   rw [<-hU] at f1 f2 f3
   refine ⟨X / 2 ^ b,_,X / 2 ^ b,last,_,?_,Int.le_refl _,by omega,by rw [Int.sub_self,Int.toNat_zero,Nat.pow_zero,Nat.mul_one],n0_lt hx1 (by omega),Nat.le_trans (bl_mono (Nat.div_le_self _ _)) (by omega),rfl,rfl,f1,f2,fun h hE=>?_,?_⟩
   ·rintro s' m e' (⟨h,_⟩ | ⟨_,h,_⟩ | ⟨_,_,h1,h2,h3⟩)
    ·omega
    ·omega
    ·rw [if_neg (fun h=>h.2 rfl),Nat.add_zero,show (last-e).toNat=b by omega] at h3
     exact ⟨h1,h3,h2⟩
   ·have hX:=f3 hE.symm
    have hsv:sv KK false X e=sv KK false (X / 2 ^ b) last:=by
     have:=sv_down KK false (X / 2 ^ b) last e (by omega) (by omega)
     rw [show (last-e).toNat=b by omega,<-hX] at this
     exact this
    rw [hsv,Int.sub_self,sg_neg (by omega),if_neg (by omega)] at h
    omega
   ·by_cases h0:t=0
    ·exact Or.inl h0
    ·exact Or.inr (n0_ge hx2 (by omega))
 have hN1:N=n0\/N=n0+1:=by rw [hN];split <;> omega
 have hNle:N<=9007199254740992:=by omega
 have hN2:t=0\/4503599627370496<=N:=by omega
 have A46:Hid (∀ w,Calls Tryz.prog 39 #[.float .f64 (floatOfInt FloatKind.f64 (N:Int)),.int .i64 last] w fun e w'=>e = .returned (.float .f64 (min (t*4503599627370496+N) 9218868437227405312))/\w'=w):=by
  obtain ⟨hMM,_,_⟩:=rung_near t N hNle hN2
  intro w
  clear hcut hv hN hx1 hx2 hlo hhi hne hM
  rw [floatOfInt_W (N:Int) (by omega),show decide ((N:Int)<0)=false from decide_eq_false (by omega),show ((N:Int)).natAbs=N by omega]
  by_cases h0:N=0
  ·subst h0
   obtain rfl:t=0:=by rcases hN2 with h | h;exact h;exact absurd h (by decide)
   have hz:ofN 0=0:=M_inj ((ofN_spec 0 (by omega)).1.trans (by rw [Nat.zero_mul,M_zero]))
   rw [hz]
   have:=ldexp_same (W false 0) last w (by rw [zeroB_W false 0 (by omega)];rfl)
   exact this
  ·exact ldexpN (ofN N) N (t*4503599627370496+N) t last (by omega) (ofN_spec N (by omega)).2.1 (ofN_spec N (by omega)).1 ht (by omega) hMM w
 have hm0:M (t*4503599627370496+n0)=n0*2 ^ t:=(rung_near t n0 (by omega) hbig).1
 have hm1:M (t*4503599627370496+n0+1)=(n0+1)*2 ^ t:=by
  have h:=(rung_near t (n0+1) (by omega) (by omega)).1
  rw [Nat.add_assoc]
  exact h
 refine ⟨min (t*4503599627370496+N) 9218868437227405312,near_of_faithful (r:=t*4503599627370496+n0) U_pos (by rw [hm0];exact hlo) (by rw [hm1];exact hhi) ?_,fun w1 g=>?_⟩
 ·rw [hm0]
  rcases hN1 with h | h
  ·exact Or.inl (by omega)
  ·exact Or.inr ⟨by omega,hne h⟩
 ·have:=nearW false ad n cap X M0 n0 N _ (negN _) e last E v w1 (hx.gr g) x0 (by rw [<-hL];omega) (by omega) (by omega) (by rw [<-hL];exact hlast.symm) hcut hE1 hE2 hM (by omega) hbM hv hN A46 (fun w=>neg_run _ w)
  rw [if_neg (by decide)] at this
  exact this
theorem nextU (r:Nat) (w:World) (hr:r<9218868437227405312) :
  Calls Tryz.prog 109 #[.float .f64 r,.float .f64 9218868437227405312] w fun e w'=>e = .returned (.float .f64 (r+1))/\w'=w:=by
 have b1:=bits14
 have b2:=from13
 have h1:nanB r=false:=(nanB_W false r (by omega)).trans (decide_eq_false (by omega))
 have h2:nanB 9218868437227405312=false:=(nanB_W false 9218868437227405312 (by omega)).trans (decide_eq_false (by omega))
 have hlt:=M_lt hr
 have h3:(FloatKind.f64.format.order r 9218868437227405312==some .eq)=false:=(B_eq false false r 9218868437227405312 (by omega) (by omega)).trans (decide_eq_false (by show ¬ ((M r:Int)=(M 9218868437227405312:Int));omega))
 have h5:(FloatKind.f64.format.order 9218868437227405312 r==some .gt)=true:=(B_gt false false 9218868437227405312 r (by omega) (by omega)).trans (decide_eq_true (by show ((M r:Int)<(M 9218868437227405312:Int));omega))
 by_cases h0:r=0
 ·subst h0
  have h4:(FloatKind.f64.format.order 0 0==some .eq)=true:=z0e
  have hc:copyN 1 9218868437227405312=0+1:=by kernel_rfl
  have HC:Hid (∀ w,Calls Tryz.prog 103 #[.float .f64 1,.float .f64 9218868437227405312] w fun e w'=>e = .returned (.float .f64 (0+1))/\w'=w):=fun w=>by
   have:=copy49 1 9218868437227405312 w
   rw [hc] at this
   exact this
  go_enter Tryz.func109,Tryz.ntmps109
  go_wp2_with (first | (go_at_call 98;refine (nan11 _ _).mono ?_;rintro e w' ⟨rfl,rfl⟩) | (go_at_call 103;refine (HC.out _).mono ?_;rintro e w' ⟨rfl,rfl⟩))
  go_ret
  exact ⟨rfl,rfl⟩
 ·have h4:(FloatKind.f64.format.order r 0==some .eq)=false:=(zeroB_W false r (by omega)).trans (decide_eq_false h0)
  have h6:(FloatKind.f64.format.order r 0==some .gt)=true:=(posB_W false r (by omega)).trans (by rw [decide_eq_true h0];rfl)
  have hx:r+1<18446744073709551616:=by omega
  go_enter Tryz.func109,Tryz.ntmps109
  go_wp2_with (go_at_call 98;refine (nan11 _ _).mono ?_;rintro e w' ⟨rfl,rfl⟩)
  go_ret
  refine ⟨?_,rfl⟩
  show Ending.returned (.float .f64 _)=_
  congr 2
theorem near_any (s:Bool) (ad:Option Addr) (n cap X P:Nat) (e:Int) (w:World) (hx:Lim w ad n cap 18446744073709551616 X) (hs:s=true->X=0) (hb:bl X<=5000) (e1 : -2148<=e) (e2:e<=3000) (hP:(P:Int)=e+2148) :
  ∃ c,Near (X*2 ^ P) U c/\∀ w1,Gr w w1->Calls Tryz.prog 108 #[.agg #[.bool s,.slice ad n cap,.int .i64 e]] w1 fun r w'=>r = .returned (.float .f64 c)/\Gr w1 w':=by
 by_cases x0:X=0
 ·subst x0
  refine ⟨0,⟨by omega,fun _=>?_,fun h=>absurd h (by omega)⟩,fun w1 g=>near_z s ad n cap e w1 (hx.gr g)⟩
  rw [Nat.zero_mul]
  exact Nat.mul_pos (M_pos (by omega)) U_pos
 ·obtain rfl:s=false:=by
   cases s
   ·rfl
   ·exact absurd (hs rfl) x0
  exact near_ref ad n cap X P e w hx (by omega) hb e1 e2 hP
theorem near_up {N c:Nat} (h:Near N U c):DirUp N U (if c<9218868437227405312/\M c*U<N then c+1 else c):=by
 obtain ⟨h1,h2,h3⟩:=h
 split
 ·next hc =>
  refine ⟨by omega,fun _=>Nat.le_of_lt (h2 hc.1),fun _=>?_⟩
  rw [Nat.add_sub_cancel]
  exact hc.2
 ·next hc =>
  refine ⟨h1,fun hlt=>Nat.le_of_not_lt fun h=>hc ⟨hlt,h⟩,h3⟩
theorem cmp_units (c X P:Nat) (s:Bool) (e:Int) (hs:s=true->X=0) (hP:(P:Int)=e+2148):sv 2148 false (mant c) ((ex c:Int)-1074)-sv 2148 s X e=((M c*U:Nat):Int)-((X*2 ^ P:Nat):Int):=by
 obtain ⟨A,hA,hU⟩:=U_form
 have h1:sv 2148 false (mant c) ((ex c:Int)-1074)=((M c*U:Nat):Int):=by
  unfold sv M
  rw [if_neg (by decide),hU,Nat.mul_assoc,<-Nat.pow_add,show ((ex c:Int)-1074+2148).toNat=ex c+A by omega]
 have h2:sv 2148 s X e=((X*2 ^ P:Nat):Int):=by
  cases s
  ·unfold sv
   rw [if_neg (by decide),show (e+2148).toNat=P by omega]
  ·rw [hs rfl,sv_zero,Nat.zero_mul];rfl
 rw [h1,h2]
theorem upW (s:Bool) (ad:Option Addr) (n cap c:Nat) (e v:Int) (w:World) (hc:c<9218868437227405312)
  (HN:Hid (∀ w1,Gr w w1->Calls Tryz.prog 108 #[.agg #[.bool s,.slice ad n cap,.int .i64 e]] w1 fun r w'=>r = .returned (.float .f64 c)/\Gr w1 w'))
  (HF:Hid (∀ w1,Calls Tryz.prog 74 #[.float .f64 c] w1 fun res w'=>∃ ad n cap,res = .returned (.agg #[.bool false,.slice ad n cap,.int .i64 ((ex c:Int)-1074)])/\Lim w' ad n cap 18446744073709551616 (mant c)/\Gr w1 w'))
  (HC:Hid (∀ w1 a m k,Gr w w1->Lim w1 a m k 18446744073709551616 (mant c)->Calls Tryz.prog 55 #[.agg #[.bool false,.slice a m k,.int .i64 ((ex c:Int)-1074)],.agg #[.bool s,.slice ad n cap,.int .i64 e]] w1 fun r w'=>r = .returned (.int .i64 v)/\Gr w1 w')) :
  Calls Tryz.prog 73 #[.agg #[.bool s,.slice ad n cap,.int .i64 e]] w fun r w'=>r = .returned (.float .f64 (if v<0 then c+1 else c))/\Gr w w':=by
 have hsub:∀ w,(binOp .sub 25 (.float .f64 c) (.float .f64 c)).run Tryz.prog w = .ok (.float .f64 0) w:=fun w=>sub_run w _ _ _ (sub_self false c hc)
 have hz:=z0e
 have P0:=hide (blkU w (.cells #[.bool s,.slice ad n cap,.int .i64 e] 58))
 have G0:Gr w (w.alloc (.cells #[.bool s,.slice ad n cap,.int .i64 e] 58)):=(Gr.refl w).alloc _
 have HX:Hid (∀ w,Calls Tryz.prog 109 #[.float .f64 c,.float .f64 9218868437227405312] w fun e w'=>e = .returned (.float .f64 (c+1))/\w'=w):=fun w=>nextU c w hc
 go_enter Tryz.func73,Tryz.ntmps73
 go_wp2_with (go_at_call 108;(with_reducible refine (HN.out _ G0).mono ?_);rintro r w1 ⟨rfl,g1⟩;have G1:=G0.trans g1;have P1:=g1.keepH P0.out;obtain ⟨x0',x1',x2'⟩:=cells_ofT P1)
 have S1:(w1.cell? ⟨w.heap.size,0,none⟩=some (.bool s)/\w1.cell? ⟨w.heap.size,1,none⟩=some (.slice ad n cap)/\w1.cell? ⟨w.heap.size,2,none⟩=some (.int .i64 e))/\Gr w w1:=⟨⟨x0',x1',x2'⟩,G1⟩
 have S2:=keepY ((Gr.refl w1).drew) S1
 clear x0' x1' x2' HN P0 P1 g1 G0 S1
 go_region_held3 (fun w'=>(w'.cell? ⟨w.heap.size,0,none⟩=some (.bool s)/\w'.cell? ⟨w.heap.size,1,none⟩=some (.slice ad n cap)/\w'.cell? ⟨w.heap.size,2,none⟩=some (.int .i64 e))/\Gr w w') (first | (with_reducible assumption) | (apply keepY;(with_reducible assumption);(with_reducible assumption))) (first | (go_at_call 74;(with_reducible refine (HF.out _).mono ?_);rintro r w2 ⟨a2,m2,k2,rfl,hl2,g2⟩) | (go_at_call 55;(with_reducible refine (HC.out _ _ _ _ ?gg hl2).mono ?_);(case gg=>exact And.right ‹_/\Gr w _›);rintro r w3 ⟨rfl,g3⟩))
 have G3:Gr w w3:=And.right (by with_reducible assumption)
 by_cases hv:v<0
 ·have hd:decide (v<0)=true:=decide_eq_true hv
  rw [hd]
  go_wp2_with (first | (go_at_call 72;(with_reducible refine (inf51p _).mono ?_);rintro r w4 ⟨rfl,rfl⟩) | (go_at_call 109;(with_reducible refine (HX.out _).mono ?_);rintro r w5 ⟨rfl,rfl⟩))
  go_ret
  exact ⟨by first | rfl | (rw [if_pos (by omega)];rfl),G3⟩
 ·have hd:decide (v<0)=false:=decide_eq_false hv
  rw [hd]
  go_wp2
  go_ret
  exact ⟨by first | rfl | (rw [if_neg (by omega)];rfl),G3⟩
def RUI (t0 t1 t2 t4 t5 t6 t7 t8 t9 t10 t11 t12 t13 t14 t15 t16 t17 t18 t19 t20:Value) (wq:World):Exit->Act->World->Prop
 | .normal,a,w=>∃ u6 u7 u8 u9 u10 u11 u12 u13 u14 u15,a = {tmps:=#[t0,t1,t2,.float .f64 9218868437227405312,t4,t5,u6,u7,u8,u9,u10,u11,u12,u13,u14,u15,.bool false,t17,t18,t19,t20],defers:=[]}/\Gr wq w
 | _,_,_=>False
set_option maxRecDepth 100000 in
set_option maxHeartbeats 4000000 in
theorem regUI (t0 t1 t2 t4 t5 t6 t7 t8 t9 t10 t11 t12 t13 t14 t15 t16 t17 t18 t19 t20:Value) (y:World->Nat) (wq:World)
  (hs:∀ w,(binOp .sub 25 (.float .f64 9218868437227405312) (.float .f64 9218868437227405312)).run Tryz.prog w = .ok (.float .f64 (y w)) w.drew) (hz:∀ w,(FloatKind.f64.format.order (y w) 0==some .eq)=false) :
  Code.wp Tryz.prog (Code.region 2 #[{dst:=some 6,op:=Op.move (Operand.tmp 3),type:=25,pos:= "ref.go:27",after:=#[],guard:=none},{dst:=some 7,op:=Op.move (Operand.tmp 3),type:=25,pos:= "ref.go:27",after:=#[],guard:=none},{dst:=some 8,op:=Op.binOp BinOp.sub 25 (Operand.tmp 6) (Operand.tmp 7) 25,type:=25,pos:= "ref.go:27",after:=#[{on:=0,ground:=Ground.data},{on:=1,ground:=Ground.data}],guard:=none},{dst:=some 9,op:=Op.binOp BinOp.eql 25 (Operand.tmp 8) (Operand.const (Value.float FloatKind.f64 0)) 25,type:=4,pos:= "ref.go:27",after:=#[{on:=2,ground:=Ground.data}],guard:=none},{dst:=some 10,op:=Op.move (Operand.tmp 9),type:=4,pos:= "ref.go:27",after:=#[{on:=3,ground:=Ground.data}],guard:=none},{dst:=some 11,op:=Op.move (Operand.tmp 3),type:=25,pos:= "ref.go:27",after:=#[{on:=4,ground:=Ground.guard}],guard:=some (4,true)},{dst:=some 12,op:=Op.call {callee:=Callee.value (Operand.func 74),args:=#[Operand.tmp 11],argTypes:=#[25]},type:=58,pos:= "ref.go:27",after:=#[{on:=5,ground:=Ground.data},{on:=4,ground:=Ground.chain},{on:=4,ground:=Ground.guard}],guard:=some (4,true)},{dst:=some 13,op:=Op.load 58 (Operand.tmp 1),type:=58,pos:= "ref.go:27",after:=#[{on:=4,ground:=Ground.guard}],guard:=some (4,true)},{dst:=some 14,op:=Op.call {callee:=Callee.value (Operand.func 55),args:=#[Operand.tmp 12,Operand.tmp 13],argTypes:=#[58,58]},type:=3,pos:= "ref.go:27",after:=#[{on:=6,ground:=Ground.data},{on:=7,ground:=Ground.data},{on:=6,ground:=Ground.chain},{on:=4,ground:=Ground.guard}],guard:=some (4,true)},{dst:=some 15,op:=Op.binOp BinOp.lss 3 (Operand.tmp 14) (Operand.const (Value.int IntKind.i64 0)) 3,type:=4,pos:= "ref.go:27",after:=#[{on:=8,ground:=Ground.data},{on:=4,ground:=Ground.guard}],guard:=some (4,true)},{dst:=some 16,op:=Op.pick (Operand.tmp 10) (Operand.tmp 15) (Operand.const (Value.bool false)),type:=4,pos:= "ref.go:27",after:=#[{on:=4,ground:=Ground.data},{on:=9,ground:=Ground.data}],guard:=none}] true) (RUI t0 t1 t2 t4 t5 t6 t7 t8 t9 t10 t11 t12 t13 t14 t15 t16 t17 t18 t19 t20 wq) {tmps:=#[t0,t1,t2,.float .f64 9218868437227405312,t4,t5,t6,t7,t8,t9,t10,t11,t12,t13,t14,t15,t16,t17,t18,t19,t20],defers:=[]} wq:=by
 have hS0:True/\Gr wq wq.drew:=⟨trivial,(Gr.refl wq).drew⟩
 refine wp_region_held_drew (S:=fun w'=>True/\Gr wq w') (by kernel_rfl) hS0 (fun hHeld=>?_)
 clear hS0
 generalize wq.drew=wd at *
 refine wpAnyH_take (i:=0) (oi:=({dst:=some 6,op:=Op.move (Operand.tmp 3),type:=25,pos:= "ref.go:27",after:=#[],guard:=none}:Oper)) (v:=?_) rfl (by kernel_rfl) (by kernel_rfl) (by kernel_rfl) (fun _ _ _ h=>h) (Or.inl ⟨by rfl,?_⟩) (by with_reducible assumption) ?_
 rotate_left
 ·intro w hSw
  (try dsimp only at hSw)
  first | (go_simp;done) | (go_simp;with_reducible rfl)
 (try simp only [Act.put,List.setIfInBounds_toArray,List.set_cons_zero,List.set_cons_succ])
 refine wpAnyH_take (i:=1) (oi:=({dst:=some 7,op:=Op.move (Operand.tmp 3),type:=25,pos:= "ref.go:27",after:=#[],guard:=none}:Oper)) (v:=?_) rfl (by kernel_rfl) (by kernel_rfl) (by kernel_rfl) (fun _ _ _ h=>h) (Or.inl ⟨by rfl,?_⟩) (by with_reducible assumption) ?_
 rotate_left
 ·intro w hSw
  (try dsimp only at hSw)
  first | (go_simp;done) | (go_simp;with_reducible rfl)
 (try simp only [Act.put,List.setIfInBounds_toArray,List.set_cons_zero,List.set_cons_succ])
 refine wpAnyH_ready (rs:=[2]) (by kernel_rfl) (by simp) ?_
 refine AllReadyH.cons (o:=({dst:=some 8,op:=Op.binOp BinOp.sub 25 (Operand.tmp 6) (Operand.tmp 7) 25,type:=25,pos:= "ref.go:27",after:=#[{on:=0,ground:=Ground.data},{on:=1,ground:=Ground.data}],guard:=none}:Oper)) rfl (fun K hK=>?_) AllReadyH.nil
 go_simp
 have z1:=hz wd
 have z2:=hs wd
 refine hK.out _ _ ⟨trivial,hHeld.2.drew⟩ (fun hH2=>?_)
 clear hK K
 (try simp only [Act.put,List.setIfInBounds_toArray,List.set_cons_zero,List.set_cons_succ])
 refine wpAnyH_take (i:=3) (oi:=({dst:=some 9,op:=Op.binOp BinOp.eql 25 (Operand.tmp 8) (Operand.const (Value.float FloatKind.f64 0)) 25,type:=4,pos:= "ref.go:27",after:=#[{on:=2,ground:=Ground.data}],guard:=none}:Oper)) (v:=?_) rfl (by kernel_rfl) (by kernel_rfl) (by kernel_rfl) (fun _ _ _ h=>h) (Or.inl ⟨by rfl,?_⟩) (by with_reducible assumption) ?_
 rotate_left
 ·intro w hSw
  (try dsimp only at hSw)
  first | (go_simp;done) | (go_simp;with_reducible rfl)
 (try simp only [Act.put,List.setIfInBounds_toArray,List.set_cons_zero,List.set_cons_succ])
 refine wpAnyH_take (i:=4) (oi:=({dst:=some 10,op:=Op.move (Operand.tmp 9),type:=4,pos:= "ref.go:27",after:=#[{on:=3,ground:=Ground.data}],guard:=none}:Oper)) (v:=?_) rfl (by kernel_rfl) (by kernel_rfl) (by kernel_rfl) (fun _ _ _ h=>h) (Or.inl ⟨by rfl,?_⟩) (by with_reducible assumption) ?_
 rotate_left
 ·intro w hSw
  (try dsimp only at hSw)
  first | (go_simp;done) | (go_simp;with_reducible rfl)
 (try simp only [Act.put,List.setIfInBounds_toArray,List.set_cons_zero,List.set_cons_succ])
 refine wpAnyH_take (i:=5) (oi:=({dst:=some 11,op:=Op.move (Operand.tmp 3),type:=25,pos:= "ref.go:27",after:=#[{on:=4,ground:=Ground.guard}],guard:=some (4,true)}:Oper)) (v:=undef) rfl (by kernel_rfl) (by kernel_rfl) (by kernel_rfl) (fun _ _ _ h=>h) (Or.inr ⟨by rfl,rfl⟩) (by with_reducible assumption) ?_
 (try simp only [Act.put,List.setIfInBounds_toArray,List.set_cons_zero,List.set_cons_succ])
 refine wpAnyH_take (i:=6) (oi:=({dst:=some 12,op:=Op.call {callee:=Callee.value (Operand.func 74),args:=#[Operand.tmp 11],argTypes:=#[25]},type:=58,pos:= "ref.go:27",after:=#[{on:=5,ground:=Ground.data},{on:=4,ground:=Ground.chain},{on:=4,ground:=Ground.guard}],guard:=some (4,true)}:Oper)) (v:=undef) rfl (by kernel_rfl) (by kernel_rfl) (by kernel_rfl) (fun _ _ _ h=>h) (Or.inr ⟨by rfl,rfl⟩) (by with_reducible assumption) ?_
 (try simp only [Act.put,List.setIfInBounds_toArray,List.set_cons_zero,List.set_cons_succ])
 refine wpAnyH_take (i:=7) (oi:=({dst:=some 13,op:=Op.load 58 (Operand.tmp 1),type:=58,pos:= "ref.go:27",after:=#[{on:=4,ground:=Ground.guard}],guard:=some (4,true)}:Oper)) (v:=undef) rfl (by kernel_rfl) (by kernel_rfl) (by kernel_rfl) (fun _ _ _ h=>h) (Or.inr ⟨by rfl,rfl⟩) (by with_reducible assumption) ?_
 (try simp only [Act.put,List.setIfInBounds_toArray,List.set_cons_zero,List.set_cons_succ])
 refine wpAnyH_take (i:=8) (oi:=({dst:=some 14,op:=Op.call {callee:=Callee.value (Operand.func 55),args:=#[Operand.tmp 12,Operand.tmp 13],argTypes:=#[58,58]},type:=3,pos:= "ref.go:27",after:=#[{on:=6,ground:=Ground.data},{on:=7,ground:=Ground.data},{on:=6,ground:=Ground.chain},{on:=4,ground:=Ground.guard}],guard:=some (4,true)}:Oper)) (v:=undef) rfl (by kernel_rfl) (by kernel_rfl) (by kernel_rfl) (fun _ _ _ h=>h) (Or.inr ⟨by rfl,rfl⟩) (by with_reducible assumption) ?_
 (try simp only [Act.put,List.setIfInBounds_toArray,List.set_cons_zero,List.set_cons_succ])
 refine wpAnyH_take (i:=9) (oi:=({dst:=some 15,op:=Op.binOp BinOp.lss 3 (Operand.tmp 14) (Operand.const (Value.int IntKind.i64 0)) 3,type:=4,pos:= "ref.go:27",after:=#[{on:=8,ground:=Ground.data},{on:=4,ground:=Ground.guard}],guard:=some (4,true)}:Oper)) (v:=undef) rfl (by kernel_rfl) (by kernel_rfl) (by kernel_rfl) (fun _ _ _ h=>h) (Or.inr ⟨by rfl,rfl⟩) (by with_reducible assumption) ?_
 (try simp only [Act.put,List.setIfInBounds_toArray,List.set_cons_zero,List.set_cons_succ])
 refine wpAnyH_take (i:=10) (oi:=({dst:=some 16,op:=Op.pick (Operand.tmp 10) (Operand.tmp 15) (Operand.const (Value.bool false)),type:=4,pos:= "ref.go:27",after:=#[{on:=4,ground:=Ground.data},{on:=9,ground:=Ground.data}],guard:=none}:Oper)) (v:=?_) rfl (by kernel_rfl) (by kernel_rfl) (by kernel_rfl) (fun _ _ _ h=>h) (Or.inl ⟨by rfl,?_⟩) (by with_reducible assumption) ?_
 rotate_left
 ·intro w hSw
  (try dsimp only at hSw)
  first | (go_simp;done) | (go_simp;with_reducible rfl)
 (try simp only [Act.put,List.setIfInBounds_toArray,List.set_cons_zero,List.set_cons_succ])
 refine wpAnyH_done (by kernel_rfl) ?_ _
 exact ⟨_,_,_,_,_,_,_,_,_,_,rfl,hH2.2⟩
theorem upI (s:Bool) (ad:Option Addr) (n cap:Nat) (e:Int) (w:World)
  (HN:Hid (∀ w1,Gr w w1->Calls Tryz.prog 108 #[.agg #[.bool s,.slice ad n cap,.int .i64 e]] w1 fun r w'=>r = .returned (.float .f64 9218868437227405312)/\Gr w1 w')) :
  Calls Tryz.prog 73 #[.agg #[.bool s,.slice ad n cap,.int .i64 e]] w fun r w'=>r = .returned (.float .f64 9218868437227405312)/\Gr w w':=by
 have hnan:=fun w=>run_float_nan .sub (by simp) 25 (W false 9218868437227405312) (W false 9218868437227405312) w (sub_inf false)
 obtain ⟨y,hy⟩:∃ y:World->Nat,∀ w,(binOp .sub 25 (.float .f64 9218868437227405312) (.float .f64 9218868437227405312)).run Tryz.prog w = .ok (.float .f64 (y w)) w.drew/\(FloatKind.f64.format.order (y w) 0==some .eq)=false:=⟨fun w=>(hnan w).choose,fun w=>⟨(hnan w).choose_spec.1,nan_order _ 0 (hnan w).choose_spec.2⟩⟩
 have hs:=hide (fun w=>(hy w).1)
 have hz:=hide (fun w=>(hy w).2)
 clear hy hnan
 have P0:=hide (blkU w (.cells #[.bool s,.slice ad n cap,.int .i64 e] 58))
 have G0:Gr w (w.alloc (.cells #[.bool s,.slice ad n cap,.int .i64 e] 58)):=(Gr.refl w).alloc _
 go_enter Tryz.func73,Tryz.ntmps73
 go_wp2_with (go_at_call 108;(with_reducible refine (HN.out _ G0).mono ?_);rintro r w1 ⟨rfl,g1⟩;have G1:=G0.trans g1;have P1:=g1.keepH P0.out;obtain ⟨x0',x1',x2'⟩:=cells_ofT P1)
 clear x0' x1' x2' HN P0 P1 g1 G0
 refine Code.wp_mono ?_ (regUI _ _ _ _ _ _ _ _ _ _ _ _ _ _ _ _ _ _ _ _ y w1 hs.out hz.out)
 intro ex ac wf hR
 cases ex
 case normal =>
  obtain ⟨u6,u7,u8,u9,u10,u11,u12,u13,u14,u15,rfl,gf⟩:=hR
  go_wp2
  go_ret
  exact ⟨rfl,G1.trans gf⟩
 all_goals exact hR.elim
theorem upR (s:Bool) (ad:Option Addr) (n cap X P:Nat) (e:Int) (w:World) (hx:Lim w ad n cap 18446744073709551616 X) (hs:s=true->X=0) (hb:bl X<=5000) (e1 : -2148<=e) (e2:e<=3000) (hP:(P:Int)=e+2148) :
  ∃ r,DirUp (X*2 ^ P) U r/\∀ w1,Gr w w1->Calls Tryz.prog 73 #[.agg #[.bool s,.slice ad n cap,.int .i64 e]] w1 fun v w'=>v = .returned (.float .f64 r)/\Gr w1 w':=by
 obtain ⟨c,hc,HN⟩:=near_any s ad n cap X P e w hx hs hb e1 e2 hP
 refine ⟨_,near_up hc,fun w1 g=>?_⟩
 by_cases hi:c<9218868437227405312
 ·have hex:ex c<=2046:=by unfold ex;omega
  have hbm:bl (mant c)<=53:=bl_le_of_lt (Nat.lt_of_lt_of_le (mant_lt c) (by decide))
  refine (upW s ad n cap c e (sg (((M c*U:Nat):Int)-((X*2 ^ P:Nat):Int))) w1 hi (fun w2 g2=>HN w2 (g.trans g2)) (fun w2=>float41 false c w2 hi) (fun w2 a m k g2 hl=>?_)).mono ?_
  ·have:=compare45 false s a ad m n k cap (mant c) X ((ex c:Int)-1074) e w2 hl (hx.gr (g.trans g2)) (by omega) (by omega) (by omega) (by omega) (by omega) (by omega) 2148 (by omega) (by omega)
   rw [cmp_units c X P s e hs hP] at this
   exact this
  ·rintro v w' ⟨rfl,g3⟩
   refine ⟨?_,g3⟩
   by_cases hlt:M c*U<X*2 ^ P
   ·rw [sg_neg (by omega),if_pos (by omega),if_pos ⟨hi,hlt⟩]
   ·have:¬ sg (((M c*U:Nat):Int)-((X*2 ^ P:Nat):Int))<0:=by
     rcases Nat.lt_or_ge (X*2 ^ P) (M c*U) with h | h
     ·rw [sg_pos (by omega)];omega
     ·rw [show ((M c*U:Nat):Int)-((X*2 ^ P:Nat):Int)=0 by omega,sg_zero];omega
    rw [if_neg this,if_neg (fun h=>hlt h.2)]
 ·obtain rfl:c=9218868437227405312:=by have:=hc.1;omega
  rw [if_neg (fun h=>absurd h.1 (by omega))]
  exact upI s ad n cap e w1 (fun w2 g2=>HN w2 (g.trans g2))
end Go.Proofs.YtanpdbadfddlcaaGreatDoor.Fl
