import Derived.Test.YtanpdbadfddlcaaGreatDoorM46
import Derived.Test.YtanpdbadfddlcaaGreatDoorM17
import Derived.Test.YtanpdbadfddlcaaGreatDoorM23
import Derived.Deep.RegionHeld3
import Derived.Deep.DeepCutAuto
namespace Go.Proofs.YtanpdbadfddlcaaGreatDoor
open Go.RowKit
set_option linter.unusedVariables false
set_option linter.unusedSimpArgs false
theorem keepY {W wo wn:World} {p:Nat} {a0 a1 a2:Value} (g:Gr wo wn) (h:(wo.cell? ⟨p,0,none⟩=some a0/\wo.cell? ⟨p,1,none⟩=some a1/\wo.cell? ⟨p,2,none⟩=some a2)/\Gr W wo):(wn.cell? ⟨p,0,none⟩=some a0/\wn.cell? ⟨p,1,none⟩=some a1/\wn.cell? ⟨p,2,none⟩=some a2)/\Gr W wn:=⟨⟨g.keep h.1.1,g.keep h.1.2.1,g.keep h.1.2.2⟩,h.2.trans g⟩
def RN9 (t0 t1 t2 t4 t5 t7 t8 t9 t10 t11 t12 t13 t14 t15 t16 t17 t18 t19 t20 t21 t22 t23 t24 t25 t26 t27 t28 t29 t30 t31 t32 t33 t34 t35 t36 t37 t38 t39 t40 t41 t42 t43 t44 t45 t46 t47 t48 t49 t50 t51 t52 t53 t54 t55 t56 t57 t58 t59 t60 t61 t62 t63 t64 t65 t66 t67 t68:Value) (last v:Int) (bR:Nat) (wq:World):Exit->Act->World->Prop
 | .normal,a,w=>∃ u41 u42 u43 u44 u45 u46,a = {tmps:=#[t0,t1,t2,.int .i64 last,t4,t5,.pointer (some ⟨bR,0,none⟩),.int .i64 v,t8,t9,t10,t11,t12,t13,t14,t15,t16,t17,t18,t19,t20,t21,t22,t23,t24,t25,t26,t27,t28,t29,t30,t31,t32,t33,t34,t35,t36,t37,t38,t39,t40,u41,u42,u43,u44,u45,u46,t47,t48,t49,t50,t51,t52,t53,t54,t55,t56,t57,t58,t59,t60,t61,t62,t63,t64,t65,t66,t67,t68],defers:=[]}/\Gr wq w
 | _,_,_=>False
set_option maxRecDepth 100000 in
set_option maxHeartbeats 20000000 in
theorem regN9 (t0 t1 t2 t4 t5 t7 t8 t9 t10 t11 t12 t13 t14 t15 t16 t17 t18 t19 t20 t21 t22 t23 t24 t25 t26 t27 t28 t29 t30 t31 t32 t33 t34 t35 t36 t37 t38 t39 t40 t41 t42 t43 t44 t45 t46 t47 t48 t49 t50 t51 t52 t53 t54 t55 t56 t57 t58 t59 t60 t61 t62 t63 t64 t65 t66 t67 t68:Value) (neg:Bool) (aR:Option Addr) (nR cR:Nat) (g last v:Int) (bR:Nat) (wq:World) (l1 : -4194304<=last) (l2:last<=4194304)
  (r0:wq.cell? ⟨bR,0,none⟩=some (.bool neg)) (r1:wq.cell? ⟨bR,1,none⟩=some (.slice aR nR cR)) (r2:wq.cell? ⟨bR,2,none⟩=some (.int .i64 g))
  (HO:Hid (∀ w1,Calls Tryz.prog 90 #[.int .u64 1] w1 fun e w'=>∃ ad n cap,e = .returned (.slice ad n cap)/\Hid (Lim w' ad n cap 18446744073709551616 1)/\Gr w1 w'))
  (HC:Hid (∀ a n c w1,Gr wq w1->Lim w1 a n c 18446744073709551616 1->Calls Tryz.prog 55 #[.agg #[.bool neg,.slice aR nR cR,.int .i64 g],.agg #[.bool false,.slice a n c,.int .i64 (IntKind.i64.wrap (last-1))]] w1 fun r w'=>r = .returned (.int .i64 v)/\Gr w1 w')) :
  Code.wp Tryz.prog (Code.region 9 #[{dst:=some 41,op:=Op.load 58 (Operand.tmp 6),type:=58,pos:= "num.go:200",after:=#[],guard:=none},{dst:=some 42,op:=Op.call {callee:=Callee.value (Operand.func 90),args:=#[Operand.const (Value.int IntKind.u64 1)],argTypes:=#[34]},type:=56,pos:= "num.go:200",after:=#[],guard:=none},{dst:=some 43,op:=Op.move (Operand.tmp 3),type:=3,pos:= "num.go:200",after:=#[],guard:=none},{dst:=some 44,op:=Op.binOp BinOp.sub 3 (Operand.tmp 43) (Operand.const (Value.int IntKind.i64 1)) 3,type:=3,pos:= "num.go:200",after:=#[{on:=2,ground:=Ground.data}],guard:=none},{dst:=some 45,op:=Op.build 58 #[(1,Operand.tmp 42),(2,Operand.tmp 44)],type:=58,pos:= "num.go:200",after:=#[{on:=1,ground:=Ground.data},{on:=3,ground:=Ground.data}],guard:=none},{dst:=some 46,op:=Op.call {callee:=Callee.value (Operand.func 55),args:=#[Operand.tmp 41,Operand.tmp 45],argTypes:=#[58,58]},type:=3,pos:= "num.go:200",after:=#[{on:=0,ground:=Ground.data},{on:=4,ground:=Ground.data},{on:=1,ground:=Ground.chain}],guard:=none},{dst:=some 7,op:=Op.assign (Operand.tmp 46),type:=3,pos:= "num.go:200",after:=#[{on:=5,ground:=Ground.data},{on:=5,ground:=Ground.chain},{on:=0,ground:=Ground.phase},{on:=1,ground:=Ground.phase},{on:=2,ground:=Ground.phase},{on:=3,ground:=Ground.phase},{on:=4,ground:=Ground.phase},{on:=5,ground:=Ground.phase}],guard:=none}] true) (RN9 t0 t1 t2 t4 t5 t7 t8 t9 t10 t11 t12 t13 t14 t15 t16 t17 t18 t19 t20 t21 t22 t23 t24 t25 t26 t27 t28 t29 t30 t31 t32 t33 t34 t35 t36 t37 t38 t39 t40 t41 t42 t43 t44 t45 t46 t47 t48 t49 t50 t51 t52 t53 t54 t55 t56 t57 t58 t59 t60 t61 t62 t63 t64 t65 t66 t67 t68 last v bR wq) {tmps:=#[t0,t1,t2,.int .i64 last,t4,t5,.pointer (some ⟨bR,0,none⟩),t7,t8,t9,t10,t11,t12,t13,t14,t15,t16,t17,t18,t19,t20,t21,t22,t23,t24,t25,t26,t27,t28,t29,t30,t31,t32,t33,t34,t35,t36,t37,t38,t39,t40,t41,t42,t43,t44,t45,t46,t47,t48,t49,t50,t51,t52,t53,t54,t55,t56,t57,t58,t59,t60,t61,t62,t63,t64,t65,t66,t67,t68],defers:=[]} wq:=by
 have hS0:(wq.drew.cell? ⟨bR,0,none⟩=some (.bool neg)/\wq.drew.cell? ⟨bR,1,none⟩=some (.slice aR nR cR)/\wq.drew.cell? ⟨bR,2,none⟩=some (.int .i64 g))/\Gr wq wq.drew:=⟨⟨r0,r1,r2⟩,(Gr.refl wq).drew⟩
 clear r0 r1 r2
 refine wp_region_held_drew (S:=fun w'=>(w'.cell? ⟨bR,0,none⟩=some (.bool neg)/\w'.cell? ⟨bR,1,none⟩=some (.slice aR nR cR)/\w'.cell? ⟨bR,2,none⟩=some (.int .i64 g))/\Gr wq w') (by kernel_rfl) hS0 (fun hHeld=>?_)
 refine wpAnyH_take (i:=0) (oi:=({dst:=some 41,op:=Op.load 58 (Operand.tmp 6),type:=58,pos:= "num.go:200",after:=#[],guard:=none}:Oper)) (v:=?_) rfl (by kernel_rfl) (by kernel_rfl) (by kernel_rfl) (fun _ _ _ h=>h) (Or.inl ⟨by rfl,?_⟩) (by with_reducible assumption) ?_
 rotate_left
 ·intro w hSw
  (try dsimp only at hSw)
  first | (go_simp;done) | (go_simp;with_reducible rfl)
 (try simp only [Act.put,List.setIfInBounds_toArray,List.set_cons_zero,List.set_cons_succ])
 refine wpAnyH_take (i:=2) (oi:=({dst:=some 43,op:=Op.move (Operand.tmp 3),type:=3,pos:= "num.go:200",after:=#[],guard:=none}:Oper)) (v:=?_) rfl (by kernel_rfl) (by kernel_rfl) (by kernel_rfl) (fun _ _ _ h=>h) (Or.inl ⟨by rfl,?_⟩) (by with_reducible assumption) ?_
 rotate_left
 ·intro w hSw
  (try dsimp only at hSw)
  first | (go_simp;done) | (go_simp;with_reducible rfl)
 (try simp only [Act.put,List.setIfInBounds_toArray,List.set_cons_zero,List.set_cons_succ])
 refine wpAnyH_take (i:=3) (oi:=({dst:=some 44,op:=Op.binOp BinOp.sub 3 (Operand.tmp 43) (Operand.const (Value.int IntKind.i64 1)) 3,type:=3,pos:= "num.go:200",after:=#[{on:=2,ground:=Ground.data}],guard:=none}:Oper)) (v:=?_) rfl (by kernel_rfl) (by kernel_rfl) (by kernel_rfl) (fun _ _ _ h=>h) (Or.inl ⟨by rfl,?_⟩) (by with_reducible assumption) ?_
 rotate_left
 ·intro w hSw
  (try dsimp only at hSw)
  first | (go_simp;done) | (go_simp;with_reducible rfl)
 (try simp only [Act.put,List.setIfInBounds_toArray,List.set_cons_zero,List.set_cons_succ])
 refine wpAnyH_ready (rs:=[1]) (by kernel_rfl) (by simp) ?_
 refine AllReadyH.cons (o:=({dst:=some 42,op:=Op.call {callee:=Callee.value (Operand.func 90),args:=#[Operand.const (Value.int IntKind.u64 1)],argTypes:=#[34]},type:=56,pos:= "num.go:200",after:=#[],guard:=none}:Oper)) rfl (fun K hK=>?_) AllReadyH.nil
 go_simp
 with_reducible refine (HO.out _).mono ?_
 rintro r w4 ⟨a4,n4,c4,rfl,hl4,g4⟩
 refine hK.out _ _ (keepY g4 hHeld) (fun hH4=>?_)
 clear hK K
 (try simp only [Act.put,List.setIfInBounds_toArray,List.set_cons_zero,List.set_cons_succ])
 refine wpAnyH_take (i:=4) (oi:=({dst:=some 45,op:=Op.build 58 #[(1,Operand.tmp 42),(2,Operand.tmp 44)],type:=58,pos:= "num.go:200",after:=#[{on:=1,ground:=Ground.data},{on:=3,ground:=Ground.data}],guard:=none}:Oper)) (v:=?_) rfl (by kernel_rfl) (by kernel_rfl) (by kernel_rfl) (fun _ _ _ h=>h) (Or.inl ⟨by rfl,?_⟩) (by with_reducible assumption) ?_
 rotate_left
 ·intro w hSw
  (try dsimp only at hSw)
  first | (go_simp;done) | (go_simp;with_reducible rfl)
 (try simp only [Act.put,List.setIfInBounds_toArray,List.set_cons_zero,List.set_cons_succ])
 refine wpAnyH_ready (rs:=[5]) (by kernel_rfl) (by simp) ?_
 refine AllReadyH.cons (o:=({dst:=some 46,op:=Op.call {callee:=Callee.value (Operand.func 55),args:=#[Operand.tmp 41,Operand.tmp 45],argTypes:=#[58,58]},type:=3,pos:= "num.go:200",after:=#[{on:=0,ground:=Ground.data},{on:=4,ground:=Ground.data},{on:=1,ground:=Ground.chain}],guard:=none}:Oper)) rfl (fun K hK=>?_) AllReadyH.nil
 go_simp
 with_reducible refine (HC.out _ _ _ _ hH4.2 hl4.out).mono ?_
 rintro r w6 ⟨rfl,g6⟩
 refine hK.out _ _ (keepY g6 hH4) (fun hH6=>?_)
 clear hK K
 (try simp only [Act.put,List.setIfInBounds_toArray,List.set_cons_zero,List.set_cons_succ])
 refine wpAnyH_take (i:=6) (oi:=({dst:=some 7,op:=Op.assign (Operand.tmp 46),type:=3,pos:= "num.go:200",after:=#[{on:=5,ground:=Ground.data},{on:=5,ground:=Ground.chain},{on:=0,ground:=Ground.phase},{on:=1,ground:=Ground.phase},{on:=2,ground:=Ground.phase},{on:=3,ground:=Ground.phase},{on:=4,ground:=Ground.phase},{on:=5,ground:=Ground.phase}],guard:=none}:Oper)) (v:=?_) rfl (by kernel_rfl) (by kernel_rfl) (by kernel_rfl) (fun _ _ _ h=>h) (Or.inl ⟨by rfl,?_⟩) (by with_reducible assumption) ?_
 rotate_left
 ·intro w hSw
  (try dsimp only at hSw)
  first | (go_simp;done) | (go_simp;with_reducible rfl)
 (try simp only [Act.put,List.setIfInBounds_toArray,List.set_cons_zero,List.set_cons_succ])
 refine wpAnyH_done (by kernel_rfl) ?_ _
 exact ⟨_,_,_,_,_,_,rfl,hH6.2⟩
end Go.Proofs.YtanpdbadfddlcaaGreatDoor
namespace Go.Proofs.YtanpdbadfddlcaaGreatDoor
open Go.RowKit
set_option linter.unusedVariables false
theorem up_head (a:Option Addr) (m k M0 t n0:Nat) (w:World) (p:Int) (h:Lim w a m k 18446744073709551616 M0) (h0:0<M0) (hb:bl M0<=262144) (hp:p=(t:Int)) (ht:t<=68719476736) (hn:M0*2 ^ t=n0) (hlt:n0<18446744073709551616) :
  Calls Tryz.prog 57 #[.slice a m k,.int .i64 p] w fun r w'=>∃ b o cap,r = .returned (.slice (some ⟨b,o,none⟩) 1 cap)/\1<=cap/\cap<=9223372036854775807/\w'.cell? ⟨b,o,none⟩=some (.int .u64 (n0:Int))/\Gr w w':=by
 rw [hp]
 refine (up58 a m k M0 t w h (by omega) ht h0).mono ?_
 rintro r w' ⟨a',n',c',h1,h2,h3⟩
 rw [hn] at h2
 have hpos:0<n0:=by rw [<-hn];exact Nat.mul_pos h0 (Nat.two_pow_pos _)
 rcases lim_head h2 hlt with ⟨q,_⟩ | ⟨_,rfl,b,o,rfl,c1,c2,hc⟩
 ·omega
 ·exact ⟨b,o,c',h1,c1,c2,hc,h3⟩
set_option maxRecDepth 10000 in
set_option maxHeartbeats 8000000 in
theorem nearW (s:Bool) (ad:Option Addr) (n cap x M0 n0 N Y Y2:Nat) (e last E v:Int) (w:World) (hx:Lim w ad n cap 18446744073709551616 x) (x0:0<x) (hb:bl x<=262144) (e1 : -1048576<=e) (e2:e<=1048576) (hlast:max (e+(bl x:Int)-53) (-1074)=last)
  (hcut:∀ s' m e',CutV false x e last false s' m e'->s'=false/\m=M0/\e'=E) (hE1:last<=E) (hE2:E<=1310720) (hM:M0*2 ^ (E-last).toNat=n0) (hn0:n0<18446744073709551615) (hbM:bl M0<=262144)
  (hv:sg (sv KK false x e-sv KK false M0 E-sv KK false 1 (last-1))=v) (hN:N=n0+if 0<v\/(v=0/\n0 % 2=1) then 1 else 0)
  (A46:Hid (∀ w,Calls Tryz.prog 39 #[.float .f64 (floatOfInt FloatKind.f64 (N:Int)),.int .i64 last] w fun e w'=>e = .returned (.float .f64 Y)/\w'=w)) (HNG:∀ w,(Op.unary .neg (.float .f64 Y)).run Tryz.prog w = .ok (.float .f64 Y2) w) :
  Calls Tryz.prog 108 #[.agg #[.bool s,.slice ad n cap,.int .i64 e]] w fun r w'=>r = .returned (.float .f64 (if s=true then Y2 else Y))/\Gr w w':=by
 have hkk:=KK_eq
 have l1 : -1074<=last:=by omega
 have l2:last<=1310720:=by omega
 have bl1:bl 1=1:=bl_unique (by omega) (by omega)
 have Z1:Hid (∀ w1,Gr w w1->Calls Tryz.prog 54 #[.agg #[.bool s,.slice ad n cap,.int .i64 e]] w1 fun r w'=>r = .returned (.bool false)/\Gr w1 w'):=fun w1 g=>zero57n s ad n cap x e w1 (hx.gr g) (by omega) x0
 have T1:Hid (∀ w1,Gr w w1->Calls Tryz.prog 88 #[.agg #[.bool s,.slice ad n cap,.int .i64 e]] w1 fun r w'=>r = .returned (.int .i64 (e+(bl x:Int)))/\Gr w1 w'):=fun w1 g=>top68 s ad n cap x e w1 (hx.gr g) (by omega) (by omega) (by omega)
 have C1:Hid (∀ w1,Gr w w1->Calls Tryz.prog 124 #[.agg #[.bool false,.slice ad n cap,.int .i64 e],.int .i64 last,.bool false] w1 fun r w'=>∃ ad' n' cap',r = .returned (.agg #[.bool false,.slice ad' n' cap',.int .i64 E])/\Hid (Lim w' ad' n' cap' 18446744073709551616 M0)/\Gr w1 w'):=fun w1 g=>(cutNum false false ad n cap x e last w1 (hx.gr g) (by omega) (by omega) (by omega)).mono fun r w' ⟨s',a',n',c',m',e',h1,h2,h3,h4⟩=>by
  obtain ⟨rfl,rfl,rfl⟩:=hcut _ _ _ h3
  exact ⟨a',n',c',h1,h2,h4⟩
 have ZL:Hid (∀ a m k w1,Lim w1 a m k 18446744073709551616 M0->Calls Tryz.prog 54 #[.agg #[.bool false,.slice a m k,.int .i64 E]] w1 fun r w'=>r = .returned (.bool (decide (M0=0)))/\Gr w1 w'):=fun a m k w1 h=>zero57 false a m k M0 E w1 h (by omega)
 have UP:Hid (∀ a m k w1,Lim w1 a m k 18446744073709551616 M0->0<M0->Calls Tryz.prog 57 #[.slice a m k,.int .i64 (E-last)] w1 fun r w'=>∃ b o cap,r = .returned (.slice (some ⟨b,o,none⟩) 1 cap)/\1<=cap/\cap<=9223372036854775807/\w'.cell? ⟨b,o,none⟩=some (.int .u64 (n0:Int))/\Gr w1 w'):=fun a m k w1 h h0=>up_head a m k M0 (E-last).toNat n0 w1 _ h h0 hbM (by omega) (by omega) hM (by omega)
 have LS:Hid (∀ a m k w1,Gr w w1->Lim w1 a m k 18446744073709551616 M0->∃ neg mm g,Hid (0<=g+KK/\sv KK neg mm g=sv KK false x e-sv KK false M0 E/\bl mm<=3000000)/\(-4194304<=g/\g<=4194304)/\Calls Tryz.prog 89 #[.agg #[.bool false,.slice ad n cap,.int .i64 e],.agg #[.bool false,.slice a m k,.int .i64 E]] w1 fun r w'=>∃ ad n cap,r = .returned (.agg #[.bool neg,.slice ad n cap,.int .i64 g])/\Hid (Lim w' ad n cap 18446744073709551616 mm)/\Gr w1 w'):=fun a m k w1 g h=>by
  obtain ⟨neg,mm,gg,q1,q2,q3,q4⟩:=less49 false false ad a n m cap k x M0 e E w1 (hx.gr g) h (by omega) (by omega) (by omega) (by omega) (by omega) (by omega)
  obtain ⟨p1,p2⟩:=q1 KK (by omega) (by omega)
  exact ⟨neg,mm,gg,⟨p1,p2,by omega⟩,by omega,q4 w1 (Gr.refl _)⟩
 have HO:Hid (∀ w1,Calls Tryz.prog 90 #[.int .u64 1] w1 fun e w'=>∃ ad n cap,e = .returned (.slice ad n cap)/\Hid (Lim w' ad n cap 18446744073709551616 1)/\Gr w1 w'):=fun w1=>natOfR 1 w1 (by omega)
 have CM:Hid (∀ neg aR nR cR mm g a m k w1,Hid (0<=g+KK/\sv KK neg mm g=sv KK false x e-sv KK false M0 E/\bl mm<=3000000)->(-4194304<=g/\g<=4194304)->Lim w1 aR nR cR 18446744073709551616 mm->Lim w1 a m k 18446744073709551616 1->Calls Tryz.prog 55 #[.agg #[.bool neg,.slice aR nR cR,.int .i64 g],.agg #[.bool false,.slice a m k,.int .i64 (IntKind.i64.wrap (last-1))]] w1 fun r w'=>r = .returned (.int .i64 v)/\Gr w1 w'):=fun neg aR nR cR mm g a m k w1 hq hg h h'=>by
  have hw:IntKind.i64.wrap (last-1)=last-1:=by rw [IntKind.wrap_i64];omega
  rw [hw]
  have:=compare45 neg false aR a nR m cR k mm 1 g (last-1) w1 h h' (by have:=hq.out.2.2;omega) (by omega) (by omega) (by omega) (by omega) (by omega) KK hq.out.1 (by omega)
  rw [hq.out.2.1,hv] at this
  exact this
 have P0:=hide (blk1 w (.cells #[.bool s,.slice ad n cap,.int .i64 e] 58))
 have G0:Gr w (w.alloc (.cells #[.bool s,.slice ad n cap,.int .i64 e] 58)):=(Gr.refl w).alloc _
 have i1:max (e+(bl x:Int)-53) (-1074)=last:=hlast
 have i2:(if e+(bl x:Int)-53 < -1074 then -1074 else e+(bl x:Int)-53)=last:=by rw [<-hlast];split <;> omega
 have HM:=hide hM
 clear hx hcut hv hM hlast
 have tok:True:=trivial
 by_cases hM0:M0=0
 ·have dM:decide (M0=0)=true:=decide_eq_true hM0
  rw [dM] at ZL
  obtain rfl:n0=0:=by rw [<-HM.out,hM0,Nat.zero_mul]
  clear HM UP
  go_enter Tryz.func108,Tryz.ntmps108
  go_wp2_with (first | (go_at_call 54;have _t:=tok;(with_reducible refine (Z1.out _ G0).mono ?_);rintro r w1 ⟨rfl,g1⟩;clear tok;have G1:=G0.trans g1;have P1:=g1.keepH P0.out;obtain ⟨x0',x1',x2'⟩:=cells_ofT P1) | (go_at_call 88;(with_reducible refine (T1.out _ G1).mono ?_);rintro r w2 ⟨rfl,g2⟩;have G2:=G1.trans g2;have P2:=g2.keepH P1;clear x0' x1' x2';obtain ⟨x0',x1',x2'⟩:=cells_ofT P2) | (go_at_call 124;(with_reducible refine (C1.out _ G2).mono ?_);rintro r w3 ⟨a3,m3,k3,rfl,hl3,g3⟩;have BL:=blk1 w3 (.cells #[.bool false,.slice a3 m3 k3,.int .i64 E] 58);have gL:=(Gr.refl w3).alloc (.cells #[.bool false,.slice a3 m3 k3,.int .i64 E] 58);have G3:=(G2.trans g3).trans gL;have P3:=(g3.trans gL).keepH P2;have hlL:=hl3.out.gr gL;clear x0' x1' x2';obtain ⟨x0',x1',x2'⟩:=cells_ofT P3;obtain ⟨y0,y1,y2⟩:=cells_ofT BL) | (go_at_call 54;(with_reducible refine (ZL.out _ _ _ _ hlL).mono ?_);rintro r w4 ⟨rfl,g4⟩;have G4:=G3.trans g4;have P4:=g4.keepH P3;have B4:=g4.keepH BL;have hl4:=hlL.gr g4;clear x0' x1' x2' y0 y1 y2;obtain ⟨x0',x1',x2'⟩:=cells_ofT P4;obtain ⟨y0,y1,y2⟩:=cells_ofT B4) | (go_at_call 89;obtain ⟨neg,mm,gg,HG,hgg,hcall⟩:=LS.out _ _ _ _ G4 hl4;(with_reducible refine hcall.mono ?_);rintro r w6 ⟨a6,m6,k6,rfl,hl6,g6⟩))
  have BR:=blk1 w6 (.cells #[.bool neg,.slice a6 m6 k6,.int .i64 gg] 58)
  have gR:=(Gr.refl w6).alloc (.cells #[.bool neg,.slice a6 m6 k6,.int .i64 gg] 58)
  have hlR:=hl6.out.gr gR
  have GQ:=(G4.trans g6).trans gR
  have PQ:=(g6.trans gR).keepH P4
  generalize w6.alloc (.cells #[.bool neg,.slice a6 m6 k6,.int .i64 gg] 58)=wq at *
  clear x0' x1' x2' y0 y1 y2
  obtain ⟨r0,r1,r2⟩:=cells_ofT BR
  have HC:Hid (∀ a n c w1,Gr wq w1->Lim w1 a n c 18446744073709551616 1->Calls Tryz.prog 55 #[.agg #[.bool neg,.slice a6 m6 k6,.int .i64 gg],.agg #[.bool false,.slice a n c,.int .i64 (IntKind.i64.wrap (last-1))]] w1 fun r w'=>r = .returned (.int .i64 v)/\Gr w1 w'):=fun a n c w1 g h=>CM.out _ _ _ _ _ _ _ _ _ _ HG hgg (hlR.gr g) h
  refine Code.wp_mono ?_ (regN9 _ _ _ _ _ _ _ _ _ _ _ _ _ _ _ _ _ _ _ _ _ _ _ _ _ _ _ _ _ _ _ _ _ _ _ _ _ _ _ _ _ _ _ _ _ _ _ _ _ _ _ _ _ _ _ _ _ _ _ _ _ _ _ _ _ _ _ neg a6 m6 k6 gg last v w6.heap.size wq (by omega) (by omega) r0 r1 r2 HO HC)
  intro ex ac wf hR
  cases ex
  case normal =>
   obtain ⟨u41,u42,u43,u44,u45,u46,rfl,gf⟩:=hR
   have PF:=gf.keepH PQ
   have GF:=GQ.trans gf
   clear r0 r1 r2 HC
   obtain ⟨x0',x1',x2'⟩:=cells_ofT PF
   rcases Int.lt_trichotomy v 0 with hv | hv | hv
   ·have hNN:N=0:=by rw [hN,if_neg (by omega)]
    clear hN
    subst hNN
    have A48:Hid (∀ w,Calls Tryz.prog 39 #[.float .f64 (floatOfInt FloatKind.f64 0),.int .i64 last] w fun e w'=>e = .returned (.float .f64 Y)/\w'=w):=A46
    have j1:¬ v>0:=by omega
    have j2:(v==0)=false:=by simp;omega
    cases s
    all_goals
     go_wp2_with (go_at_call 39;(with_reducible refine (A48.out _).mono ?_);rintro r w9 ⟨rfl,hw9⟩;obtain rfl:=hw9.symm)
     go_ret
     exact ⟨rfl,GF⟩
   ·have hNN:N=0:=by rw [hN,if_neg (by omega)]
    clear hN
    subst hNN
    have A48:Hid (∀ w,Calls Tryz.prog 39 #[.float .f64 (floatOfInt FloatKind.f64 0),.int .i64 last] w fun e w'=>e = .returned (.float .f64 Y)/\w'=w):=A46
    have j1:¬ v>0:=by omega
    have j2:(v==0)=true:=by simp [hv]
    cases s
    all_goals
     go_wp2_with (go_at_call 39;(with_reducible refine (A48.out _).mono ?_);rintro r w9 ⟨rfl,hw9⟩;obtain rfl:=hw9.symm)
     go_ret
     exact ⟨rfl,GF⟩
   ·have hNN:N=1:=by rw [hN,if_pos (Or.inl hv)]
    clear hN
    subst hNN
    have A48:Hid (∀ w,Calls Tryz.prog 39 #[.float .f64 (floatOfInt FloatKind.f64 1),.int .i64 last] w fun e w'=>e = .returned (.float .f64 Y)/\w'=w):=A46
    have j1:v>0:=hv
    cases s
    all_goals
     go_wp2_with (go_at_call 39;(with_reducible refine (A48.out _).mono ?_);rintro r w9 ⟨rfl,hw9⟩;obtain rfl:=hw9.symm)
     go_ret
     exact ⟨rfl,GF⟩
  all_goals exact hR.elim
 ·have dM:decide (M0=0)=false:=decide_eq_false hM0
  have M1:0<M0:=by omega
  rw [dM] at ZL
  go_enter Tryz.func108,Tryz.ntmps108
  go_wp2_with (first | (go_at_call 54;have _t:=tok;(with_reducible refine (Z1.out _ G0).mono ?_);rintro r w1 ⟨rfl,g1⟩;clear tok;have G1:=G0.trans g1;have P1:=g1.keepH P0.out;obtain ⟨x0',x1',x2'⟩:=cells_ofT P1) | (go_at_call 88;(with_reducible refine (T1.out _ G1).mono ?_);rintro r w2 ⟨rfl,g2⟩;have G2:=G1.trans g2;have P2:=g2.keepH P1;clear x0' x1' x2';obtain ⟨x0',x1',x2'⟩:=cells_ofT P2) | (go_at_call 124;(with_reducible refine (C1.out _ G2).mono ?_);rintro r w3 ⟨a3,m3,k3,rfl,hl3,g3⟩;have BL:=blk1 w3 (.cells #[.bool false,.slice a3 m3 k3,.int .i64 E] 58);have gL:=(Gr.refl w3).alloc (.cells #[.bool false,.slice a3 m3 k3,.int .i64 E] 58);have G3:=(G2.trans g3).trans gL;have P3:=(g3.trans gL).keepH P2;have hlL:=hl3.out.gr gL;clear x0' x1' x2';obtain ⟨x0',x1',x2'⟩:=cells_ofT P3;obtain ⟨y0,y1,y2⟩:=cells_ofT BL) | (go_at_call 54;(with_reducible refine (ZL.out _ _ _ _ hlL).mono ?_);rintro r w4 ⟨rfl,g4⟩;have G4:=G3.trans g4;have P4:=g4.keepH P3;have B4:=g4.keepH BL;have hl4:=hlL.gr g4;clear x0' x1' x2' y0 y1 y2;obtain ⟨x0',x1',x2'⟩:=cells_ofT P4;obtain ⟨y0,y1,y2⟩:=cells_ofT B4) | (go_at_call 57;(with_reducible refine (UP.out _ _ _ _ hl4 M1).mono ?_);rintro r w5 ⟨b5,o5,k5,rfl,hk5,hk6,hc5,g5⟩;have G5:=G4.trans g5;have P5:=g5.keepH P4;have B5:=g5.keepH B4;have hl5:=hl4.gr g5;clear x0' x1' x2' y0 y1 y2;obtain ⟨x0',x1',x2'⟩:=cells_ofT P5;obtain ⟨y0,y1,y2⟩:=cells_ofT B5) | (go_at_call 89;obtain ⟨neg,mm,gg,HG,hgg,hcall⟩:=LS.out _ _ _ _ G5 hl5;(with_reducible refine hcall.mono ?_);rintro r w6 ⟨a6,m6,k6,rfl,hl6,g6⟩))
  have BR:=blk1 w6 (.cells #[.bool neg,.slice a6 m6 k6,.int .i64 gg] 58)
  have gR:=(Gr.refl w6).alloc (.cells #[.bool neg,.slice a6 m6 k6,.int .i64 gg] 58)
  have hlR:=hl6.out.gr gR
  have GQ:=(G5.trans g6).trans gR
  have PQ:=(g6.trans gR).keepH P5
  generalize w6.alloc (.cells #[.bool neg,.slice a6 m6 k6,.int .i64 gg] 58)=wq at *
  clear x0' x1' x2' y0 y1 y2
  obtain ⟨r0,r1,r2⟩:=cells_ofT BR
  have HC:Hid (∀ a n c w1,Gr wq w1->Lim w1 a n c 18446744073709551616 1->Calls Tryz.prog 55 #[.agg #[.bool neg,.slice a6 m6 k6,.int .i64 gg],.agg #[.bool false,.slice a n c,.int .i64 (IntKind.i64.wrap (last-1))]] w1 fun r w'=>r = .returned (.int .i64 v)/\Gr w1 w'):=fun a n c w1 g h=>CM.out _ _ _ _ _ _ _ _ _ _ HG hgg (hlR.gr g) h
  refine Code.wp_mono ?_ (regN9 _ _ _ _ _ _ _ _ _ _ _ _ _ _ _ _ _ _ _ _ _ _ _ _ _ _ _ _ _ _ _ _ _ _ _ _ _ _ _ _ _ _ _ _ _ _ _ _ _ _ _ _ _ _ _ _ _ _ _ _ _ _ _ _ _ _ _ neg a6 m6 k6 gg last v w6.heap.size wq (by omega) (by omega) r0 r1 r2 HO HC)
  intro ex ac wf hR
  cases ex
  case normal =>
   obtain ⟨u41,u42,u43,u44,u45,u46,rfl,gf⟩:=hR
   have PF:=gf.keepH PQ
   have GF:=GQ.trans gf
   clear r0 r1 r2 HC
   obtain ⟨x0',x1',x2'⟩:=cells_ofT PF
   rcases Int.lt_trichotomy v 0 with hv | hv | hv
   ·have hNN:N=n0:=by rw [hN,if_neg (by omega)];rfl
    clear hN
    subst hNN
    have j1:¬ v>0:=by omega
    have j2:(v==0)=false:=by simp;omega
    cases s
    all_goals
     go_wp2_with (go_at_call 39;(with_reducible refine (A46.out _).mono ?_);rintro r w9 ⟨rfl,hw9⟩;obtain rfl:=hw9.symm)
     go_ret
     exact ⟨rfl,GF⟩
   ·by_cases ho:n0 % 2=1
    ·have hNN:N=n0+1:=by rw [hN,if_pos (Or.inr ⟨hv,ho⟩)]
     clear hN
     subst hNN
     have A47:Hid (∀ w,Calls Tryz.prog 39 #[.float .f64 (floatOfInt FloatKind.f64 ((n0:Int)+1)),.int .i64 last] w fun e w'=>e = .returned (.float .f64 Y)/\w'=w):=A46
     have j1:¬ v>0:=by omega
     have j2:(v==0)=true:=by simp [hv]
     have j3:((n0:Int) % 2==1)=true:=by simp;omega
     cases s
     all_goals
      go_wp2_with (go_at_call 39;(with_reducible refine (A47.out _).mono ?_);rintro r w9 ⟨rfl,hw9⟩;obtain rfl:=hw9.symm)
      go_ret
      exact ⟨rfl,GF⟩
    ·have hNN:N=n0:=by rw [hN,if_neg (by omega)];rfl
     clear hN
     subst hNN
     have j1:¬ v>0:=by omega
     have j2:(v==0)=true:=by simp [hv]
     have j3:((N:Int) % 2==1)=false:=by simp;omega
     cases s
     all_goals
      go_wp2_with (go_at_call 39;(with_reducible refine (A46.out _).mono ?_);rintro r w9 ⟨rfl,hw9⟩;obtain rfl:=hw9.symm)
      go_ret
      exact ⟨rfl,GF⟩
   ·have hNN:N=n0+1:=by rw [hN,if_pos (Or.inl hv)]
    clear hN
    subst hNN
    have A47:Hid (∀ w,Calls Tryz.prog 39 #[.float .f64 (floatOfInt FloatKind.f64 ((n0:Int)+1)),.int .i64 last] w fun e w'=>e = .returned (.float .f64 Y)/\w'=w):=A46
    have j1:v>0:=hv
    cases s
    all_goals
     go_wp2_with (go_at_call 39;(with_reducible refine (A47.out _).mono ?_);rintro r w9 ⟨rfl,hw9⟩;obtain rfl:=hw9.symm)
     go_ret
     exact ⟨rfl,GF⟩
  all_goals exact hR.elim
end Go.Proofs.YtanpdbadfddlcaaGreatDoor
namespace Go.Proofs.YtanpdbadfddlcaaGreatDoor.Fl
open Go.RowKit
open Ieee (double)
set_option linter.unusedVariables false
theorem near_z (s:Bool) (ad:Option Addr) (n cap:Nat) (e:Int) (w:World) (hx:Lim w ad n cap 18446744073709551616 0) :
  Calls Tryz.prog 108 #[.agg #[.bool s,.slice ad n cap,.int .i64 e]] w fun r w'=>r = .returned (.float .f64 0)/\Gr w w':=by
 have Z1:Hid (∀ w1,Gr w w1->Calls Tryz.prog 54 #[.agg #[.bool s,.slice ad n cap,.int .i64 e]] w1 fun r w'=>r = .returned (.bool true)/\Gr w1 w'):=fun w1 g=>zero57z s ad n cap e w1 (hx.gr g)
 have G0:Gr w (w.alloc (.cells #[.bool s,.slice ad n cap,.int .i64 e] 58)):=(Gr.refl w).alloc _
 clear hx
 go_enter Tryz.func108,Tryz.ntmps108
 go_wp2_with (go_at_call 54;(with_reducible refine (Z1.out _ G0).mono ?_);rintro r w1 ⟨rfl,g1⟩)
 go_ret
 exact ⟨rfl,G0.trans g1⟩
end Go.Proofs.YtanpdbadfddlcaaGreatDoor.Fl
namespace Go.Proofs.YtanpdbadfddlcaaGreatDoor.Fl
open Go.RowKit
open Ieee
set_option linter.unusedVariables false
theorem of62 (x:Nat) (w:World) (hx:x<18446744073709551616) :
  Calls Tryz.prog 90 #[.int .u64 (x:Int)] w fun e w'=>∃ ad' n' cap',e = .returned (.slice ad' n' cap')/\Lim w' ad' n' cap' 18446744073709551616 x/\Gr w w':=by
 have HR:Hid (Row (w.alloc (.cells #[.int .u64 (x:Int)] 34)) (some ⟨w.heap.size,0,none⟩) 1 1 [x]):=by
  refine ⟨rfl,by omega,by omega,(fun h=>by cases h),fun _=>⟨w.heap.size,0,rfl,by simp,fun j hj=>?_⟩⟩
  have:j=0:=by omega
  subst this
  simp
 have HT:Hid (Calls Tryz.prog 116 #[.slice (some ⟨w.heap.size,0,none⟩) 1 1] (w.alloc (.cells #[.int .u64 (x:Int)] 34)) fun e w'=>∃ ad' n' cap',e = .returned (.slice ad' n' cap')/\Lim w' ad' n' cap' 18446744073709551616 x/\Gr (w.alloc (.cells #[.int .u64 (x:Int)] 34)) w'):=by
  have:=trim77 _ 1 1 [x] _ HR.out (by omega) (by simpa using hx)
  rw [show nv 18446744073709551616 [x]=x by simp [nv]] at this
  exact this
 go_enter Tryz.func90,Tryz.ntmps90
 go_wp2_with (go_at_call 116;with_reducible refine HT.out.mono ?_;rintro e w' ⟨ad2,n2,cap2,rfl,hl,hgr⟩)
 go_ret
 exact ⟨_,_,_,rfl,hl,((Gr.refl w).alloc _).trans hgr⟩
theorem mant_lt64 (r:Nat):mant r<18446744073709551616:=by
 have:=mant_lt r
 omega
theorem num_block {w:World} {b:Nat} {v0 v1 v2:Value} {T:TypeId} (h:w.heap[b]? = some (.cells #[v0,v1,v2] T)) :
  (w.cell? ⟨b,0,none⟩=some v0/\w.cell? ⟨b,1,none⟩=some v1/\w.cell? ⟨b,2,none⟩=some v2)/\w.frozen? ⟨b,0,none⟩=false/\w.frozen? ⟨b,1,none⟩=false/\w.frozen? ⟨b,2,none⟩=false:=by
 refine ⟨⟨?_,?_,?_⟩,?_,?_,?_⟩ <;> simp [World.cell?,World.frozen?,h]
theorem set3_gr {a w:World} (h:Gr a w) {b:Nat} (hb:a.heap.size<=b) (v0 v1 v2:Value):Gr a (((w.setCell ⟨b,0,none⟩ v0).setCell ⟨b,1,none⟩ v1).setCell ⟨b,2,none⟩ v2):=
 ((h.setCell (p:=⟨b,0,none⟩) hb v0).setCell (p:=⟨b,1,none⟩) hb v1).setCell (p:=⟨b,2,none⟩) hb v2
set_option maxHeartbeats 800000 in
theorem float41 (s:Bool) (r:Nat) (w:World) (hr:r<9218868437227405312) :
  Calls Tryz.prog 74 #[.float .f64 (W s r)] w fun res w'=>∃ ad n cap,res = .returned (.agg #[.bool s,.slice ad n cap,.int .i64 ((ex r:Int)-1074)])/\Lim w' ad n cap 18446744073709551616 (mant r)/\Gr w w':=by
 have h1:=bits14
 have hx:=bit_exp s r (by omega)
 have hW:((W s r:Nat):Int)=(if s then (r:Int)+9223372036854775808 else (r:Int)):=by
  unfold W;cases s <;> simp <;> omega
 have hm:Hid (((W s r:Nat):Int) % 4503599627370496=((r % 4503599627370496:Nat):Int)):=by
  show _=_
  rw [hW];cases s <;> simp <;> omega
 have hn:(((W s r:Nat):Int) / 9223372036854775808==1)=s:=by
  rw [hW]
  cases s
  ·simp;omega
  ·simp;omega
 have hlt:W s r<18446744073709551616:=W_lt s r (by omega)
 clear hW
 by_cases he:r / 4503599627370496=0
 ·have hmant:r % 4503599627370496=mant r:=by unfold mant;rw [if_pos (by omega)];omega
  have hexp:(-1074:Int)=(ex r:Int)-1074:=by unfold ex;omega
  rw [hmant] at hm
  rw [<-hexp]
  rw [he] at hx
  have HN:Hid (∀ w1,Calls Tryz.prog 90 #[.int .u64 (((W s r:Nat):Int) % 4503599627370496)] w1 fun e w'=>∃ ad' n' cap',e = .returned (.slice ad' n' cap')/\Lim w' ad' n' cap' 18446744073709551616 (mant r)/\Gr w1 w'):=by
   intro w1
   rw [hm.out]
   exact of62 (mant r) w1 (mant_lt64 r)
  clear hmant hexp hm
  generalize W s r=x at *
  go_enter Tryz.func74,Tryz.ntmps74
  go_wp2_with (go_at_call 90;with_reducible refine (HN.out _).mono ?_;rintro r w1 ⟨a3,m3,k3,rfl,hl3,g3⟩;have hb1:=(g3.block w.heap.size (by simp)).trans (heap_alloc_new w _);have hc1:=num_block hb1)
  refine bodyPost_ret (v:=.agg #[.bool s,.slice a3 m3 k3,.int .i64 (-1074)]) (by simp [results,Tryz.results74,go_sem,hc1]) rfl ⟨a3,m3,k3,rfl,hl3.set3 (hl3.apart hb1) _ _ _,set3_gr (((Gr.refl w).alloc _).trans g3) (Nat.le_refl _) _ _ _⟩
 ·have hmant:r % 4503599627370496+4503599627370496=mant r:=by unfold mant;rw [if_neg (by omega)];omega
  have hexp:((r / 4503599627370496:Nat):Int)-1075=(ex r:Int)-1074:=by unfold ex;omega
  have hq:r / 4503599627370496<2047:=by omega
  rw [<-hexp]
  have HN:Hid (∀ w1,Calls Tryz.prog 90 #[.int .u64 (((W s r:Nat):Int) % 4503599627370496+4503599627370496)] w1 fun e w'=>∃ ad' n' cap',e = .returned (.slice ad' n' cap')/\Lim w' ad' n' cap' 18446744073709551616 (mant r)/\Gr w1 w'):=by
   intro w1
   rw [hm.out,show ((r % 4503599627370496:Nat):Int)+4503599627370496=((mant r:Nat):Int) by omega]
   exact of62 (mant r) w1 (mant_lt64 r)
  generalize hz:r / 4503599627370496=q at *
  clear hmant hexp hm hz
  generalize W s r=x at *
  go_enter Tryz.func74,Tryz.ntmps74
  go_wp2_with (go_at_call 90;with_reducible refine (HN.out _).mono ?_;rintro r w1 ⟨a3,m3,k3,rfl,hl3,g3⟩;have hb1:=(g3.block w.heap.size (by simp)).trans (heap_alloc_new w _);have hc1:=num_block hb1)
  refine bodyPost_ret (v:=.agg #[.bool s,.slice a3 m3 k3,.int .i64 ((q:Int)-1075)]) (by simp [results,Tryz.results74,go_sem,hc1]) rfl ⟨a3,m3,k3,rfl,hl3.set3 (hl3.apart hb1) _ _ _,set3_gr (((Gr.refl w).alloc _).trans g3) (Nat.le_refl _) _ _ _⟩
end Go.Proofs.YtanpdbadfddlcaaGreatDoor.Fl
