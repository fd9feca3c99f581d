import Derived.Test.YtapnglidnblmcaaGreatQ35
import Derived.Test.YtapnglidnblmcaaGreatQ36
namespace Go.Proofs.YtapnglidnblmcaaGreat
open Go.RowKit
set_option linter.unusedVariables false
set_option linter.unusedSimpArgs false
def Ni (w:World) (s:Bool) (ad:Option Addr) (n cap:Nat) (X:Int) (M:Nat):Prop:=∃m:Nat,Lim w ad n cap 18446744073709551616 m/\iv s m=X/\m<2 ^ M
theorem Ni.gr {w w':World} {s:Bool} {ad:Option Addr} {n cap:Nat} {X:Int} {M:Nat} (h:Ni w s ad n cap X M) (g:Gr w w'):Ni w' s ad n cap X M:=by
 obtain⟨m,h1,h2⟩:=h
 exact⟨m,h1.gr g,h2⟩
theorem Ni.to {w:World} {s:Bool} {ad:Option Addr} {n cap:Nat} {X Y:Int} {M N:Nat} (h:Ni w s ad n cap X M) (hXY:X=Y) (hMN:M<=N):Ni w s ad n cap Y N:=by
 obtain⟨m,h1,h2,h3⟩:=h
 subst hXY
 exact⟨m,h1,h2,Nat.lt_of_lt_of_le h3 (Nat.pow_le_pow_right (by omega) hMN)⟩
theorem Ni.setD {w:World} {s:Bool} {ad:Option Addr} {n cap B:Nat} {X:Int} {M:Nat} {u0:Bool} {u1:Option Addr} {u2 u3:Nat} {u4:Int} {T:TypeId} (h:Ni w s ad n cap X M) (hb:w.heap[B]? = some (.cells #[.bool u0,.slice u1 u2 u3,.int .i64 u4] T)) (v0 v1 v2:Value):Ni (((w.setCell ⟨B,0,none⟩ v0).setCell ⟨B,1,none⟩ v1).setCell ⟨B,2,none⟩ v2) s ad n cap X M:=by
 obtain⟨m,h1,h2⟩:=h
 exact⟨m,h1.set3 (h1.apart hb) _ _ _,h2⟩
def NiA (w':World) (r:Ending) (X:Int) (M:Nat):Prop:=∃s a n c,r = .returned (.agg #[.bool s,.slice a n c,.int .i64 0])/\Ni w' s a n c X M
theorem niWhole (z:Int) (M:Nat) (w:World) (h1 : -9223372036854775808<=z) (h2:z<=9223372036854775807) (hM:z.natAbs<2 ^ M) :
  Calls Tryz.prog 20 #[.int .i64 z] w fun r w'=>NiA w' r z M/\Gr w w':=by
 refine(wholeQ z w h1 h2).mono ?_
 rintro r w' ⟨s,ad,n,cap,rfl,h3,h4,h5⟩
 exact⟨⟨s,ad,n,cap,rfl,z.natAbs,h3.out,h4.out,hM⟩,h5⟩
theorem niTimes (s t:Bool) (ad1 ad2:Option Addr) (n1 n2 c1 c2:Nat) (X Y:Int) (M N:Nat) (w:World) (hx:Ni w s ad1 n1 c1 X M) (hy:Ni w t ad2 n2 c2 Y N) (hM:M<=262144) (hN:N<=262144) :
  Calls Tryz.prog 21 #[.agg #[.bool s,.slice ad1 n1 c1,.int .i64 0],.agg #[.bool t,.slice ad2 n2 c2,.int .i64 0]] w fun r w'=>NiA w' r (X*Y) (M+N)/\Gr w w':=by
 obtain⟨x,lx,x3,x4⟩:=hx
 obtain⟨y,ly,y3,y4⟩:=hy
 have b1:=bl_le_of_lt x4
 have b2:=bl_le_of_lt y4
 refine(times43 s t ad1 ad2 n1 n2 c1 c2 x y 0 0 w lx ly (by omega) (by omega) (by omega) (by omega) (by omega) (by omega)).mono ?_
 rintro r w' ⟨ad,n,cap,rfl,h7,h8⟩
 refine⟨⟨s != t,ad,n,cap,rfl,x*y,h7,?_,by rw[Nat.pow_add];exact Nat.mul_lt_mul'' x4 y4⟩,h8⟩
 rw[<-x3,<-y3]
 unfold iv
 cases s <;> cases t <;> simp[Int.neg_mul,Int.mul_neg]
theorem niPlus (s t:Bool) (ad1 ad2:Option Addr) (n1 n2 c1 c2:Nat) (X Y:Int) (M N:Nat) (w:World) (hx:Ni w s ad1 n1 c1 X M) (hy:Ni w t ad2 n2 c2 Y N) (hM:M<=262144) (hN:N<=262144) :
  Calls Tryz.prog 37 #[.agg #[.bool s,.slice ad1 n1 c1,.int .i64 0],.agg #[.bool t,.slice ad2 n2 c2,.int .i64 0]] w fun r w'=>NiA w' r (X+Y) (M+N+1)/\Gr w w':=by
 obtain⟨x,lx,x3,x4⟩:=hx
 obtain⟨y,ly,y3,y4⟩:=hy
 have b1:=bl_le_of_lt x4
 have b2:=bl_le_of_lt y4
 refine(plusW s t ad1 ad2 n1 n2 c1 c2 x y w lx ly (by omega) (by omega)).mono ?_
 rintro r w' ⟨neg,m,b,c,d,rfl,h3,h4,h5,h6⟩
 have e:=h3.out
 rw[x3,y3] at e
 refine⟨⟨neg,b,c,d,rfl,m,h5.out,e,?_⟩,h6⟩
 have h7:m=(X+Y).natAbs:=by rw[<-e,iv_abs]
 rw[h7]
 exact(add_lt_pow (by rw[<-x3,iv_abs];exact x4) (by rw[<-y3,iv_abs];exact y4)).1
theorem niMinus (s:Bool) (ad:Option Addr) (n cap:Nat) (X:Int) (M:Nat) (w:World) (hx:Ni w s ad n cap X M) :
  Calls Tryz.prog 39 #[.agg #[.bool s,.slice ad n cap,.int .i64 0]] w fun r w'=>r = .returned (.agg #[.bool (!s),.slice ad n cap,.int .i64 0])/\Ni w' (!s) ad n cap (-X) M/\Gr w w':=by
 obtain⟨x,lx,x3,x4⟩:=hx
 refine(minus70 s ad n cap 0 w).mono ?_
 rintro r w' ⟨rfl,g⟩
 refine⟨rfl,⟨x,lx.gr g,?_,x4⟩,g⟩
 rw[<-x3]
 unfold iv
 cases s <;> simp
theorem niTold (s:Bool) (ad:Option Addr) (n cap:Nat) (X:Int) (M:Nat) (w:World) (hx:Ni w s ad n cap X M) (hM:M<=262144) (hX:X.natAbs<TopN) :
  Calls Tryz.prog 40 #[.agg #[.bool s,.slice ad n cap,.int .i64 0]] w fun r w'=>∃a b c d,r = .returned (.tuple #[.agg #[.bool a,.slice b c d],.int .i64 0])/\Hid (Wh w' a b c d X)/\Gr w w':=by
 obtain⟨x,lx,x3,x4⟩:=hx
 have b1:=bl_le_of_lt x4
 refine(toldR s ad n cap x w lx (by omega)).mono ?_
 rintro r w' ⟨a,b,c,d,e,rfl,h1,h2⟩
 have h3:=h1.out
 rw[x3] at h3
 rcases h3 with ⟨_,rfl,h4⟩|⟨h4,_⟩
 ·exact⟨a,b,c,d,rfl,h4,h2⟩
 ·omega
theorem mayV (b:Int) (w:World):Calls Tryz.prog 29 #[.int .i64 b] w fun e w'=>e = .returned (.bool (baB b))/\w'=w:=by
 unfold baB
 by_cases h1:2<=b
 ·by_cases h2:b<=36
  ·rw[decide_eq_true h1,decide_eq_true h2]
   go_enter Tryz.func29,Tryz.ntmps29
   go_wp2
   go_ret
   exact⟨rfl,rfl⟩
  ·rw[decide_eq_true h1,decide_eq_false h2]
   go_enter Tryz.func29,Tryz.ntmps29
   go_wp2
   go_ret
   exact⟨rfl,rfl⟩
 ·rw[decide_eq_false h1]
  go_enter Tryz.func29,Tryz.ntmps29
  go_wp2
  go_ret
  exact⟨rfl,rfl⟩
set_option maxRecDepth 4000 in
set_option maxHeartbeats 4000000 in
theorem refE (s:ByteArray) (b:Int) (w:World) (hb:baB b=false) :
  Calls Tryz.prog 14 #[.string s,.int .i64 b] w fun r w'=>r = .returned (.tuple #[.agg #[.bool false,.slice none 0 0],.agg #[.int .i64 2,.int .i64 0]])/\Gr w w':=by
 have IB:Hid (∀w1,Calls Tryz.prog 29 #[.int .i64 b] w1 fun r w'=>r = .returned (.bool false)/\w'=w1):=fun w1=>by
  have:=mayV b w1
  rw[hb] at this
  exact this
 obtain⟨H4,H5⟩:=blk2 w (.cells #[.bool false,.slice none 0 0] 24) (.cells #[.int .i64 0,.int .i64 0] 35)
 have GW:Gr w ((w.alloc (.cells #[.bool false,.slice none 0 0] 24)).alloc (.cells #[.int .i64 0,.int .i64 0] 35)):=((Gr.refl w).alloc _).alloc _
 obtain⟨x0,x1,x2,x3⟩:=outAny H4;obtain⟨y0,y1,y2,y3⟩:=outAny H5
 go_enter Tryz.func14,Tryz.ntmps14
 go_wp2_with (go_at_call 29;(with_reducible refine(IB.out _).mono ?_);rintro r w1 ⟨rfl,rfl⟩)
 obtain⟨K4,K5⟩:=blk2 w (.cells #[.bool false,.slice none 0 0] 24) (.cells #[.int .i64 2,.int .i64 0] 35)
 obtain⟨e0,e1⟩:=bx2 K4
 obtain⟨f0,f1⟩:=bx2 K5
 refine bodyPost_ret (v:=.tuple #[.agg #[.bool false,.slice none 0 0],.agg #[.int .i64 2,.int .i64 0]]) ?_ rfl ⟨rfl,((Gr.refl w).alloc _).alloc _⟩
 simp[results,Tryz.results14,go_sem,e0,e1,f0,f1]
set_option maxRecDepth 4000 in
set_option maxHeartbeats 4000000 in
theorem refL (s:ByteArray) (b:Nat) (w:World) (h2:2<=b) (h36:b<=36) (hs:1048576<s.size) :
  Calls Tryz.prog 14 #[.string s,.int .i64 (b:Int)] w fun r w'=>r = .returned (.tuple #[.agg #[.bool false,.slice none 0 0],.agg #[.int .i64 3,.int .i64 0]])/\Gr w w':=by
 have IB:Hid (∀w1,Calls Tryz.prog 29 #[.int .i64 (b:Int)] w1 fun r w'=>r = .returned (.bool true)/\w'=w1):=fun w1=>by
  have:=mayV (b:Int) w1
  rw[show baB (b:Int)=true by unfold baB;simp;omega] at this
  exact this
 obtain⟨H4,H5⟩:=blk2 w (.cells #[.bool false,.slice none 0 0] 24) (.cells #[.int .i64 0,.int .i64 0] 35)
 have GW:Gr w ((w.alloc (.cells #[.bool false,.slice none 0 0] 24)).alloc (.cells #[.int .i64 0,.int .i64 0] 35)):=((Gr.refl w).alloc _).alloc _
 obtain⟨x0,x1,x2,x3⟩:=outAny H4;obtain⟨y0,y1,y2,y3⟩:=outAny H5
 have i1:(1048576:Int)<(s.size:Int):=by omega
 go_enter Tryz.func14,Tryz.ntmps14
 go_wp2_with (go_at_call 29;(with_reducible refine(IB.out _).mono ?_);rintro r w1 ⟨rfl,rfl⟩)
 obtain⟨K4,K5⟩:=blk2 w (.cells #[.bool false,.slice none 0 0] 24) (.cells #[.int .i64 3,.int .i64 0] 35)
 obtain⟨e0,e1⟩:=bx2 K4
 obtain⟨f0,f1⟩:=bx2 K5
 refine bodyPost_ret (v:=.tuple #[.agg #[.bool false,.slice none 0 0],.agg #[.int .i64 3,.int .i64 0]]) ?_ rfl ⟨rfl,((Gr.refl w).alloc _).alloc _⟩
 simp[results,Tryz.results14,go_sem,e0,e1,f0,f1]
set_option maxRecDepth 4000 in
set_option maxHeartbeats 4000000 in
theorem refW (s:ByteArray) (b m a:Nat) (w:World) (h2:2<=b) (h36:b<=36) (hs:s.size<=1048576) (hm:Bs.Pl b (ngB s) (nB (tlB s)) m) (hw:¬(m=(tlB s).size/\0<(tlB s).size)) (ha:s.size-(tlB s).size+m=a) :
  Calls Tryz.prog 14 #[.string s,.int .i64 (b:Int)] w fun r w'=>r = .returned (.tuple #[.agg #[.bool false,.slice none 0 0],.agg #[.int .i64 9,.int .i64 (a:Int)]])/\Gr w w':=by
 have IB:Hid (∀w1,Calls Tryz.prog 29 #[.int .i64 (b:Int)] w1 fun r w'=>r = .returned (.bool true)/\w'=w1):=fun w1=>by
  have:=mayV (b:Int) w1
  rw[show baB (b:Int)=true by unfold baB;simp;omega] at this
  exact this
 obtain⟨H4,H5⟩:=blk2 w (.cells #[.bool false,.slice none 0 0] 24) (.cells #[.int .i64 0,.int .i64 0] 35)
 have GW:Gr w ((w.alloc (.cells #[.bool false,.slice none 0 0] 24)).alloc (.cells #[.int .i64 0,.int .i64 0] 35)):=((Gr.refl w).alloc _).alloc _
 obtain⟨x0,x1,x2,x3⟩:=outAny H4;obtain⟨y0,y1,y2,y3⟩:=outAny H5
 have i1:¬(1048576:Int)<(s.size:Int):=by omega
 have i2:(0:Int)<=(a:Int):=by omega
 have WG:Hid (∀w1,Calls Tryz.prog 36 #[.string s,.int .i64 (b:Int)] w1 fun r w'=>r = .returned (.int .i64 (a:Int))/\w'=w1):=fun w1=>by
  have:=wrongV s b m w1 h2 h36 hs hm
  rw[show wrg s m=(a:Int) by unfold wrg;rw[if_neg hw,ha]] at this
  exact this
 clear hm hw ha
 go_enter Tryz.func14,Tryz.ntmps14
 go_wp2_with (first|(go_at_call 29;(with_reducible refine(IB.out _).mono ?_);rintro r w1 ⟨rfl,rfl⟩)|(go_at_call 36;(with_reducible refine(WG.out _).mono ?_);rintro r w1 ⟨rfl,rfl⟩))
 obtain⟨K4,K5⟩:=blk2 w (.cells #[.bool false,.slice none 0 0] 24) (.cells #[.int .i64 9,.int .i64 (a:Int)] 35)
 obtain⟨e0,e1⟩:=bx2 K4
 obtain⟨f0,f1⟩:=bx2 K5
 refine bodyPost_ret (v:=.tuple #[.agg #[.bool false,.slice none 0 0],.agg #[.int .i64 9,.int .i64 (a:Int)]]) ?_ rfl ⟨rfl,((Gr.refl w).alloc _).alloc _⟩
 simp[results,Tryz.results14,go_sem,e0,e1,f0,f1]
def RDc13 (t2 t3 t4 t5 t6 t9 t10 t11 t12 t13 t14 t15 t16 t17 t18 t19 t20 t21 t22 t23 t24 t25 t26 t27 t28 t29 t30 t31 t32 t33 t34 t35 t36 t37 t38 t39 t40 t41 t42 t43 t44 t45 t46 t47 t48 t49 t50 t51 t52 t53 t54 t55 t56 t57 t58 t59 t60 t61 t62 t63 t64 t65 t66:Value) (S:ByteArray) (pP nP cP p u d:Nat) (sP:Bool) (aP:Option Addr) (b V2 V5:Int) (M1 M2 M4 M5:Nat) (wq:World):Exit->Act->World->Prop
 | .normal,a,w=>∃u40 u41 u42 u43 u44 u45 u46 u47 u48 u49 u50 wk s1 a1 n1 c1,a = {tmps:=#[.string S,.int .i64 b,t2,t3,t4,t5,t6,.pointer (some ⟨pP,0,none⟩),.int .i64 (p:Int),t9,t10,t11,t12,t13,t14,t15,t16,t17,t18,t19,t20,t21,t22,t23,t24,t25,t26,t27,t28,t29,t30,t31,t32,t33,t34,t35,t36,t37,t38,t39,u40,u41,u42,u43,u44,u45,u46,u47,u48,u49,u50,t51,t52,t53,t54,t55,t56,t57,t58,t59,t60,t61,t62,t63,t64,t65,t66],defers:=[]}/\w=(((wk.setCell ⟨pP,0,none⟩ (.bool s1)).setCell ⟨pP,1,none⟩ (.slice a1 n1 c1)).setCell ⟨pP,2,none⟩ (.int .i64 0))/\Ni wk s1 a1 n1 c1 V5 M5/\Gr wq wk
 | _,_,_=>False
set_option maxRecDepth 100000 in
set_option maxHeartbeats 20000000 in
theorem regDc13 (t2 t3 t4 t5 t6 t9 t10 t11 t12 t13 t14 t15 t16 t17 t18 t19 t20 t21 t22 t23 t24 t25 t26 t27 t28 t29 t30 t31 t32 t33 t34 t35 t36 t37 t38 t39 t40 t41 t42 t43 t44 t45 t46 t47 t48 t49 t50 t51 t52 t53 t54 t55 t56 t57 t58 t59 t60 t61 t62 t63 t64 t65 t66:Value) (S:ByteArray) (pP nP cP p u d:Nat) (sP:Bool) (aP:Option Addr) (b V2 V5:Int) (M1 M2 M4 M5:Nat) (wq:World)
  (X1:Hid (∀w1,Gr wq w1->Calls Tryz.prog 20 #[.int .i64 b] w1 fun r w'=>NiA w' r b M1/\Gr w1 w'))
  (X2:Hid (∀w1 s a n c,Gr wq w1->Ni w1 s a n c b M1->Calls Tryz.prog 21 #[.agg #[.bool sP,.slice aP nP cP,.int .i64 0],.agg #[.bool s,.slice a n c,.int .i64 0]] w1 fun r w'=>NiA w' r V2 M2/\Gr w1 w'))
  (X3:Hid (∀w1,Gr wq w1->Calls Tryz.prog 38 #[.int .u8 (u:Int),.int .i64 b] w1 fun r w'=>r = .returned (.int .i64 (d:Int))/\Gr w1 w'))
  (X4:Hid (∀w1,Gr wq w1->Calls Tryz.prog 20 #[.int .i64 (d:Int)] w1 fun r w'=>NiA w' r (d:Int) M4/\Gr w1 w'))
  (X5:Hid (∀w1 s a n c s' a' n' c',Gr wq w1->Ni w1 s a n c V2 M2->Ni w1 s' a' n' c' (d:Int) M4->Calls Tryz.prog 37 #[.agg #[.bool s,.slice a n c,.int .i64 0],.agg #[.bool s',.slice a' n' c',.int .i64 0]] w1 fun r w'=>NiA w' r V5 M5/\Gr w1 w'))
  (hi1:(p:Int)<(S.size:Int)) (hu:∀h:p<S.size,(S[p]'h).toNat=u)
  (hb:wq.heap[pP]? = some (.cells #[.bool sP,.slice aP nP cP,.int .i64 0] 46)) :
  Code.wp Tryz.prog (Code.region 13 #[{dst:=some 40,op:=Op.load 46 (Operand.tmp 7),type:=46,pos:= "ref.go:112",after:=#[],guard:=none},{dst:=some 41,op:=Op.move (Operand.tmp 1),type:=3,pos:= "ref.go:112",after:=#[],guard:=none},{dst:=some 42,op:=Op.call {callee:=Callee.value (Operand.func 20),args:=#[Operand.tmp 41],argTypes:=#[2]},type:=46,pos:= "ref.go:112",after:=#[{on:=1,ground:=Ground.data}],guard:=none},{dst:=some 43,op:=Op.call {callee:=Callee.value (Operand.func 21),args:=#[Operand.tmp 40,Operand.tmp 42],argTypes:=#[46,46]},type:=46,pos:= "ref.go:112",after:=#[{on:=0,ground:=Ground.data},{on:=2,ground:=Ground.data},{on:=2,ground:=Ground.chain}],guard:=none},{dst:=some 44,op:=Op.move (Operand.tmp 0),type:=9,pos:= "ref.go:112",after:=#[],guard:=none},{dst:=some 45,op:=Op.move (Operand.tmp 8),type:=3,pos:= "ref.go:112",after:=#[],guard:=none},{dst:=some 46,op:=Op.index 9 (Operand.tmp 44) (Operand.tmp 45),type:=5,pos:= "ref.go:112",after:=#[{on:=4,ground:=Ground.data},{on:=5,ground:=Ground.data}],guard:=none},{dst:=some 47,op:=Op.move (Operand.tmp 1),type:=3,pos:= "ref.go:112",after:=#[],guard:=none},{dst:=some 48,op:=Op.call {callee:=Callee.value (Operand.func 38),args:=#[Operand.tmp 46,Operand.tmp 47],argTypes:=#[5,3]},type:=3,pos:= "ref.go:112",after:=#[{on:=6,ground:=Ground.data},{on:=7,ground:=Ground.data},{on:=3,ground:=Ground.chain}],guard:=none},{dst:=some 49,op:=Op.call {callee:=Callee.value (Operand.func 20),args:=#[Operand.tmp 48],argTypes:=#[2]},type:=46,pos:= "ref.go:112",after:=#[{on:=8,ground:=Ground.data},{on:=8,ground:=Ground.chain}],guard:=none},{dst:=some 50,op:=Op.call {callee:=Callee.value (Operand.func 37),args:=#[Operand.tmp 43,Operand.tmp 49],argTypes:=#[46,46]},type:=46,pos:= "ref.go:112",after:=#[{on:=3,ground:=Ground.data},{on:=9,ground:=Ground.data},{on:=9,ground:=Ground.chain}],guard:=none},{dst:=none,op:=Op.store 46 (Operand.tmp 7) (Operand.tmp 50),type:=0,pos:= "ref.go:112",after:=#[{on:=10,ground:=Ground.data},{on:=10,ground:=Ground.chain},{on:=0,ground:=Ground.phase},{on:=1,ground:=Ground.phase},{on:=2,ground:=Ground.phase},{on:=3,ground:=Ground.phase},{on:=4,ground:=Ground.phase},{on:=5,ground:=Ground.phase},{on:=6,ground:=Ground.phase},{on:=7,ground:=Ground.phase},{on:=8,ground:=Ground.phase},{on:=9,ground:=Ground.phase},{on:=10,ground:=Ground.phase}],guard:=none}] true) (RDc13 t2 t3 t4 t5 t6 t9 t10 t11 t12 t13 t14 t15 t16 t17 t18 t19 t20 t21 t22 t23 t24 t25 t26 t27 t28 t29 t30 t31 t32 t33 t34 t35 t36 t37 t38 t39 t40 t41 t42 t43 t44 t45 t46 t47 t48 t49 t50 t51 t52 t53 t54 t55 t56 t57 t58 t59 t60 t61 t62 t63 t64 t65 t66 S pP nP cP p u d sP aP b V2 V5 M1 M2 M4 M5 wq) {tmps:=#[.string S,.int .i64 b,t2,t3,t4,t5,t6,.pointer (some ⟨pP,0,none⟩),.int .i64 (p:Int),t9,t10,t11,t12,t13,t14,t15,t16,t17,t18,t19,t20,t21,t22,t23,t24,t25,t26,t27,t28,t29,t30,t31,t32,t33,t34,t35,t36,t37,t38,t39,t40,t41,t42,t43,t44,t45,t46,t47,t48,t49,t50,t51,t52,t53,t54,t55,t56,t57,t58,t59,t60,t61,t62,t63,t64,t65,t66],defers:=[]} wq:=by
 have hS0:True:=trivial
 have hb0:wq.drew.heap[pP]? = some (.cells #[.bool sP,.slice aP nP cP,.int .i64 0] 46):=hb
 have hg0:Gr wq wq.drew:=(Gr.refl wq).drew
 clear hb
 refine wp_region_held_drew (S:=fun w'=>True) (by kernel_rfl) hS0 (fun hHeld=>?_)
 clear hS0
 generalize wq.drew=wd at *
 refine wpAnyH_take (i:=1) (oi:=({dst:=some 41,op:=Op.move (Operand.tmp 1),type:=3,pos:= "ref.go:112",after:=#[],guard:=none}:Oper)) (v:=?_) rfl (by kernel_rfl) (by kernel_rfl) (by kernel_rfl) (fun _ _ _ h=>h) (Or.inl ⟨by rfl,?_⟩) (by with_reducible assumption) ?_
 rotate_left
 ·intro w hSw
  (try dsimp only at hSw)
  first|(go_simp;done)|(go_simp;with_reducible rfl)
 (try simp only[Act.put,List.setIfInBounds_toArray,List.set_cons_zero,List.set_cons_succ])
 refine wpAnyH_take (i:=4) (oi:=({dst:=some 44,op:=Op.move (Operand.tmp 0),type:=9,pos:= "ref.go:112",after:=#[],guard:=none}:Oper)) (v:=?_) rfl (by kernel_rfl) (by kernel_rfl) (by kernel_rfl) (fun _ _ _ h=>h) (Or.inl ⟨by rfl,?_⟩) (by with_reducible assumption) ?_
 rotate_left
 ·intro w hSw
  (try dsimp only at hSw)
  first|(go_simp;done)|(go_simp;with_reducible rfl)
 (try simp only[Act.put,List.setIfInBounds_toArray,List.set_cons_zero,List.set_cons_succ])
 refine wpAnyH_take (i:=5) (oi:=({dst:=some 45,op:=Op.move (Operand.tmp 8),type:=3,pos:= "ref.go:112",after:=#[],guard:=none}:Oper)) (v:=?_) rfl (by kernel_rfl) (by kernel_rfl) (by kernel_rfl) (fun _ _ _ h=>h) (Or.inl ⟨by rfl,?_⟩) (by with_reducible assumption) ?_
 rotate_left
 ·intro w hSw
  (try dsimp only at hSw)
  first|(go_simp;done)|(go_simp;with_reducible rfl)
 (try simp only[Act.put,List.setIfInBounds_toArray,List.set_cons_zero,List.set_cons_succ])
 refine wpAnyH_take (i:=6) (oi:=({dst:=some 46,op:=Op.index 9 (Operand.tmp 44) (Operand.tmp 45),type:=5,pos:= "ref.go:112",after:=#[{on:=4,ground:=Ground.data},{on:=5,ground:=Ground.data}],guard:=none}:Oper)) (v:=?_) rfl (by kernel_rfl) (by kernel_rfl) (by kernel_rfl) (fun _ _ _ h=>h) (Or.inl ⟨by rfl,?_⟩) (by with_reducible assumption) ?_
 rotate_left
 ·intro w hSw
  (try dsimp only at hSw)
  first|(go_simp;done)|(go_simp;with_reducible rfl)
 (try simp only[Act.put,List.setIfInBounds_toArray,List.set_cons_zero,List.set_cons_succ])
 refine wpAnyH_take (i:=7) (oi:=({dst:=some 47,op:=Op.move (Operand.tmp 1),type:=3,pos:= "ref.go:112",after:=#[],guard:=none}:Oper)) (v:=?_) rfl (by kernel_rfl) (by kernel_rfl) (by kernel_rfl) (fun _ _ _ h=>h) (Or.inl ⟨by rfl,?_⟩) (by with_reducible assumption) ?_
 rotate_left
 ·intro w hSw
  (try dsimp only at hSw)
  first|(go_simp;done)|(go_simp;with_reducible rfl)
 (try simp only[Act.put,List.setIfInBounds_toArray,List.set_cons_zero,List.set_cons_succ])
 refine wpAnyH_ready (rs:=[0,2]) (by kernel_rfl) (by simp) ?_
 refine AllReadyH.cons (o:=({dst:=some 40,op:=Op.load 46 (Operand.tmp 7),type:=46,pos:= "ref.go:112",after:=#[],guard:=none}:Oper)) rfl (fun K hK=>?_) ?_
 ·obtain⟨x0',x1',x2'⟩:=bx3D hb0
  go_simp
  refine hK.out _ _ trivial (fun hH1=>?_)
  clear hK K x0' x1' x2'
  (try simp only[Act.put,List.setIfInBounds_toArray,List.set_cons_zero,List.set_cons_succ])
  refine wpAnyH_ready (rs:=[2]) (by kernel_rfl) (by simp) ?_
  refine AllReadyH.cons (o:=({dst:=some 42,op:=Op.call {callee:=Callee.value (Operand.func 20),args:=#[Operand.tmp 41],argTypes:=#[2]},type:=46,pos:= "ref.go:112",after:=#[{on:=1,ground:=Ground.data}],guard:=none}:Oper)) rfl (fun K hK=>?_) AllReadyH.nil
  go_simp
  with_reducible refine(X1.out _ hg0).mono ?_
  rintro r wc2 ⟨⟨s1,a1,n1,c1,rfl,N1_5⟩,gg4⟩
  refine hK.out _ _ trivial (fun hH3=>?_)
  clear hK K
  (try simp only[Act.put,List.setIfInBounds_toArray,List.set_cons_zero,List.set_cons_succ])
  have bP_6:=keepO gg4 hb0
  clear hb0
  have gq7:=hg0.trans gg4
  clear hg0
  refine wpAnyH_ready (rs:=[3]) (by kernel_rfl) (by simp) ?_
  refine AllReadyH.cons (o:=({dst:=some 43,op:=Op.call {callee:=Callee.value (Operand.func 21),args:=#[Operand.tmp 40,Operand.tmp 42],argTypes:=#[46,46]},type:=46,pos:= "ref.go:112",after:=#[{on:=0,ground:=Ground.data},{on:=2,ground:=Ground.data},{on:=2,ground:=Ground.chain}],guard:=none}:Oper)) rfl (fun K hK=>?_) AllReadyH.nil
  go_simp
  with_reducible refine(X2.out _ _ _ _ _ gq7 N1_5).mono ?_
  rintro r wc8 ⟨⟨s2,a2,n2,c2,rfl,N2_11⟩,gg10⟩
  refine hK.out _ _ trivial (fun hH9=>?_)
  clear hK K
  (try simp only[Act.put,List.setIfInBounds_toArray,List.set_cons_zero,List.set_cons_succ])
  have bP_12:=keepO gg10 bP_6
  clear bP_6
  have N1_13:=N1_5.gr gg10
  clear N1_5
  have gq14:=gq7.trans gg10
  clear gq7
  refine wpAnyH_ready (rs:=[8]) (by kernel_rfl) (by simp) ?_
  refine AllReadyH.cons (o:=({dst:=some 48,op:=Op.call {callee:=Callee.value (Operand.func 38),args:=#[Operand.tmp 46,Operand.tmp 47],argTypes:=#[5,3]},type:=3,pos:= "ref.go:112",after:=#[{on:=6,ground:=Ground.data},{on:=7,ground:=Ground.data},{on:=3,ground:=Ground.chain}],guard:=none}:Oper)) rfl (fun K hK=>?_) AllReadyH.nil
  go_simp
  with_reducible refine(X3.out _ gq14).mono ?_
  rintro r wc15 ⟨rfl,gg17⟩
  refine hK.out _ _ trivial (fun hH16=>?_)
  clear hK K
  (try simp only[Act.put,List.setIfInBounds_toArray,List.set_cons_zero,List.set_cons_succ])
  have bP_18:=keepO gg17 bP_12
  clear bP_12
  have N1_19:=N1_13.gr gg17
  clear N1_13
  have N2_20:=N2_11.gr gg17
  clear N2_11
  have gq21:=gq14.trans gg17
  clear gq14
  refine wpAnyH_ready (rs:=[9]) (by kernel_rfl) (by simp) ?_
  refine AllReadyH.cons (o:=({dst:=some 49,op:=Op.call {callee:=Callee.value (Operand.func 20),args:=#[Operand.tmp 48],argTypes:=#[2]},type:=46,pos:= "ref.go:112",after:=#[{on:=8,ground:=Ground.data},{on:=8,ground:=Ground.chain}],guard:=none}:Oper)) rfl (fun K hK=>?_) AllReadyH.nil
  go_simp
  with_reducible refine(X4.out _ gq21).mono ?_
  rintro r wc22 ⟨⟨s4,a4,n4,c4,rfl,N4_25⟩,gg24⟩
  refine hK.out _ _ trivial (fun hH23=>?_)
  clear hK K
  (try simp only[Act.put,List.setIfInBounds_toArray,List.set_cons_zero,List.set_cons_succ])
  have bP_26:=keepO gg24 bP_18
  clear bP_18
  have N1_27:=N1_19.gr gg24
  clear N1_19
  have N2_28:=N2_20.gr gg24
  clear N2_20
  have gq29:=gq21.trans gg24
  clear gq21
  refine wpAnyH_ready (rs:=[10]) (by kernel_rfl) (by simp) ?_
  refine AllReadyH.cons (o:=({dst:=some 50,op:=Op.call {callee:=Callee.value (Operand.func 37),args:=#[Operand.tmp 43,Operand.tmp 49],argTypes:=#[46,46]},type:=46,pos:= "ref.go:112",after:=#[{on:=3,ground:=Ground.data},{on:=9,ground:=Ground.data},{on:=9,ground:=Ground.chain}],guard:=none}:Oper)) rfl (fun K hK=>?_) AllReadyH.nil
  go_simp
  with_reducible refine(X5.out _ _ _ _ _ _ _ _ _ gq29 N2_28 N4_25).mono ?_
  rintro r wc30 ⟨⟨s5,a5,n5,c5,rfl,N5_33⟩,gg32⟩
  refine hK.out _ _ trivial (fun hH31=>?_)
  clear hK K
  (try simp only[Act.put,List.setIfInBounds_toArray,List.set_cons_zero,List.set_cons_succ])
  have bP_34:=keepO gg32 bP_26
  clear bP_26
  have N1_35:=N1_27.gr gg32
  clear N1_27
  have N2_36:=N2_28.gr gg32
  clear N2_28
  have N4_37:=N4_25.gr gg32
  clear N4_25
  have gq38:=gq29.trans gg32
  clear gq29
  refine wpAnyH_ready (rs:=[11]) (by kernel_rfl) (by simp) ?_
  refine AllReadyH.cons (o:=({dst:=none,op:=Op.store 46 (Operand.tmp 7) (Operand.tmp 50),type:=0,pos:= "ref.go:112",after:=#[{on:=10,ground:=Ground.data},{on:=10,ground:=Ground.chain},{on:=0,ground:=Ground.phase},{on:=1,ground:=Ground.phase},{on:=2,ground:=Ground.phase},{on:=3,ground:=Ground.phase},{on:=4,ground:=Ground.phase},{on:=5,ground:=Ground.phase},{on:=6,ground:=Ground.phase},{on:=7,ground:=Ground.phase},{on:=8,ground:=Ground.phase},{on:=9,ground:=Ground.phase},{on:=10,ground:=Ground.phase}],guard:=none}:Oper)) rfl (fun K hK=>?_) AllReadyH.nil
  obtain⟨t0',t1',t2'⟩:=bx3D bP_34
  obtain⟨u0',u1',u2'⟩:=out3D bP_34
  go_simp
  refine hK.out _ _ trivial (fun hS39=>?_)
  clear hK K t0' t1' t2' u0' u1' u2'
  (try simp only[Act.put,List.setIfInBounds_toArray,List.set_cons_zero,List.set_cons_succ])
  refine wpAnyH_done (by kernel_rfl) ?_ _
  exact⟨_,_,_,_,_,_,_,_,_,_,_,wc30,s5,a5,n5,c5,rfl,rfl,N5_33,gq38⟩
 refine AllReadyH.cons (o:=({dst:=some 42,op:=Op.call {callee:=Callee.value (Operand.func 20),args:=#[Operand.tmp 41],argTypes:=#[2]},type:=46,pos:= "ref.go:112",after:=#[{on:=1,ground:=Ground.data}],guard:=none}:Oper)) rfl (fun K hK=>?_) AllReadyH.nil
 go_simp
 with_reducible refine(X1.out _ hg0).mono ?_
 rintro r wc40 ⟨⟨s1,a1,n1,c1,rfl,N1_43⟩,gg42⟩
 refine hK.out _ _ trivial (fun hH41=>?_)
 clear hK K
 (try simp only[Act.put,List.setIfInBounds_toArray,List.set_cons_zero,List.set_cons_succ])
 have bP_44:=keepO gg42 hb0
 clear hb0
 have gq45:=hg0.trans gg42
 clear hg0
 refine wpAnyH_ready (rs:=[0]) (by kernel_rfl) (by simp) ?_
 refine AllReadyH.cons (o:=({dst:=some 40,op:=Op.load 46 (Operand.tmp 7),type:=46,pos:= "ref.go:112",after:=#[],guard:=none}:Oper)) rfl (fun K hK=>?_) AllReadyH.nil
 obtain⟨x0',x1',x2'⟩:=bx3D bP_44
 go_simp
 refine hK.out _ _ trivial (fun hH46=>?_)
 clear hK K x0' x1' x2'
 (try simp only[Act.put,List.setIfInBounds_toArray,List.set_cons_zero,List.set_cons_succ])
 refine wpAnyH_ready (rs:=[3]) (by kernel_rfl) (by simp) ?_
 refine AllReadyH.cons (o:=({dst:=some 43,op:=Op.call {callee:=Callee.value (Operand.func 21),args:=#[Operand.tmp 40,Operand.tmp 42],argTypes:=#[46,46]},type:=46,pos:= "ref.go:112",after:=#[{on:=0,ground:=Ground.data},{on:=2,ground:=Ground.data},{on:=2,ground:=Ground.chain}],guard:=none}:Oper)) rfl (fun K hK=>?_) AllReadyH.nil
 go_simp
 with_reducible refine(X2.out _ _ _ _ _ gq45 N1_43).mono ?_
 rintro r wc47 ⟨⟨s2,a2,n2,c2,rfl,N2_50⟩,gg49⟩
 refine hK.out _ _ trivial (fun hH48=>?_)
 clear hK K
 (try simp only[Act.put,List.setIfInBounds_toArray,List.set_cons_zero,List.set_cons_succ])
 have bP_51:=keepO gg49 bP_44
 clear bP_44
 have N1_52:=N1_43.gr gg49
 clear N1_43
 have gq53:=gq45.trans gg49
 clear gq45
 refine wpAnyH_ready (rs:=[8]) (by kernel_rfl) (by simp) ?_
 refine AllReadyH.cons (o:=({dst:=some 48,op:=Op.call {callee:=Callee.value (Operand.func 38),args:=#[Operand.tmp 46,Operand.tmp 47],argTypes:=#[5,3]},type:=3,pos:= "ref.go:112",after:=#[{on:=6,ground:=Ground.data},{on:=7,ground:=Ground.data},{on:=3,ground:=Ground.chain}],guard:=none}:Oper)) rfl (fun K hK=>?_) AllReadyH.nil
 go_simp
 with_reducible refine(X3.out _ gq53).mono ?_
 rintro r wc54 ⟨rfl,gg56⟩
 refine hK.out _ _ trivial (fun hH55=>?_)
 clear hK K
 (try simp only[Act.put,List.setIfInBounds_toArray,List.set_cons_zero,List.set_cons_succ])
 have bP_57:=keepO gg56 bP_51
 clear bP_51
 have N1_58:=N1_52.gr gg56
 clear N1_52
 have N2_59:=N2_50.gr gg56
 clear N2_50
 have gq60:=gq53.trans gg56
 clear gq53
 refine wpAnyH_ready (rs:=[9]) (by kernel_rfl) (by simp) ?_
 refine AllReadyH.cons (o:=({dst:=some 49,op:=Op.call {callee:=Callee.value (Operand.func 20),args:=#[Operand.tmp 48],argTypes:=#[2]},type:=46,pos:= "ref.go:112",after:=#[{on:=8,ground:=Ground.data},{on:=8,ground:=Ground.chain}],guard:=none}:Oper)) rfl (fun K hK=>?_) AllReadyH.nil
 go_simp
 with_reducible refine(X4.out _ gq60).mono ?_
 rintro r wc61 ⟨⟨s4,a4,n4,c4,rfl,N4_64⟩,gg63⟩
 refine hK.out _ _ trivial (fun hH62=>?_)
 clear hK K
 (try simp only[Act.put,List.setIfInBounds_toArray,List.set_cons_zero,List.set_cons_succ])
 have bP_65:=keepO gg63 bP_57
 clear bP_57
 have N1_66:=N1_58.gr gg63
 clear N1_58
 have N2_67:=N2_59.gr gg63
 clear N2_59
 have gq68:=gq60.trans gg63
 clear gq60
 refine wpAnyH_ready (rs:=[10]) (by kernel_rfl) (by simp) ?_
 refine AllReadyH.cons (o:=({dst:=some 50,op:=Op.call {callee:=Callee.value (Operand.func 37),args:=#[Operand.tmp 43,Operand.tmp 49],argTypes:=#[46,46]},type:=46,pos:= "ref.go:112",after:=#[{on:=3,ground:=Ground.data},{on:=9,ground:=Ground.data},{on:=9,ground:=Ground.chain}],guard:=none}:Oper)) rfl (fun K hK=>?_) AllReadyH.nil
 go_simp
 with_reducible refine(X5.out _ _ _ _ _ _ _ _ _ gq68 N2_67 N4_64).mono ?_
 rintro r wc69 ⟨⟨s5,a5,n5,c5,rfl,N5_72⟩,gg71⟩
 refine hK.out _ _ trivial (fun hH70=>?_)
 clear hK K
 (try simp only[Act.put,List.setIfInBounds_toArray,List.set_cons_zero,List.set_cons_succ])
 have bP_73:=keepO gg71 bP_65
 clear bP_65
 have N1_74:=N1_66.gr gg71
 clear N1_66
 have N2_75:=N2_67.gr gg71
 clear N2_67
 have N4_76:=N4_64.gr gg71
 clear N4_64
 have gq77:=gq68.trans gg71
 clear gq68
 refine wpAnyH_ready (rs:=[11]) (by kernel_rfl) (by simp) ?_
 refine AllReadyH.cons (o:=({dst:=none,op:=Op.store 46 (Operand.tmp 7) (Operand.tmp 50),type:=0,pos:= "ref.go:112",after:=#[{on:=10,ground:=Ground.data},{on:=10,ground:=Ground.chain},{on:=0,ground:=Ground.phase},{on:=1,ground:=Ground.phase},{on:=2,ground:=Ground.phase},{on:=3,ground:=Ground.phase},{on:=4,ground:=Ground.phase},{on:=5,ground:=Ground.phase},{on:=6,ground:=Ground.phase},{on:=7,ground:=Ground.phase},{on:=8,ground:=Ground.phase},{on:=9,ground:=Ground.phase},{on:=10,ground:=Ground.phase}],guard:=none}:Oper)) rfl (fun K hK=>?_) AllReadyH.nil
 obtain⟨t0',t1',t2'⟩:=bx3D bP_73
 obtain⟨u0',u1',u2'⟩:=out3D bP_73
 go_simp
 refine hK.out _ _ trivial (fun hS78=>?_)
 clear hK K t0' t1' t2' u0' u1' u2'
 (try simp only[Act.put,List.setIfInBounds_toArray,List.set_cons_zero,List.set_cons_succ])
 refine wpAnyH_done (by kernel_rfl) ?_ _
 exact⟨_,_,_,_,_,_,_,_,_,_,_,wc69,s5,a5,n5,c5,rfl,rfl,N5_72,gq77⟩
end Go.Proofs.YtapnglidnblmcaaGreat
