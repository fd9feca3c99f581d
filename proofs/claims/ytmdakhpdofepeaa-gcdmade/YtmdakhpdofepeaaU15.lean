import Derived.Test.YtmdakhpdofepeaaU14
namespace Go.Proofs.Ytmdakhpdofepeaa
open Go.RowKit
set_option linter.unusedVariables false
set_option linter.unusedSimpArgs false
def Way (pd pn S:Nat) (w:World):Prop:=∀w1,Gr w w1->∀(ad1 ad2:Option Addr) (m1 m2 d1 d2:Nat) (us vs:List Nat),Row w1 ad1 m1 d1 us->Row w1 ad2 m2 d2 vs->(∀x∈us,x<18446744073709551616)->(∀x∈vs,x<18446744073709551616)->m1+m2<S->Calls Try.prog 50 #[.slice ad1 m1 d1,.slice ad2 m2 d2,.pointer (some ⟨pd,0,none⟩),.pointer (some ⟨pn,0,none⟩)] w1 fun e w'=>Pr w1 (nv 18446744073709551616 us*nv 18446744073709551616 vs) (m1+m2) e w'
theorem Row.dropT {w:World} {n cap:Nat} {xs:List Nat} {b off:Nat} (h:Row w (some ⟨b,off,none⟩) n cap xs) (q:Nat) (hq:q<n):Row w (some ⟨b,off+q,none⟩) (n-q) (cap-q) (xs.drop q):=by
 have:=h.le
 refine⟨by rw[List.length_drop,h.len],by omega,by have:=h.max;omega,(fun h=>by cases h),fun hp=>?_⟩
 obtain⟨b',off',e,hb,hc⟩:=h.cells (by omega)
 simp only[Option.some.injEq,Addr.mk.injEq,and_true] at e
 obtain⟨rfl,rfl⟩:=e
 refine⟨b,off+q,rfl,hb,fun j hj=>?_⟩
 rw[Nat.add_assoc,hc (q+j) (by omega)]
 congr 3
 simp[List.getD_eq_getElem?_getD]
theorem nv_parts (xs:List Nat) (h:Nat) (hl:h<=xs.length):nv 18446744073709551616 xs=nv 18446744073709551616 (xs.take h)+18446744073709551616 ^ h*nv 18446744073709551616 (xs.drop h):=by
 have:=nv_append 18446744073709551616 (xs.take h) (xs.drop h)
 rw[List.take_append_drop,List.length_take,Nat.min_eq_left hl] at this
 exact this
theorem take_lt {xs:List Nat} (h:∀x∈xs,x<18446744073709551616) (k:Nat):∀x∈xs.take k,x<18446744073709551616:=fun x hx=>h x (List.mem_of_mem_take hx)
theorem drop_lt {xs:List Nat} (h:∀x∈xs,x<18446744073709551616) (k:Nat):∀x∈xs.drop k,x<18446744073709551616:=fun x hx=>h x (List.mem_of_mem_drop hx)
theorem app_lt {xs ys:List Nat} (h:∀x∈xs,x<18446744073709551616) (h':∀x∈ys,x<18446744073709551616):∀x∈xs++ys,x<18446744073709551616:=fun x hx=>by
 rcases List.mem_append.1 hx with a|a
 ·exact h x a
 ·exact h' x a
theorem ou_lt {w:World} {g N C:Nat} {zs:List Nat} (h:OU w g N C zs):g<w.heap.size:=(World.ownsRow.lt h g rfl).2
theorem ne_of_row {w:World} {g f N C:Nat} {zs:List Nat} (hne:f≠g):0<N->∀b,some (⟨f,0,none⟩:Addr)=some b->b.block≠g:=by
 intro _ b hb
 injection hb with hb
 rw[<-hb]
 exact hne
theorem mul_lt_pow {a b n1 n2:Nat} (h1:a<18446744073709551616 ^ n1) (h2:b<18446744073709551616 ^ n2):a*b<18446744073709551616 ^ (n1+n2):=by
 rw[Nat.pow_add]
 exact Nat.mul_lt_mul'' h1 h2
set_option maxRecDepth 8000 in
set_option maxHeartbeats 8000000 in
theorem byThreeT (pa oa pb ob pd pn n1 c1 n2 c2 h:Nat) (xs ys:List Nat) (w:World) (rx:Row w (some ⟨pa,oa,none⟩) n1 c1 xs) (ry:Row w (some ⟨pb,ob,none⟩) n2 c2 ys) (hx:∀x∈xs,x<18446744073709551616) (hy:∀x∈ys,x<18446744073709551616) (h0:0<h) (i1:h<n1) (i2:h<n2) (i5:n1<=h+h) (i6:n2<=h+h) (i7:h+h<=n1+1) (hb:n1+n2<=1099511627776) (hw:Way pd pn (n1+n2) w) :
  Calls Try.prog 70 #[.slice (some ⟨pa,oa,none⟩) n1 c1,.slice (some ⟨pb,ob,none⟩) n2 c2,.int .i64 (h:Int),.func (.func 50) #[] #[.pointer (some ⟨pd,0,none⟩),.pointer (some ⟨pn,0,none⟩)]] w fun e w'=>Pr w (nv 18446744073709551616 xs*nv 18446744073709551616 ys) (n1+n2) e w':=by
 have i3:=rx.le
 have i4:=ry.le
 have lx:=rx.len
 have ly:=ry.len
 have VX:Hid (nv 18446744073709551616 xs=nv 18446744073709551616 (xs.take h)+18446744073709551616 ^ h*nv 18446744073709551616 (xs.drop h)):=nv_parts xs h (by omega)
 have VY:Hid (nv 18446744073709551616 ys=nv 18446744073709551616 (ys.take h)+18446744073709551616 ^ h*nv 18446744073709551616 (ys.drop h)):=nv_parts ys h (by omega)
 have BX:Hid (nv 18446744073709551616 xs<18446744073709551616 ^ n1):=by have:=nv_lt 18446744073709551616 xs hx;rw[lx] at this;exact this
 have BY:Hid (nv 18446744073709551616 ys<18446744073709551616 ^ n2):=by have:=nv_lt 18446744073709551616 ys hy;rw[ly] at this;exact this
 have RX1:=hide (rx.take h (by omega))
 have RX2:=hide (rx.dropT h i1)
 have RY1:=hide (ry.take h (by omega))
 have RY2:=hide (ry.dropT h i2)
 have LX1:=hide (take_lt hx h)
 have LX2:=hide (drop_lt hx h)
 have LY1:=hide (take_lt hy h)
 have LY2:=hide (drop_lt hy h)
 have WY:=hide hw
 clear rx ry hx hy hw
 obtain⟨aL,haL⟩:∃v,nv 18446744073709551616 (xs.take h)=v:=⟨_,rfl⟩
 obtain⟨aH,haH⟩:∃v,nv 18446744073709551616 (xs.drop h)=v:=⟨_,rfl⟩
 obtain⟨bL,hbL⟩:∃v,nv 18446744073709551616 (ys.take h)=v:=⟨_,rfl⟩
 obtain⟨bH,hbH⟩:∃v,nv 18446744073709551616 (ys.drop h)=v:=⟨_,rfl⟩
 rw[haL,haH] at VX
 rw[hbL,hbH] at VY
 have H1:Hid (∀t4 t5 t6 t7 t8 t9 t10 t11 t12 t13 t14 t15 t16 t17 t18 t19 t20 t21 t22 t23 t24 t25 t26 t27 t28 t29 t30 t31 t32 t33 t34 t35 t36 t37 t38 t39 t40 t41 t42 t43 t44 t45 t46 t47 t48 t49 t50 t51 t52 t53 t54 t55 t56 t57 t58 t59 t60 t61 t62 t63 t64 t65 t66 t67 t68 t69 t70 t71 t72 t73 t74 t75 t76 t77 t78 t79 t80 t81 t82 t83 t84:Value,_):=fun t4 t5 t6 t7 t8 t9 t10 t11 t12 t13 t14 t15 t16 t17 t18 t19 t20 t21 t22 t23 t24 t25 t26 t27 t28 t29 t30 t31 t32 t33 t34 t35 t36 t37 t38 t39 t40 t41 t42 t43 t44 t45 t46 t47 t48 t49 t50 t51 t52 t53 t54 t55 t56 t57 t58 t59 t60 t61 t62 t63 t64 t65 t66 t67 t68 t69 t70 t71 t72 t73 t74 t75 t76 t77 t78 t79 t80 t81 t82 t83 t84=>reg1071 t4 t5 t6 t7 t8 t9 t10 t11 t12 t13 t14 t15 t16 t17 t18 t19 t20 t21 t22 t23 t24 t25 t26 t27 t28 t29 t30 t31 t32 t33 t34 t35 t36 t37 t38 t39 t40 t41 t42 t43 t44 t45 t46 t47 t48 t49 t50 t51 t52 t53 t54 t55 t56 t57 t58 t59 t60 t61 t62 t63 t64 t65 t66 t67 t68 t69 t70 t71 t72 t73 t74 t75 t76 t77 t78 t79 t80 t81 t82 t83 t84 pa oa pb ob pd pn n1 c1 n2 c2 h (aL*bL) (aH*bH) w
  (by intro w1 g1;have:=WY.out w1 g1 _ _ _ _ _ _ _ _ (RX1.out.gr g1) (RY1.out.gr g1) LX1.out LY1.out (by omega);rw[haL,hbL] at this;exact this)
  (by intro w1 g1;have:=WY.out w1 g1 _ _ _ _ _ _ _ _ (RX2.out.gr g1) (RY2.out.gr g1) LX2.out LY2.out (by omega);rw[haH,hbH] at this;exact this) i1 i2 i3 i4
 have HA:Hid (∀w1,Gr w w1->Calls Try.prog 85 #[.slice (some ⟨pa,oa,none⟩) h c1,.slice (some ⟨pa,oa+h,none⟩) (n1-h) (c1-h)] w1 fun e w'=>Apt w1 h aL aH e w'):=fun w1 g1=>by
  have:=apartA _ _ _ _ _ _ _ _ w1 (RX1.out.gr g1) (RX2.out.gr g1) LX1.out LX2.out h0 (by omega) (by omega);rw[haL,haH] at this;exact this
 have HB:Hid (∀w1,Gr w w1->Calls Try.prog 85 #[.slice (some ⟨pb,ob,none⟩) h c2,.slice (some ⟨pb,ob+h,none⟩) (n2-h) (c2-h)] w1 fun e w'=>Apt w1 h bL bH e w'):=fun w1 g1=>by
  have:=apartA _ _ _ _ _ _ _ _ w1 (RY1.out.gr g1) (RY2.out.gr g1) LY1.out LY2.out h0 (by omega) (by omega);rw[hbL,hbH] at this;exact this
 clear haL haH hbL hbH RX1 RX2 RY1 RY2 LX1 LX2 LY1 LY2
 go_enter Try.func70,Try.ntmps70
 go_wp2
 refine Code.wp_mono ?_ (H1.out _ _ _ _ _ _ _ _ _ _ _ _ _ _ _ _ _ _ _ _ _ _ _ _ _ _ _ _ _ _ _ _ _ _ _ _ _ _ _ _ _ _ _ _ _ _ _ _ _ _ _ _ _ _ _ _ _ _ _ _ _ _ _ _ _ _ _ _ _ _ _ _ _ _ _ _ _ _ _ _ _)
 intro e a1 w1 hR
 cases e <;> first|(exact False.elim hR)|skip
 obtain⟨u17,u18,u19,u20,u21,u22,u23,u24,u25,u26,u27,u28,u29,u30,u31,u32,g1,C1,g2,C2,zs1,zs2,rfl,hg1,hg2,hg12,hl1,hv1,hl2,hv2,O1,O2,G1⟩:=hR
 have L1:=hide hl1
 have L2:=hide hl2
 have V1:=hide hv1
 have V2:=hide hv2
 replace O1:=hide O1
 replace O2:=hide O2
 replace G1:=hide G1
 clear hl1 hl2 hv1 hv2 H1
 have H2:Hid (∀t1 t3 t4 t5 t6 t7 t8 t9 t10 t11 t12 t13 t14 t15 t16 t17 t18 t19 t20 t21 t22 t23 t24 t25 t26 t27 t28 t29 t30 t31 t32 t33 t34 t35 t36 t37 t38 t39 t40 t41 t42 t43 t44 t45 t46 t47 t48 t49 t50 t51 t52 t53 t54 t55 t56 t57 t58 t59 t60 t61 t62 t63 t64 t65 t66 t67 t68 t69 t70 t71 t72 t73 t74 t75 t76 t77 t78 t79 t80 t81 t82 t83 t84:Value,_):=fun t1 t3 t4 t5 t6 t7 t8 t9 t10 t11 t12 t13 t14 t15 t16 t17 t18 t19 t20 t21 t22 t23 t24 t25 t26 t27 t28 t29 t30 t31 t32 t33 t34 t35 t36 t37 t38 t39 t40 t41 t42 t43 t44 t45 t46 t47 t48 t49 t50 t51 t52 t53 t54 t55 t56 t57 t58 t59 t60 t61 t62 t63 t64 t65 t66 t67 t68 t69 t70 t71 t72 t73 t74 t75 t76 t77 t78 t79 t80 t81 t82 t83 t84=>reg1542 t1 t3 t4 t5 t6 t7 t8 t9 t10 t11 t12 t13 t14 t15 t16 t17 t18 t19 t20 t21 t22 t23 t24 t25 t26 t27 t28 t29 t30 t31 t32 t33 t34 t35 t36 t37 t38 t39 t40 t41 t42 t43 t44 t45 t46 t47 t48 t49 t50 t51 t52 t53 t54 t55 t56 t57 t58 t59 t60 t61 t62 t63 t64 t65 t66 t67 t68 t69 t70 t71 t72 t73 t74 t75 t76 t77 t78 t79 t80 t81 t82 t83 t84 pa oa n1 c1 h aL aH w1 (fun w2 k=>HA.out w2 (G1.out.trans k)) i1 i3
 go_wp2
 refine Code.wp_mono ?_ (H2.out _ _ _ _ _ _ _ _ _ _ _ _ _ _ _ _ _ _ _ _ _ _ _ _ _ _ _ _ _ _ _ _ _ _ _ _ _ _ _ _ _ _ _ _ _ _ _ _ _ _ _ _ _ _ _ _ _ _ _ _ _ _ _ _ _ _ _ _ _ _ _ _ _ _ _ _ _ _ _ _ _ _ _)
 intro e a1 w2 hR
 cases e <;> first|(exact False.elim hR)|skip
 obtain⟨u33,u34,u35,u36,u37,u38,u39,u40,u41,u42,gf,Cf,sf,zsf,rfl,hgf,hlf,hvf,Of,G2⟩:=hR
 have LF:=hide hlf
 have VF:=hide hvf
 replace Of:=hide Of
 replace O1:=hide (O1.out.gr G2)
 replace O2:=hide (O2.out.gr G2)
 replace G2:Hid (Gr w w2):=G1.out.trans G2
 clear G1 hlf hvf H2 HA
 have H3:Hid (∀t0 t3 t4 t5 t6 t7 t8 t9 t10 t11 t12 t13 t14 t15 t16 t17 t18 t19 t20 t21 t22 t23 t24 t25 t26 t27 t28 t29 t30 t31 t32 t33 t34 t35 t36 t37 t38 t39 t40 t41 t42 t43 t44 t45 t46 t47 t48 t49 t50 t51 t52 t53 t54 t55 t56 t57 t58 t59 t60 t61 t62 t63 t64 t65 t66 t67 t68 t69 t70 t71 t72 t73 t74 t75 t76 t77 t78 t79 t80 t81 t82 t83 t84:Value,_):=fun t0 t3 t4 t5 t6 t7 t8 t9 t10 t11 t12 t13 t14 t15 t16 t17 t18 t19 t20 t21 t22 t23 t24 t25 t26 t27 t28 t29 t30 t31 t32 t33 t34 t35 t36 t37 t38 t39 t40 t41 t42 t43 t44 t45 t46 t47 t48 t49 t50 t51 t52 t53 t54 t55 t56 t57 t58 t59 t60 t61 t62 t63 t64 t65 t66 t67 t68 t69 t70 t71 t72 t73 t74 t75 t76 t77 t78 t79 t80 t81 t82 t83 t84=>reg1543 t0 t3 t4 t5 t6 t7 t8 t9 t10 t11 t12 t13 t14 t15 t16 t17 t18 t19 t20 t21 t22 t23 t24 t25 t26 t27 t28 t29 t30 t31 t32 t33 t34 t35 t36 t37 t38 t39 t40 t41 t42 t43 t44 t45 t46 t47 t48 t49 t50 t51 t52 t53 t54 t55 t56 t57 t58 t59 t60 t61 t62 t63 t64 t65 t66 t67 t68 t69 t70 t71 t72 t73 t74 t75 t76 t77 t78 t79 t80 t81 t82 t83 t84 pb ob n2 c2 h bL bH w2 (fun w3 k=>HB.out w3 (G2.out.trans k)) i2 i4
 go_wp2
 refine Code.wp_mono ?_ (H3.out _ _ _ _ _ _ _ _ _ _ _ _ _ _ _ _ _ _ _ _ _ _ _ _ _ _ _ _ _ _ _ _ _ _ _ _ _ _ _ _ _ _ _ _ _ _ _ _ _ _ _ _ _ _ _ _ _ _ _ _ _ _ _ _ _ _ _ _ _ _ _ _ _ _ _ _ _ _ _ _ _ _ _)
 intro e a1 w3 hR
 cases e <;> first|(exact False.elim hR)|skip
 obtain⟨u43,u44,u45,u46,u47,u48,u49,u50,u51,u52,gs,Cs,ss,zss,rfl,hgs,hls,hvs,Os,G3⟩:=hR
 have LS:=hide hls
 have VS:=hide hvs
 have hfs:gf<w2.heap.size:=ou_lt Of.out
 replace Os:=hide Os
 replace Of:=hide (Of.out.gr G3)
 replace O1:=hide (O1.out.gr G3)
 replace O2:=hide (O2.out.gr G3)
 replace G3:Hid (Gr w w3):=G2.out.trans G3
 clear G2 hls hvs H3 HB
 have CR:Hid (Calls Try.prog 50 #[.slice (some ⟨gf,0,none⟩) h Cf,.slice (some ⟨gs,0,none⟩) h Cs,.pointer (some ⟨pd,0,none⟩),.pointer (some ⟨pn,0,none⟩)] w3 fun e w'=>Pr w3 (nv 18446744073709551616 zsf*nv 18446744073709551616 zss) (h+h) e w'):=WY.out w3 G3.out _ _ _ _ _ _ _ _ Of.out.row Os.out.row LF.out LS.out (by omega)
 clear WY
 go_wp2_with (go_at_call 50;(with_reducible refine CR.out.mono ?_);rintro e w4 ⟨gx,Cx,zsx,rfl,hgx,hlx,hvx,Ox,G4⟩)
 have LZ:=hide hlx
 have VZ:=hide hvx
 replace Ox:=hide Ox
 replace O1:=hide (O1.out.gr G4)
 replace O2:=hide (O2.out.gr G4)
 replace G4:Hid (Gr w w4):=G3.out.trans G4
 clear G3 CR Of Os LF LS hlx hvx
 have l12:g1<w4.heap.size/\g2<w4.heap.size/\gx<w4.heap.size:=⟨ou_lt O1.out,ou_lt O2.out,ou_lt Ox.out⟩
 have hws:=G4.out.size
 have G5:Hid (∀O,Gr w4 (w4.alloc O)):=fun O=>(Gr.refl w4).alloc O
 have CC:Hid (Calls Try.prog 86 #[.slice (some ⟨w4.heap.size,0,none⟩) 2 2] (w4.alloc (.cells #[.slice (some ⟨g1,0,none⟩) (h+h) C1,.slice (some ⟨g2,0,none⟩) (n1-h+(n2-h)) C2] 22)) _):=concatT w4.heap.size ⟨g1,0,none⟩ ⟨g2,0,none⟩ (h+h) (n1-h+(n2-h)) C1 C2 zs1 zs2 (w4.alloc (.cells #[.slice (some ⟨g1,0,none⟩) (h+h) C1,.slice (some ⟨g2,0,none⟩) (n1-h+(n2-h)) C2] 22)) (by simp) (bx2 (blk1 w4 _)).1 (bx2 (blk1 w4 _)).2 (O1.out.gr (G5.out _)).row (O2.out.gr (G5.out _)).row (by omega) (by omega) (by omega)
 go_wp2_with (go_at_call 86;(with_reducible refine CC.out.mono ?_);rintro e w5 ⟨g,C,rfl,hg5,hC1,hC2,O5,G6⟩)
 have G6':Hid (Gr w4 w5):=(G5.out _).trans G6.out
 replace O1:=hide (O1.out.gr G6'.out)
 replace O2:=hide (O2.out.gr G6'.out)
 replace Ox:=hide (Ox.out.gr G6'.out)
 replace G4:Hid (Gr w w5):=G4.out.trans G6'.out
 have hge:w4.heap.size+1<=g:=by simpa using hg5
 clear G5 G6 G6' CC hg5
 obtain⟨N,hN⟩:∃N,h+h+(n1-h+(n2-h))=N:=⟨_,rfl⟩
 rw[hN] at O5 hC1
 rw[hN]
 have hNn:Hid (N=n1+n2):=by show _=_;omega
 have q1:h<=C:=by omega
 have q2:h<=N:=by omega
 have q3:¬C=h:=by omega
 have q4:(h:Int)<=(C:Int):=by omega
 have q5:(h:Int)<=(N:Int):=by omega
 have l1:zs1.length=h+h:=O1.out.len
 have P1:=hide (putT g N C h (N-h) (C-h) (some ⟨g1,0,none⟩) (h+h) C1 zs1 (zs1++zs2) w5 O1.out.row (ne_of_row (w:=w5) (C:=C1) (zs:=zs1) (by omega)) L1.out (app_lt L1.out L2.out) (by omega) (by omega) (by omega) (by omega) (by omega) O5.out)
 go_wp2_with (go_at_call 71;(with_reducible refine P1.out.mono ?_);rintro e w6 ⟨k1,ws1,rfl,hk1,M1,E1,O6,T6⟩)
 replace O2:=hide (O2.out.gt T6.out (by omega))
 replace Ox:=hide (Ox.out.gt T6.out (by omega))
 replace G4:Hid (Gr w w6):=Gt.gr G4.out T6.out (by omega)
 clear P1 O5 T6 O1
 by_cases hss:(sf==ss)=true
 ·skip
  have P2:=hide (putT g N C h (N-h) (C-h) (some ⟨g2,0,none⟩) (n1-h+(n2-h)) C2 zs2 ws1 w6 O2.out.row (ne_of_row (w:=w6) (C:=C2) (zs:=zs2) (by omega)) L2.out M1.out (by omega) (by omega) (by omega) (by omega) (by omega) O6.out)
  go_wp2_with (go_at_call 71;(with_reducible refine P2.out.mono ?_);rintro e w7 ⟨k2,ws2,rfl,hk2,M2,E2,O7,T7⟩)
  replace Ox:=hide (Ox.out.gt T7.out (by omega))
  replace G4:Hid (Gr w w7):=Gt.gr G4.out T7.out (by omega)
  clear P2 O6 T7 O2
  have E1':Hid (nv 18446744073709551616 ws1+18446744073709551616 ^ N*k1=(aL*bL+18446744073709551616 ^ h*18446744073709551616 ^ h*(aH*bH))+18446744073709551616 ^ h*(aL*bL)):=by
   show _=_
   rw[E1.out,nv_append,l1,V1.out,V2.out,Nat.pow_add]
  have E2':Hid (nv 18446744073709551616 ws2+18446744073709551616 ^ N*k2=nv 18446744073709551616 ws1+18446744073709551616 ^ h*(aH*bH)):=by
   show _=_
   rw[E2.out,V2.out]
  have BT:Hid ((aL+18446744073709551616 ^ h*aH)*(bL+18446744073709551616 ^ h*bH)<18446744073709551616 ^ N):=by
   show _<_
   rw[hNn.out,<-VX.out,<-VY.out]
   exact mul_lt_pow BX.out BY.out
  have DM:=hide (dif_mul VF.out VS.out)
  clear E1 E2 L1 L2 V1 V2 VF VS hg1 hg2 l1
  have P3:=hide (takeOffT g N C h (N-h) (C-h) (some ⟨gx,0,none⟩) (h+h) Cx zsx ws2 w7 Ox.out.row (ne_of_row (w:=w7) (C:=Cx) (zs:=zsx) (by omega)) LZ.out M2.out (by omega) (by omega) (by omega) (by omega) (by omega) O7.out)
  go_wp2_with (go_at_call 87;(with_reducible refine P3.out.mono ?_);rintro e w8 ⟨k3,ws3,rfl,hk3,M3,E3,O8,T8⟩)
  have G8:Hid (Gr w w8):=Gt.gr G4.out T8.out (by omega)
  have FIN:Hid (nv 18446744073709551616 ws3=nv 18446744073709551616 xs*nv 18446744073709551616 ys):=by
   show _=_
   have e3:=E3.out
   rw[VZ.out] at e3
   have dm:=DM.out
   rw[if_pos hss] at dm
   rw[VX.out,VY.out]
   have hlt:=nv_lt 18446744073709551616 ws3 M3.out
   rw[O8.out.len] at hlt
   exact three_off dm E1'.out E2'.out e3 hlt BT.out
  go_ret
  exact⟨g,C,ws3,(by rw[<-hNn.out];rfl),by omega,M3.out,FIN.out,by rw[<-hNn.out];exact O8.out,G8.out⟩
 ·have hsf:(sf==ss)=false:=by simpa using hss
  have P2:=hide (putT g N C h (N-h) (C-h) (some ⟨g2,0,none⟩) (n1-h+(n2-h)) C2 zs2 ws1 w6 O2.out.row (ne_of_row (w:=w6) (C:=C2) (zs:=zs2) (by omega)) L2.out M1.out (by omega) (by omega) (by omega) (by omega) (by omega) O6.out)
  go_wp2_with (go_at_call 71;(with_reducible refine P2.out.mono ?_);rintro e w7 ⟨k2,ws2,rfl,hk2,M2,E2,O7,T7⟩)
  replace Ox:=hide (Ox.out.gt T7.out (by omega))
  replace G4:Hid (Gr w w7):=Gt.gr G4.out T7.out (by omega)
  clear P2 O6 T7 O2
  have E1':Hid (nv 18446744073709551616 ws1+18446744073709551616 ^ N*k1=(aL*bL+18446744073709551616 ^ h*18446744073709551616 ^ h*(aH*bH))+18446744073709551616 ^ h*(aL*bL)):=by
   show _=_
   rw[E1.out,nv_append,l1,V1.out,V2.out,Nat.pow_add]
  have E2':Hid (nv 18446744073709551616 ws2+18446744073709551616 ^ N*k2=nv 18446744073709551616 ws1+18446744073709551616 ^ h*(aH*bH)):=by
   show _=_
   rw[E2.out,V2.out]
  have BT:Hid ((aL+18446744073709551616 ^ h*aH)*(bL+18446744073709551616 ^ h*bH)<18446744073709551616 ^ N):=by
   show _<_
   rw[hNn.out,<-VX.out,<-VY.out]
   exact mul_lt_pow BX.out BY.out
  have DM:=hide (dif_mul VF.out VS.out)
  clear E1 E2 L1 L2 V1 V2 VF VS hg1 hg2 l1
  have P3:=hide (putT g N C h (N-h) (C-h) (some ⟨gx,0,none⟩) (h+h) Cx zsx ws2 w7 Ox.out.row (ne_of_row (w:=w7) (C:=Cx) (zs:=zsx) (by omega)) LZ.out M2.out (by omega) (by omega) (by omega) (by omega) (by omega) O7.out)
  have HSS:=hide hss
  clear hss
  go_wp2_with (go_at_call 71;(with_reducible refine P3.out.mono ?_);rintro e w8 ⟨k3,ws3,rfl,hk3,M3,E3,O8,T8⟩)
  have G8:Hid (Gr w w8):=Gt.gr G4.out T8.out (by omega)
  have FIN:Hid (nv 18446744073709551616 ws3=nv 18446744073709551616 xs*nv 18446744073709551616 ys):=by
   show _=_
   have e3:=E3.out
   rw[VZ.out] at e3
   have dm:=DM.out
   rw[if_neg HSS.out] at dm
   rw[VX.out,VY.out]
   have hlt:=nv_lt 18446744073709551616 ws3 M3.out
   rw[O8.out.len] at hlt
   exact three_put dm E1'.out E2'.out e3 hlt BT.out
  go_ret
  exact⟨g,C,ws3,(by rw[<-hNn.out];rfl),by omega,M3.out,FIN.out,by rw[<-hNn.out];exact O8.out,G8.out⟩
def R1507 (t3 t4 t5 t6 t9 t10 t11 t12 t13 t14 t15 t16 t17 t18 t19 t20 t21 t22 t23 t24 t25 t26 t27 t28 t29 t30 t31 t32 t33 t34 t35 t36 t37 t38 t39 t40 t41 t42 t43 t44 t45 t46 t47 t48 t49 t50:Value) (pa oa pd pn n1 c1 n2 c2 h g N C A:Nat) (ad2:Option Addr) (zs:List Nat) (wq:World):Exit->Act->World->Prop
 | .normal,a,w=>∃u40 u41 u42 u43 u44 u45 u46 u47 u48 u49 k9 zs9,a = {tmps:=#[.slice (some ⟨pa,oa,none⟩) n1 c1,.slice ad2 n2 c2,.func (.func 50) #[] #[.pointer (some ⟨pd,0,none⟩),.pointer (some ⟨pn,0,none⟩)],t3,t4,t5,t6,.int .i64 (h:Int),.slice (some ⟨g,0,none⟩) N C,t9,t10,t11,t12,t13,t14,t15,t16,t17,t18,t19,t20,t21,t22,t23,t24,t25,t26,t27,t28,t29,t30,t31,t32,t33,t34,t35,t36,t37,t38,t39,u40,u41,u42,u43,u44,u45,u46,u47,u48,u49,t50],defers:=[]}/\(∀z∈zs9,z<18446744073709551616)/\nv 18446744073709551616 zs9+18446744073709551616 ^ N*k9=nv 18446744073709551616 zs+18446744073709551616 ^ h*A/\OU w g N C zs9/\Gt g wq w
 | _,_,_=>False
set_option maxRecDepth 100000 in
set_option maxHeartbeats 20000000 in
theorem reg1507 (t3 t4 t5 t6 t9 t10 t11 t12 t13 t14 t15 t16 t17 t18 t19 t20 t21 t22 t23 t24 t25 t26 t27 t28 t29 t30 t31 t32 t33 t34 t35 t36 t37 t38 t39 t40 t41 t42 t43 t44 t45 t46 t47 t48 t49 t50:Value) (pa oa pd pn n1 c1 n2 c2 h g N C A:Nat) (ad2:Option Addr) (zs:List Nat) (wq:World)
  (X1:Hid (Calls Try.prog 50 #[.slice (some ⟨pa,oa+h,none⟩) (n1-h) (c1-h),.slice ad2 n2 c2,.pointer (some ⟨pd,0,none⟩),.pointer (some ⟨pn,0,none⟩)] wq.drew fun e w'=>Pr wq.drew A (n1-h+n2) e w'))
  (hO:OU wq g N C zs) (hz:∀z∈zs,z<18446744073709551616) (i1:h<n1) (i3:n1<=c1) (i4:N=n1+n2) (i5:N<=4398046511104) (i6:h<C) (i7:C<=9223372036854775807) (i8:N<=C) :
  Code.wp Try.prog (Code.region 7 #[{dst:=some 40,op:=Op.move (Operand.tmp 8),type:=22,pos:= "size.go:49",after:=#[],guard:=none},{dst:=some 41,op:=Op.move (Operand.tmp 7),type:=3,pos:= "size.go:49",after:=#[],guard:=none},{dst:=some 42,op:=Op.slice 22 (Operand.tmp 40) (some (Operand.tmp 41)) none none,type:=22,pos:= "size.go:49",after:=#[{on:=0,ground:=Ground.data},{on:=1,ground:=Ground.data}],guard:=none},{dst:=some 43,op:=Op.move (Operand.tmp 2),type:=59,pos:= "size.go:49",after:=#[],guard:=none},{dst:=some 44,op:=Op.move (Operand.tmp 0),type:=22,pos:= "size.go:49",after:=#[],guard:=none},{dst:=some 45,op:=Op.move (Operand.tmp 7),type:=3,pos:= "size.go:49",after:=#[],guard:=none},{dst:=some 46,op:=Op.slice 22 (Operand.tmp 44) (some (Operand.tmp 45)) none none,type:=22,pos:= "size.go:49",after:=#[{on:=4,ground:=Ground.data},{on:=5,ground:=Ground.data}],guard:=none},{dst:=some 47,op:=Op.move (Operand.tmp 1),type:=22,pos:= "size.go:49",after:=#[],guard:=none},{dst:=some 48,op:=Op.call {callee:=Callee.value (Operand.tmp 43),args:=#[Operand.tmp 46,Operand.tmp 47],argTypes:=#[22,22]},type:=22,pos:= "size.go:49",after:=#[{on:=3,ground:=Ground.data},{on:=6,ground:=Ground.data},{on:=7,ground:=Ground.data}],guard:=none},{dst:=some 49,op:=Op.call {callee:=Callee.value (Operand.func 71),args:=#[Operand.tmp 42,Operand.tmp 48],argTypes:=#[22,22]},type:=0,pos:= "size.go:49",after:=#[{on:=2,ground:=Ground.data},{on:=8,ground:=Ground.data},{on:=8,ground:=Ground.chain}],guard:=none}] true) (R1507 t3 t4 t5 t6 t9 t10 t11 t12 t13 t14 t15 t16 t17 t18 t19 t20 t21 t22 t23 t24 t25 t26 t27 t28 t29 t30 t31 t32 t33 t34 t35 t36 t37 t38 t39 t40 t41 t42 t43 t44 t45 t46 t47 t48 t49 t50 pa oa pd pn n1 c1 n2 c2 h g N C A ad2 zs wq) {tmps:=#[.slice (some ⟨pa,oa,none⟩) n1 c1,.slice ad2 n2 c2,.func (.func 50) #[] #[.pointer (some ⟨pd,0,none⟩),.pointer (some ⟨pn,0,none⟩)],t3,t4,t5,t6,.int .i64 (h:Int),.slice (some ⟨g,0,none⟩) N C,t9,t10,t11,t12,t13,t14,t15,t16,t17,t18,t19,t20,t21,t22,t23,t24,t25,t26,t27,t28,t29,t30,t31,t32,t33,t34,t35,t36,t37,t38,t39,t40,t41,t42,t43,t44,t45,t46,t47,t48,t49,t50],defers:=[]} wq:=by
 have hS0:True/\Gt g wq wq.drew:=⟨trivial,(Gt.refl g wq).drew⟩
 have hO0:OU wq.drew g N C zs:=hO
 have I4:Hid (N=n1+n2):=i4
 have j1:h<=c1:=by omega
 have j3:h<=n1:=by omega
 have j5:¬c1=h:=by omega
 have j6:¬C=h:=by omega
 have j7:(h:Int)<=(c1:Int):=by omega
 have j8:h<=N:=by omega
 have j9:h<=C:=by omega
 have j10:(h:Int)<=(C:Int):=by omega
 have k1:h+(N-h)=N:=by omega
 have k2:n1-h+n2<=N-h:=by omega
 have k3:N-h<=C-h:=by omega
 have k4:C-h<=9223372036854775807:=by omega
 clear hO i4
 refine wp_region_held_drew (S:=fun w'=>True/\Gt g wq w') (by kernel_rfl) hS0 (fun hHeld=>?_)
 clear hS0
 generalize wq.drew=wd at *
 refine wpAnyH_take (i:=0) (oi:=({dst:=some 40,op:=Op.move (Operand.tmp 8),type:=22,pos:= "size.go:49",after:=#[],guard:=none}:Oper)) (v:=?_) rfl (by kernel_rfl) (by kernel_rfl) (by kernel_rfl) (fun _ _ _ h=>h) (Or.inl ⟨by rfl,?_⟩) (by with_reducible assumption) ?_
 rotate_left
 ·intro w hSw
  (try dsimp only at hSw)
  first|(go_simp;done)|(go_simp;with_reducible rfl)
 (try simp only[Act.put,List.setIfInBounds_toArray,List.set_cons_zero,List.set_cons_succ])
 refine wpAnyH_take (i:=1) (oi:=({dst:=some 41,op:=Op.move (Operand.tmp 7),type:=3,pos:= "size.go:49",after:=#[],guard:=none}:Oper)) (v:=?_) rfl (by kernel_rfl) (by kernel_rfl) (by kernel_rfl) (fun _ _ _ h=>h) (Or.inl ⟨by rfl,?_⟩) (by with_reducible assumption) ?_
 rotate_left
 ·intro w hSw
  (try dsimp only at hSw)
  first|(go_simp;done)|(go_simp;with_reducible rfl)
 (try simp only[Act.put,List.setIfInBounds_toArray,List.set_cons_zero,List.set_cons_succ])
 refine wpAnyH_take (i:=2) (oi:=({dst:=some 42,op:=Op.slice 22 (Operand.tmp 40) (some (Operand.tmp 41)) none none,type:=22,pos:= "size.go:49",after:=#[{on:=0,ground:=Ground.data},{on:=1,ground:=Ground.data}],guard:=none}:Oper)) (v:=?_) rfl (by kernel_rfl) (by kernel_rfl) (by kernel_rfl) (fun _ _ _ h=>h) (Or.inl ⟨by rfl,?_⟩) (by with_reducible assumption) ?_
 rotate_left
 ·intro w hSw
  (try dsimp only at hSw)
  first|(go_simp;done)|(go_simp;with_reducible rfl)
 (try simp only[Act.put,List.setIfInBounds_toArray,List.set_cons_zero,List.set_cons_succ])
 refine wpAnyH_take (i:=3) (oi:=({dst:=some 43,op:=Op.move (Operand.tmp 2),type:=59,pos:= "size.go:49",after:=#[],guard:=none}:Oper)) (v:=?_) rfl (by kernel_rfl) (by kernel_rfl) (by kernel_rfl) (fun _ _ _ h=>h) (Or.inl ⟨by rfl,?_⟩) (by with_reducible assumption) ?_
 rotate_left
 ·intro w hSw
  (try dsimp only at hSw)
  first|(go_simp;done)|(go_simp;with_reducible rfl)
 (try simp only[Act.put,List.setIfInBounds_toArray,List.set_cons_zero,List.set_cons_succ])
 refine wpAnyH_take (i:=4) (oi:=({dst:=some 44,op:=Op.move (Operand.tmp 0),type:=22,pos:= "size.go:49",after:=#[],guard:=none}:Oper)) (v:=?_) rfl (by kernel_rfl) (by kernel_rfl) (by kernel_rfl) (fun _ _ _ h=>h) (Or.inl ⟨by rfl,?_⟩) (by with_reducible assumption) ?_
 rotate_left
 ·intro w hSw
  (try dsimp only at hSw)
  first|(go_simp;done)|(go_simp;with_reducible rfl)
 (try simp only[Act.put,List.setIfInBounds_toArray,List.set_cons_zero,List.set_cons_succ])
 refine wpAnyH_take (i:=5) (oi:=({dst:=some 45,op:=Op.move (Operand.tmp 7),type:=3,pos:= "size.go:49",after:=#[],guard:=none}:Oper)) (v:=?_) rfl (by kernel_rfl) (by kernel_rfl) (by kernel_rfl) (fun _ _ _ h=>h) (Or.inl ⟨by rfl,?_⟩) (by with_reducible assumption) ?_
 rotate_left
 ·intro w hSw
  (try dsimp only at hSw)
  first|(go_simp;done)|(go_simp;with_reducible rfl)
 (try simp only[Act.put,List.setIfInBounds_toArray,List.set_cons_zero,List.set_cons_succ])
 refine wpAnyH_take (i:=6) (oi:=({dst:=some 46,op:=Op.slice 22 (Operand.tmp 44) (some (Operand.tmp 45)) none none,type:=22,pos:= "size.go:49",after:=#[{on:=4,ground:=Ground.data},{on:=5,ground:=Ground.data}],guard:=none}:Oper)) (v:=?_) rfl (by kernel_rfl) (by kernel_rfl) (by kernel_rfl) (fun _ _ _ h=>h) (Or.inl ⟨by rfl,?_⟩) (by with_reducible assumption) ?_
 rotate_left
 ·intro w hSw
  (try dsimp only at hSw)
  first|(go_simp;done)|(go_simp;with_reducible rfl)
 (try simp only[Act.put,List.setIfInBounds_toArray,List.set_cons_zero,List.set_cons_succ])
 refine wpAnyH_take (i:=7) (oi:=({dst:=some 47,op:=Op.move (Operand.tmp 1),type:=22,pos:= "size.go:49",after:=#[],guard:=none}:Oper)) (v:=?_) rfl (by kernel_rfl) (by kernel_rfl) (by kernel_rfl) (fun _ _ _ h=>h) (Or.inl ⟨by rfl,?_⟩) (by with_reducible assumption) ?_
 rotate_left
 ·intro w hSw
  (try dsimp only at hSw)
  first|(go_simp;done)|(go_simp;with_reducible rfl)
 (try simp only[Act.put,List.setIfInBounds_toArray,List.set_cons_zero,List.set_cons_succ])
 refine wpAnyH_ready (rs:=[8]) (by kernel_rfl) (by simp) ?_
 refine AllReadyH.cons (o:=({dst:=some 48,op:=Op.call {callee:=Callee.value (Operand.tmp 43),args:=#[Operand.tmp 46,Operand.tmp 47],argTypes:=#[22,22]},type:=22,pos:= "size.go:49",after:=#[{on:=3,ground:=Ground.data},{on:=6,ground:=Ground.data},{on:=7,ground:=Ground.data}],guard:=none}:Oper)) rfl (fun K hK=>?_) AllReadyH.nil
 go_simp
 with_reducible refine X1.out.mono ?_
 rintro r wc1 ⟨g1,C1,zs1,rfl,hge1,hl1,hv1,hO1,gg3⟩
 refine hK.out _ _ ⟨trivial,hHeld.2.trans (Gt.of_gr gg3)⟩ (fun hH2=>?_)
 have hOg:=hO0.gr gg3
 have hlt:=ou_lt hO0
 clear hK K hO0
 (try simp only[Act.put,List.setIfInBounds_toArray,List.set_cons_zero,List.set_cons_succ])
 refine wpAnyH_ready (rs:=[9]) (by kernel_rfl) (by simp) ?_
 refine AllReadyH.cons (o:=({dst:=some 49,op:=Op.call {callee:=Callee.value (Operand.func 71),args:=#[Operand.tmp 42,Operand.tmp 48],argTypes:=#[22,22]},type:=0,pos:= "size.go:49",after:=#[{on:=2,ground:=Ground.data},{on:=8,ground:=Ground.data},{on:=8,ground:=Ground.chain}],guard:=none}:Oper)) rfl (fun K hK=>?_) AllReadyH.nil
 go_simp
 with_reducible refine(putT g N C h (N-h) (C-h) (some ⟨g1,0,none⟩) (n1-h+n2) C1 zs1 zs wc1 hO1.row (ne_of_row (w:=wc1) (C:=C1) (zs:=zs1) (by omega)) hl1 hz (by omega) (by omega) (by omega) (by omega) (by omega) hOg).mono ?_
 rintro r wc4 ⟨k9,zs9,rfl,hk9,M9,E9,O9,T9⟩
 refine hK.out _ _ ⟨trivial,hH2.2.trans T9.out⟩ (fun hH5=>?_)
 clear hK K
 (try simp only[Act.put,List.setIfInBounds_toArray,List.set_cons_zero,List.set_cons_succ])
 refine wpAnyH_done (by kernel_rfl) ?_ _
 exact⟨_,_,_,_,_,_,_,_,_,_,k9,zs9,rfl,M9.out,(by rw[<-hv1];exact E9.out),O9.out,hH5.2⟩
end Go.Proofs.Ytmdakhpdofepeaa
