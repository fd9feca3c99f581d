import Derived.Test.YtanpdbadfddlcaaGreatDoorP28
import Derived.Deep.RegionHeld3
import Derived.WalkMore
namespace Go.Proofs.YtanpdbadfddlcaaGreatDoor
open Go.RowKit
set_option linter.unusedVariables false
set_option linter.unusedSimpArgs false
def Bv (w:World) (v:Value) (L1 H1 L2 H2:Int):Prop:=∃s3 a3 n3 c3 e3 s4 a4 n4 c4 e4 s5 a5 n5 c5 e5 s6 a6 n6 c6 e6,v = .agg #[.bool s3,.slice a3 n3 c3,.int .i64 e3,.bool s4,.slice a4 n4 c4,.int .i64 e4,.bool s5,.slice a5 n5 c5,.int .i64 e5,.bool s6,.slice a6 n6 c6,.int .i64 e6]/\DyV w s3 a3 n3 c3 e3 L1/\DyV w s4 a4 n4 c4 e4 H1/\DyV w s5 a5 n5 c5 e5 L2/\DyV w s6 a6 n6 c6 e6 H2
theorem Bv.gr {w w':World} {v:Value} {L1 H1 L2 H2:Int} (h:Bv w v L1 H1 L2 H2) (g:Gr w w'):Bv w' v L1 H1 L2 H2:=by
 obtain⟨s3,a3,n3,c3,e3,s4,a4,n4,c4,e4,s5,a5,n5,c5,e5,s6,a6,n6,c6,e6,h0,h1,h2,h3,h4⟩:=h
 exact⟨s3,a3,n3,c3,e3,s4,a4,n4,c4,e4,s5,a5,n5,c5,e5,s6,a6,n6,c6,e6,h0,h1.gr g,h2.gr g,h3.gr g,h4.gr g⟩
def R125 (t1 t3 t4 t5 t7 t8 t11 t12 t13 t14 t15 t16 t17 t18 t19 t20 t21 t22 t23 t24 t25 t26 t27 t28 t29 t30 t31 t32 t33 t34 t35 t36 t37 t38 t39 t40 t41 t42 t43 t44 t45 t46 t47 t48 t49 t50 t51 t52 t53 t54 t55 t56 t57 t58 t59 t60 t61:Value) (B bR bM bG P:Nat) (s1:Bool) (a1:Option Addr) (n1 c1:Nat) (e1:Int) (s2:Bool) (a2:Option Addr) (n2 c2:Nat) (e2:Int) (V1 V2 V3 V4:Int) (wq:World):Exit->Act->World->Prop
 | .normal,a,w=>∃u53 u54 u55 u56 u57 u58 u59 u60 u61 s3 a3 n3 c3 e3 s4 a4 n4 c4 e4 s5 a5 n5 c5 e5 s6 a6 n6 c6 e6,a = {tmps:=#[.pointer (some ⟨B,0,none⟩),t1,.int .i64 (P:Int),t3,t4,t5,.pointer (some ⟨bG,0,none⟩),t7,t8,.pointer (some ⟨bR,0,none⟩),.pointer (some ⟨bM,0,none⟩),t11,t12,t13,t14,t15,t16,t17,t18,t19,t20,t21,t22,t23,t24,t25,t26,t27,t28,t29,t30,t31,t32,t33,t34,t35,t36,t37,t38,t39,t40,t41,t42,t43,t44,t45,t46,t47,t48,t49,t50,t51,t52,u53,u54,u55,u56,u57,u58,u59,u60,u61],defers:=[]}/\w.heap[bG]? = some (.cells #[.bool s3,.slice a3 n3 c3,.int .i64 e3,.bool s4,.slice a4 n4 c4,.int .i64 e4,.bool s5,.slice a5 n5 c5,.int .i64 e5,.bool s6,.slice a6 n6 c6,.int .i64 e6] 134)/\DyV w s3 a3 n3 c3 e3 V1/\DyV w s4 a4 n4 c4 e4 V2/\DyV w s5 a5 n5 c5 e5 V3/\DyV w s6 a6 n6 c6 e6 V4/\Gx bG wq w
 | _,_,_=>False
set_option maxRecDepth 100000 in
set_option maxHeartbeats 40000000 in
theorem reg125 (t1 t3 t4 t5 t7 t8 t11 t12 t13 t14 t15 t16 t17 t18 t19 t20 t21 t22 t23 t24 t25 t26 t27 t28 t29 t30 t31 t32 t33 t34 t35 t36 t37 t38 t39 t40 t41 t42 t43 t44 t45 t46 t47 t48 t49 t50 t51 t52 t53 t54 t55 t56 t57 t58 t59 t60 t61:Value) (B bR bM bG P:Nat) (s1:Bool) (a1:Option Addr) (n1 c1:Nat) (e1:Int) (s2:Bool) (a2:Option Addr) (n2 c2:Nat) (e2:Int) (V1 V2 V3 V4:Int) (wq:World)
  (A1:Hid (∀w1,Gr wq w1->Calls Tryz.prog 151 #[.pointer (some ⟨B,0,none⟩),.agg #[.bool s1,.slice a1 n1 c1,.int .i64 e1],.int .i64 (P:Int)] w1 fun r w'=>(∃v,r = .returned v/\Gv w' v V1 V2)/\Gr w1 w'))
  (A2:Hid (∀w1,Gr wq w1->Calls Tryz.prog 151 #[.pointer (some ⟨B,0,none⟩),.agg #[.bool s2,.slice a2 n2 c2,.int .i64 e2],.int .i64 (P:Int)] w1 fun r w'=>(∃v,r = .returned v/\Gv w' v V3 V4)/\Gr w1 w'))
  (hne_bR:bR≠bG) (hne_bM:bM≠bG) (hbG:wq.heap[bG]? = some (.cells #[.bool false,.slice none 0 0,.int .i64 0,.bool false,.slice none 0 0,.int .i64 0,.bool false,.slice none 0 0,.int .i64 0,.bool false,.slice none 0 0,.int .i64 0] 134)) (hcs:(wq.cell? ⟨bR,0,none⟩=some (.bool s1)/\wq.cell? ⟨bR,1,none⟩=some (.slice a1 n1 c1)/\wq.cell? ⟨bR,2,none⟩=some (.int .i64 e1)/\wq.cell? ⟨bM,0,none⟩=some (.bool s2)/\wq.cell? ⟨bM,1,none⟩=some (.slice a2 n2 c2)/\wq.cell? ⟨bM,2,none⟩=some (.int .i64 e2))) :
  Code.wp Tryz.prog (Code.region 7 #[{dst:=some 53,op:=Op.move (Operand.tmp 0),type:=138,pos:= "reckoner.go:47",after:=#[],guard:=none},{dst:=some 54,op:=Op.load 130 (Operand.tmp 9),type:=130,pos:= "reckoner.go:47",after:=#[],guard:=none},{dst:=some 55,op:=Op.move (Operand.tmp 2),type:=3,pos:= "reckoner.go:47",after:=#[],guard:=none},{dst:=some 56,op:=Op.call {callee:=Callee.value (Operand.func 151),args:=#[Operand.tmp 53,Operand.tmp 54,Operand.tmp 55],argTypes:=#[138,130,3]},type:=132,pos:= "reckoner.go:47",after:=#[{on:=0,ground:=Ground.data},{on:=1,ground:=Ground.data},{on:=2,ground:=Ground.data}],guard:=none},{dst:=some 57,op:=Op.move (Operand.tmp 0),type:=138,pos:= "reckoner.go:47",after:=#[],guard:=none},{dst:=some 58,op:=Op.load 130 (Operand.tmp 10),type:=130,pos:= "reckoner.go:47",after:=#[],guard:=none},{dst:=some 59,op:=Op.move (Operand.tmp 2),type:=3,pos:= "reckoner.go:47",after:=#[],guard:=none},{dst:=some 60,op:=Op.call {callee:=Callee.value (Operand.func 151),args:=#[Operand.tmp 57,Operand.tmp 58,Operand.tmp 59],argTypes:=#[138,130,3]},type:=132,pos:= "reckoner.go:47",after:=#[{on:=4,ground:=Ground.data},{on:=5,ground:=Ground.data},{on:=6,ground:=Ground.data},{on:=3,ground:=Ground.chain}],guard:=none},{dst:=some 61,op:=Op.build 134 #[(0,Operand.tmp 56),(1,Operand.tmp 60)],type:=134,pos:= "reckoner.go:47",after:=#[{on:=3,ground:=Ground.data},{on:=7,ground:=Ground.data}],guard:=none},{dst:=none,op:=Op.store 134 (Operand.tmp 6) (Operand.tmp 61),type:=0,pos:= "reckoner.go:47",after:=#[{on:=8,ground:=Ground.data},{on:=7,ground:=Ground.chain},{on:=0,ground:=Ground.phase},{on:=1,ground:=Ground.phase},{on:=2,ground:=Ground.phase},{on:=3,ground:=Ground.phase},{on:=4,ground:=Ground.phase},{on:=5,ground:=Ground.phase},{on:=6,ground:=Ground.phase},{on:=7,ground:=Ground.phase},{on:=8,ground:=Ground.phase}],guard:=none}] true) (R125 t1 t3 t4 t5 t7 t8 t11 t12 t13 t14 t15 t16 t17 t18 t19 t20 t21 t22 t23 t24 t25 t26 t27 t28 t29 t30 t31 t32 t33 t34 t35 t36 t37 t38 t39 t40 t41 t42 t43 t44 t45 t46 t47 t48 t49 t50 t51 t52 t53 t54 t55 t56 t57 t58 t59 t60 t61 B bR bM bG P s1 a1 n1 c1 e1 s2 a2 n2 c2 e2 V1 V2 V3 V4 wq) {tmps:=#[.pointer (some ⟨B,0,none⟩),t1,.int .i64 (P:Int),t3,t4,t5,.pointer (some ⟨bG,0,none⟩),t7,t8,.pointer (some ⟨bR,0,none⟩),.pointer (some ⟨bM,0,none⟩),t11,t12,t13,t14,t15,t16,t17,t18,t19,t20,t21,t22,t23,t24,t25,t26,t27,t28,t29,t30,t31,t32,t33,t34,t35,t36,t37,t38,t39,t40,t41,t42,t43,t44,t45,t46,t47,t48,t49,t50,t51,t52,t53,t54,t55,t56,t57,t58,t59,t60,t61],defers:=[]} wq:=by
 have hS0:(wq.drew.cell? ⟨bR,0,none⟩=some (.bool s1)/\wq.drew.cell? ⟨bR,1,none⟩=some (.slice a1 n1 c1)/\wq.drew.cell? ⟨bR,2,none⟩=some (.int .i64 e1)/\wq.drew.cell? ⟨bM,0,none⟩=some (.bool s2)/\wq.drew.cell? ⟨bM,1,none⟩=some (.slice a2 n2 c2)/\wq.drew.cell? ⟨bM,2,none⟩=some (.int .i64 e2))/\Gx bG wq wq.drew:=⟨hcs,Gx.of_gr (Gr.refl wq).drew⟩
 have hbG0:wq.drew.heap[bG]? = some (.cells #[.bool false,.slice none 0 0,.int .i64 0,.bool false,.slice none 0 0,.int .i64 0,.bool false,.slice none 0 0,.int .i64 0,.bool false,.slice none 0 0,.int .i64 0] 134):=hbG
 have hg0:Gr wq wq.drew:=(Gr.refl wq).drew
 clear hcs
 refine wp_region_held_drew (S:=fun w'=>(w'.cell? ⟨bR,0,none⟩=some (.bool s1)/\w'.cell? ⟨bR,1,none⟩=some (.slice a1 n1 c1)/\w'.cell? ⟨bR,2,none⟩=some (.int .i64 e1)/\w'.cell? ⟨bM,0,none⟩=some (.bool s2)/\w'.cell? ⟨bM,1,none⟩=some (.slice a2 n2 c2)/\w'.cell? ⟨bM,2,none⟩=some (.int .i64 e2))/\Gx bG wq w') (by kernel_rfl) hS0 (fun hHeld=>?_)
 clear hS0
 generalize wq.drew=wd at *
 refine wpAnyH_take (i:=0) (oi:=_) (v:=?_) rfl (by kernel_rfl) (by kernel_rfl) (by kernel_rfl) (fun _ _ _ h=>h) (Or.inl ⟨by rfl,?_⟩) (by with_reducible assumption) ?_
 rotate_left
 ·intro w hSw
  (try dsimp only at hSw)
  first|(go_simp;done)|(go_simp;with_reducible rfl)
 (try simp only[Act.put,List.setIfInBounds_toArray,List.set_cons_zero,List.set_cons_succ])
 refine wpAnyH_take (i:=1) (oi:=_) (v:=?_) rfl (by kernel_rfl) (by kernel_rfl) (by kernel_rfl) (fun _ _ _ h=>h) (Or.inl ⟨by rfl,?_⟩) (by with_reducible assumption) ?_
 rotate_left
 ·intro w hSw
  (try dsimp only at hSw)
  first|(go_simp;done)|(go_simp;with_reducible rfl)
 (try simp only[Act.put,List.setIfInBounds_toArray,List.set_cons_zero,List.set_cons_succ])
 refine wpAnyH_take (i:=2) (oi:=_) (v:=?_) rfl (by kernel_rfl) (by kernel_rfl) (by kernel_rfl) (fun _ _ _ h=>h) (Or.inl ⟨by rfl,?_⟩) (by with_reducible assumption) ?_
 rotate_left
 ·intro w hSw
  (try dsimp only at hSw)
  first|(go_simp;done)|(go_simp;with_reducible rfl)
 (try simp only[Act.put,List.setIfInBounds_toArray,List.set_cons_zero,List.set_cons_succ])
 refine wpAnyH_take (i:=4) (oi:=_) (v:=?_) rfl (by kernel_rfl) (by kernel_rfl) (by kernel_rfl) (fun _ _ _ h=>h) (Or.inl ⟨by rfl,?_⟩) (by with_reducible assumption) ?_
 rotate_left
 ·intro w hSw
  (try dsimp only at hSw)
  first|(go_simp;done)|(go_simp;with_reducible rfl)
 (try simp only[Act.put,List.setIfInBounds_toArray,List.set_cons_zero,List.set_cons_succ])
 refine wpAnyH_take (i:=5) (oi:=_) (v:=?_) rfl (by kernel_rfl) (by kernel_rfl) (by kernel_rfl) (fun _ _ _ h=>h) (Or.inl ⟨by rfl,?_⟩) (by with_reducible assumption) ?_
 rotate_left
 ·intro w hSw
  (try dsimp only at hSw)
  first|(go_simp;done)|(go_simp;with_reducible rfl)
 (try simp only[Act.put,List.setIfInBounds_toArray,List.set_cons_zero,List.set_cons_succ])
 refine wpAnyH_take (i:=6) (oi:=_) (v:=?_) rfl (by kernel_rfl) (by kernel_rfl) (by kernel_rfl) (fun _ _ _ h=>h) (Or.inl ⟨by rfl,?_⟩) (by with_reducible assumption) ?_
 rotate_left
 ·intro w hSw
  (try dsimp only at hSw)
  first|(go_simp;done)|(go_simp;with_reducible rfl)
 (try simp only[Act.put,List.setIfInBounds_toArray,List.set_cons_zero,List.set_cons_succ])
 refine wpAnyH_ready (rs:=[3]) (by kernel_rfl) (by simp) ?_
 refine AllReadyH.cons (o:=_) rfl (fun K hK=>?_) AllReadyH.nil
 go_simp
 refine(A1.out _ hg0).mono ?_
 rintro r wc1 ⟨⟨_,rfl,s3,a3,n3,c3,e3,s4,a4,n4,c4,e4,rfl,d3_4,d4_5⟩,gg3⟩
 refine hK.out _ _ ⟨⟨gg3.keep hHeld.1.1,gg3.keep hHeld.1.2.1,gg3.keep hHeld.1.2.2.1,gg3.keep hHeld.1.2.2.2.1,gg3.keep hHeld.1.2.2.2.2.1,gg3.keep hHeld.1.2.2.2.2.2⟩,hHeld.2.trans (Gx.of_gr gg3)⟩ (fun hH2=>?_)
 clear hK K
 (try simp only[Act.put,List.setIfInBounds_toArray,List.set_cons_zero,List.set_cons_succ])
 have bG_6:=gg3.keepH hbG0
 clear hbG0
 have gq7:=hg0.trans gg3
 clear hg0
 refine wpAnyH_ready (rs:=[7]) (by kernel_rfl) (by simp) ?_
 refine AllReadyH.cons (o:=_) rfl (fun K hK=>?_) AllReadyH.nil
 go_simp
 refine(A2.out _ gq7).mono ?_
 rintro r wc8 ⟨⟨_,rfl,s5,a5,n5,c5,e5,s6,a6,n6,c6,e6,rfl,d5_11,d6_12⟩,gg10⟩
 refine hK.out _ _ ⟨⟨gg10.keep hH2.1.1,gg10.keep hH2.1.2.1,gg10.keep hH2.1.2.2.1,gg10.keep hH2.1.2.2.2.1,gg10.keep hH2.1.2.2.2.2.1,gg10.keep hH2.1.2.2.2.2.2⟩,hH2.2.trans (Gx.of_gr gg10)⟩ (fun hH9=>?_)
 clear hK K
 (try simp only[Act.put,List.setIfInBounds_toArray,List.set_cons_zero,List.set_cons_succ])
 have bG_13:=gg10.keepH bG_6
 clear bG_6
 have d3_14:=d3_4.gr gg10
 clear d3_4
 have d4_15:=d4_5.gr gg10
 clear d4_5
 have gq16:=gq7.trans gg10
 clear gq7
 refine wpAnyH_take (i:=8) (oi:=_) (v:=?_) rfl (by kernel_rfl) (by kernel_rfl) (by kernel_rfl) (fun _ _ _ h=>h) (Or.inl ⟨by rfl,?_⟩) (by with_reducible assumption) ?_
 rotate_left
 ·intro w hSw
  (try dsimp only at hSw)
  first|(go_simp;done)|(go_simp;with_reducible rfl)
 (try simp only[Act.put,List.setIfInBounds_toArray,List.set_cons_zero,List.set_cons_succ])
 refine wpAnyH_ready (rs:=[9]) (by kernel_rfl) (by simp) ?_
 refine AllReadyH.cons (o:=_) rfl (fun K hK=>?_) AllReadyH.nil
 obtain⟨x0',x1',x2',x3',x4',x5',x6',x7',x8',x9',x10',x11',y0',y1',y2',y3',y4',y5',y6',y7',y8',y9',y10',y11'⟩:=out12 bG_13
 go_simp
 refine hK.out _ _ ⟨⟨(gx12 _ _ _ _ _ _ _ _ _ _ _ _ _ _).keepc hne_bR hH9.1.1,(gx12 _ _ _ _ _ _ _ _ _ _ _ _ _ _).keepc hne_bR hH9.1.2.1,(gx12 _ _ _ _ _ _ _ _ _ _ _ _ _ _).keepc hne_bR hH9.1.2.2.1,(gx12 _ _ _ _ _ _ _ _ _ _ _ _ _ _).keepc hne_bM hH9.1.2.2.2.1,(gx12 _ _ _ _ _ _ _ _ _ _ _ _ _ _).keepc hne_bM hH9.1.2.2.2.2.1,(gx12 _ _ _ _ _ _ _ _ _ _ _ _ _ _).keepc hne_bM hH9.1.2.2.2.2.2⟩,hH9.2.trans (gx12 _ _ _ _ _ _ _ _ _ _ _ _ _ _)⟩ (fun hS17=>?_)
 clear hK K x0' x1' x2' x3' x4' x5' x6' x7' x8' x9' x10' x11' y0' y1' y2' y3' y4' y5' y6' y7' y8' y9' y10' y11'
 (try simp only[Act.put,List.setIfInBounds_toArray,List.set_cons_zero,List.set_cons_succ])
 refine wpAnyH_done (by kernel_rfl) ?_ _
 exact⟨_,_,_,_,_,_,_,_,_,_,_,_,_,_,_,_,_,_,_,_,_,_,_,_,_,_,_,_,_,rfl,putB12 bG_13 _ _ _ _ _ _ _ _ _ _ _ _,d3_14.gx (NoR.of bG_13 rfl) (gx12 _ _ _ _ _ _ _ _ _ _ _ _ _ _),d4_15.gx (NoR.of bG_13 rfl) (gx12 _ _ _ _ _ _ _ _ _ _ _ _ _ _),d5_11.gx (NoR.of bG_13 rfl) (gx12 _ _ _ _ _ _ _ _ _ _ _ _ _ _),d6_12.gx (NoR.of bG_13 rfl) (gx12 _ _ _ _ _ _ _ _ _ _ _ _ _ _),hS17.2⟩
set_option maxRecDepth 10000 in
set_option maxHeartbeats 4000000 in
theorem boxQ (B:Nat) (p q bits:Int) (w:World) (h0:0<=p) (h1:p<16384) (hm:p % 4096=0) (hd:p / 4096=q) (hT:TabAt 2 Lib.deBruijn64tab w) :
  Calls Tryz.prog 143 #[.pointer (some ⟨B,0,none⟩),.int .i64 p,.int .i64 bits] w fun r w'=>(∃v,r = .returned v/\Bv w' v (cq q*Un 0) (cq q*Un 0) (cq (q-1)*Un 0) (cq (q-1)*Un 0))/\Gr w w':=by
 have A:Hid (∀w1 x,Gr w w1->Calls Tryz.prog 146 #[.int .i64 x] w1 fun r w'=>Dv w' r (cq x*Un 0)/\Gr w1 w'):=fun w1 x g=>atQuarter x w1 (tab_gr hT g)
 have kb0:Hid _:=new_at w (.cells #[.bool false,.slice none 0 0,.int .i64 0,.bool false,.slice none 0 0,.int .i64 0,.bool false,.slice none 0 0,.int .i64 0,.bool false,.slice none 0 0,.int .i64 0] 134)
 have g0:Hid _:=(Gr.refl w).alloc (.cells #[.bool false,.slice none 0 0,.int .i64 0,.bool false,.slice none 0 0,.int .i64 0,.bool false,.slice none 0 0,.int .i64 0,.bool false,.slice none 0 0,.int .i64 0] 134)
 have hq:0<=q/\q<=4:=by omega
 clear hT
 go_enter Tryz.func143,Tryz.ntmps143
 go_wp2_with (first
  | (go_at_call 146;(with_reducible refine(A.out _ _ g0.out).mono ?_);rintro r w1 ⟨⟨s1,a1,n1,c1,e1,rfl,d1⟩,g1⟩)
  | (go_at_call 146;(with_reducible refine(A.out _ _ (g0.out.trans g1)).mono ?_);rintro r w2 ⟨⟨s2,a2,n2,c2,e2,rfl,d2⟩,g2⟩)
  | (go_at_call 146;(with_reducible refine(A.out _ _ ((g0.out.trans g1).trans g2)).mono ?_);rintro r w3 ⟨⟨s3,a3,n3,c3,e3,rfl,d3⟩,g3⟩)
  | (go_at_call 146;(with_reducible refine(A.out _ _ (((g0.out.trans g1).trans g2).trans g3)).mono ?_);rintro r w4 ⟨⟨s4,a4,n4,c4,e4,rfl,d4⟩,g4⟩;have kb4:=g4.keepH (g3.keepH (g2.keepH (g1.keepH kb0.out)));obtain⟨x0,x1,x2,x3,x4,x5,x6,x7,x8,x9,x10,x11,y0,y1,y2,y3,y4,y5,y6,y7,y8,y9,y10,y11⟩:=out12 kb4))
 have nr:=NoR.of kb4 rfl
 refine bodyPost_ret (v:=.agg #[.bool s1,.slice a1 n1 c1,.int .i64 e1,.bool s2,.slice a2 n2 c2,.int .i64 e2,.bool s3,.slice a3 n3 c3,.int .i64 e3,.bool s4,.slice a4 n4 c4,.int .i64 e4]) ?_ rfl ⟨⟨_,rfl,_,_,_,_,_,_,_,_,_,_,_,_,_,_,_,_,_,_,_,_,rfl,((d1.gr g2).gr (g3.trans g4)).gx nr (gx12 _ _ _ _ _ _ _ _ _ _ _ _ _ _),((d2.gr g3).gr g4).gx nr (gx12 _ _ _ _ _ _ _ _ _ _ _ _ _ _),(d3.gr g4).gx nr (gx12 _ _ _ _ _ _ _ _ _ _ _ _ _ _),d4.gx nr (gx12 _ _ _ _ _ _ _ _ _ _ _ _ _ _)⟩,(gx12 _ _ _ _ _ _ _ _ _ _ _ _ _ _).gr (Nat.le_refl _) ((g0.out.trans g1).trans ((g2.trans g3).trans g4))⟩
 simp[results,Tryz.results143,go_sem,x0,x1,x2,x3,x4,x5,x6,x7,x8,x9,x10,x11]
theorem out3 {w:World} {B:Nat} {v0 v1 v2:Value} {T:TypeId} (h:w.heap[B]? = some (.cells #[v0,v1,v2] T)):w.cell? ⟨B,0,none⟩=some v0/\w.cell? ⟨B,1,none⟩=some v1/\w.cell? ⟨B,2,none⟩=some v2:=⟨by simp[World.cell?,h],by simp[World.cell?,h],by simp[World.cell?,h]⟩
set_option maxRecDepth 10000 in
set_option maxHeartbeats 4000000 in
theorem boxW (B P:Nat) (p q VC VM V1 V2 VR VI L1 H1 L2 H2:Int) (b1 b2:Bool) (w:World) (h0:0<=p) (h1:p<16384) (hm:¬p % 4096=0) (hd:p / 4096=q)
  (C:Hid (∀w1,Gr w w1->Calls Tryz.prog 147 #[.pointer (some ⟨B,0,none⟩),.int .i64 (2*p),.int .i64 (P:Int)] w1 fun r w'=>Dv w' r VC/\Gr w1 w'))
  (HA:Hid (∀w1 s ad n cap e,Gr w w1->DyV w1 s ad n cap e VC->Calls Tryz.prog 149 #[.pointer (some ⟨B,0,none⟩),.agg #[.bool s,.slice ad n cap,.int .i64 e],.int .i64 (P:Int)] w1 fun r w'=>Dv w' r V1/\Gr w1 w'))
  (HB:Hid (∀w1 s ad n cap e,Gr w w1->DyV w1 s ad n cap e VM->Calls Tryz.prog 149 #[.pointer (some ⟨B,0,none⟩),.agg #[.bool s,.slice ad n cap,.int .i64 e],.int .i64 (P:Int)] w1 fun r w'=>Dv w' r V2/\Gr w1 w'))
  (LA:Hid (∀w1,Calls Tryz.prog 150 #[.int .i64 q] w1 fun r w'=>r = .returned (.bool b1)/\w'=w1))
  (LB:Hid (∀w1,Calls Tryz.prog 150 #[.int .i64 (q-1)] w1 fun r w'=>r = .returned (.bool b2)/\w'=w1))
  (SA:Hid (∀w1 s ad n cap e,Gr w w1->DyV w1 s ad n cap e V1->Calls Tryz.prog 148 #[.pointer (some ⟨B,0,none⟩),.agg #[.bool s,.slice ad n cap,.int .i64 e],.bool b1] w1 fun r w'=>Dv w' r VR/\Gr w1 w'))
  (SB:Hid (∀w1 s ad n cap e,Gr w w1->DyV w1 s ad n cap e V2->Calls Tryz.prog 148 #[.pointer (some ⟨B,0,none⟩),.agg #[.bool s,.slice ad n cap,.int .i64 e],.bool b2] w1 fun r w'=>Dv w' r VI/\Gr w1 w'))
  (SN:Hid (∀w1 s ad n cap e,Gr w w1->DyV w1 s ad n cap e VC->Calls Tryz.prog 148 #[.pointer (some ⟨B,0,none⟩),.agg #[.bool s,.slice ad n cap,.int .i64 e],.bool true] w1 fun r w'=>Dv w' r VM/\Gr w1 w'))
  (AA:Hid (∀w1 s ad n cap e,Gr w w1->DyV w1 s ad n cap e VR->Calls Tryz.prog 151 #[.pointer (some ⟨B,0,none⟩),.agg #[.bool s,.slice ad n cap,.int .i64 e],.int .i64 (P:Int)] w1 fun r w'=>(∃v,r = .returned v/\Gv w' v L1 H1)/\Gr w1 w'))
  (AB:Hid (∀w1 s ad n cap e,Gr w w1->DyV w1 s ad n cap e VI->Calls Tryz.prog 151 #[.pointer (some ⟨B,0,none⟩),.agg #[.bool s,.slice ad n cap,.int .i64 e],.int .i64 (P:Int)] w1 fun r w'=>(∃v,r = .returned v/\Gv w' v L2 H2)/\Gr w1 w')) :
  Calls Tryz.prog 143 #[.pointer (some ⟨B,0,none⟩),.int .i64 p,.int .i64 (P:Int)] w fun r w'=>(∃v,r = .returned v/\Bv w' v L1 H1 L2 H2)/\Gr w w':=by
 have kb0:Hid _:=new_at w (.cells #[.bool false,.slice none 0 0,.int .i64 0,.bool false,.slice none 0 0,.int .i64 0,.bool false,.slice none 0 0,.int .i64 0,.bool false,.slice none 0 0,.int .i64 0] 134)
 have g0:Hid _:=(Gr.refl w).alloc (.cells #[.bool false,.slice none 0 0,.int .i64 0,.bool false,.slice none 0 0,.int .i64 0,.bool false,.slice none 0 0,.int .i64 0,.bool false,.slice none 0 0,.int .i64 0] 134)
 have hq:0<=q/\q<=4:=by omega
 go_enter Tryz.func143,Tryz.ntmps143
 go_wp2_with (first
  | (go_at_call 147;(with_reducible refine(C.out _ g0.out).mono ?_);rintro r w1 ⟨⟨s1,a1,n1,c1,e1,rfl,d1⟩,g1⟩;have G1:=g0.out.trans g1)
  | (go_at_call 149;(with_reducible refine(HA.out _ _ _ _ _ _ (G1.alloc _) (d1.gr ((Gr.refl _).alloc _))).mono ?_);rintro r w2 ⟨⟨s2,a2,n2,c2,e2,rfl,d2⟩,g2⟩;have G2:=(G1.alloc _).trans g2;have m2:=g2.keepH (new_at w1 (.cells #[.bool s1,.slice a1 n1 c1,.int .i64 e1] 130)))
  | (go_at_call 150;(with_reducible refine(LA.out _).mono ?_);rintro r _ ⟨rfl,rfl⟩)
  | (go_at_call 148;(with_reducible refine(SA.out _ _ _ _ _ _ G2 d2).mono ?_);rintro r w3 ⟨⟨s3,a3,n3,c3,e3,rfl,d3⟩,g3⟩;have G3:=G2.trans g3;have m3:=((Gr.refl w3).alloc (.cells #[.bool s3,.slice a3 n3 c3,.int .i64 e3] 130)).keepH (g3.keepH m2);obtain⟨f0,f1,f2⟩:=out3 m3)
  | (go_at_call 148;(with_reducible refine(SN.out _ _ _ _ _ _ (G3.alloc _) ((((d1.gr ((Gr.refl _).alloc _)).gr g2).gr g3).gr ((Gr.refl _).alloc _))).mono ?_);rintro r w4 ⟨⟨s4,a4,n4,c4,e4,rfl,d4⟩,g4⟩;have G4:=(G3.alloc _).trans g4)
  | (go_at_call 149;(with_reducible refine(HB.out _ _ _ _ _ _ G4 d4).mono ?_);rintro r w5 ⟨⟨s5,a5,n5,c5,e5,rfl,d5⟩,g5⟩;have G5:=G4.trans g5)
  | (go_at_call 150;(with_reducible refine(LB.out _).mono ?_);rintro r _ ⟨rfl,rfl⟩)
  | (go_at_call 148;(with_reducible refine(SB.out _ _ _ _ _ _ G5 d5).mono ?_);rintro r w6 ⟨⟨s6,a6,n6,c6,e6,rfl,d6⟩,g6⟩;have G6:=G5.trans g6))
 have g7:=(Gr.refl w6).alloc (.cells #[.bool s6,.slice a6 n6 c6,.int .i64 e6] 130)
 have q9:=g7.keepH (g6.keepH (g5.keepH (g4.keepH (new_at w3 (.cells #[.bool s3,.slice a3 n3 c3,.int .i64 e3] 130)))))
 have q10:=new_at w6 (.cells #[.bool s6,.slice a6 n6 c6,.int .i64 e6] 130)
 have d9:=((d3.gr ((Gr.refl _).alloc _)).gr (g4.trans (g5.trans g6))).gr g7
 have d10:=d6.gr g7
 have G7:Hid (Gr w _):=G6.trans g7
 have kbx:=g7.keepH (g6.keepH (g5.keepH (g4.keepH (((Gr.refl _).alloc (.cells #[.bool s3,.slice a3 n3 c3,.int .i64 e3] 130)).keepH (g3.keepH (g2.keepH (((Gr.refl _).alloc (.cells #[.bool s1,.slice a1 n1 c1,.int .i64 e1] 130)).keepH (g1.keepH kb0.out))))))))
 have l3:w.heap.size≠w3.heap.size:=Nat.ne_of_lt (lt_of_heap (g3.keepH (g2.keepH (((Gr.refl _).alloc (.cells #[.bool s1,.slice a1 n1 c1,.int .i64 e1] 130)).keepH (g1.keepH kb0.out)))))
 have l6:w.heap.size≠w6.heap.size:=Nat.ne_of_lt (lt_of_heap (g6.keepH (g5.keepH (g4.keepH (((Gr.refl _).alloc (.cells #[.bool s3,.slice a3 n3 c3,.int .i64 e3] 130)).keepH (g3.keepH (g2.keepH (((Gr.refl _).alloc (.cells #[.bool s1,.slice a1 n1 c1,.int .i64 e1] 130)).keepH (g1.keepH kb0.out)))))))))
 generalize w6.alloc (.cells #[.bool s6,.slice a6 n6 c6,.int .i64 e6] 130)=w7 at *
 obtain⟨x0,x1,x2⟩:=out3 q9
 obtain⟨y0,y1,y2⟩:=out3 q10
 refine Code.wp_mono ?_ (reg125 _ _ _ _ _ _ _ _ _ _ _ _ _ _ _ _ _ _ _ _ _ _ _ _ _ _ _ _ _ _ _ _ _ _ _ _ _ _ _ _ _ _ _ _ _ _ _ _ _ _ _ _ _ _ _ _ _ B w3.heap.size w6.heap.size w.heap.size P s3 a3 n3 c3 e3 s6 a6 n6 c6 e6 L1 H1 L2 H2 w7 (fun w1 g=>AA.out w1 _ _ _ _ _ (G7.out.trans g) (d9.gr g)) (fun w1 g=>AB.out w1 _ _ _ _ _ (G7.out.trans g) (d10.gr g)) (Ne.symm l3) (Ne.symm l6) kbx ⟨x0,x1,x2,y0,y1,y2⟩)
 intro ex ac W hR
 cases ex
 case normal =>
  obtain⟨_,_,_,_,_,_,_,_,_,s13,a13,n13,c13,e13,s14,a14,n14,c14,e14,s15,a15,n15,c15,e15,s16,a16,n16,c16,e16,rfl,hb,e3',e4',e5',e6',gW⟩:=hR
  obtain⟨t0,t1,t2,t3,t4,t5,t6,t7,t8,t9,t10,t11,u0,u1,u2,u3,u4,u5,u6,u7,u8,u9,u10,u11⟩:=out12 hb
  go_wp2
  refine bodyPost_ret (v:=.agg #[.bool s13,.slice a13 n13 c13,.int .i64 e13,.bool s14,.slice a14 n14 c14,.int .i64 e14,.bool s15,.slice a15 n15 c15,.int .i64 e15,.bool s16,.slice a16 n16 c16,.int .i64 e16]) ?_ rfl ⟨⟨_,rfl,_,_,_,_,_,_,_,_,_,_,_,_,_,_,_,_,_,_,_,_,rfl,e3',e4',e5',e6'⟩,gW.gr (Nat.le_refl _) G7.out⟩
  simp[results,Tryz.results143,go_sem,t0,t1,t2,t3,t4,t5,t6,t7,t8,t9,t10,t11]
 all_goals exact hR.elim
theorem boxH (B P pl R1 R2 : Nat) (C : Int) (w : World) (h : Rk w B) (hT : TabAt 2 Lib.deBruijn64tab w) (hc : CosN P (2 * pl) C) (hpl : pl < 16384) (hm : pl % 4096 ≠ 0) (hP1 : 13 ≤ P) (hP : P ≤ 20000)
    (a1 : R1 * R1 ≤ (((2 ^ P : Nat) : Int) + C).toNat * 2 ^ (P - 1)) (a2 : (((2 ^ P : Nat) : Int) + C).toNat * 2 ^ (P - 1) < (R1 + 1) * (R1 + 1))
    (b1 : R2 * R2 ≤ (((2 ^ P : Nat) : Int) + -C).toNat * 2 ^ (P - 1)) (b2 : (((2 ^ P : Nat) : Int) + -C).toNat * 2 ^ (P - 1) < (R2 + 1) * (R2 + 1)) (re im : Int)
    (hre : re = if lf ((pl / 4096 : Nat) : Int) then -(R1 : Int) else R1) (him : im = if lf (((pl / 4096 : Nat) : Int) - 1) then -(R2 : Int) else R2) :
    Calls Tryz.prog 143 #[.pointer (some ⟨B, 0, none⟩), .int .i64 (pl : Int), .int .i64 (P : Int)] w fun r w' => (∃ v, r = .returned v ∧ Bv w' v ((re - 8192) * Un P) ((re + 8192) * Un P) ((im - 8192) * Un P) ((im + 8192) * Un P)) ∧ Gr w w' := by
  have hC := hc.small (by omega)
  have hCn : (-C).natAbs ≤ 2 ^ P := by rw [Int.natAbs_neg]; exact hC
  have hR1 := root_small (by omega) hC a1
  have hR2 := root_small (by omega) hCn b1
  refine boxW B P (pl : Int) ((pl / 4096 : Nat) : Int) (C * Un P) ((-C) * Un P) ((R1 : Int) * Un P) ((R2 : Int) * Un P) (re * Un P) (im * Un P) _ _ _ _ (lf ((pl / 4096 : Nat) : Int)) (lf (((pl / 4096 : Nat) : Int) - 1)) w (by omega) (by omega) (by omega) (by omega) (fun w1 g => ?_) (fun w1 s ad n cap e g d => ?_) (fun w1 s ad n cap e g d => ?_) (fun w1 => ?_) (fun w1 => ?_) (fun w1 s ad n cap e g d => ?_) (fun w1 s ad n cap e g d => ?_) (fun w1 s ad n cap e g d => ?_) (fun w1 s ad n cap e g d => ?_) (fun w1 s ad n cap e g d => ?_)
  · have := cosN hc (by omega) hP B w1 (h.gr g) (tab_gr hT g) ⟨12, by omega, by omega⟩
    rwa [Int.natCast_mul] at this
  · exact angHalf B s ad n cap e C P R1 w1 (h.gr g) d (tab_gr hT g) (by omega) hP hC a1 a2
  · exact angHalf B s ad n cap e (-C) P R2 w1 (h.gr g) d (tab_gr hT g) (by omega) hP hCn b1 b2
  · exact leftOf _ w1 (by omega) (by omega)
  · exact leftOf _ w1 (by omega) (by omega)
  · rw [hre]; exact angSigned B s ad n cap e (R1 : Int) P _ w1 (h.gr g) d (tab_gr hT g) hP (by rw [Int.natAbs_natCast]; exact hR1)
  · rw [him]; exact angSigned B s ad n cap e (R2 : Int) P _ w1 (h.gr g) d (tab_gr hT g) hP (by rw [Int.natAbs_natCast]; exact hR2)
  · exact angSigned B s ad n cap e C P true w1 (h.gr g) d (tab_gr hT g) hP hC
  · exact around B s ad n cap e re P w1 (h.gr g) d (tab_gr hT g) hP1 hP (by rw [hre]; split; · rw [Int.natAbs_neg]; exact hR1
                                                                            · exact hR1)
  · exact around B s ad n cap e im P w1 (h.gr g) d (tab_gr hT g) hP1 hP (by rw [him]; split; · rw [Int.natAbs_neg]; exact hR2
                                                                            · exact hR2)
end Go.Proofs.YtanpdbadfddlcaaGreatDoor
namespace Go.Proofs.YtanpdbadfddlcaaGreatDoor
open Go.RowKit
set_option linter.unusedVariables false
theorem rightOrder (o:Int) (w:World):Calls Tryz.prog 138 #[.int .i64 o] w fun r w'=>r = .returned (.bool (decide (0<=o/\o<=14)))/\w'=w:=by
 by_cases h1:0<=o
 ·by_cases h2:o<=14
  ·rw[decide_eq_true ⟨h1,h2⟩]
   go_enter Tryz.func138,Tryz.ntmps138
   go_wp2
   go_ret
   exact⟨rfl,rfl⟩
  ·rw[decide_eq_false (fun h=>h2 h.2)]
   go_enter Tryz.func138,Tryz.ntmps138
   go_wp2
   go_ret
   exact⟨rfl,rfl⟩
 ·rw[decide_eq_false (fun h=>h1 h.1)]
  go_enter Tryz.func138,Tryz.ntmps138
  go_wp2
  go_ret
  exact⟨rfl,rfl⟩
theorem placeOf (o:Nat) (st:Int) (w:World) (ho:o<=14):Calls Tryz.prog 140 #[.int .i64 (o:Int),.int .i64 st] w fun r w'=>r = .returned (.int .i64 ((st*((2 ^ (14-o):Nat):Int)) % 16384))/\w'=w:=by
 go_enter Tryz.func140,Tryz.ntmps140
 go_wp2
 go_ret
 refine⟨?_,rfl⟩
 show Ending.returned (Value.int _ _)=_
 rw[and_turn,Int.natCast_pow]
 show Ending.returned (Value.int _ (wrap64 (st*(2:Int) ^ (14-o)) % 16384))=Ending.returned (Value.int _ ((st*(2:Int) ^ (14-o)) % 16384))
 generalize st*(2:Int) ^ (14-o)=z
 congr 2
 unfold wrap64
 omega
end Go.Proofs.YtanpdbadfddlcaaGreatDoor
namespace Go.Proofs.YtanpdbadfddlcaaGreatDoor
open Go.RowKit
set_option linter.unusedVariables false
set_option linter.unusedSimpArgs false
end Go.Proofs.YtanpdbadfddlcaaGreatDoor
