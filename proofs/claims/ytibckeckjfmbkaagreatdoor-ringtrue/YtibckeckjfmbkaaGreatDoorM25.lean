import Derived.Test.YtibckeckjfmbkaaGreatDoorM24
import Derived.Test.YtibckeckjfmbkaaGreatDoorM15
import Derived.Deep.RegionHeld3
namespace Go.Proofs.YtibckeckjfmbkaaGreatDoor
open Go.RowKit
set_option linter.unusedVariables false
set_option linter.unusedSimpArgs false
def R166 (t1 t2 t3 t5 t8 t9 t10 t11 t12 t13 t14 t15 t16 t17 t18 t19 t20 t21 t22 t23 t24 t25 t26 t27 t28 t29 t30:Value) (B bD bG bO:Nat) (s1:Bool) (a1:Option Addr) (n1 c1:Nat) (e1:Int) (s2:Bool) (a2:Option Addr) (n2 c2:Nat) (e2:Int) (V1 V2:Int) (wq:World):Exit->Act->World->Prop
 | .normal,a,w=>∃u16 u17 u18 u19 u20 u21 u22 u23 u24 u25 u26 u27 u28 u29 u30 s3 a3 n3 c3 e3 s4 a4 n4 c4 e4,a = {tmps:=#[.pointer (some ⟨B,0,none⟩),t1,t2,t3,.pointer (some ⟨bD,0,none⟩),t5,.pointer (some ⟨bG,0,none⟩),.pointer (some ⟨bO,0,none⟩),t8,t9,t10,t11,t12,t13,t14,t15,u16,u17,u18,u19,u20,u21,u22,u23,u24,u25,u26,u27,u28,u29,u30],defers:=[]}/\w.heap[bG]? = some (.cells #[.bool s3,.slice a3 n3 c3,.int .i64 e3,.bool s4,.slice a4 n4 c4,.int .i64 e4] 130)/\DyV w s3 a3 n3 c3 e3 V1/\DyV w s4 a4 n4 c4 e4 V2/\Gx bG wq w
 | _,_,_=>False
set_option maxRecDepth 100000 in
set_option maxHeartbeats 40000000 in
theorem reg166 (t1 t2 t3 t5 t8 t9 t10 t11 t12 t13 t14 t15 t16 t17 t18 t19 t20 t21 t22 t23 t24 t25 t26 t27 t28 t29 t30:Value) (B bD bG bO:Nat) (s1:Bool) (a1:Option Addr) (n1 c1:Nat) (e1:Int) (s2:Bool) (a2:Option Addr) (n2 c2:Nat) (e2:Int) (V1 V2:Int) (wq:World)
  (SUB:Hid (∀w1,Gr wq w1->Calls Tryz.prog 160 #[.agg #[.bool s1,.slice a1 n1 c1,.int .i64 e1],.agg #[.bool s2,.slice a2 n2 c2,.int .i64 e2]] w1 fun r w'=>DvT w' r V1/\Gr w1 w'))
  (ADD:Hid (∀w1,Gr wq w1->Calls Tryz.prog 157 #[.agg #[.bool s1,.slice a1 n1 c1,.int .i64 e1],.agg #[.bool s2,.slice a2 n2 c2,.int .i64 e2]] w1 fun r w'=>DvT w' r V2/\Gr w1 w'))
  (KP:Hid (Keeps wq B)) (hne_bD:bD≠bG) (hne_bO:bO≠bG) (hbG:wq.heap[bG]? = some (.cells #[.bool false,.slice none 0 0,.int .i64 0,.bool false,.slice none 0 0,.int .i64 0] 130)) (hcs:(wq.cell? ⟨bD,0,none⟩=some (.bool s1)/\wq.cell? ⟨bD,1,none⟩=some (.slice a1 n1 c1)/\wq.cell? ⟨bD,2,none⟩=some (.int .i64 e1)/\wq.cell? ⟨bO,0,none⟩=some (.bool s2)/\wq.cell? ⟨bO,1,none⟩=some (.slice a2 n2 c2)/\wq.cell? ⟨bO,2,none⟩=some (.int .i64 e2))) :
  Code.wp Tryz.prog (Code.region 2 #[{dst:=some 16,op:=Op.move (Operand.tmp 0),type:=138,pos:= "reckoner.go:74",after:=#[],guard:=none},{dst:=some 17,op:=Op.load 128 (Operand.tmp 4),type:=128,pos:= "reckoner.go:74",after:=#[],guard:=none},{dst:=some 18,op:=Op.load 128 (Operand.tmp 7),type:=128,pos:= "reckoner.go:74",after:=#[],guard:=none},{dst:=some 19,op:=Op.call {callee:=Callee.value (Operand.func 160),args:=#[Operand.tmp 17,Operand.tmp 18],argTypes:=#[128,128]},type:=151,pos:= "reckoner.go:74",after:=#[{on:=1,ground:=Ground.data},{on:=2,ground:=Ground.data}],guard:=none},{dst:=some 20,op:=Op.extract (Operand.tmp 19) 0,type:=128,pos:= "reckoner.go:74",after:=#[{on:=3,ground:=Ground.data}],guard:=none},{dst:=some 21,op:=Op.extract (Operand.tmp 19) 1,type:=26,pos:= "reckoner.go:74",after:=#[{on:=3,ground:=Ground.data}],guard:=none},{dst:=some 22,op:=Op.call {callee:=Callee.value (Operand.func 155),args:=#[Operand.tmp 16,Operand.tmp 20,Operand.tmp 21],argTypes:=#[138,128,26]},type:=128,pos:= "reckoner.go:74",after:=#[{on:=0,ground:=Ground.data},{on:=4,ground:=Ground.data},{on:=5,ground:=Ground.data},{on:=3,ground:=Ground.chain}],guard:=none},{dst:=some 23,op:=Op.move (Operand.tmp 0),type:=138,pos:= "reckoner.go:74",after:=#[],guard:=none},{dst:=some 24,op:=Op.load 128 (Operand.tmp 4),type:=128,pos:= "reckoner.go:74",after:=#[],guard:=none},{dst:=some 25,op:=Op.load 128 (Operand.tmp 7),type:=128,pos:= "reckoner.go:74",after:=#[],guard:=none},{dst:=some 26,op:=Op.call {callee:=Callee.value (Operand.func 157),args:=#[Operand.tmp 24,Operand.tmp 25],argTypes:=#[128,128]},type:=151,pos:= "reckoner.go:74",after:=#[{on:=8,ground:=Ground.data},{on:=9,ground:=Ground.data},{on:=6,ground:=Ground.chain}],guard:=none},{dst:=some 27,op:=Op.extract (Operand.tmp 26) 0,type:=128,pos:= "reckoner.go:74",after:=#[{on:=10,ground:=Ground.data}],guard:=none},{dst:=some 28,op:=Op.extract (Operand.tmp 26) 1,type:=26,pos:= "reckoner.go:74",after:=#[{on:=10,ground:=Ground.data}],guard:=none},{dst:=some 29,op:=Op.call {callee:=Callee.value (Operand.func 155),args:=#[Operand.tmp 23,Operand.tmp 27,Operand.tmp 28],argTypes:=#[138,128,26]},type:=128,pos:= "reckoner.go:74",after:=#[{on:=7,ground:=Ground.data},{on:=11,ground:=Ground.data},{on:=12,ground:=Ground.data},{on:=10,ground:=Ground.chain}],guard:=none},{dst:=some 30,op:=Op.build 130 #[(0,Operand.tmp 22),(1,Operand.tmp 29)],type:=130,pos:= "reckoner.go:74",after:=#[{on:=6,ground:=Ground.data},{on:=13,ground:=Ground.data}],guard:=none},{dst:=none,op:=Op.store 130 (Operand.tmp 6) (Operand.tmp 30),type:=0,pos:= "reckoner.go:74",after:=#[{on:=14,ground:=Ground.data},{on:=13,ground:=Ground.chain},{on:=0,ground:=Ground.phase},{on:=1,ground:=Ground.phase},{on:=2,ground:=Ground.phase},{on:=3,ground:=Ground.phase},{on:=4,ground:=Ground.phase},{on:=5,ground:=Ground.phase},{on:=6,ground:=Ground.phase},{on:=7,ground:=Ground.phase},{on:=8,ground:=Ground.phase},{on:=9,ground:=Ground.phase},{on:=10,ground:=Ground.phase},{on:=11,ground:=Ground.phase},{on:=12,ground:=Ground.phase},{on:=13,ground:=Ground.phase},{on:=14,ground:=Ground.phase}],guard:=none}] true) (R166 t1 t2 t3 t5 t8 t9 t10 t11 t12 t13 t14 t15 t16 t17 t18 t19 t20 t21 t22 t23 t24 t25 t26 t27 t28 t29 t30 B bD bG bO s1 a1 n1 c1 e1 s2 a2 n2 c2 e2 V1 V2 wq) {tmps:=#[.pointer (some ⟨B,0,none⟩),t1,t2,t3,.pointer (some ⟨bD,0,none⟩),t5,.pointer (some ⟨bG,0,none⟩),.pointer (some ⟨bO,0,none⟩),t8,t9,t10,t11,t12,t13,t14,t15,t16,t17,t18,t19,t20,t21,t22,t23,t24,t25,t26,t27,t28,t29,t30],defers:=[]} wq:=by
 have hS0:(wq.drew.cell? ⟨bD,0,none⟩=some (.bool s1)/\wq.drew.cell? ⟨bD,1,none⟩=some (.slice a1 n1 c1)/\wq.drew.cell? ⟨bD,2,none⟩=some (.int .i64 e1)/\wq.drew.cell? ⟨bO,0,none⟩=some (.bool s2)/\wq.drew.cell? ⟨bO,1,none⟩=some (.slice a2 n2 c2)/\wq.drew.cell? ⟨bO,2,none⟩=some (.int .i64 e2))/\Gx bG wq wq.drew:=⟨hcs,Gx.of_gr (Gr.refl wq).drew⟩
 have hbG0:wq.drew.heap[bG]? = some (.cells #[.bool false,.slice none 0 0,.int .i64 0,.bool false,.slice none 0 0,.int .i64 0] 130):=hbG
 have hg0:Gr wq wq.drew:=(Gr.refl wq).drew
 clear hcs
 refine wp_region_held_drew (S:=fun w'=>(w'.cell? ⟨bD,0,none⟩=some (.bool s1)/\w'.cell? ⟨bD,1,none⟩=some (.slice a1 n1 c1)/\w'.cell? ⟨bD,2,none⟩=some (.int .i64 e1)/\w'.cell? ⟨bO,0,none⟩=some (.bool s2)/\w'.cell? ⟨bO,1,none⟩=some (.slice a2 n2 c2)/\w'.cell? ⟨bO,2,none⟩=some (.int .i64 e2))/\Gx bG wq w') (by kernel_rfl) hS0 (fun hHeld=>?_)
 clear hS0
 generalize wq.drew=wd at *
 refine wpAnyH_take (i:=0) (oi:=_) (v:=?_) rfl (by kernel_rfl) (by kernel_rfl) (by kernel_rfl) (fun _ _ _ h=>h) (Or.inl ⟨by rfl,?_⟩) (by with_reducible assumption) ?_
 rotate_left
 ·intro w hSw
  (try dsimp only at hSw)
  first|(go_simp;done)|(go_simp;with_reducible rfl)
 (try simp only[Act.put,List.setIfInBounds_toArray,List.set_cons_zero,List.set_cons_succ])
 refine wpAnyH_take (i:=1) (oi:=_) (v:=?_) rfl (by kernel_rfl) (by kernel_rfl) (by kernel_rfl) (fun _ _ _ h=>h) (Or.inl ⟨by rfl,?_⟩) (by with_reducible assumption) ?_
 rotate_left
 ·intro w hSw
  (try dsimp only at hSw)
  first|(go_simp;done)|(go_simp;with_reducible rfl)
 (try simp only[Act.put,List.setIfInBounds_toArray,List.set_cons_zero,List.set_cons_succ])
 refine wpAnyH_take (i:=2) (oi:=_) (v:=?_) rfl (by kernel_rfl) (by kernel_rfl) (by kernel_rfl) (fun _ _ _ h=>h) (Or.inl ⟨by rfl,?_⟩) (by with_reducible assumption) ?_
 rotate_left
 ·intro w hSw
  (try dsimp only at hSw)
  first|(go_simp;done)|(go_simp;with_reducible rfl)
 (try simp only[Act.put,List.setIfInBounds_toArray,List.set_cons_zero,List.set_cons_succ])
 refine wpAnyH_take (i:=7) (oi:=_) (v:=?_) rfl (by kernel_rfl) (by kernel_rfl) (by kernel_rfl) (fun _ _ _ h=>h) (Or.inl ⟨by rfl,?_⟩) (by with_reducible assumption) ?_
 rotate_left
 ·intro w hSw
  (try dsimp only at hSw)
  first|(go_simp;done)|(go_simp;with_reducible rfl)
 (try simp only[Act.put,List.setIfInBounds_toArray,List.set_cons_zero,List.set_cons_succ])
 refine wpAnyH_take (i:=8) (oi:=_) (v:=?_) rfl (by kernel_rfl) (by kernel_rfl) (by kernel_rfl) (fun _ _ _ h=>h) (Or.inl ⟨by rfl,?_⟩) (by with_reducible assumption) ?_
 rotate_left
 ·intro w hSw
  (try dsimp only at hSw)
  first|(go_simp;done)|(go_simp;with_reducible rfl)
 (try simp only[Act.put,List.setIfInBounds_toArray,List.set_cons_zero,List.set_cons_succ])
 refine wpAnyH_take (i:=9) (oi:=_) (v:=?_) rfl (by kernel_rfl) (by kernel_rfl) (by kernel_rfl) (fun _ _ _ h=>h) (Or.inl ⟨by rfl,?_⟩) (by with_reducible assumption) ?_
 rotate_left
 ·intro w hSw
  (try dsimp only at hSw)
  first|(go_simp;done)|(go_simp;with_reducible rfl)
 (try simp only[Act.put,List.setIfInBounds_toArray,List.set_cons_zero,List.set_cons_succ])
 refine wpAnyH_ready (rs:=[3]) (by kernel_rfl) (by simp) ?_
 refine AllReadyH.cons (o:=_) rfl (fun K hK=>?_) AllReadyH.nil
 go_simp
 refine(SUB.out _ hg0).mono ?_
 rintro r wc1 ⟨⟨s3,a3,n3,c3,e3,rfl,d1_4⟩,gg3⟩
 refine hK.out _ _ ⟨⟨gg3.keep hHeld.1.1,gg3.keep hHeld.1.2.1,gg3.keep hHeld.1.2.2.1,gg3.keep hHeld.1.2.2.2.1,gg3.keep hHeld.1.2.2.2.2.1,gg3.keep hHeld.1.2.2.2.2.2⟩,hHeld.2.trans (Gx.of_gr gg3)⟩ (fun hH2=>?_)
 clear hK K
 (try simp only[Act.put,List.setIfInBounds_toArray,List.set_cons_zero,List.set_cons_succ])
 have bG_5:=gg3.keepH hbG0
 clear hbG0
 have gq6:=hg0.trans gg3
 clear hg0
 refine wpAnyH_take (i:=4) (oi:=_) (v:=?_) rfl (by kernel_rfl) (by kernel_rfl) (by kernel_rfl) (fun _ _ _ h=>h) (Or.inl ⟨by rfl,?_⟩) (by with_reducible assumption) ?_
 rotate_left
 ·intro w hSw
  (try dsimp only at hSw)
  first|(go_simp;done)|(go_simp;with_reducible rfl)
 (try simp only[Act.put,List.setIfInBounds_toArray,List.set_cons_zero,List.set_cons_succ])
 refine wpAnyH_take (i:=5) (oi:=_) (v:=?_) rfl (by kernel_rfl) (by kernel_rfl) (by kernel_rfl) (fun _ _ _ h=>h) (Or.inl ⟨by rfl,?_⟩) (by with_reducible assumption) ?_
 rotate_left
 ·intro w hSw
  (try dsimp only at hSw)
  first|(go_simp;done)|(go_simp;with_reducible rfl)
 (try simp only[Act.put,List.setIfInBounds_toArray,List.set_cons_zero,List.set_cons_succ])
 refine wpAnyH_ready (rs:=[6]) (by kernel_rfl) (by simp) ?_
 refine AllReadyH.cons (o:=_) rfl (fun K hK=>?_) AllReadyH.nil
 go_simp
 refine(KP.out _ _ _ _ _ _ gq6).mono ?_
 rintro r wc7 ⟨rfl,gg9⟩
 refine hK.out _ _ ⟨⟨gg9.keep hH2.1.1,gg9.keep hH2.1.2.1,gg9.keep hH2.1.2.2.1,gg9.keep hH2.1.2.2.2.1,gg9.keep hH2.1.2.2.2.2.1,gg9.keep hH2.1.2.2.2.2.2⟩,hH2.2.trans (Gx.of_gr gg9)⟩ (fun hH8=>?_)
 clear hK K
 (try simp only[Act.put,List.setIfInBounds_toArray,List.set_cons_zero,List.set_cons_succ])
 have bG_10:=gg9.keepH bG_5
 clear bG_5
 have d1_11:=d1_4.gr gg9
 clear d1_4
 have gq12:=gq6.trans gg9
 clear gq6
 refine wpAnyH_ready (rs:=[10]) (by kernel_rfl) (by simp) ?_
 refine AllReadyH.cons (o:=_) rfl (fun K hK=>?_) AllReadyH.nil
 go_simp
 refine(ADD.out _ gq12).mono ?_
 rintro r wc13 ⟨⟨s4,a4,n4,c4,e4,rfl,d2_16⟩,gg15⟩
 refine hK.out _ _ ⟨⟨gg15.keep hH8.1.1,gg15.keep hH8.1.2.1,gg15.keep hH8.1.2.2.1,gg15.keep hH8.1.2.2.2.1,gg15.keep hH8.1.2.2.2.2.1,gg15.keep hH8.1.2.2.2.2.2⟩,hH8.2.trans (Gx.of_gr gg15)⟩ (fun hH14=>?_)
 clear hK K
 (try simp only[Act.put,List.setIfInBounds_toArray,List.set_cons_zero,List.set_cons_succ])
 have bG_17:=gg15.keepH bG_10
 clear bG_10
 have d1_18:=d1_11.gr gg15
 clear d1_11
 have gq19:=gq12.trans gg15
 clear gq12
 refine wpAnyH_take (i:=11) (oi:=_) (v:=?_) rfl (by kernel_rfl) (by kernel_rfl) (by kernel_rfl) (fun _ _ _ h=>h) (Or.inl ⟨by rfl,?_⟩) (by with_reducible assumption) ?_
 rotate_left
 ·intro w hSw
  (try dsimp only at hSw)
  first|(go_simp;done)|(go_simp;with_reducible rfl)
 (try simp only[Act.put,List.setIfInBounds_toArray,List.set_cons_zero,List.set_cons_succ])
 refine wpAnyH_take (i:=12) (oi:=_) (v:=?_) rfl (by kernel_rfl) (by kernel_rfl) (by kernel_rfl) (fun _ _ _ h=>h) (Or.inl ⟨by rfl,?_⟩) (by with_reducible assumption) ?_
 rotate_left
 ·intro w hSw
  (try dsimp only at hSw)
  first|(go_simp;done)|(go_simp;with_reducible rfl)
 (try simp only[Act.put,List.setIfInBounds_toArray,List.set_cons_zero,List.set_cons_succ])
 refine wpAnyH_ready (rs:=[13]) (by kernel_rfl) (by simp) ?_
 refine AllReadyH.cons (o:=_) rfl (fun K hK=>?_) AllReadyH.nil
 go_simp
 refine(KP.out _ _ _ _ _ _ gq19).mono ?_
 rintro r wc20 ⟨rfl,gg22⟩
 refine hK.out _ _ ⟨⟨gg22.keep hH14.1.1,gg22.keep hH14.1.2.1,gg22.keep hH14.1.2.2.1,gg22.keep hH14.1.2.2.2.1,gg22.keep hH14.1.2.2.2.2.1,gg22.keep hH14.1.2.2.2.2.2⟩,hH14.2.trans (Gx.of_gr gg22)⟩ (fun hH21=>?_)
 clear hK K
 (try simp only[Act.put,List.setIfInBounds_toArray,List.set_cons_zero,List.set_cons_succ])
 have bG_23:=gg22.keepH bG_17
 clear bG_17
 have d1_24:=d1_18.gr gg22
 clear d1_18
 have d2_25:=d2_16.gr gg22
 clear d2_16
 have gq26:=gq19.trans gg22
 clear gq19
 refine wpAnyH_take (i:=14) (oi:=_) (v:=?_) rfl (by kernel_rfl) (by kernel_rfl) (by kernel_rfl) (fun _ _ _ h=>h) (Or.inl ⟨by rfl,?_⟩) (by with_reducible assumption) ?_
 rotate_left
 ·intro w hSw
  (try dsimp only at hSw)
  first|(go_simp;done)|(go_simp;with_reducible rfl)
 (try simp only[Act.put,List.setIfInBounds_toArray,List.set_cons_zero,List.set_cons_succ])
 refine wpAnyH_ready (rs:=[15]) (by kernel_rfl) (by simp) ?_
 refine AllReadyH.cons (o:=_) rfl (fun K hK=>?_) AllReadyH.nil
 obtain⟨x0',x1',x2',x3',x4',x5',y0',y1',y2',y3',y4',y5'⟩:=out6 bG_23
 go_simp
 refine hK.out _ _ ⟨⟨(gx6 _ _ _ _ _ _ _ _).keepc hne_bD hH21.1.1,(gx6 _ _ _ _ _ _ _ _).keepc hne_bD hH21.1.2.1,(gx6 _ _ _ _ _ _ _ _).keepc hne_bD hH21.1.2.2.1,(gx6 _ _ _ _ _ _ _ _).keepc hne_bO hH21.1.2.2.2.1,(gx6 _ _ _ _ _ _ _ _).keepc hne_bO hH21.1.2.2.2.2.1,(gx6 _ _ _ _ _ _ _ _).keepc hne_bO hH21.1.2.2.2.2.2⟩,hH21.2.trans (gx6 _ _ _ _ _ _ _ _)⟩ (fun hS27=>?_)
 clear hK K x0' x1' x2' x3' x4' x5' y0' y1' y2' y3' y4' y5'
 (try simp only[Act.put,List.setIfInBounds_toArray,List.set_cons_zero,List.set_cons_succ])
 refine wpAnyH_done (by kernel_rfl) ?_ _
 exact⟨_,_,_,_,_,_,_,_,_,_,_,_,_,_,_,_,_,_,_,_,_,_,_,_,_,rfl,putB6 bG_23 _ _ _ _ _ _,d1_24.gx (NoR.of bG_23 rfl) (gx6 _ _ _ _ _ _ _ _),d2_25.gx (NoR.of bG_23 rfl) (gx6 _ _ _ _ _ _ _ _),hS27.2⟩
theorem two_at (w:World) (a0 a1 a2:Value) (o:Obj) (W0:World) (h:W0=(w.alloc (.cells #[a0,a1,a2] 128)).alloc o) :
  W0.cell? ⟨w.heap.size,0,none⟩=some a0/\W0.cell? ⟨w.heap.size,1,none⟩=some a1/\W0.cell? ⟨w.heap.size,2,none⟩=some a2/\W0.heap[w.heap.size+1]? = some o/\Gr w W0/\W0.heap[w.heap.size]? = some (.cells #[a0,a1,a2] 128):=by
 have h0:W0.heap[w.heap.size]? = some (.cells #[a0,a1,a2] 128):=by
  rw[h]
  show((w.heap.push _).push _)[w.heap.size]? = _
  simp only[Array.getElem?_push,Array.size_push]
  rw[if_neg (by omega),if_pos trivial]
 refine⟨by simp[World.cell?,h0],by simp[World.cell?,h0],by simp[World.cell?,h0],?_,?_,h0⟩
 ·rw[h];exact second_block w _ _
 ·rw[h];exact gr2 _ _
set_option maxRecDepth 10000 in
set_option maxHeartbeats 4000000 in
theorem around (B:Nat) (s:Bool) (ad:Option Addr) (n cap:Nat) (e C:Int) (P:Nat) (w:World) (h:Rk w B) (d:DyV w s ad n cap e (C*Un P)) (hT:TabAt 2 Lib.deBruijn64tab w) (hP1:13<=P) (hP:P<=20000) (hC:C.natAbs<=2 ^ P) :
  Calls Tryz.prog 150 #[.pointer (some ⟨B,0,none⟩),.agg #[.bool s,.slice ad n cap,.int .i64 e],.int .i64 (P:Int)] w fun r w'=>(∃v,r = .returned v/\Gv w' v ((C-8192)*Un P) ((C+8192)*Un P))/\Gr w w':=by
 have TA:Hid _:=two_at w (.bool s) (.slice ad n cap) (.int .i64 e) (.cells #[.bool false,.slice none 0 0,.int .i64 0,.bool false,.slice none 0 0,.int .i64 0] 130) _ rfl
 have KP:Hid (∀w0,Gr w w0->Keeps w0 B):=fun w0 g=>keeps (h.gr g)
 have IN:Hid (∀w1,Gr w w1->Calls Tryz.prog 154 #[.int .i64 1] w1 fun r w'=>Dv w' r (1*Un 0)/\Gr w1 w'):=fun w1 g=>intD 1 w1 (by omega) (by omega) (tab_gr hT g)
 have h13:(8192:Int).natAbs<2 ^ (P+1):=Nat.lt_of_lt_of_le (by decide:8192<2 ^ 14) (Nat.pow_le_pow_right (by omega) (by omega))
 have hCk:C.natAbs<2 ^ (P+1):=by rw[Nat.pow_succ];have:=Nat.two_pow_pos P;omega
 have SC:Hid (∀w1 s' ad' n' cap' e',Gr w w1->DyV w1 s' ad' n' cap' e' (1*Un 0)->Calls Tryz.prog 159 #[.agg #[.bool s',.slice ad' n' cap',.int .i64 e'],.int .i64 (13-(P:Int))] w1 fun r w'=>DvT w' r (8192*Un P)/\Gr w1 w'):=fun w1 s' ad' n' cap' e' g d1=>by
  have:=scaleD s' ad' n' cap' e' 1 0 (P-13) 1 w1 d1 (tab_gr hT g) (by decide) (by omega) (by omega)
  rw[show -((P-13:Nat):Int)=13-(P:Int) by omega,Un_split (P:=0+(P-13)) (Q:=P) (by omega) (by omega),show P-(0+(P-13))=13 by omega,Int.one_mul] at this
  exact this
 have SUB:Hid (∀w1 s' ad' n' cap' e',Gr w w1->DyV w1 s' ad' n' cap' e' (8192*Un P)->Calls Tryz.prog 160 #[.agg #[.bool s,.slice ad n cap,.int .i64 e],.agg #[.bool s',.slice ad' n' cap',.int .i64 e']] w1 fun r w'=>DvT w' r ((C-8192)*Un P)/\Gr w1 w'):=fun w1 s' ad' n' cap' e' g d1=>subD s s' ad ad' n n' cap cap' e e' C 8192 P (P+1) w1 (d.gr g) d1 (tab_gr hT g) hCk h13 (by omega) (by omega)
 have ADD:Hid (∀w1 s' ad' n' cap' e',Gr w w1->DyV w1 s' ad' n' cap' e' (8192*Un P)->Calls Tryz.prog 157 #[.agg #[.bool s,.slice ad n cap,.int .i64 e],.agg #[.bool s',.slice ad' n' cap',.int .i64 e']] w1 fun r w'=>DvT w' r ((C+8192)*Un P)/\Gr w1 w'):=fun w1 s' ad' n' cap' e' g d1=>addD s s' ad ad' n n' cap cap' e e' C 8192 P (P+1) w1 (d.gr g) d1 (tab_gr hT g) hCk h13 (by omega) (by omega)
 clear hT d h h13 hCk
 go_enter Tryz.func150,Tryz.ntmps150
 go_wp2_with (first
  | (go_at_call 154;(with_reducible refine(IN.out _ (gr2 _ _)).mono ?_);rintro r w1 ⟨⟨s1,a1,n1,c1,e1,rfl,d1⟩,g1⟩)
  | (go_at_call 159;(with_reducible refine(SC.out _ _ _ _ _ _ ((gr2 _ _).trans g1) d1).mono ?_);rintro r w2 ⟨⟨s2,a2,n2,c2,e2,rfl,d2⟩,g2⟩)
  | (go_at_call 155;(with_reducible refine(KP.out _ (gr2 _ _) _ _ _ _ _ _ (g1.trans g2)).mono ?_);rintro r w3 ⟨rfl,g3⟩))
 have g4:=(Gr.refl w3).alloc (.cells #[.bool s2,.slice a2 n2 c2,.int .i64 e2] 128)
 have G:Hid (Gr _ _):=(((TA.out.2.2.2.2.1).trans g1).trans (g2.trans g3)).trans g4
 have G':Hid (Gr _ _):=(g1.trans (g2.trans g3)).trans g4
 have d4:=(d2.gr g3).gr g4
 have o4:=new_at w3 (.cells #[.bool s2,.slice a2 n2 c2,.int .i64 e2] 128)
 have l1:=lt_of_heap (g3.keepH (g2.keepH (g1.keepH TA.out.2.2.2.1)))
 generalize w3.alloc (.cells #[.bool s2,.slice a2 n2 c2,.int .i64 e2] 128)=w4 at *
 refine Code.wp_mono ?_ (reg166 _ _ _ _ _ _ _ _ _ _ _ _ _ _ _ _ _ _ _ _ _ _ _ _ _ _ _ B w.heap.size (w.heap.size+1) w3.heap.size s ad n cap e s2 a2 n2 c2 e2 ((C-8192)*Un P) ((C+8192)*Un P) w4 (fun w1 g=>SUB.out w1 _ _ _ _ _ (G.out.trans g) (d4.gr g)) (fun w1 g=>ADD.out w1 _ _ _ _ _ (G.out.trans g) (d4.gr g)) (KP.out _ G.out) (by omega) (by omega) (G'.out.keepH TA.out.2.2.2.1) ⟨G'.out.keep TA.out.1,G'.out.keep TA.out.2.1,G'.out.keep TA.out.2.2.1,by simp[World.cell?,o4],by simp[World.cell?,o4],by simp[World.cell?,o4]⟩)
 intro ex ac W hR
 cases ex
 case normal =>
  obtain⟨_,_,_,_,_,_,_,_,_,_,_,_,_,_,_,s5,a5,n5,c5,e5,s6,a6,n6,c6,e6,rfl,hb,d5,d6,gW⟩:=hR
  obtain⟨t0,t1,t2,t3,t4,t5,u0,u1,u2,u3,u4,u5⟩:=out6 hb
  go_wp2
  refine bodyPost_ret (v:=.agg #[.bool s5,.slice a5 n5 c5,.int .i64 e5,.bool s6,.slice a6 n6 c6,.int .i64 e6]) ?_ rfl ⟨⟨_,rfl,_,_,_,_,_,_,_,_,_,_,rfl,d5,d6⟩,gW.gr (Nat.le_succ _) G.out⟩
  simp[results,Tryz.results150,go_sem,t0,t1,t2,t3,t4,t5]
 all_goals exact hR.elim
end Go.Proofs.YtibckeckjfmbkaaGreatDoor
namespace Go.Proofs.YtibckeckjfmbkaaGreatDoor
open Go.RowKit
set_option linter.unusedVariables false
end Go.Proofs.YtibckeckjfmbkaaGreatDoor
namespace Go.Proofs.YtibckeckjfmbkaaGreatDoor
open Go.RowKit
set_option linter.unusedVariables false
set_option linter.unusedSimpArgs false
def Bv (w:World) (v:Value) (L1 H1 L2 H2:Int):Prop:=∃s3 a3 n3 c3 e3 s4 a4 n4 c4 e4 s5 a5 n5 c5 e5 s6 a6 n6 c6 e6,v = .agg #[.bool s3,.slice a3 n3 c3,.int .i64 e3,.bool s4,.slice a4 n4 c4,.int .i64 e4,.bool s5,.slice a5 n5 c5,.int .i64 e5,.bool s6,.slice a6 n6 c6,.int .i64 e6]/\DyV w s3 a3 n3 c3 e3 L1/\DyV w s4 a4 n4 c4 e4 H1/\DyV w s5 a5 n5 c5 e5 L2/\DyV w s6 a6 n6 c6 e6 H2
theorem Bv.gr {w w':World} {v:Value} {L1 H1 L2 H2:Int} (h:Bv w v L1 H1 L2 H2) (g:Gr w w'):Bv w' v L1 H1 L2 H2:=by
 obtain⟨s3,a3,n3,c3,e3,s4,a4,n4,c4,e4,s5,a5,n5,c5,e5,s6,a6,n6,c6,e6,h0,h1,h2,h3,h4⟩:=h
 exact⟨s3,a3,n3,c3,e3,s4,a4,n4,c4,e4,s5,a5,n5,c5,e5,s6,a6,n6,c6,e6,h0,h1.gr g,h2.gr g,h3.gr g,h4.gr g⟩
def R125 (t1 t3 t4 t5 t7 t8 t11 t12 t13 t14 t15 t16 t17 t18 t19 t20 t21 t22 t23 t24 t25 t26 t27 t28 t29 t30 t31 t32 t33 t34 t35 t36 t37 t38 t39 t40 t41 t42 t43 t44 t45 t46 t47 t48 t49 t50 t51 t52 t53 t54 t55 t56 t57 t58 t59 t60 t61:Value) (B bR bM bG P:Nat) (s1:Bool) (a1:Option Addr) (n1 c1:Nat) (e1:Int) (s2:Bool) (a2:Option Addr) (n2 c2:Nat) (e2:Int) (V1 V2 V3 V4:Int) (wq:World):Exit->Act->World->Prop
 | .normal,a,w=>∃u53 u54 u55 u56 u57 u58 u59 u60 u61 s3 a3 n3 c3 e3 s4 a4 n4 c4 e4 s5 a5 n5 c5 e5 s6 a6 n6 c6 e6,a = {tmps:=#[.pointer (some ⟨B,0,none⟩),t1,.int .i64 (P:Int),t3,t4,t5,.pointer (some ⟨bG,0,none⟩),t7,t8,.pointer (some ⟨bR,0,none⟩),.pointer (some ⟨bM,0,none⟩),t11,t12,t13,t14,t15,t16,t17,t18,t19,t20,t21,t22,t23,t24,t25,t26,t27,t28,t29,t30,t31,t32,t33,t34,t35,t36,t37,t38,t39,t40,t41,t42,t43,t44,t45,t46,t47,t48,t49,t50,t51,t52,u53,u54,u55,u56,u57,u58,u59,u60,u61],defers:=[]}/\w.heap[bG]? = some (.cells #[.bool s3,.slice a3 n3 c3,.int .i64 e3,.bool s4,.slice a4 n4 c4,.int .i64 e4,.bool s5,.slice a5 n5 c5,.int .i64 e5,.bool s6,.slice a6 n6 c6,.int .i64 e6] 132)/\DyV w s3 a3 n3 c3 e3 V1/\DyV w s4 a4 n4 c4 e4 V2/\DyV w s5 a5 n5 c5 e5 V3/\DyV w s6 a6 n6 c6 e6 V4/\Gx bG wq w
 | _,_,_=>False
set_option maxRecDepth 100000 in
set_option maxHeartbeats 40000000 in
theorem reg125 (t1 t3 t4 t5 t7 t8 t11 t12 t13 t14 t15 t16 t17 t18 t19 t20 t21 t22 t23 t24 t25 t26 t27 t28 t29 t30 t31 t32 t33 t34 t35 t36 t37 t38 t39 t40 t41 t42 t43 t44 t45 t46 t47 t48 t49 t50 t51 t52 t53 t54 t55 t56 t57 t58 t59 t60 t61:Value) (B bR bM bG P:Nat) (s1:Bool) (a1:Option Addr) (n1 c1:Nat) (e1:Int) (s2:Bool) (a2:Option Addr) (n2 c2:Nat) (e2:Int) (V1 V2 V3 V4:Int) (wq:World)
  (A1:Hid (∀w1,Gr wq w1->Calls Tryz.prog 150 #[.pointer (some ⟨B,0,none⟩),.agg #[.bool s1,.slice a1 n1 c1,.int .i64 e1],.int .i64 (P:Int)] w1 fun r w'=>(∃v,r = .returned v/\Gv w' v V1 V2)/\Gr w1 w'))
  (A2:Hid (∀w1,Gr wq w1->Calls Tryz.prog 150 #[.pointer (some ⟨B,0,none⟩),.agg #[.bool s2,.slice a2 n2 c2,.int .i64 e2],.int .i64 (P:Int)] w1 fun r w'=>(∃v,r = .returned v/\Gv w' v V3 V4)/\Gr w1 w'))
  (hne_bR:bR≠bG) (hne_bM:bM≠bG) (hbG:wq.heap[bG]? = some (.cells #[.bool false,.slice none 0 0,.int .i64 0,.bool false,.slice none 0 0,.int .i64 0,.bool false,.slice none 0 0,.int .i64 0,.bool false,.slice none 0 0,.int .i64 0] 132)) (hcs:(wq.cell? ⟨bR,0,none⟩=some (.bool s1)/\wq.cell? ⟨bR,1,none⟩=some (.slice a1 n1 c1)/\wq.cell? ⟨bR,2,none⟩=some (.int .i64 e1)/\wq.cell? ⟨bM,0,none⟩=some (.bool s2)/\wq.cell? ⟨bM,1,none⟩=some (.slice a2 n2 c2)/\wq.cell? ⟨bM,2,none⟩=some (.int .i64 e2))) :
  Code.wp Tryz.prog (Code.region 7 #[{dst:=some 53,op:=Op.move (Operand.tmp 0),type:=138,pos:= "reckoner.go:47",after:=#[],guard:=none},{dst:=some 54,op:=Op.load 128 (Operand.tmp 9),type:=128,pos:= "reckoner.go:47",after:=#[],guard:=none},{dst:=some 55,op:=Op.move (Operand.tmp 2),type:=3,pos:= "reckoner.go:47",after:=#[],guard:=none},{dst:=some 56,op:=Op.call {callee:=Callee.value (Operand.func 150),args:=#[Operand.tmp 53,Operand.tmp 54,Operand.tmp 55],argTypes:=#[138,128,3]},type:=130,pos:= "reckoner.go:47",after:=#[{on:=0,ground:=Ground.data},{on:=1,ground:=Ground.data},{on:=2,ground:=Ground.data}],guard:=none},{dst:=some 57,op:=Op.move (Operand.tmp 0),type:=138,pos:= "reckoner.go:47",after:=#[],guard:=none},{dst:=some 58,op:=Op.load 128 (Operand.tmp 10),type:=128,pos:= "reckoner.go:47",after:=#[],guard:=none},{dst:=some 59,op:=Op.move (Operand.tmp 2),type:=3,pos:= "reckoner.go:47",after:=#[],guard:=none},{dst:=some 60,op:=Op.call {callee:=Callee.value (Operand.func 150),args:=#[Operand.tmp 57,Operand.tmp 58,Operand.tmp 59],argTypes:=#[138,128,3]},type:=130,pos:= "reckoner.go:47",after:=#[{on:=4,ground:=Ground.data},{on:=5,ground:=Ground.data},{on:=6,ground:=Ground.data},{on:=3,ground:=Ground.chain}],guard:=none},{dst:=some 61,op:=Op.build 132 #[(0,Operand.tmp 56),(1,Operand.tmp 60)],type:=132,pos:= "reckoner.go:47",after:=#[{on:=3,ground:=Ground.data},{on:=7,ground:=Ground.data}],guard:=none},{dst:=none,op:=Op.store 132 (Operand.tmp 6) (Operand.tmp 61),type:=0,pos:= "reckoner.go:47",after:=#[{on:=8,ground:=Ground.data},{on:=7,ground:=Ground.chain},{on:=0,ground:=Ground.phase},{on:=1,ground:=Ground.phase},{on:=2,ground:=Ground.phase},{on:=3,ground:=Ground.phase},{on:=4,ground:=Ground.phase},{on:=5,ground:=Ground.phase},{on:=6,ground:=Ground.phase},{on:=7,ground:=Ground.phase},{on:=8,ground:=Ground.phase}],guard:=none}] true) (R125 t1 t3 t4 t5 t7 t8 t11 t12 t13 t14 t15 t16 t17 t18 t19 t20 t21 t22 t23 t24 t25 t26 t27 t28 t29 t30 t31 t32 t33 t34 t35 t36 t37 t38 t39 t40 t41 t42 t43 t44 t45 t46 t47 t48 t49 t50 t51 t52 t53 t54 t55 t56 t57 t58 t59 t60 t61 B bR bM bG P s1 a1 n1 c1 e1 s2 a2 n2 c2 e2 V1 V2 V3 V4 wq) {tmps:=#[.pointer (some ⟨B,0,none⟩),t1,.int .i64 (P:Int),t3,t4,t5,.pointer (some ⟨bG,0,none⟩),t7,t8,.pointer (some ⟨bR,0,none⟩),.pointer (some ⟨bM,0,none⟩),t11,t12,t13,t14,t15,t16,t17,t18,t19,t20,t21,t22,t23,t24,t25,t26,t27,t28,t29,t30,t31,t32,t33,t34,t35,t36,t37,t38,t39,t40,t41,t42,t43,t44,t45,t46,t47,t48,t49,t50,t51,t52,t53,t54,t55,t56,t57,t58,t59,t60,t61],defers:=[]} wq:=by
 have hS0:(wq.drew.cell? ⟨bR,0,none⟩=some (.bool s1)/\wq.drew.cell? ⟨bR,1,none⟩=some (.slice a1 n1 c1)/\wq.drew.cell? ⟨bR,2,none⟩=some (.int .i64 e1)/\wq.drew.cell? ⟨bM,0,none⟩=some (.bool s2)/\wq.drew.cell? ⟨bM,1,none⟩=some (.slice a2 n2 c2)/\wq.drew.cell? ⟨bM,2,none⟩=some (.int .i64 e2))/\Gx bG wq wq.drew:=⟨hcs,Gx.of_gr (Gr.refl wq).drew⟩
 have hbG0:wq.drew.heap[bG]? = some (.cells #[.bool false,.slice none 0 0,.int .i64 0,.bool false,.slice none 0 0,.int .i64 0,.bool false,.slice none 0 0,.int .i64 0,.bool false,.slice none 0 0,.int .i64 0] 132):=hbG
 have hg0:Gr wq wq.drew:=(Gr.refl wq).drew
 clear hcs
 refine wp_region_held_drew (S:=fun w'=>(w'.cell? ⟨bR,0,none⟩=some (.bool s1)/\w'.cell? ⟨bR,1,none⟩=some (.slice a1 n1 c1)/\w'.cell? ⟨bR,2,none⟩=some (.int .i64 e1)/\w'.cell? ⟨bM,0,none⟩=some (.bool s2)/\w'.cell? ⟨bM,1,none⟩=some (.slice a2 n2 c2)/\w'.cell? ⟨bM,2,none⟩=some (.int .i64 e2))/\Gx bG wq w') (by kernel_rfl) hS0 (fun hHeld=>?_)
 clear hS0
 generalize wq.drew=wd at *
 refine wpAnyH_take (i:=0) (oi:=_) (v:=?_) rfl (by kernel_rfl) (by kernel_rfl) (by kernel_rfl) (fun _ _ _ h=>h) (Or.inl ⟨by rfl,?_⟩) (by with_reducible assumption) ?_
 rotate_left
 ·intro w hSw
  (try dsimp only at hSw)
  first|(go_simp;done)|(go_simp;with_reducible rfl)
 (try simp only[Act.put,List.setIfInBounds_toArray,List.set_cons_zero,List.set_cons_succ])
 refine wpAnyH_take (i:=1) (oi:=_) (v:=?_) rfl (by kernel_rfl) (by kernel_rfl) (by kernel_rfl) (fun _ _ _ h=>h) (Or.inl ⟨by rfl,?_⟩) (by with_reducible assumption) ?_
 rotate_left
 ·intro w hSw
  (try dsimp only at hSw)
  first|(go_simp;done)|(go_simp;with_reducible rfl)
 (try simp only[Act.put,List.setIfInBounds_toArray,List.set_cons_zero,List.set_cons_succ])
 refine wpAnyH_take (i:=2) (oi:=_) (v:=?_) rfl (by kernel_rfl) (by kernel_rfl) (by kernel_rfl) (fun _ _ _ h=>h) (Or.inl ⟨by rfl,?_⟩) (by with_reducible assumption) ?_
 rotate_left
 ·intro w hSw
  (try dsimp only at hSw)
  first|(go_simp;done)|(go_simp;with_reducible rfl)
 (try simp only[Act.put,List.setIfInBounds_toArray,List.set_cons_zero,List.set_cons_succ])
 refine wpAnyH_take (i:=4) (oi:=_) (v:=?_) rfl (by kernel_rfl) (by kernel_rfl) (by kernel_rfl) (fun _ _ _ h=>h) (Or.inl ⟨by rfl,?_⟩) (by with_reducible assumption) ?_
 rotate_left
 ·intro w hSw
  (try dsimp only at hSw)
  first|(go_simp;done)|(go_simp;with_reducible rfl)
 (try simp only[Act.put,List.setIfInBounds_toArray,List.set_cons_zero,List.set_cons_succ])
 refine wpAnyH_take (i:=5) (oi:=_) (v:=?_) rfl (by kernel_rfl) (by kernel_rfl) (by kernel_rfl) (fun _ _ _ h=>h) (Or.inl ⟨by rfl,?_⟩) (by with_reducible assumption) ?_
 rotate_left
 ·intro w hSw
  (try dsimp only at hSw)
  first|(go_simp;done)|(go_simp;with_reducible rfl)
 (try simp only[Act.put,List.setIfInBounds_toArray,List.set_cons_zero,List.set_cons_succ])
 refine wpAnyH_take (i:=6) (oi:=_) (v:=?_) rfl (by kernel_rfl) (by kernel_rfl) (by kernel_rfl) (fun _ _ _ h=>h) (Or.inl ⟨by rfl,?_⟩) (by with_reducible assumption) ?_
 rotate_left
 ·intro w hSw
  (try dsimp only at hSw)
  first|(go_simp;done)|(go_simp;with_reducible rfl)
 (try simp only[Act.put,List.setIfInBounds_toArray,List.set_cons_zero,List.set_cons_succ])
 refine wpAnyH_ready (rs:=[3]) (by kernel_rfl) (by simp) ?_
 refine AllReadyH.cons (o:=_) rfl (fun K hK=>?_) AllReadyH.nil
 go_simp
 refine(A1.out _ hg0).mono ?_
 rintro r wc1 ⟨⟨_,rfl,s3,a3,n3,c3,e3,s4,a4,n4,c4,e4,rfl,d3_4,d4_5⟩,gg3⟩
 refine hK.out _ _ ⟨⟨gg3.keep hHeld.1.1,gg3.keep hHeld.1.2.1,gg3.keep hHeld.1.2.2.1,gg3.keep hHeld.1.2.2.2.1,gg3.keep hHeld.1.2.2.2.2.1,gg3.keep hHeld.1.2.2.2.2.2⟩,hHeld.2.trans (Gx.of_gr gg3)⟩ (fun hH2=>?_)
 clear hK K
 (try simp only[Act.put,List.setIfInBounds_toArray,List.set_cons_zero,List.set_cons_succ])
 have bG_6:=gg3.keepH hbG0
 clear hbG0
 have gq7:=hg0.trans gg3
 clear hg0
 refine wpAnyH_ready (rs:=[7]) (by kernel_rfl) (by simp) ?_
 refine AllReadyH.cons (o:=_) rfl (fun K hK=>?_) AllReadyH.nil
 go_simp
 refine(A2.out _ gq7).mono ?_
 rintro r wc8 ⟨⟨_,rfl,s5,a5,n5,c5,e5,s6,a6,n6,c6,e6,rfl,d5_11,d6_12⟩,gg10⟩
 refine hK.out _ _ ⟨⟨gg10.keep hH2.1.1,gg10.keep hH2.1.2.1,gg10.keep hH2.1.2.2.1,gg10.keep hH2.1.2.2.2.1,gg10.keep hH2.1.2.2.2.2.1,gg10.keep hH2.1.2.2.2.2.2⟩,hH2.2.trans (Gx.of_gr gg10)⟩ (fun hH9=>?_)
 clear hK K
 (try simp only[Act.put,List.setIfInBounds_toArray,List.set_cons_zero,List.set_cons_succ])
 have bG_13:=gg10.keepH bG_6
 clear bG_6
 have d3_14:=d3_4.gr gg10
 clear d3_4
 have d4_15:=d4_5.gr gg10
 clear d4_5
 have gq16:=gq7.trans gg10
 clear gq7
 refine wpAnyH_take (i:=8) (oi:=_) (v:=?_) rfl (by kernel_rfl) (by kernel_rfl) (by kernel_rfl) (fun _ _ _ h=>h) (Or.inl ⟨by rfl,?_⟩) (by with_reducible assumption) ?_
 rotate_left
 ·intro w hSw
  (try dsimp only at hSw)
  first|(go_simp;done)|(go_simp;with_reducible rfl)
 (try simp only[Act.put,List.setIfInBounds_toArray,List.set_cons_zero,List.set_cons_succ])
 refine wpAnyH_ready (rs:=[9]) (by kernel_rfl) (by simp) ?_
 refine AllReadyH.cons (o:=_) rfl (fun K hK=>?_) AllReadyH.nil
 obtain⟨x0',x1',x2',x3',x4',x5',x6',x7',x8',x9',x10',x11',y0',y1',y2',y3',y4',y5',y6',y7',y8',y9',y10',y11'⟩:=out12 bG_13
 go_simp
 refine hK.out _ _ ⟨⟨(gx12 _ _ _ _ _ _ _ _ _ _ _ _ _ _).keepc hne_bR hH9.1.1,(gx12 _ _ _ _ _ _ _ _ _ _ _ _ _ _).keepc hne_bR hH9.1.2.1,(gx12 _ _ _ _ _ _ _ _ _ _ _ _ _ _).keepc hne_bR hH9.1.2.2.1,(gx12 _ _ _ _ _ _ _ _ _ _ _ _ _ _).keepc hne_bM hH9.1.2.2.2.1,(gx12 _ _ _ _ _ _ _ _ _ _ _ _ _ _).keepc hne_bM hH9.1.2.2.2.2.1,(gx12 _ _ _ _ _ _ _ _ _ _ _ _ _ _).keepc hne_bM hH9.1.2.2.2.2.2⟩,hH9.2.trans (gx12 _ _ _ _ _ _ _ _ _ _ _ _ _ _)⟩ (fun hS17=>?_)
 clear hK K x0' x1' x2' x3' x4' x5' x6' x7' x8' x9' x10' x11' y0' y1' y2' y3' y4' y5' y6' y7' y8' y9' y10' y11'
 (try simp only[Act.put,List.setIfInBounds_toArray,List.set_cons_zero,List.set_cons_succ])
 refine wpAnyH_done (by kernel_rfl) ?_ _
 exact⟨_,_,_,_,_,_,_,_,_,_,_,_,_,_,_,_,_,_,_,_,_,_,_,_,_,_,_,_,_,rfl,putB12 bG_13 _ _ _ _ _ _ _ _ _ _ _ _,d3_14.gx (NoR.of bG_13 rfl) (gx12 _ _ _ _ _ _ _ _ _ _ _ _ _ _),d4_15.gx (NoR.of bG_13 rfl) (gx12 _ _ _ _ _ _ _ _ _ _ _ _ _ _),d5_11.gx (NoR.of bG_13 rfl) (gx12 _ _ _ _ _ _ _ _ _ _ _ _ _ _),d6_12.gx (NoR.of bG_13 rfl) (gx12 _ _ _ _ _ _ _ _ _ _ _ _ _ _),hS17.2⟩
end Go.Proofs.YtibckeckjfmbkaaGreatDoor
