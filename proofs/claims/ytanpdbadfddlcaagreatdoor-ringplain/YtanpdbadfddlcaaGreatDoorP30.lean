import Derived.Test.YtanpdbadfddlcaaGreatDoorP29
import Derived.Test.YtanpdbadfddlcaaGreatDoorP21
import Derived.Deep.RegionHeld3
import Derived.WalkMore
namespace Go.Proofs.YtanpdbadfddlcaaGreatDoor
open Go.RowKit
set_option linter.unusedVariables false
set_option linter.unusedSimpArgs false
set_option maxRecDepth 10000 in
set_option maxHeartbeats 1600000 in
theorem angFloat (B:Nat) (s1:Bool) (a1:Option Addr) (n1 c1:Nat) (e1:Int) (x:Nat) (w:World) (h:Rk w B)
  (FL:Hid (∀w1,Gr w w1->Calls Tryz.prog 144 #[.agg #[.bool s1,.slice a1 n1 c1,.int .i64 e1]] w1 fun r w'=>r = .returned (.tuple #[.float .f64 x,.int .i64 0])/\Gr w1 w')) :
  Calls Tryz.prog 142 #[.pointer (some ⟨B,0,none⟩),.agg #[.bool s1,.slice a1 n1 c1,.int .i64 e1]] w fun r w'=>r = .returned (.float .f64 x)/\Gr w w':=by
 have N:Hid (∀w1,Gr w w1->Calls Tryz.prog 145 #[.pointer (some ⟨B,0,none⟩),.int .i64 0] w1 fun r w'=>r = .returned (.tuple #[])/\w'=w1):=fun w1 g=>note B w1 (h.gr g)
 have g0:Hid _:=(Gr.refl w).alloc (.cells #[.bool s1,.slice a1 n1 c1,.int .i64 e1] 130)
 go_enter Tryz.func142,Tryz.ntmps142
 go_wp2_with (first
  | (go_at_call 144;(with_reducible refine(FL.out _ g0.out).mono ?_);rintro r w1 ⟨rfl,g1⟩)
  | (go_at_call 145;(with_reducible refine(N.out _ (g0.out.trans g1)).mono ?_);rintro r _ ⟨rfl,rfl⟩))
 go_ret
 exact⟨rfl,g0.out.trans g1⟩
def R73 (t0 t3 t4 t5 t6 t7 t8 t9 t10:Value) (B bI:Nat) (s1:Bool) (a1:Option Addr) (n1 c1:Nat) (e1:Int) (s2:Bool) (a2:Option Addr) (n2 c2:Nat) (e2:Int) (x:Nat) (wq:World):Exit->Act->World->Prop
 | .normal,a,w=>∃u4 u5 u6 u7 u8 u9 u10,a = {tmps:=#[t0,.pointer (some ⟨B,0,none⟩),.pointer (some ⟨bI,0,none⟩),.bool true,u4,u5,u6,u7,u8,u9,u10],defers:=[]}/\Gr wq w
 | _,_,_=>False
set_option maxRecDepth 100000 in
set_option maxHeartbeats 4000000 in
theorem reg73 (t0 t3 t4 t5 t6 t7 t8 t9 t10:Value) (B bI:Nat) (s1:Bool) (a1:Option Addr) (n1 c1:Nat) (e1:Int) (s2:Bool) (a2:Option Addr) (n2 c2:Nat) (e2:Int) (x:Nat) (wq:World) (hx:(FloatKind.f64.format.order x x==some Ordering.eq)=true)
  (CL:Hid (∀w1,Gr wq w1->Calls Tryz.prog 142 #[.pointer (some ⟨B,0,none⟩),.agg #[.bool s1,.slice a1 n1 c1,.int .i64 e1]] w1 fun r w'=>r = .returned (.float .f64 x)/\Gr w1 w'))
  (CH:Hid (∀w1,Gr wq w1->Calls Tryz.prog 142 #[.pointer (some ⟨B,0,none⟩),.agg #[.bool s2,.slice a2 n2 c2,.int .i64 e2]] w1 fun r w'=>r = .returned (.float .f64 x)/\Gr w1 w'))
  (hcs:(wq.cell? ⟨bI,0,none⟩=some (.bool s1)/\wq.cell? ⟨bI,1,none⟩=some (.slice a1 n1 c1)/\wq.cell? ⟨bI,2,none⟩=some (.int .i64 e1)/\wq.cell? ⟨bI,3,none⟩=some (.bool s2)/\wq.cell? ⟨bI,4,none⟩=some (.slice a2 n2 c2)/\wq.cell? ⟨bI,5,none⟩=some (.int .i64 e2))) :
  Code.wp Tryz.prog (Code.region 1 #[{dst:=some 4,op:=Op.fieldAddr 132 (Operand.tmp 2) 0,type:=0,pos:= "angle.go:35",after:=#[],guard:=none},{dst:=some 5,op:=Op.load 130 (Operand.tmp 4),type:=130,pos:= "angle.go:35",after:=#[{on:=0,ground:=Ground.data}],guard:=none},{dst:=some 6,op:=Op.call {callee:=Callee.value (Operand.func 142),args:=#[Operand.tmp 1,Operand.tmp 5],argTypes:=#[129,130]},type:=25,pos:= "angle.go:35",after:=#[{on:=1,ground:=Ground.data}],guard:=none},{dst:=some 7,op:=Op.fieldAddr 132 (Operand.tmp 2) 1,type:=0,pos:= "angle.go:35",after:=#[],guard:=none},{dst:=some 8,op:=Op.load 130 (Operand.tmp 7),type:=130,pos:= "angle.go:35",after:=#[{on:=3,ground:=Ground.data}],guard:=none},{dst:=some 9,op:=Op.call {callee:=Callee.value (Operand.func 142),args:=#[Operand.tmp 1,Operand.tmp 8],argTypes:=#[129,130]},type:=25,pos:= "angle.go:35",after:=#[{on:=4,ground:=Ground.data},{on:=2,ground:=Ground.chain}],guard:=none},{dst:=some 10,op:=Op.binOp BinOp.eql 25 (Operand.tmp 6) (Operand.tmp 9) 25,type:=4,pos:= "angle.go:35",after:=#[{on:=2,ground:=Ground.data},{on:=5,ground:=Ground.data}],guard:=none},{dst:=some 3,op:=Op.assign (Operand.tmp 10),type:=4,pos:= "angle.go:35",after:=#[{on:=6,ground:=Ground.data},{on:=5,ground:=Ground.chain},{on:=0,ground:=Ground.phase},{on:=1,ground:=Ground.phase},{on:=2,ground:=Ground.phase},{on:=3,ground:=Ground.phase},{on:=4,ground:=Ground.phase},{on:=5,ground:=Ground.phase},{on:=6,ground:=Ground.phase}],guard:=none}] true) (R73 t0 t3 t4 t5 t6 t7 t8 t9 t10 B bI s1 a1 n1 c1 e1 s2 a2 n2 c2 e2 x wq) {tmps:=#[t0,.pointer (some ⟨B,0,none⟩),.pointer (some ⟨bI,0,none⟩),t3,t4,t5,t6,t7,t8,t9,t10],defers:=[]} wq:=by
 have hS0:(wq.drew.cell? ⟨bI,0,none⟩=some (.bool s1)/\wq.drew.cell? ⟨bI,1,none⟩=some (.slice a1 n1 c1)/\wq.drew.cell? ⟨bI,2,none⟩=some (.int .i64 e1)/\wq.drew.cell? ⟨bI,3,none⟩=some (.bool s2)/\wq.drew.cell? ⟨bI,4,none⟩=some (.slice a2 n2 c2)/\wq.drew.cell? ⟨bI,5,none⟩=some (.int .i64 e2))/\Gr wq wq.drew:=⟨hcs,(Gr.refl wq).drew⟩
 clear hcs
 refine wp_region_held_drew (S:=fun w'=>(w'.cell? ⟨bI,0,none⟩=some (.bool s1)/\w'.cell? ⟨bI,1,none⟩=some (.slice a1 n1 c1)/\w'.cell? ⟨bI,2,none⟩=some (.int .i64 e1)/\w'.cell? ⟨bI,3,none⟩=some (.bool s2)/\w'.cell? ⟨bI,4,none⟩=some (.slice a2 n2 c2)/\w'.cell? ⟨bI,5,none⟩=some (.int .i64 e2))/\Gr wq w') (by kernel_rfl) hS0 (fun hHeld=>?_)
 clear hS0
 generalize wq.drew=wd at *
 refine wpAnyH_take (i:=0) (oi:=_) (v:=?_) rfl (by kernel_rfl) (by kernel_rfl) (by kernel_rfl) (fun _ _ _ h=>h) (Or.inl ⟨by rfl,?_⟩) (by with_reducible assumption) ?_
 rotate_left
 ·intro w hSw
  (try dsimp only at hSw)
  first|(go_simp;done)|(go_simp;with_reducible rfl)
 (try simp only[Act.put,List.setIfInBounds_toArray,List.set_cons_zero,List.set_cons_succ])
 refine wpAnyH_take (i:=1) (oi:=_) (v:=?_) rfl (by kernel_rfl) (by kernel_rfl) (by kernel_rfl) (fun _ _ _ h=>h) (Or.inl ⟨by rfl,?_⟩) (by with_reducible assumption) ?_
 rotate_left
 ·intro w hSw
  (try dsimp only at hSw)
  first|(go_simp;done)|(go_simp;with_reducible rfl)
 (try simp only[Act.put,List.setIfInBounds_toArray,List.set_cons_zero,List.set_cons_succ])
 refine wpAnyH_take (i:=3) (oi:=_) (v:=?_) rfl (by kernel_rfl) (by kernel_rfl) (by kernel_rfl) (fun _ _ _ h=>h) (Or.inl ⟨by rfl,?_⟩) (by with_reducible assumption) ?_
 rotate_left
 ·intro w hSw
  (try dsimp only at hSw)
  first|(go_simp;done)|(go_simp;with_reducible rfl)
 (try simp only[Act.put,List.setIfInBounds_toArray,List.set_cons_zero,List.set_cons_succ])
 refine wpAnyH_take (i:=4) (oi:=_) (v:=?_) rfl (by kernel_rfl) (by kernel_rfl) (by kernel_rfl) (fun _ _ _ h=>h) (Or.inl ⟨by rfl,?_⟩) (by with_reducible assumption) ?_
 rotate_left
 ·intro w hSw
  (try dsimp only at hSw)
  first|(go_simp;done)|(go_simp;with_reducible rfl)
 (try simp only[Act.put,List.setIfInBounds_toArray,List.set_cons_zero,List.set_cons_succ])
 refine wpAnyH_ready (rs:=[2]) (by kernel_rfl) (by simp) ?_
 refine AllReadyH.cons (o:=_) rfl (fun K hK=>?_) AllReadyH.nil
 go_simp
 with_reducible refine(CL.out _ hHeld.2).mono ?_
 rintro r wc1 ⟨rfl,gg3⟩
 refine hK.out _ _ ⟨⟨gg3.keep hHeld.1.1,gg3.keep hHeld.1.2.1,gg3.keep hHeld.1.2.2.1,gg3.keep hHeld.1.2.2.2.1,gg3.keep hHeld.1.2.2.2.2.1,gg3.keep hHeld.1.2.2.2.2.2⟩,hHeld.2.trans gg3⟩ (fun hH2=>?_)
 clear hK K
 (try simp only[Act.put,List.setIfInBounds_toArray,List.set_cons_zero,List.set_cons_succ])
 refine wpAnyH_ready (rs:=[5]) (by kernel_rfl) (by simp) ?_
 refine AllReadyH.cons (o:=_) rfl (fun K hK=>?_) AllReadyH.nil
 go_simp
 with_reducible refine(CH.out _ hH2.2).mono ?_
 rintro r wc4 ⟨rfl,gg6⟩
 refine hK.out _ _ ⟨⟨gg6.keep hH2.1.1,gg6.keep hH2.1.2.1,gg6.keep hH2.1.2.2.1,gg6.keep hH2.1.2.2.2.1,gg6.keep hH2.1.2.2.2.2.1,gg6.keep hH2.1.2.2.2.2.2⟩,hH2.2.trans gg6⟩ (fun hH5=>?_)
 clear hK K
 (try simp only[Act.put,List.setIfInBounds_toArray,List.set_cons_zero,List.set_cons_succ])
 refine wpAnyH_take (i:=6) (oi:=_) (v:=?_) rfl (by kernel_rfl) (by kernel_rfl) (by kernel_rfl) (fun _ _ _ h=>h) (Or.inl ⟨by rfl,?_⟩) (by with_reducible assumption) ?_
 rotate_left
 ·intro w hSw
  (try dsimp only at hSw)
  first|(go_simp;done)|(go_simp;with_reducible rfl)
 (try simp only[Act.put,List.setIfInBounds_toArray,List.set_cons_zero,List.set_cons_succ])
 refine wpAnyH_take (i:=7) (oi:=_) (v:=?_) rfl (by kernel_rfl) (by kernel_rfl) (by kernel_rfl) (fun _ _ _ h=>h) (Or.inl ⟨by rfl,?_⟩) (by with_reducible assumption) ?_
 rotate_left
 ·intro w hSw
  (try dsimp only at hSw)
  first|(go_simp;done)|(go_simp;with_reducible rfl)
 (try simp only[Act.put,List.setIfInBounds_toArray,List.set_cons_zero,List.set_cons_succ])
 refine wpAnyH_done (by kernel_rfl) ?_ _
 exact⟨_,_,_,_,_,_,_,rfl,hH5.2⟩
set_option maxRecDepth 10000 in
set_option maxHeartbeats 4000000 in
theorem alikeN (B:Nat) (s1:Bool) (a1:Option Addr) (n1 c1:Nat) (e1:Int) (s2:Bool) (a2:Option Addr) (n2 c2:Nat) (e2:Int) (x:Nat) (w:World) (h:Rk w B) (hx:(FloatKind.f64.format.order x x==some Ordering.eq)=true)
  (FA:Hid (∀w1,Gr w w1->Calls Tryz.prog 144 #[.agg #[.bool s1,.slice a1 n1 c1,.int .i64 e1]] w1 fun r w'=>r = .returned (.tuple #[.float .f64 x,.int .i64 0])/\Gr w1 w'))
  (FB:Hid (∀w1,Gr w w1->Calls Tryz.prog 144 #[.agg #[.bool s2,.slice a2 n2 c2,.int .i64 e2]] w1 fun r w'=>r = .returned (.tuple #[.float .f64 x,.int .i64 0])/\Gr w1 w')) :
  Calls Tryz.prog 141 #[.agg #[.bool s1,.slice a1 n1 c1,.int .i64 e1,.bool s2,.slice a2 n2 c2,.int .i64 e2],.pointer (some ⟨B,0,none⟩)] w fun r' w'=>r' = .returned (.bool true)/\Gr w w':=by
 have g0:Hid _:=(Gr.refl w).alloc (.cells #[.bool s1,.slice a1 n1 c1,.int .i64 e1,.bool s2,.slice a2 n2 c2,.int .i64 e2] 132)
 have kb0:Hid _:=new_at w (.cells #[.bool s1,.slice a1 n1 c1,.int .i64 e1,.bool s2,.slice a2 n2 c2,.int .i64 e2] 132)
 have CL:Hid (∀w1,Gr w w1->Calls Tryz.prog 142 #[.pointer (some ⟨B,0,none⟩),.agg #[.bool s1,.slice a1 n1 c1,.int .i64 e1]] w1 fun r w'=>r = .returned (.float .f64 x)/\Gr w1 w'):=fun w1 g=>angFloat B s1 a1 n1 c1 e1 x w1 (h.gr g) (fun w2 g2=>FA.out w2 (g.trans g2))
 have CH:Hid (∀w1,Gr w w1->Calls Tryz.prog 142 #[.pointer (some ⟨B,0,none⟩),.agg #[.bool s2,.slice a2 n2 c2,.int .i64 e2]] w1 fun r w'=>r = .returned (.float .f64 x)/\Gr w1 w'):=fun w1 g=>angFloat B s2 a2 n2 c2 e2 x w1 (h.gr g) (fun w2 g2=>FB.out w2 (g.trans g2))
 have hx':=hide hx
 clear h hx
 go_enter Tryz.func141,Tryz.ntmps141
 go_wp2_with (fail)
 obtain⟨x0,x1,x2,x3,x4,x5,y0,y1,y2,y3,y4,y5⟩:=out6 kb0.out
 refine Code.wp_mono ?_ (reg73 _ _ _ _ _ _ _ _ _ B w.heap.size s1 a1 n1 c1 e1 s2 a2 n2 c2 e2 x _ hx'.out (fun w1 g=>CL.out w1 (g0.out.trans g)) (fun w1 g=>CH.out w1 (g0.out.trans g)) ⟨x0,x1,x2,x3,x4,x5⟩)
 intro ex ac W hR
 cases ex
 case normal =>
  obtain⟨_,_,_,_,_,_,_,rfl,gW⟩:=hR
  go_wp2
  go_ret
  exact⟨rfl,g0.out.trans gW⟩
 all_goals exact hR.elim
set_option maxRecDepth 10000 in
set_option maxHeartbeats 8000000 in
theorem narrowN (B:Nat) (p bits L1 H1 L2 H2:Int) (w:World) (h:Rk w B)
  (X:Hid (∀w1,Gr w w1->Calls Tryz.prog 143 #[.pointer (some ⟨B,0,none⟩),.int .i64 p,.int .i64 bits] w1 fun r w'=>(∃v,r = .returned v/\Bv w' v L1 H1 L2 H2)/\Gr w1 w'))
  (Y:Hid (∀w1 s3 a3 n3 c3 e3 s4 a4 n4 c4 e4,Gr w w1->DyV w1 s3 a3 n3 c3 e3 L1->DyV w1 s4 a4 n4 c4 e4 H1->Calls Tryz.prog 141 #[.agg #[.bool s3,.slice a3 n3 c3,.int .i64 e3,.bool s4,.slice a4 n4 c4,.int .i64 e4],.pointer (some ⟨B,0,none⟩)] w1 fun r w'=>r = .returned (.bool true)/\Gr w1 w'))
  (Z:Hid (∀w1 s3 a3 n3 c3 e3 s4 a4 n4 c4 e4,Gr w w1->DyV w1 s3 a3 n3 c3 e3 L2->DyV w1 s4 a4 n4 c4 e4 H2->Calls Tryz.prog 141 #[.agg #[.bool s3,.slice a3 n3 c3,.int .i64 e3,.bool s4,.slice a4 n4 c4,.int .i64 e4],.pointer (some ⟨B,0,none⟩)] w1 fun r w'=>r = .returned (.bool true)/\Gr w1 w')) :
  Calls Tryz.prog 139 #[.pointer (some ⟨B,0,none⟩),.int .i64 p,.int .i64 bits,.func (.func 141) #[] #[.pointer (some ⟨B,0,none⟩)]] w fun r w'=>(∃v,r = .returned v/\Bv w' v L1 H1 L2 H2)/\Gr w w':=by
 have g0:Hid _:=gr2 (w:=w) (.cells #[.bool false,.slice none 0 0,.int .i64 0,.bool false,.slice none 0 0,.int .i64 0,.bool false,.slice none 0 0,.int .i64 0,.bool false,.slice none 0 0,.int .i64 0] 134) (.cells #[.bool false,.slice none 0 0,.int .i64 0,.bool false,.slice none 0 0,.int .i64 0,.bool false,.slice none 0 0,.int .i64 0,.bool false,.slice none 0 0,.int .i64 0] 134)
 have kb0:Hid _:=second_block w (.cells #[.bool false,.slice none 0 0,.int .i64 0,.bool false,.slice none 0 0,.int .i64 0,.bool false,.slice none 0 0,.int .i64 0,.bool false,.slice none 0 0,.int .i64 0] 134) (.cells #[.bool false,.slice none 0 0,.int .i64 0,.bool false,.slice none 0 0,.int .i64 0,.bool false,.slice none 0 0,.int .i64 0,.bool false,.slice none 0 0,.int .i64 0] 134)
 have ka0:Hid _:=((Gr.refl (w.alloc (.cells #[.bool false,.slice none 0 0,.int .i64 0,.bool false,.slice none 0 0,.int .i64 0,.bool false,.slice none 0 0,.int .i64 0,.bool false,.slice none 0 0,.int .i64 0] 134))).alloc (.cells #[.bool false,.slice none 0 0,.int .i64 0,.bool false,.slice none 0 0,.int .i64 0,.bool false,.slice none 0 0,.int .i64 0,.bool false,.slice none 0 0,.int .i64 0] 134)).keepH (new_at w (.cells #[.bool false,.slice none 0 0,.int .i64 0,.bool false,.slice none 0 0,.int .i64 0,.bool false,.slice none 0 0,.int .i64 0,.bool false,.slice none 0 0,.int .i64 0] 134))
 have hB:=lt_of_heap h
 go_enter Tryz.func139,Tryz.ntmps139
 go_wp2
 go_step3
 go_wp2
 go_step3
 go_wp2
 refine wp_loop_once ?_
 go_wp2_with (first
  | (go_at_call 143;(with_reducible refine(X.out _ g0.out).mono ?_);rintro r w1 ⟨⟨_,rfl,s3,a3,n3,c3,e3,s4,a4,n4,c4,e4,s5,a5,n5,c5,e5,s6,a6,n6,c6,e6,rfl,d3,d4,d5,d6⟩,g1⟩;have kb1:=g1.keepH kb0.out;have nr:=NoR.of kb1 rfl;have gx:=gx12 w1 (w.heap.size+1) (.bool s3) (.slice a3 n3 c3) (.int .i64 e3) (.bool s4) (.slice a4 n4 c4) (.int .i64 e4) (.bool s5) (.slice a5 n5 c5) (.int .i64 e5) (.bool s6) (.slice a6 n6 c6) (.int .i64 e6);obtain⟨x0,x1,x2,x3,x4,x5,x6,x7,x8,x9,x10,x11,y0,y1,y2,y3,y4,y5,y6,y7,y8,y9,y10,y11⟩:=out12 kb1;have rk:=gx.keepc (Nat.ne_of_lt (Nat.lt_succ_of_lt hB)) (g1.keep (g0.out.keep h.cell)))
  | fail)
 have kb2:=putB12 kb1 (.bool s3) (.slice a3 n3 c3) (.int .i64 e3) (.bool s4) (.slice a4 n4 c4) (.int .i64 e4) (.bool s5) (.slice a5 n5 c5) (.int .i64 e5) (.bool s6) (.slice a6 n6 c6) (.int .i64 e6)
 have D3:=d3.gx nr gx
 have D4:=d4.gx nr gx
 have D5:=d5.gx nr gx
 have D6:=d6.gx nr gx
 have G2:Hid (Gr w _):=gx.gr (Nat.le_succ _) (g0.out.trans g1)
 have ka2:=gx.keepH (Nat.ne_of_lt (Nat.lt_succ_self _)) (g1.keepH ka0.out)
 clear x0 x1 x2 x3 x4 x5 x6 x7 x8 x9 x10 x11 y0 y1 y2 y3 y4 y5 y6 y7 y8 y9 y10 y11 rk nr gx d3 d4 d5 d6 kb1
 generalize ((((((((((((w1.setCell ⟨w.heap.size+1,0,none⟩ (.bool s3)).setCell ⟨w.heap.size+1,1,none⟩ (.slice a3 n3 c3)).setCell ⟨w.heap.size+1,2,none⟩ (.int .i64 e3)).setCell ⟨w.heap.size+1,3,none⟩ (.bool s4)).setCell ⟨w.heap.size+1,4,none⟩ (.slice a4 n4 c4)).setCell ⟨w.heap.size+1,5,none⟩ (.int .i64 e4)).setCell ⟨w.heap.size+1,6,none⟩ (.bool s5)).setCell ⟨w.heap.size+1,7,none⟩ (.slice a5 n5 c5)).setCell ⟨w.heap.size+1,8,none⟩ (.int .i64 e5)).setCell ⟨w.heap.size+1,9,none⟩ (.bool s6)).setCell ⟨w.heap.size+1,10,none⟩ (.slice a6 n6 c6)).setCell ⟨w.heap.size+1,11,none⟩ (.int .i64 e6))=w2 at *
 refine(Y.out w2 _ _ _ _ _ _ _ _ _ _ G2.out D3 D4).mono ?_
 rintro r w3 ⟨rfl,g3⟩
 obtain⟨x0,x1,x2,x3,x4,x5,x6,x7,x8,x9,x10,x11,-⟩:=out12 (g3.keepH kb2)
 go_wp2_with (first
  | (go_at_call 141;(with_reducible refine(Z.out _ _ _ _ _ _ _ _ _ _ _ (G2.out.trans g3) (D5.gr g3) (D6.gr g3)).mono ?_);rintro r w4 ⟨rfl,g4⟩;have ka4:=g4.keepH (g3.keepH ka2);have nr:=NoR.of ka4 rfl;obtain⟨z0,z1,z2,z3,z4,z5,z6,z7,z8,z9,z10,z11,-⟩:=out12 (g4.keepH (g3.keepH kb2));obtain⟨x0',x1',x2',x3',x4',x5',x6',x7',x8',x9',x10',x11',y0,y1,y2,y3,y4,y5,y6,y7,y8,y9,y10,y11⟩:=out12 ka4))
 rw[Exit.noGoto_ret]
 refine bodyPost_ret (v:=.agg #[.bool s3,.slice a3 n3 c3,.int .i64 e3,.bool s4,.slice a4 n4 c4,.int .i64 e4,.bool s5,.slice a5 n5 c5,.int .i64 e5,.bool s6,.slice a6 n6 c6,.int .i64 e6]) ?_ rfl ⟨⟨_,rfl,_,_,_,_,_,_,_,_,_,_,_,_,_,_,_,_,_,_,_,_,rfl,((D3.gr g3).gr g4).gx nr (gx12 _ _ _ _ _ _ _ _ _ _ _ _ _ _),((D4.gr g3).gr g4).gx nr (gx12 _ _ _ _ _ _ _ _ _ _ _ _ _ _),((D5.gr g3).gr g4).gx nr (gx12 _ _ _ _ _ _ _ _ _ _ _ _ _ _),((D6.gr g3).gr g4).gx nr (gx12 _ _ _ _ _ _ _ _ _ _ _ _ _ _)⟩,(gx12 _ _ _ _ _ _ _ _ _ _ _ _ _ _).gr (Nat.le_refl _) ((G2.out.trans g3).trans g4)⟩
 simp[results,Tryz.results139,go_sem,x0',x1',x2',x3',x4',x5',x6',x7',x8',x9',x10',x11']
def R305 (t0 t1 t2 t3 t4 t5 t8 t9 t10 t11 t12 t13 t14 t15 t16 t17 t18 t19 t20 t21 t22 t23 t24 t25 t26 t27 t28 t29 t30 t31:Value) (B bN:Nat) (s1:Bool) (a1:Option Addr) (n1 c1:Nat) (e1:Int) (s2:Bool) (a2:Option Addr) (n2 c2:Nat) (e2:Int) (x y:Nat) (wq:World):Exit->Act->World->Prop
 | .normal,a,w=>∃u17 u18 u19 u20 u21 u22 u23 u24 u25,a = {tmps:=#[t0,t1,t2,t3,t4,t5,.pointer (some ⟨B,0,none⟩),.pointer (some ⟨bN,0,none⟩),.complex .f64 x y,t9,t10,t11,t12,t13,t14,t15,t16,u17,u18,u19,u20,u21,u22,u23,u24,u25,t26,t27,t28,t29,t30,t31],defers:=[]}/\Gr wq w
 | _,_,_=>False
set_option maxRecDepth 100000 in
set_option maxHeartbeats 4000000 in
theorem reg305 (t0 t1 t2 t3 t4 t5 t8 t9 t10 t11 t12 t13 t14 t15 t16 t17 t18 t19 t20 t21 t22 t23 t24 t25 t26 t27 t28 t29 t30 t31:Value) (B bN:Nat) (s1:Bool) (a1:Option Addr) (n1 c1:Nat) (e1:Int) (s2:Bool) (a2:Option Addr) (n2 c2:Nat) (e2:Int) (x y:Nat) (wq:World)
  (CL:Hid (∀w1,Gr wq w1->Calls Tryz.prog 142 #[.pointer (some ⟨B,0,none⟩),.agg #[.bool s1,.slice a1 n1 c1,.int .i64 e1]] w1 fun r w'=>r = .returned (.float .f64 x)/\Gr w1 w'))
  (CH:Hid (∀w1,Gr wq w1->Calls Tryz.prog 142 #[.pointer (some ⟨B,0,none⟩),.agg #[.bool s2,.slice a2 n2 c2,.int .i64 e2]] w1 fun r w'=>r = .returned (.float .f64 y)/\Gr w1 w'))
  (hcs:(wq.cell? ⟨bN,0,none⟩=some (.bool s1)/\wq.cell? ⟨bN,1,none⟩=some (.slice a1 n1 c1)/\wq.cell? ⟨bN,2,none⟩=some (.int .i64 e1)/\wq.cell? ⟨bN,6,none⟩=some (.bool s2)/\wq.cell? ⟨bN,7,none⟩=some (.slice a2 n2 c2)/\wq.cell? ⟨bN,8,none⟩=some (.int .i64 e2))) :
  Code.wp Tryz.prog (Code.region 5 #[{dst:=some 17,op:=Op.fieldAddr 134 (Operand.tmp 7) 0,type:=0,pos:= "angle.go:37",after:=#[],guard:=none},{dst:=some 18,op:=Op.fieldAddr 132 (Operand.tmp 17) 0,type:=0,pos:= "angle.go:37",after:=#[{on:=0,ground:=Ground.data}],guard:=none},{dst:=some 19,op:=Op.load 130 (Operand.tmp 18),type:=130,pos:= "angle.go:37",after:=#[{on:=1,ground:=Ground.data}],guard:=none},{dst:=some 20,op:=Op.call {callee:=Callee.value (Operand.func 142),args:=#[Operand.tmp 6,Operand.tmp 19],argTypes:=#[129,130]},type:=25,pos:= "angle.go:37",after:=#[{on:=2,ground:=Ground.data}],guard:=none},{dst:=some 21,op:=Op.fieldAddr 134 (Operand.tmp 7) 1,type:=0,pos:= "angle.go:37",after:=#[],guard:=none},{dst:=some 22,op:=Op.fieldAddr 132 (Operand.tmp 21) 0,type:=0,pos:= "angle.go:37",after:=#[{on:=4,ground:=Ground.data}],guard:=none},{dst:=some 23,op:=Op.load 130 (Operand.tmp 22),type:=130,pos:= "angle.go:37",after:=#[{on:=5,ground:=Ground.data}],guard:=none},{dst:=some 24,op:=Op.call {callee:=Callee.value (Operand.func 142),args:=#[Operand.tmp 6,Operand.tmp 23],argTypes:=#[129,130]},type:=25,pos:= "angle.go:37",after:=#[{on:=6,ground:=Ground.data},{on:=3,ground:=Ground.chain}],guard:=none},{dst:=some 25,op:=Op.call {callee:=Callee.builtin Builtin.complex,args:=#[Operand.tmp 20,Operand.tmp 24],argTypes:=#[25,25]},type:=76,pos:= "angle.go:37",after:=#[{on:=3,ground:=Ground.data},{on:=7,ground:=Ground.data}],guard:=none},{dst:=some 8,op:=Op.assign (Operand.tmp 25),type:=76,pos:= "angle.go:37",after:=#[{on:=8,ground:=Ground.data},{on:=7,ground:=Ground.chain},{on:=0,ground:=Ground.phase},{on:=1,ground:=Ground.phase},{on:=2,ground:=Ground.phase},{on:=3,ground:=Ground.phase},{on:=4,ground:=Ground.phase},{on:=5,ground:=Ground.phase},{on:=6,ground:=Ground.phase},{on:=7,ground:=Ground.phase},{on:=8,ground:=Ground.phase}],guard:=none}] true) (R305 t0 t1 t2 t3 t4 t5 t8 t9 t10 t11 t12 t13 t14 t15 t16 t17 t18 t19 t20 t21 t22 t23 t24 t25 t26 t27 t28 t29 t30 t31 B bN s1 a1 n1 c1 e1 s2 a2 n2 c2 e2 x y wq) {tmps:=#[t0,t1,t2,t3,t4,t5,.pointer (some ⟨B,0,none⟩),.pointer (some ⟨bN,0,none⟩),t8,t9,t10,t11,t12,t13,t14,t15,t16,t17,t18,t19,t20,t21,t22,t23,t24,t25,t26,t27,t28,t29,t30,t31],defers:=[]} wq:=by
 have hS0:(wq.drew.cell? ⟨bN,0,none⟩=some (.bool s1)/\wq.drew.cell? ⟨bN,1,none⟩=some (.slice a1 n1 c1)/\wq.drew.cell? ⟨bN,2,none⟩=some (.int .i64 e1)/\wq.drew.cell? ⟨bN,6,none⟩=some (.bool s2)/\wq.drew.cell? ⟨bN,7,none⟩=some (.slice a2 n2 c2)/\wq.drew.cell? ⟨bN,8,none⟩=some (.int .i64 e2))/\Gr wq wq.drew:=⟨hcs,(Gr.refl wq).drew⟩
 clear hcs
 refine wp_region_held_drew (S:=fun w'=>(w'.cell? ⟨bN,0,none⟩=some (.bool s1)/\w'.cell? ⟨bN,1,none⟩=some (.slice a1 n1 c1)/\w'.cell? ⟨bN,2,none⟩=some (.int .i64 e1)/\w'.cell? ⟨bN,6,none⟩=some (.bool s2)/\w'.cell? ⟨bN,7,none⟩=some (.slice a2 n2 c2)/\w'.cell? ⟨bN,8,none⟩=some (.int .i64 e2))/\Gr wq w') (by kernel_rfl) hS0 (fun hHeld=>?_)
 clear hS0
 generalize wq.drew=wd at *
 refine wpAnyH_take (i:=0) (oi:=_) (v:=?_) rfl (by kernel_rfl) (by kernel_rfl) (by kernel_rfl) (fun _ _ _ h=>h) (Or.inl ⟨by rfl,?_⟩) (by with_reducible assumption) ?_
 rotate_left
 ·intro w hSw
  (try dsimp only at hSw)
  first|(go_simp;done)|(go_simp;with_reducible rfl)
 (try simp only[Act.put,List.setIfInBounds_toArray,List.set_cons_zero,List.set_cons_succ])
 refine wpAnyH_take (i:=1) (oi:=_) (v:=?_) rfl (by kernel_rfl) (by kernel_rfl) (by kernel_rfl) (fun _ _ _ h=>h) (Or.inl ⟨by rfl,?_⟩) (by with_reducible assumption) ?_
 rotate_left
 ·intro w hSw
  (try dsimp only at hSw)
  first|(go_simp;done)|(go_simp;with_reducible rfl)
 (try simp only[Act.put,List.setIfInBounds_toArray,List.set_cons_zero,List.set_cons_succ])
 refine wpAnyH_take (i:=2) (oi:=_) (v:=?_) rfl (by kernel_rfl) (by kernel_rfl) (by kernel_rfl) (fun _ _ _ h=>h) (Or.inl ⟨by rfl,?_⟩) (by with_reducible assumption) ?_
 rotate_left
 ·intro w hSw
  (try dsimp only at hSw)
  first|(go_simp;done)|(go_simp;with_reducible rfl)
 (try simp only[Act.put,List.setIfInBounds_toArray,List.set_cons_zero,List.set_cons_succ])
 refine wpAnyH_take (i:=4) (oi:=_) (v:=?_) rfl (by kernel_rfl) (by kernel_rfl) (by kernel_rfl) (fun _ _ _ h=>h) (Or.inl ⟨by rfl,?_⟩) (by with_reducible assumption) ?_
 rotate_left
 ·intro w hSw
  (try dsimp only at hSw)
  first|(go_simp;done)|(go_simp;with_reducible rfl)
 (try simp only[Act.put,List.setIfInBounds_toArray,List.set_cons_zero,List.set_cons_succ])
 refine wpAnyH_take (i:=5) (oi:=_) (v:=?_) rfl (by kernel_rfl) (by kernel_rfl) (by kernel_rfl) (fun _ _ _ h=>h) (Or.inl ⟨by rfl,?_⟩) (by with_reducible assumption) ?_
 rotate_left
 ·intro w hSw
  (try dsimp only at hSw)
  first|(go_simp;done)|(go_simp;with_reducible rfl)
 (try simp only[Act.put,List.setIfInBounds_toArray,List.set_cons_zero,List.set_cons_succ])
 refine wpAnyH_take (i:=6) (oi:=_) (v:=?_) rfl (by kernel_rfl) (by kernel_rfl) (by kernel_rfl) (fun _ _ _ h=>h) (Or.inl ⟨by rfl,?_⟩) (by with_reducible assumption) ?_
 rotate_left
 ·intro w hSw
  (try dsimp only at hSw)
  first|(go_simp;done)|(go_simp;with_reducible rfl)
 (try simp only[Act.put,List.setIfInBounds_toArray,List.set_cons_zero,List.set_cons_succ])
 refine wpAnyH_ready (rs:=[3]) (by kernel_rfl) (by simp) ?_
 refine AllReadyH.cons (o:=_) rfl (fun K hK=>?_) AllReadyH.nil
 go_simp
 with_reducible refine(CL.out _ hHeld.2).mono ?_
 rintro r wc1 ⟨rfl,gg3⟩
 refine hK.out _ _ ⟨⟨gg3.keep hHeld.1.1,gg3.keep hHeld.1.2.1,gg3.keep hHeld.1.2.2.1,gg3.keep hHeld.1.2.2.2.1,gg3.keep hHeld.1.2.2.2.2.1,gg3.keep hHeld.1.2.2.2.2.2⟩,hHeld.2.trans gg3⟩ (fun hH2=>?_)
 clear hK K
 (try simp only[Act.put,List.setIfInBounds_toArray,List.set_cons_zero,List.set_cons_succ])
 refine wpAnyH_ready (rs:=[7]) (by kernel_rfl) (by simp) ?_
 refine AllReadyH.cons (o:=_) rfl (fun K hK=>?_) AllReadyH.nil
 go_simp
 with_reducible refine(CH.out _ hH2.2).mono ?_
 rintro r wc4 ⟨rfl,gg6⟩
 refine hK.out _ _ ⟨⟨gg6.keep hH2.1.1,gg6.keep hH2.1.2.1,gg6.keep hH2.1.2.2.1,gg6.keep hH2.1.2.2.2.1,gg6.keep hH2.1.2.2.2.2.1,gg6.keep hH2.1.2.2.2.2.2⟩,hH2.2.trans gg6⟩ (fun hH5=>?_)
 clear hK K
 (try simp only[Act.put,List.setIfInBounds_toArray,List.set_cons_zero,List.set_cons_succ])
 refine wpAnyH_ready (rs:=[8]) (by kernel_rfl) (by simp) ?_
 refine AllReadyH.cons (o:=_) rfl (fun K hK=>?_) AllReadyH.nil
 go_simp
 refine hK.out _ _ hH5 (fun hH7=>?_)
 clear hK K
 (try simp only[Act.put,List.setIfInBounds_toArray,List.set_cons_zero,List.set_cons_succ])
 refine wpAnyH_take (i:=9) (oi:=_) (v:=?_) rfl (by kernel_rfl) (by kernel_rfl) (by kernel_rfl) (fun _ _ _ h=>h) (Or.inl ⟨by rfl,?_⟩) (by with_reducible assumption) ?_
 rotate_left
 ·intro w hSw
  (try dsimp only at hSw)
  first|(go_simp;done)|(go_simp;with_reducible rfl)
 (try simp only[Act.put,List.setIfInBounds_toArray,List.set_cons_zero,List.set_cons_succ])
 refine wpAnyH_done (by kernel_rfl) ?_ _
 exact⟨_,_,_,_,_,_,_,_,_,rfl,hH7.2⟩
set_option maxRecDepth 10000 in
set_option maxHeartbeats 8000000 in
theorem angNear (o:Nat) (st p L1 H1 L2 H2:Int) (x y:Nat) (w:World) (ho:o<=14) (hp:(st*((2 ^ (14-o):Nat):Int)) % 16384=p)
  (hx:(FloatKind.f64.format.order x x==some Ordering.eq)=true) (hy:(FloatKind.f64.format.order y y==some Ordering.eq)=true)
  (X:Hid (∀B w1,Gr w w1->Rk w1 B->Calls Tryz.prog 143 #[.pointer (some ⟨B,0,none⟩),.int .i64 p,.int .i64 96] w1 fun r w'=>(∃v,r = .returned v/\Bv w' v L1 H1 L2 H2)/\Gr w1 w'))
  (A1:Hid (∀w1 s ad n cap e,Gr w w1->DyV w1 s ad n cap e L1->Calls Tryz.prog 144 #[.agg #[.bool s,.slice ad n cap,.int .i64 e]] w1 fun r w'=>r = .returned (.tuple #[.float .f64 x,.int .i64 0])/\Gr w1 w')) (A2:Hid (∀w1 s ad n cap e,Gr w w1->DyV w1 s ad n cap e H1->Calls Tryz.prog 144 #[.agg #[.bool s,.slice ad n cap,.int .i64 e]] w1 fun r w'=>r = .returned (.tuple #[.float .f64 x,.int .i64 0])/\Gr w1 w')) (A3:Hid (∀w1 s ad n cap e,Gr w w1->DyV w1 s ad n cap e L2->Calls Tryz.prog 144 #[.agg #[.bool s,.slice ad n cap,.int .i64 e]] w1 fun r w'=>r = .returned (.tuple #[.float .f64 y,.int .i64 0])/\Gr w1 w')) (A4:Hid (∀w1 s ad n cap e,Gr w w1->DyV w1 s ad n cap e H2->Calls Tryz.prog 144 #[.agg #[.bool s,.slice ad n cap,.int .i64 e]] w1 fun r w'=>r = .returned (.tuple #[.float .f64 y,.int .i64 0])/\Gr w1 w')) :
  Calls Tryz.prog 134 #[.int .i64 (o:Int),.int .i64 st] w fun r w'=>r = .returned (.tuple #[.complex .f64 x y,.int .i64 0])/\Gr w w':=by
 have g0:Hid _:=(Gr.refl w).alloc (.cells #[.int .i64 0] 129)
 have RK:Rk (w.alloc (.cells #[.int .i64 0] 129)) w.heap.size:=new_at w (.cells #[.int .i64 0] 129)
 have RO:Hid (∀w1,Calls Tryz.prog 138 #[.int .i64 (o:Int)] w1 fun r w'=>r = .returned (.bool true)/\w'=w1):=fun w1=>by
  have:=rightOrder (o:Int) w1
  rwa [decide_eq_true (by omega)] at this
 have PO:Hid (∀w1,Calls Tryz.prog 140 #[.int .i64 (o:Int),.int .i64 st] w1 fun r w'=>r = .returned (.int .i64 p)/\w'=w1):=fun w1=>by
  have:=placeOf o st w1 ho
  rwa [hp] at this
 have NA:Hid (∀w1,Gr (w.alloc (.cells #[.int .i64 0] 129)) w1->Calls Tryz.prog 139 #[.pointer (some ⟨w.heap.size,0,none⟩),.int .i64 p,.int .i64 96,.func (.func 141) #[] #[.pointer (some ⟨w.heap.size,0,none⟩)]] w1 fun r w'=>(∃v,r = .returned v/\Bv w' v L1 H1 L2 H2)/\Gr w1 w'):=fun w1 g=>by
  refine narrowN w.heap.size p _ L1 H1 L2 H2 w1 (RK.gr g) (fun w2 h2=>X.out _ w2 (g0.out.trans (g.trans h2)) (RK.gr (g.trans h2))) (fun w2 s3 a3 n3 c3 e3 s4 a4 n4 c4 e4 h2 d3 d4=>?_) (fun w2 s3 a3 n3 c3 e3 s4 a4 n4 c4 e4 h2 d3 d4=>?_)
  ·exact alikeN _ s3 a3 n3 c3 e3 s4 a4 n4 c4 e4 x w2 (RK.gr (g.trans h2)) hx (fun w3 h3=>A1.out w3 _ _ _ _ _ (g0.out.trans ((g.trans h2).trans h3)) (d3.gr h3)) (fun w3 h3=>A2.out w3 _ _ _ _ _ (g0.out.trans ((g.trans h2).trans h3)) (d4.gr h3))
  ·exact alikeN _ s3 a3 n3 c3 e3 s4 a4 n4 c4 e4 y w2 (RK.gr (g.trans h2)) hy (fun w3 h3=>A3.out w3 _ _ _ _ _ (g0.out.trans ((g.trans h2).trans h3)) (d3.gr h3)) (fun w3 h3=>A4.out w3 _ _ _ _ _ (g0.out.trans ((g.trans h2).trans h3)) (d4.gr h3))
 have rk0:=hide RK
 clear RK X A2 A4 hx hy
 go_enter Tryz.func134,Tryz.ntmps134
 go_wp2_with (first
  | (go_at_call 138;(with_reducible refine(RO.out _).mono ?_);rintro r wz ⟨rfl,hwz⟩;have hz:=hwz.symm;clear hwz;subst hz)
  | (go_at_call 140;(with_reducible refine(PO.out _).mono ?_);rintro r wz ⟨rfl,hwz⟩;have hz:=hwz.symm;clear hwz;subst hz)
  | (go_at_call 139;(with_reducible refine(NA.out _ (Gr.refl _)).mono ?_);rintro r w1 ⟨⟨_,rfl,s3,a3,n3,c3,e3,s4,a4,n4,c4,e4,s5,a5,n5,c5,e5,s6,a6,n6,c6,e6,rfl,d3,d4,d5,d6⟩,g1⟩))
 have g2:=(Gr.refl w1).alloc (.cells #[.bool s3,.slice a3 n3 c3,.int .i64 e3,.bool s4,.slice a4 n4 c4,.int .i64 e4,.bool s5,.slice a5 n5 c5,.int .i64 e5,.bool s6,.slice a6 n6 c6,.int .i64 e6] 134)
 have q2:=new_at w1 (.cells #[.bool s3,.slice a3 n3 c3,.int .i64 e3,.bool s4,.slice a4 n4 c4,.int .i64 e4,.bool s5,.slice a5 n5 c5,.int .i64 e5,.bool s6,.slice a6 n6 c6,.int .i64 e6] 134)
 have D3:=d3.gr g2
 have D5:=d5.gr g2
 have G1:=g1.trans g2
 have rk2:=rk0.out.gr G1
 generalize w1.alloc (.cells #[.bool s3,.slice a3 n3 c3,.int .i64 e3,.bool s4,.slice a4 n4 c4,.int .i64 e4,.bool s5,.slice a5 n5 c5,.int .i64 e5,.bool s6,.slice a6 n6 c6,.int .i64 e6] 134)=w2 at *
 obtain⟨x0,x1,x2,x3,x4,x5,x6,x7,x8,x9,x10,x11,-⟩:=out12 q2
 refine Code.wp_mono ?_ (reg305 _ _ _ _ _ _ _ _ _ _ _ _ _ _ _ _ _ _ _ _ _ _ _ _ _ _ _ _ _ _ w.heap.size w1.heap.size s3 a3 n3 c3 e3 s5 a5 n5 c5 e5 x y w2 (fun w3 g=>angFloat _ s3 a3 n3 c3 e3 x w3 (rk2.gr g) (fun w4 g4=>A1.out w4 _ _ _ _ _ ((g0.out.trans G1).trans (g.trans g4)) (D3.gr (g.trans g4)))) (fun w3 g=>angFloat _ s5 a5 n5 c5 e5 y w3 (rk2.gr g) (fun w4 g4=>A3.out w4 _ _ _ _ _ ((g0.out.trans G1).trans (g.trans g4)) (D5.gr (g.trans g4)))) ⟨x0,x1,x2,x6,x7,x8⟩)
 intro ex ac W hR
 cases ex
 case normal =>
  obtain⟨_,_,_,_,_,_,_,_,_,rfl,gW⟩:=hR
  have rkW:=(rk2.gr gW).cell
  go_wp2
  exact bodyPost_ret (results_tmp2 (by rfl) _ _ _) rfl ⟨rfl,(g0.out.trans G1).trans gW⟩
 all_goals exact hR.elim
end Go.Proofs.YtanpdbadfddlcaaGreatDoor
namespace Go.Proofs.YtanpdbadfddlcaaGreatDoor
open Go.RowKit
open Ieee
set_option linter.unusedVariables false
def nsq (n:Nat):Nat->Nat->Nat
 | 0,x=>x
 | f+1,x=>let y:=(x+n / x) / 2;if y<x then nsq n f y else x
def sqN (n:Nat):Nat:=nsq n 40 (2 ^ (n.log2 / 2+1))
def isRoot (n r:Nat):Bool:=decide (r*r<=n) && decide (n<(r+1)*(r+1))
theorem dyv_is {w:World} {s:Bool} {ad:Option Addr} {n cap:Nat} {e V:Int} (d:DyV w s ad n cap e V) {t:Bool} {y:Nat} {f:Int} (hy:(y=0/\t=false/\f=0)\/(∃q,y=2*q+1/\-1048576<=f/\f<=1048576)) (hV:sv KK t y f=V):s=t/\e=f/\DyAt w s ad n cap e y:=by
 obtain⟨x,dx,hx⟩:=d
 obtain⟨h1,h2,h3⟩:=sv_one dx.right hy (hx.trans hV.symm)
 exact⟨h1,h3,h2 ▸ dx⟩
theorem lim_succ {w:World} {ad:Option Addr} {n cap x:Nat} (h:Lim w ad n cap 18446744073709551616 x) (h0:0<x):∃m,n=m+1:=by
 obtain⟨ys,ry,dy⟩:=h
 refine⟨n-1,?_⟩
 have:¬n=0:=fun hz=>by
  have h1:ys.length=0:=by rw[ry.len,hz]
  have:=(dy.zero_iff (by omega)).1 h1
  omega
 omega
theorem float_zero (s:Bool) (ad:Option Addr) (n cap:Nat) (e:Int) (w:World) (d:DyV w s ad n cap e 0):Calls Tryz.prog 144 #[.agg #[.bool s,.slice ad n cap,.int .i64 e]] w fun r w'=>r = .returned (.tuple #[.float .f64 0,.int .i64 0])/\Gr w w':=by
 obtain⟨rfl,rfl,dx⟩:=dyv_is d (t:=false) (y:=0) (f:=0) (Or.inl ⟨rfl,rfl,rfl⟩) (sv_zero _ _ _)
 have hn:n=0:=by
  obtain⟨ys,ry,dy⟩:=dx.lim
  have:=(dy.zero_iff (by omega)).2 rfl
  rw[ry.len] at this
  exact this
 subst hn
 exact Fl.float_z false ad cap 0 w dx.r26
theorem bl_one:bl 1=1:=bl_unique (by omega) (by omega)
theorem un_sv (t:Bool) (C P:Nat) (hP:P<=1000000):sv KK t C (-(P:Int))=(if t then -(C:Int) else (C:Int))*Un P:=by
 have hk:=KK_eq
 have hn:KK=(KN:Int):=rfl
 unfold sv Un
 rw[show(-(P:Int)+KK).toNat=KN-P by omega]
 cases t
 ·simp
 ·simp[Int.neg_mul]
theorem float_one (t:Bool) (s:Bool) (ad:Option Addr) (n cap:Nat) (e:Int) (w:World) (d:DyV w s ad n cap e ((if t then -1 else 1)*Un 0)):Calls Tryz.prog 144 #[.agg #[.bool s,.slice ad n cap,.int .i64 e]] w fun r w'=>r = .returned (.tuple #[.float .f64 (Fl.W t 4607182418800017408),.int .i64 0])/\Gr w w':=by
 obtain⟨rfl,rfl,dx⟩:=dyv_is d (t:=t) (y:=1) (f:=0) (Or.inr ⟨0,rfl,by omega,by omega⟩) (un_sv t 1 0 (by omega))
 obtain⟨m,rfl⟩:=lim_succ dx.lim (by omega)
 have:=(Fl.float_num s ad m cap 1 4503599627370496 1022 0 (-52) w dx (by omega) (by rw[bl_one];decide) (by omega) (by omega) (Or.inr (Nat.le_refl _)) (by omega) (fun w1 g=>nearest48z ad (m+1) cap 1 52 _ w1 (dx.lim.gr g) (by have:=dx.le;omega) (by omega) (by omega) (by omega) (by omega))).1 (by omega)
 exact this
theorem nearQ (o:Nat) (st p q:Int) (x y:Nat) (w:World) (hT:TabAt 2 Lib.deBruijn64tab w) (ho:o<=14) (hp:(st*((2 ^ (14-o):Nat):Int)) % 16384=p) (h0:0<=p) (h1:p<16384) (hm:p % 4096=0) (hd:p / 4096=q)
  (hx:(FloatKind.f64.format.order x x==some Ordering.eq)=true) (hy:(FloatKind.f64.format.order y y==some Ordering.eq)=true)
  (FX:∀w1 s ad n cap e,DyV w1 s ad n cap e (cq q*Un 0)->Calls Tryz.prog 144 #[.agg #[.bool s,.slice ad n cap,.int .i64 e]] w1 fun r w'=>r = .returned (.tuple #[.float .f64 x,.int .i64 0])/\Gr w1 w')
  (FY:∀w1 s ad n cap e,DyV w1 s ad n cap e (cq (q-1)*Un 0)->Calls Tryz.prog 144 #[.agg #[.bool s,.slice ad n cap,.int .i64 e]] w1 fun r w'=>r = .returned (.tuple #[.float .f64 y,.int .i64 0])/\Gr w1 w') :
  Calls Tryz.prog 134 #[.int .i64 (o:Int),.int .i64 st] w fun r w'=>r = .returned (.tuple #[.complex .f64 x y,.int .i64 0])/\Gr w w':=
 angNear o st p _ _ _ _ x y w ho hp hx hy (fun B w1 g rk=>boxQ B p q 96 w1 h0 h1 hm hd (tab_gr hT g)) (fun w1 s ad n cap e g d=>FX w1 s ad n cap e d) (fun w1 s ad n cap e g d=>FX w1 s ad n cap e d) (fun w1 s ad n cap e g d=>FY w1 s ad n cap e d) (fun w1 s ad n cap e g d=>FY w1 s ad n cap e d)
end Go.Proofs.YtanpdbadfddlcaaGreatDoor
