import Derived.Test.YtibckeckjfmbkaaGreatDoorM40
import Derived.Deep.RegionHeld3
import Derived.Laws.CopyOwn
namespace Go.Proofs.YtibckeckjfmbkaaGreatDoor.Fl
open Go.RowKit
open Ieee
open Go.Proofs.YtibckeckjfmbkaaGreatDoor.Jx (cvI cv_le)
set_option linter.unusedVariables false
theorem lit_ir (w:World) (xs:List Int) (hx:∀x∈xs,In64 x) (T:TypeId) (cs:Array Value) (hcs:cs=(iz xs).toArray) (n:Nat) (hn:n=xs.length) (f:Nat->Int) (hf:∀i,i<n->f i=xs.getD i 0):IR (w.alloc (.cells cs T)) (some ⟨w.heap.size,0,none⟩) n f:=fun hp=>by
 refine⟨w.heap.size,rfl,by show w.heap.size<(w.heap.push _).size;simp,fun j hj=>?_⟩
 have h1:(w.alloc (.cells cs T)).heap[w.heap.size]? = some (.cells cs T):=first_block w _
 refine⟨?_,?_⟩
 ·rw[hf j hj]
  have h2:cs[j]? = some (.int .i64 (xs.getD j 0)):=by
   rw[hcs,List.getElem?_toArray,iz_get (by omega)]
  generalize w.alloc (.cells cs T)=w1 at *
  simp[World.cell?,h1,h2]
 ·rw[hf j hj]
  have hm:xs.getD j 0∈xs:=by
   rw[List.getD_eq_getElem?_getD,List.getElem?_eq_getElem (by omega),Option.getD_some];exact List.getElem_mem _
  exact hx _ hm
theorem rb_a:RB 2 4 1 4415779434636771329:=⟨4415779434636771328,⟨4406772235382030336,4415779434636771328,dirUp_of (by decide +kernel),dirUp_of (by decide +kernel),dirUp_of (by decide +kernel),by omega,by omega⟩,dirUp_of (by decide +kernel)⟩
theorem rb_b:RB 0 1 1 4386506037058863105:=⟨4386506037058863104,⟨4386506037058863104,4386506037058863104,dirUp_of (by decide +kernel),dirUp_of (by decide +kernel),dirUp_of (by decide +kernel),by omega,by omega⟩,dirUp_of (by decide +kernel)⟩
theorem rb_c:RB 0 67108864 67108864 4620693217682128897:=⟨4620693217682128896,⟨4386506037058863104,4503599627370496000,dirUp_of (by decide +kernel),dirUp_of (by decide +kernel),dirUp_of (by decide +kernel),by omega,by omega⟩,dirUp_of (by decide +kernel)⟩
theorem in64_small {xs:List Int} (h:xs.all (fun x=>decide (In64 x))=true):∀x∈xs,In64 x:=fun x hx=>of_decide_eq_true (List.all_eq_true.1 h x hx)
theorem two_ir (w:World) (xs ys:List Int) (hx:∀x∈xs,In64 x) (hy:∀x∈ys,In64 x) (T:TypeId) (cs ds:Array Value) (hcs:cs=(iz xs).toArray) (hds:ds=(iz ys).toArray) (n:Nat) (hn:n=xs.length) (hm:n=ys.length):IR ((w.alloc (.cells cs T)).alloc (.cells ds T)) (some ⟨w.heap.size,0,none⟩) n (fun i=>xs.getD i 0)/\IR ((w.alloc (.cells cs T)).alloc (.cells ds T)) (some ⟨w.heap.size+1,0,none⟩) n (fun i=>ys.getD i 0):=by
 refine⟨(lit_ir w xs hx T cs hcs n hn _ (fun _ _=>rfl)).gr ((Gr.refl _).alloc _),?_⟩
 have:=lit_ir (w.alloc (.cells cs T)) ys hy T ds hds n hm (fun i=>ys.getD i 0) (fun _ _=>rfl)
 have e:(w.alloc (.cells cs T)).heap.size=w.heap.size+1:=by show(w.heap.push _).size=_;simp
 rw[e] at this
 exact this
set_option maxRecDepth 100000 in
set_option maxHeartbeats 4000000 in
theorem awakeR (w:World) (hT:TabAt 2 Lib.deBruijn64tab w) (hF:TabF w):Calls Tryz.prog 7 #[] w fun e w'=>e = .returned (.bool true)/\Hid (Gr w w'):=by
 have C1:Hid (∀w1 b1 b2,Gr w w1->IR w1 (some ⟨b1,0,none⟩) 4 (fun i=>([1,2,3,4]:List Int).getD i 0)->IR w1 (some ⟨b2,0,none⟩) 4 (fun i=>([0,1,0,0]:List Int).getD i 0)->Calls Tryz.prog 10 #[.slice (some ⟨b1,0,none⟩) 4 4,.slice (some ⟨b2,0,none⟩) 4 4] w1 fun e w'=>∃q,w1.heap.size<=q/\e = .returned (.tuple #[.slice (some ⟨q,0,none⟩) 4 4,.int .i64 0])/\Hid (IR w' (some ⟨q,0,none⟩) 4 (fun i=>([4,1,2,3]:List Int).getD i 0))/\Hid (Gr w1 w')):=fun w1 b1 b2 gg i1 i2=>by
  refine(cyclicT 2 4 4 4 4415779434636771329 _ _ _ _ w1 (by omega) rfl (tab_gr hT gg) (hF.gr gg) i1 i2 (by decide) (by decide) rb_a (by omega)).2.mono ?_
  rintro e w' ⟨q,e1,rfl,e2,e3⟩
  refine⟨q,e1,rfl,?_,e3⟩
  have key:∀l,l<4->cvI 4 (fun i=>([1,2,3,4]:List Int).getD i 0) (fun i=>([0,1,0,0]:List Int).getD i 0) l 4=([4,1,2,3]:List Int).getD l 0:=by decide
  obtain⟨xs,h3,h4⟩:=e2.out
  exact OI.ir ⟨xs,h3,fun j hj hn=>(h4 j hj hn).trans (key j hn)⟩ (by decide)
 have C2:Hid (∀w1 b1 b2,Gr w w1->IR w1 (some ⟨b1,0,none⟩) 2 (fun i=>([1,2]:List Int).getD i 0)->IR w1 (some ⟨b2,0,none⟩) 2 (fun i=>([3,4]:List Int).getD i 0)->Calls Tryz.prog 16 #[.slice (some ⟨b1,0,none⟩) 2 2,.slice (some ⟨b2,0,none⟩) 2 2] w1 fun e w'=>∃q,w1.heap.size<=q/\e = .returned (.tuple #[.slice (some ⟨q,0,none⟩) 2 2,.int .i64 0])/\Hid (IR w' (some ⟨q,0,none⟩) 2 (fun i=>([11,10]:List Int).getD i 0))/\Hid (Gr w1 w')):=fun w1 b1 b2 gg i1 i2=>by
  have key:∀l,l<2->cvI 2 (fun i=>([1,2]:List Int).getD i 0) (fun i=>([3,4]:List Int).getD i 0) l 2=([11,10]:List Int).getD l 0:=by decide
  have key2:∀l,l<2->In64 (cvI 2 (fun i=>([1,2]:List Int).getD i 0) (fun i=>([3,4]:List Int).getD i 0) l 2):=by decide
  refine(plainlyR 1 2 2 2 _ _ _ _ w1 (by omega) rfl (tab_gr hT gg) i1 i2).mono ?_
  rintro e w' ⟨⟨q,e1,rfl,e2,_⟩|⟨_,e2⟩,e3⟩
  ·refine⟨q,e1,rfl,?_,e3⟩
   obtain⟨xs,h3,h4⟩:=e2.out
   exact OI.ir ⟨xs,h3,fun j hj hn=>(h4 j hj hn).trans (key j hn)⟩ (by decide)
  ·obtain⟨l,hl,hn⟩:=e2.out
   exact absurd (key2 l hl) hn
 have C3:Hid (∀w1 b1 b2,Gr w w1->IR w1 (some ⟨b1,0,none⟩) 1 (fun i=>([1]:List Int).getD i 0)->IR w1 (some ⟨b2,0,none⟩) 1 (fun i=>([1]:List Int).getD i 0)->Calls Tryz.prog 15 #[.slice (some ⟨b1,0,none⟩) 1 1,.slice (some ⟨b2,0,none⟩) 1 1] w1 fun e w'=>e = .returned (.tuple #[.float .f64 4386506037058863105,.int .i64 0])/\Hid (Gr w1 w')):=fun w1 b1 b2 gg i1 i2=>boundV 0 1 1 1 4386506037058863105 _ _ _ _ w1 (by omega) rfl (tab_gr hT gg) i1 i2 (by decide) (by decide) rb_b
 have C4:Hid (∀w1 b1 b2,Gr w w1->IR w1 (some ⟨b1,0,none⟩) 1 (fun i=>([67108864]:List Int).getD i 0)->IR w1 (some ⟨b2,0,none⟩) 1 (fun i=>([67108864]:List Int).getD i 0)->Calls Tryz.prog 10 #[.slice (some ⟨b1,0,none⟩) 1 1,.slice (some ⟨b2,0,none⟩) 1 1] w1 fun e w'=>e = .returned (.tuple #[.slice none 0 0,.int .i64 8])/\Hid (Gr w1 w')):=fun w1 b1 b2 gg i1 i2=>cyclicB 0 1 1 1 4620693217682128897 _ _ _ _ w1 (by omega) rfl (tab_gr hT gg) i1 i2 (by decide) (by decide) rb_c (by omega)
 have x1:(FloatKind.f64.format.order 4386506037058863105 4386506037058863104==some .gt)=true:=by decide +kernel
 have x2:(FloatKind.f64.format.order 4386506037058863105 4386787512035573760==some .lt)=true:=by decide +kernel
 clear hT hF
 go_enter Tryz.func7,Tryz.ntmps7
 go_wp2_with (first
  | (go_at_call 10;obtain⟨j1,j2⟩:=two_ir w [1,2,3,4] [0,1,0,0] (in64_small (by decide)) (in64_small (by decide)) 2 #[.int .i64 1,.int .i64 2,.int .i64 3,.int .i64 4] #[.int .i64 0,.int .i64 1,.int .i64 0,.int .i64 0] rfl rfl 4 rfl rfl;(with_reducible refine(C1.out _ _ _ (gr2 _ _) j1 j2).mono ?_);rintro r w1 ⟨q1,e1,rfl,I1,G1⟩;have GA:Hid (Gr w w1):=(gr2 _ _).trans G1.out;clear j1 j2 G1)
  | (go_at_call 16;obtain⟨j1,j2⟩:=two_ir w1 [1,2] [3,4] (in64_small (by decide)) (in64_small (by decide)) 2 #[.int .i64 1,.int .i64 2] #[.int .i64 3,.int .i64 4] rfl rfl 2 rfl rfl;(with_reducible refine(C2.out _ _ _ (GA.out.trans (gr2 _ _)) j1 j2).mono ?_);rintro r w2 ⟨q2,e2,rfl,I2,G2⟩;have G12:Hid (Gr w1 w2):=(gr2 _ _).trans G2.out;have GB:Hid (Gr w w2):=GA.out.trans G12.out;clear j1 j2 G2)
  | (go_at_call 15;obtain⟨j1,j2⟩:=two_ir w2 [1] [1] (in64_small (by decide)) (in64_small (by decide)) 2 #[.int .i64 1] #[.int .i64 1] rfl rfl 1 rfl rfl;(with_reducible refine(C3.out _ _ _ (GB.out.trans (gr2 _ _)) j1 j2).mono ?_);rintro r w3 ⟨rfl,G3⟩;have G23:Hid (Gr w2 w3):=(gr2 _ _).trans G3.out;have GC:Hid (Gr w w3):=GB.out.trans G23.out;clear j1 j2 G3)
  | (go_at_call 10;obtain⟨j1,j2⟩:=two_ir w3 [67108864] [67108864] (in64_small (by decide)) (in64_small (by decide)) 2 #[.int .i64 67108864] #[.int .i64 67108864] rfl rfl 1 rfl rfl;(with_reducible refine(C4.out _ _ _ (GC.out.trans (gr2 _ _)) j1 j2).mono ?_);rintro r w4 ⟨rfl,G4⟩;have G34:Hid (Gr w3 w4):=(gr2 _ _).trans G4.out;have GD:Hid (Gr w w4):=GC.out.trans G34.out;clear j1 j2 G4)
  | (go_at_call 12;(with_reducible refine(sameLongsR 4 4 4 _ _ _ _ _ (I1.out.gr ((G12.out.trans (G23.out.trans G34.out)).alloc _)) (lit_ir w4 [4,1,2,3] (in64_small (by decide)) 2 #[.int .i64 4,.int .i64 1,.int .i64 2,.int .i64 3] rfl 4 rfl (fun i=>([4,1,2,3]:List Int).getD i 0) (fun _ _=>rfl)) (by omega) (fun _ _=>rfl)).mono ?_);rintro r w5 ⟨rfl,G5⟩;have G45:Hid (Gr w4 w5):=((Gr.refl w4).alloc _).trans G5;clear G5)
  | (go_at_call 12;(with_reducible refine(sameLongsR 2 2 2 _ _ _ _ _ (I2.out.gr ((G23.out.trans (G34.out.trans G45.out)).alloc _)) (lit_ir w5 [11,10] (in64_small (by decide)) 2 #[.int .i64 11,.int .i64 10] rfl 2 rfl (fun i=>([11,10]:List Int).getD i 0) (fun _ _=>rfl)) (by omega) (fun _ _=>rfl)).mono ?_);rintro r w6 ⟨rfl,G6⟩;have G56:Hid (Gr w5 w6):=((Gr.refl w5).alloc _).trans G6;clear G6))
 go_ret
 exact⟨rfl,GD.out.trans (G45.out.trans G56.out)⟩
end Go.Proofs.YtibckeckjfmbkaaGreatDoor.Fl
namespace Go.Proofs.YtibckeckjfmbkaaGreatDoor.Fl
open Go.RowKit
open Ieee
open Go.Proofs.YtibckeckjfmbkaaGreatDoor.Jx (cvI cv_le)
set_option linter.unusedVariables false
set_option linter.unusedSimpArgs false
def ZI (w:World) (g n:Nat):Prop:=w.ownsRow g 2 1 (.slice (some ⟨g,0,none⟩) n n) n (iz (List.replicate n 0))
theorem ZI.gr {w w':World} {g n:Nat} (h:ZI w g n) (k:Gr w w'):ZI w' g n:=k.owns h
theorem ZI.lt {w:World} {g n:Nat} (h:ZI w g n):g<w.heap.size:=(World.ownsRow.lt h g rfl).2
theorem mkI (w:World) (n:Nat) (hn:n<=4398046511104):∃w',(Instr.makeSlice 22 (.int .i64 (n:Int)) (.int .i64 (n:Int))).run Tryz.prog w=Result.ok (.slice (some ⟨w.heap.size,0,none⟩) n n) w'/\ZI w' w.heap.size n/\Gr w w'/\w.heap.size<w'.heap.size:=by
 obtain⟨i0,hi,hz0,hz1,hz2⟩:=info_parts infoI
 obtain⟨w',hrun,r1,r2⟩:=run_make_full (P:=Tryz.prog) w w.heap.size 22 2 i0 (.int .i64 0) 1 Tryz.underlying22 hi hz0 hz1 .i64 .i64 n (by rw[hz2];omega) (by unfold maxLen;omega) (Nat.le_refl _)
 rw[made_i] at r1
 have g:=(Gr.refl w).grown r2 (fun k h=>by cases h)
 exact⟨w',hrun,r1,g,(World.ownsRow.lt r1 w.heap.size rfl).2⟩
def R21 (t0 t1 t2 t3 t4 t5 t6 t7 t9 t10 t11 t12 t13 t14 t15 t16 t17 t18 t19 t20 t21 t22 t23 t24 t25 t26 t27 t28 t29 t30 t31 t32 t33 t34 t35 t36 t37 t38 t39 t40 t41 t42 t43 t44:Value) (N:Nat) (wq:World):Exit->Act->World->Prop
 | .normal,a,w=>∃u33 u34 u35 u36 gx gy,a = {tmps:=#[t0,t1,t2,t3,t4,t5,t6,t7,.int .i64 (N:Int),t9,.slice (some ⟨gx,0,none⟩) N N,.slice (some ⟨gy,0,none⟩) N N,t12,t13,t14,t15,t16,t17,t18,t19,t20,t21,t22,t23,t24,t25,t26,t27,t28,t29,t30,t31,t32,u33,u34,u35,u36,t37,t38,t39,t40,t41,t42,t43,t44],defers:=[]}/\(wq.heap.size<=gx/\wq.heap.size<=gy/\gx≠gy)/\ZI w gx N/\ZI w gy N/\Gr wq w
 | _,_,_=>False
set_option maxRecDepth 100000 in
set_option maxHeartbeats 8000000 in
theorem reg21 (t0 t1 t2 t3 t4 t5 t6 t7 t9 t10 t11 t12 t13 t14 t15 t16 t17 t18 t19 t20 t21 t22 t23 t24 t25 t26 t27 t28 t29 t30 t31 t32 t33 t34 t35 t36 t37 t38 t39 t40 t41 t42 t43 t44:Value) (N:Nat) (wq:World) (hN:N<=4398046511104) :
  Code.wp Tryz.prog (Code.region 6 #[{dst:=some 33,op:=Op.move (Operand.tmp 8),type:=3,pos:= "outright.go:17",after:=#[],guard:=none},{dst:=some 34,op:=Op.makeSlice 22 (Operand.tmp 33) (Operand.tmp 33),type:=22,pos:= "outright.go:17",after:=#[{on:=0,ground:=Ground.data},{on:=0,ground:=Ground.data}],guard:=none},{dst:=some 35,op:=Op.move (Operand.tmp 8),type:=3,pos:= "outright.go:17",after:=#[],guard:=none},{dst:=some 36,op:=Op.makeSlice 22 (Operand.tmp 35) (Operand.tmp 35),type:=22,pos:= "outright.go:17",after:=#[{on:=2,ground:=Ground.data},{on:=2,ground:=Ground.data}],guard:=none},{dst:=some 10,op:=Op.assign (Operand.tmp 34),type:=22,pos:= "outright.go:17",after:=#[{on:=1,ground:=Ground.data},{on:=0,ground:=Ground.phase},{on:=1,ground:=Ground.phase},{on:=2,ground:=Ground.textOnly Departure.lateStores},{on:=3,ground:=Ground.textOnly Departure.lateStoresUnsure}],guard:=none},{dst:=some 11,op:=Op.assign (Operand.tmp 36),type:=22,pos:= "outright.go:17",after:=#[{on:=3,ground:=Ground.data},{on:=4,ground:=Ground.chain},{on:=0,ground:=Ground.phase},{on:=1,ground:=Ground.phase},{on:=2,ground:=Ground.phase},{on:=3,ground:=Ground.phase},{on:=4,ground:=Ground.phase}],guard:=none}] true) (R21 t0 t1 t2 t3 t4 t5 t6 t7 t9 t10 t11 t12 t13 t14 t15 t16 t17 t18 t19 t20 t21 t22 t23 t24 t25 t26 t27 t28 t29 t30 t31 t32 t33 t34 t35 t36 t37 t38 t39 t40 t41 t42 t43 t44 N wq) {tmps:=#[t0,t1,t2,t3,t4,t5,t6,t7,.int .i64 (N:Int),t9,t10,t11,t12,t13,t14,t15,t16,t17,t18,t19,t20,t21,t22,t23,t24,t25,t26,t27,t28,t29,t30,t31,t32,t33,t34,t35,t36,t37,t38,t39,t40,t41,t42,t43,t44],defers:=[]} wq:=by
 have hS0:True/\Gr wq wq.drew:=⟨trivial,(Gr.refl wq).drew⟩
 refine wp_region_held_drew (S:=fun w'=>True/\Gr wq w') (by kernel_rfl) hS0 (fun hHeld=>?_)
 clear hS0
 generalize wq.drew=wd at *
 refine wpAnyH_take (i:=0) (oi:=({dst:=some 33,op:=Op.move (Operand.tmp 8),type:=3,pos:= "outright.go:17",after:=#[],guard:=none}:Oper)) (v:=?_) rfl (by kernel_rfl) (by kernel_rfl) (by kernel_rfl) (fun _ _ _ h=>h) (Or.inl ⟨by rfl,?_⟩) (by with_reducible assumption) ?_
 rotate_left
 ·intro w hSw
  (try dsimp only at hSw)
  first|(go_simp;done)|(go_simp;with_reducible rfl)
 (try simp only[Act.put,List.setIfInBounds_toArray,List.set_cons_zero,List.set_cons_succ])
 refine wpAnyH_take (i:=2) (oi:=({dst:=some 35,op:=Op.move (Operand.tmp 8),type:=3,pos:= "outright.go:17",after:=#[],guard:=none}:Oper)) (v:=?_) rfl (by kernel_rfl) (by kernel_rfl) (by kernel_rfl) (fun _ _ _ h=>h) (Or.inl ⟨by rfl,?_⟩) (by with_reducible assumption) ?_
 rotate_left
 ·intro w hSw
  (try dsimp only at hSw)
  first|(go_simp;done)|(go_simp;with_reducible rfl)
 (try simp only[Act.put,List.setIfInBounds_toArray,List.set_cons_zero,List.set_cons_succ])
 refine wpAnyH_ready (rs:=[1,3]) (by kernel_rfl) (by simp) ?_
 refine AllReadyH.cons (o:=({dst:=some 34,op:=Op.makeSlice 22 (Operand.tmp 33) (Operand.tmp 33),type:=22,pos:= "outright.go:17",after:=#[{on:=0,ground:=Ground.data},{on:=0,ground:=Ground.data}],guard:=none}:Oper)) rfl (fun K hK=>?_) ?_
 ·have sz6:=hHeld.2.size
  obtain⟨wm1,hrun,x_3,gg4,lx5⟩:=mkI wd N hN
  go_simp
  refine hK.out _ _ ⟨trivial,hHeld.2.trans gg4⟩ (fun hM2=>?_)
  clear hK K hrun
  (try simp only[Act.put,List.setIfInBounds_toArray,List.set_cons_zero,List.set_cons_succ])
  refine wpAnyH_take (i:=4) (oi:=({dst:=some 10,op:=Op.assign (Operand.tmp 34),type:=22,pos:= "outright.go:17",after:=#[{on:=1,ground:=Ground.data},{on:=0,ground:=Ground.phase},{on:=1,ground:=Ground.phase},{on:=2,ground:=Ground.textOnly Departure.lateStores},{on:=3,ground:=Ground.textOnly Departure.lateStoresUnsure}],guard:=none}:Oper)) (v:=?_) rfl (by kernel_rfl) (by kernel_rfl) (by kernel_rfl) (fun _ _ _ h=>h) (Or.inl ⟨by rfl,?_⟩) (by with_reducible assumption) ?_
  rotate_left
  ·intro w hSw
   (try dsimp only at hSw)
   first|(go_simp;done)|(go_simp;with_reducible rfl)
  (try simp only[Act.put,List.setIfInBounds_toArray,List.set_cons_zero,List.set_cons_succ])
  refine wpAnyH_ready (rs:=[3]) (by kernel_rfl) (by simp) ?_
  refine AllReadyH.cons (o:=({dst:=some 36,op:=Op.makeSlice 22 (Operand.tmp 35) (Operand.tmp 35),type:=22,pos:= "outright.go:17",after:=#[{on:=2,ground:=Ground.data},{on:=2,ground:=Ground.data}],guard:=none}:Oper)) rfl (fun K hK=>?_) AllReadyH.nil
  have sz12:=hM2.2.size
  obtain⟨wm7,hrun,y_9,gg10,ly11⟩:=mkI wm1 N hN
  go_simp
  refine hK.out _ _ ⟨trivial,hM2.2.trans gg10⟩ (fun hM8=>?_)
  clear hK K hrun
  (try simp only[Act.put,List.setIfInBounds_toArray,List.set_cons_zero,List.set_cons_succ])
  have x_13:=x_3.gr gg10
  clear x_3
  refine wpAnyH_take (i:=5) (oi:=({dst:=some 11,op:=Op.assign (Operand.tmp 36),type:=22,pos:= "outright.go:17",after:=#[{on:=3,ground:=Ground.data},{on:=4,ground:=Ground.chain},{on:=0,ground:=Ground.phase},{on:=1,ground:=Ground.phase},{on:=2,ground:=Ground.phase},{on:=3,ground:=Ground.phase},{on:=4,ground:=Ground.phase}],guard:=none}:Oper)) (v:=?_) rfl (by kernel_rfl) (by kernel_rfl) (by kernel_rfl) (fun _ _ _ h=>h) (Or.inl ⟨by rfl,?_⟩) (by with_reducible assumption) ?_
  rotate_left
  ·intro w hSw
   (try dsimp only at hSw)
   first|(go_simp;done)|(go_simp;with_reducible rfl)
  (try simp only[Act.put,List.setIfInBounds_toArray,List.set_cons_zero,List.set_cons_succ])
  refine wpAnyH_done (by kernel_rfl) ?_ _
  exact⟨_,_,_,_,_,_,rfl,⟨by omega,by omega,by omega⟩,x_13,y_9,hM8.2⟩
 refine AllReadyH.cons (o:=({dst:=some 36,op:=Op.makeSlice 22 (Operand.tmp 35) (Operand.tmp 35),type:=22,pos:= "outright.go:17",after:=#[{on:=2,ground:=Ground.data},{on:=2,ground:=Ground.data}],guard:=none}:Oper)) rfl (fun K hK=>?_) AllReadyH.nil
 have sz19:=hHeld.2.size
 obtain⟨wm14,hrun,y_16,gg17,ly18⟩:=mkI wd N hN
 go_simp
 refine hK.out _ _ ⟨trivial,hHeld.2.trans gg17⟩ (fun hM15=>?_)
 clear hK K hrun
 (try simp only[Act.put,List.setIfInBounds_toArray,List.set_cons_zero,List.set_cons_succ])
 refine wpAnyH_ready (rs:=[1]) (by kernel_rfl) (by simp) ?_
 refine AllReadyH.cons (o:=({dst:=some 34,op:=Op.makeSlice 22 (Operand.tmp 33) (Operand.tmp 33),type:=22,pos:= "outright.go:17",after:=#[{on:=0,ground:=Ground.data},{on:=0,ground:=Ground.data}],guard:=none}:Oper)) rfl (fun K hK=>?_) AllReadyH.nil
 have sz25:=hM15.2.size
 obtain⟨wm20,hrun,x_22,gg23,lx24⟩:=mkI wm14 N hN
 go_simp
 refine hK.out _ _ ⟨trivial,hM15.2.trans gg23⟩ (fun hM21=>?_)
 clear hK K hrun
 (try simp only[Act.put,List.setIfInBounds_toArray,List.set_cons_zero,List.set_cons_succ])
 have y_26:=y_16.gr gg23
 clear y_16
 refine wpAnyH_take (i:=4) (oi:=({dst:=some 10,op:=Op.assign (Operand.tmp 34),type:=22,pos:= "outright.go:17",after:=#[{on:=1,ground:=Ground.data},{on:=0,ground:=Ground.phase},{on:=1,ground:=Ground.phase},{on:=2,ground:=Ground.textOnly Departure.lateStores},{on:=3,ground:=Ground.textOnly Departure.lateStoresUnsure}],guard:=none}:Oper)) (v:=?_) rfl (by kernel_rfl) (by kernel_rfl) (by kernel_rfl) (fun _ _ _ h=>h) (Or.inl ⟨by rfl,?_⟩) (by with_reducible assumption) ?_
 rotate_left
 ·intro w hSw
  (try dsimp only at hSw)
  first|(go_simp;done)|(go_simp;with_reducible rfl)
 (try simp only[Act.put,List.setIfInBounds_toArray,List.set_cons_zero,List.set_cons_succ])
 refine wpAnyH_take (i:=5) (oi:=({dst:=some 11,op:=Op.assign (Operand.tmp 36),type:=22,pos:= "outright.go:17",after:=#[{on:=3,ground:=Ground.data},{on:=4,ground:=Ground.chain},{on:=0,ground:=Ground.phase},{on:=1,ground:=Ground.phase},{on:=2,ground:=Ground.phase},{on:=3,ground:=Ground.phase},{on:=4,ground:=Ground.phase}],guard:=none}:Oper)) (v:=?_) rfl (by kernel_rfl) (by kernel_rfl) (by kernel_rfl) (fun _ _ _ h=>h) (Or.inl ⟨by rfl,?_⟩) (by with_reducible assumption) ?_
 rotate_left
 ·intro w hSw
  (try dsimp only at hSw)
  first|(go_simp;done)|(go_simp;with_reducible rfl)
 (try simp only[Act.put,List.setIfInBounds_toArray,List.set_cons_zero,List.set_cons_succ])
 refine wpAnyH_done (by kernel_rfl) ?_ _
 exact⟨_,_,_,_,_,_,rfl,⟨by omega,by omega,by omega⟩,x_22,y_26,hM21.2⟩
def ArgI (w:World) (ad:Option Addr) (len cap:Nat) (f:Nat->Int):Prop:=len<=cap/\cap<=maxLen/\(0<len->∃a,ad=some a/\a.block<w.heap.size/\∀i,i<len->w.cell? (a.add i)=some (.int .i64 (f i))/\In64 (f i))
theorem ArgI.gr {w w':World} {ad:Option Addr} {len cap:Nat} {f:Nat->Int} (h:ArgI w ad len cap f) (g:Gr w w'):ArgI w' ad len cap f:=by
 refine⟨h.1,h.2.1,fun hp=>?_⟩
 obtain⟨a,e,hb,hc⟩:=h.2.2 hp
 exact⟨a,e,Nat.lt_of_lt_of_le hb g.size,fun i hi=>⟨by rw[g.cell (p:=a.add i) (by unfold Addr.add;split <;> exact hb)];exact(hc i hi).1,(hc i hi).2⟩⟩
def cf (len:Nat) (f:Nat->Int) (i:Nat):Int:=if i<len then f i else 0
theorem iz_one (xs:List Int):∀u∈iz xs,u.oneCell'=true:=by
 intro u hu
 simp only[iz,List.mem_map] at hu
 obtain⟨p,_,rfl⟩:=hu
 rfl
theorem Tryz.size2_i:(Tryz.prog.info? 2).map (·.size)=some 1:=by kernel_rfl
theorem wpList_copiedI {w:World} {ops:Array Oper} {rest:List Oper} {o:Oper} {a:Act} {Q:Exit->Act->World->Prop} (hgd:o.guard=none) (d s:Operand)
  (ho:o.op = .call {callee:=.builtin .copy,args:=#[d,s],argTypes:=#[22,22]}) (g N:Nat) (hd:a.eval d = .slice (some ⟨g,0,none⟩) N N) (sp:Option Addr) (sLen sCap:Nat) (hs:a.eval s = .slice sp sLen sCap)
  (f:Nat->Int) (hm:ArgI w sp sLen sCap f) (how:ZI w g N)
  (hK:∀w',OI w' g N N (cf sLen f)->Gx g w w'->∀v,wpList Tryz.prog ops Q rest (a.put o.dst v) w') :
  wpList Tryz.prog ops Q (o :: rest) a w:=by
 have how2:=World.ownsRow.lt how g rfl
 have how':w.ownsRow g 2 1 (.slice (some ⟨g,0,none⟩) N N) N (iz (List.replicate N 0)):=how
 obtain⟨ms,hms⟩:∃ms:List Int,ms=(List.range (Nat.min sLen N)).map f:=⟨_,rfl⟩
 have hml:ms.length=Nat.min sLen N:=by rw[hms,List.length_map,List.length_range]
 have hmn:Nat.min sLen N<=N:=Nat.min_le_right _ _
 have hmg:∀j,j<Nat.min sLen N->ms.getD j 0=f j:=fun j hj=>by
  rw[hms,List.getD_eq_getElem?_getD,List.getElem?_map,List.getElem?_range hj];rfl
 rcases how'.2 with ⟨h1,h2⟩|⟨g',cap,cur,e1,hb,hgg,r1,r2,r3,r4⟩
 ·cases h1
 ·simp only[Value.slice.injEq,Option.some.injEq,Addr.mk.injEq,true_and,and_true] at e1
  obtain⟨rfl,rfl⟩:=e1
  have hcur:cur=(iz (List.replicate N 0)).toArray:=by
   rw[<-r4,List.take_of_length_le (by rw[Array.length_toList,r3];exact Nat.le_refl _)]
  have hg':w.heap[g]? = some (.cells (iz (List.replicate N 0)).toArray 2 (0,0)):=by rw[<-hcur];exact hgg
  have hfin:∀w',Hid (w'.heap[g]? = some (.cells (splice (iz (List.replicate N 0)) 0 (iz ms)).toArray 2 (0,0)))->Gx g w w'->∀v,wpList Tryz.prog ops Q rest (a.put o.dst v) w':=fun w' hh hx v=>by
   have hsp:splice (iz (List.replicate N 0)) 0 (iz ms)=iz (ms++List.replicate (N-ms.length) 0):=by simp[splice,iz]
   rw[hsp] at hh
   refine hK w' ⟨ms++List.replicate (N-ms.length) 0,⟨?_,.inr ⟨g,N,_,rfl,Nat.le_refl _,hh.out,Nat.le_refl _,r2,?_,?_⟩⟩,fun j hj hn=>?_⟩ hx v
   ·rw[iz_length,List.length_append,List.length_replicate];omega
   ·rw[List.size_toArray,iz_length,List.length_append,List.length_replicate];omega
   ·rw[List.toList_toArray,List.take_of_length_le]
    rw[iz_length,List.length_append,List.length_replicate];omega
   ·unfold cf
    by_cases hjm:j<Nat.min sLen N
    ·rw[if_pos (Nat.lt_of_lt_of_le hjm (Nat.min_le_left _ _)),List.getD_eq_getElem?_getD,List.getElem?_append_left (by omega),<-List.getD_eq_getElem?_getD,hmg j hjm]
    ·have hjs:¬j<sLen:=fun h=>hjm (Nat.lt_min.2 ⟨h,hn⟩)
     rw[if_neg hjs,List.getD_eq_getElem?_getD,List.getElem?_append_right (by omega),List.getElem?_replicate]
     split <;> rfl
  by_cases h0:Nat.min sLen N=0
  ·refine wpList_copy_nothing hgd d s 22 22 ho 2 Tryz.underlying22 Tryz.size2_i (some ⟨g,0,none⟩) sp N N sLen sCap hd hs h0 ?_
   refine hfin w ?_ (Gx.refl g w) _
   obtain rfl:ms=[]:=List.eq_nil_of_length_eq_zero (by omega)
   show _=_
   simpa [splice,iz] using hg'
  ·have hp2:0<sLen:=Nat.lt_of_lt_of_le (Nat.pos_of_ne_zero h0) (Nat.min_le_left _ _)
   obtain⟨ad,rfl,hb2,hc⟩:=hm.2.2 hp2
   refine wpList_copy_own hgd d s 22 22 ho 2 Tryz.underlying22 Tryz.size2_i g 0 N N ad sLen sCap hd hs (iz (List.replicate N 0)).toArray 2 hg' (iz ms) (by rw[iz_length,hml]) (fun j v hj=>?_) (by rw[List.size_toArray,iz_length,iz_length,List.length_replicate,hml];omega) (iz_one ms) ?_
   ·have hjl:j<ms.length:=by
     refine Nat.lt_of_not_le fun hle'=>?_
     rw[List.getElem?_eq_none (by rw[iz_length];exact hle')] at hj
     cases hj
    rw[iz_get hjl] at hj
    rw[hml] at hjl
    rw[<-hj,hmg j hjl]
    exact(hc j (Nat.lt_of_lt_of_le hjl (Nat.min_le_left sLen N))).1
   ·refine hfin _ ?_ ?_ _
    ·show _=_
     simpa [splice] using setRow_heap w g _ _ _ _ hg'
    ·exact⟨rfl,rfl,by simp[World.setRow],fun k hk hne=>setRow_other w g k _ hne⟩
theorem OI.gx {w w':World} {g b n i:Nat} {f:Nat->Int} (h:OI w g n i f) (k:Gx b w w') (hb:g≠b):OI w' g n i f:=by
 obtain⟨xs,h3,h4⟩:=h
 refine⟨xs,?_,h4⟩
 have hlt:=(World.ownsRow.lt h3 g rfl).2
 rcases h3 with ⟨h5,h6⟩
 refine⟨h5,?_⟩
 rcases h6 with h6|⟨g',cap,cur,e1,hb',hgg,r1,r2,r3,r4⟩
 ·exact Or.inl h6
 ·have e3:g=g'/\n=cap:=by simpa using e1
  have e2:g=g':=e3.1
  subst e2
  exact Or.inr ⟨g,cap,cur,e1,hb',by rw[k.block g hlt hb];exact hgg,r1,r2,r3,r4⟩
theorem ZI.gx {w w':World} {g b n:Nat} (h:ZI w g n) (k:Gx b w w') (hb:g≠b):ZI w' g n:=by
 have hlt:=h.lt
 have h':w.ownsRow g 2 1 (.slice (some ⟨g,0,none⟩) n n) n (iz (List.replicate n 0)):=h
 rcases h' with ⟨h5,h6⟩
 refine⟨h5,?_⟩
 rcases h6 with h6|⟨g',cap,cur,e1,hb',hgg,r1,r2,r3,r4⟩
 ·exact Or.inl h6
 ·have e3:g=g'/\n=cap:=by simpa using e1
  have e2:g=g':=e3.1
  subst e2
  exact Or.inr ⟨g,cap,cur,e1,hb',by rw[k.block g hlt hb];exact hgg,r1,r2,r3,r4⟩
theorem pow_two_le {k m:Nat} (hk:k<=m) (hm:m<=14):2 ^ k<=16384:=Nat.pow_le_pow_right (n:=2) (by omega) (show k<=14 by omega)
set_option maxHeartbeats 4000000 in
set_option maxRecDepth 100000 in
theorem fitR (most la ca lb cb:Nat) (aa ab:Option Addr) (fa fb:Nat->Int) (w:World) (hm:most<=14) (h1:ArgI w aa la ca fa) (h2:ArgI w ab lb cb fb) :
  Calls Tryz.prog 14 #[.slice aa la ca,.slice ab lb cb,.int .i64 (most:Int)] w fun e w'=>∃k n gx gy:Nat,k<=most/\Hid (n=2 ^ k)/\w.heap.size<=gx/\w.heap.size<=gy/\e = .returned (.tuple #[.slice (some ⟨gx,0,none⟩) n n,.slice (some ⟨gy,0,none⟩) n n])/\Hid (OI w' gx n n (cf la fa))/\Hid (OI w' gy n n (cf lb fb))/\Hid (Gr w w'):=by
 have l1:la<=9223372036854775807:=Nat.le_trans h1.1 h1.2.1
 have l2:lb<=9223372036854775807:=Nat.le_trans h2.1 h2.2.1
 have H1:=hide h1
 have H2:=hide h2
 clear h1 h2
 go_enter Tryz.func14,Tryz.ntmps14
 go_wp2
 go_loopw [8,9] (fun nv kv wr=>∃k n:Nat,k<=most/\Hid (n=2 ^ k)/\n<=16384/\nv = .int .i64 (n:Int)/\kv = .int .i64 (k:Int)/\wr=w) (fun _ kv _=>most-(intOf kv).toNat)
 case atStart=>exact⟨0,1,by omega,rfl,by omega,rfl,rfl,rfl⟩
 case round =>
  obtain⟨k,n,hk,hn,hn2,rfl,rfl,rfl⟩:=hrel
  have hN:n<=4398046511104:=by omega
  have AG2:Hid (∀w2,Gr wr w2->ArgI w2 ab lb cb fb):=fun w2 g=>H2.out.gr g
  by_cases g1:(k:Int)<(most:Int)
  ·by_cases g2:2*(n:Int)<=(la:Int)
   ·by_cases g3:2*(n:Int)<=(lb:Int)
    ·have HN:Hid (2*n=2 ^ (k+1)):=by
      have:=hn.out
      show 2*n=2 ^ (k+1)
      rw[Nat.pow_succ];omega
     have hle:=pow_two_le (k:=k+1) (m:=most) (by omega) hm
     rw[<-HN.out] at hle
     clear hn
     go_wp2
     go_roundw
     case rel=>exact⟨k+1,2*n,by omega,HN,hle,by go_num,by go_num,trivial⟩
     case measure=>simp only[intOf];omega
    ·go_wp2
     refine Code.wp_mono ?_ (reg21 _ _ _ _ _ _ _ _ _ _ _ _ _ _ _ _ _ _ _ _ _ _ _ _ _ _ _ _ _ _ _ _ _ _ _ _ _ _ _ _ _ _ _ _ n _ hN)
     intro e a1 w1 hR
     cases e <;> first|(exact False.elim hR)|skip
     obtain⟨u33,u34,u35,u36,gx,gy,rfl,⟨s1,s2,s3⟩,Zx,Zy,G1⟩:=hR
     have tok1:True:=trivial
     have A1:=hide (H1.out.gr G1)
     have A2:=hide (H2.out.gr G1)
     have ZX:=hide Zx
     have ZY:=hide Zy
     have GG:=hide G1
     clear Zx Zy G1 H1 H2
     go_wp2_with (first|(have _t:=tok1;refine wpList_copiedI rfl (.tmp 37) (.tmp 38) rfl gx n rfl _ _ _ rfl fa A1.out ZX.out ?_;intro w2 O1 X1 v;have tok2:True:=trivial;clear tok1;have G2:Hid (Gr wr w2):=gx_gr X1 (by omega) GG.out;have O1H:=hide O1;have A3:Hid (ArgI w2 ab lb cb fb):=AG2.out w2 G2.out;have ZY2:Hid (ZI w2 gy n):=ZY.out.gx X1 (fun e=>s3 e.symm);clear O1 X1)|(have _t:=tok2;refine wpList_copiedI rfl (.tmp 40) (.tmp 41) rfl gy n rfl _ _ _ rfl fb A3.out ZY2.out ?_;intro w3 O2 X2 v2;clear tok2;have O2H:=hide O2;have O3:Hid (OI w3 gx n n (cf la fa)):=O1H.out.gx X2 s3;have G3:Hid (Gr wr w3):=gx_gr X2 (by omega) G2.out;clear O2 X2))
     go_ret2
     exact⟨k,n,gx,gy,hk,hn,s1,s2,rfl,O3,O2H,G3⟩
   ·go_wp2
    refine Code.wp_mono ?_ (reg21 _ _ _ _ _ _ _ _ _ _ _ _ _ _ _ _ _ _ _ _ _ _ _ _ _ _ _ _ _ _ _ _ _ _ _ _ _ _ _ _ _ _ _ _ n _ hN)
    intro e a1 w1 hR
    cases e <;> first|(exact False.elim hR)|skip
    obtain⟨u33,u34,u35,u36,gx,gy,rfl,⟨s1,s2,s3⟩,Zx,Zy,G1⟩:=hR
    have tok1:True:=trivial
    have A1:=hide (H1.out.gr G1)
    have A2:=hide (H2.out.gr G1)
    have ZX:=hide Zx
    have ZY:=hide Zy
    have GG:=hide G1
    clear Zx Zy G1 H1 H2
    go_wp2_with (first|(have _t:=tok1;refine wpList_copiedI rfl (.tmp 37) (.tmp 38) rfl gx n rfl _ _ _ rfl fa A1.out ZX.out ?_;intro w2 O1 X1 v;have tok2:True:=trivial;clear tok1;have G2:Hid (Gr wr w2):=gx_gr X1 (by omega) GG.out;have O1H:=hide O1;have A3:Hid (ArgI w2 ab lb cb fb):=AG2.out w2 G2.out;have ZY2:Hid (ZI w2 gy n):=ZY.out.gx X1 (fun e=>s3 e.symm);clear O1 X1)|(have _t:=tok2;refine wpList_copiedI rfl (.tmp 40) (.tmp 41) rfl gy n rfl _ _ _ rfl fb A3.out ZY2.out ?_;intro w3 O2 X2 v2;clear tok2;have O2H:=hide O2;have O3:Hid (OI w3 gx n n (cf la fa)):=O1H.out.gx X2 s3;have G3:Hid (Gr wr w3):=gx_gr X2 (by omega) G2.out;clear O2 X2))
    go_ret2
    exact⟨k,n,gx,gy,hk,hn,s1,s2,rfl,O3,O2H,G3⟩
  ·go_wp2
   refine Code.wp_mono ?_ (reg21 _ _ _ _ _ _ _ _ _ _ _ _ _ _ _ _ _ _ _ _ _ _ _ _ _ _ _ _ _ _ _ _ _ _ _ _ _ _ _ _ _ _ _ _ n _ hN)
   intro e a1 w1 hR
   cases e <;> first|(exact False.elim hR)|skip
   obtain⟨u33,u34,u35,u36,gx,gy,rfl,⟨s1,s2,s3⟩,Zx,Zy,G1⟩:=hR
   have tok1:True:=trivial
   have A1:=hide (H1.out.gr G1)
   have A2:=hide (H2.out.gr G1)
   have ZX:=hide Zx
   have ZY:=hide Zy
   have GG:=hide G1
   clear Zx Zy G1 H1 H2
   go_wp2_with (first|(have _t:=tok1;refine wpList_copiedI rfl (.tmp 37) (.tmp 38) rfl gx n rfl _ _ _ rfl fa A1.out ZX.out ?_;intro w2 O1 X1 v;have tok2:True:=trivial;clear tok1;have G2:Hid (Gr wr w2):=gx_gr X1 (by omega) GG.out;have O1H:=hide O1;have A3:Hid (ArgI w2 ab lb cb fb):=AG2.out w2 G2.out;have ZY2:Hid (ZI w2 gy n):=ZY.out.gx X1 (fun e=>s3 e.symm);clear O1 X1)|(have _t:=tok2;refine wpList_copiedI rfl (.tmp 40) (.tmp 41) rfl gy n rfl _ _ _ rfl fb A3.out ZY2.out ?_;intro w3 O2 X2 v2;clear tok2;have O2H:=hide O2;have O3:Hid (OI w3 gx n n (cf la fa)):=O1H.out.gx X2 s3;have G3:Hid (Gr wr w3):=gx_gr X2 (by omega) G2.out;clear O2 X2))
   go_ret2
   exact⟨k,n,gx,gy,hk,hn,s1,s2,rfl,O3,O2H,G3⟩
end Go.Proofs.YtibckeckjfmbkaaGreatDoor.Fl
