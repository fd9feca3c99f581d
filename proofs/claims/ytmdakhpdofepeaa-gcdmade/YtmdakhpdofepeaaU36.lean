import Derived.Test.YtmdakhpdofepeaaU35
import Derived.Test.YtmdakhpdofepeaaU33
namespace Go.Proofs.Ytmdakhpdofepeaa
open Go.RowKit
set_option linter.unusedVariables false
set_option linter.unusedSimpArgs false
theorem sizeOfG (s:Bool) (ad:Option Addr) (n c:Nat) (w:World):Calls Try.prog 29 #[.agg #[.bool s,.slice ad n c]] w fun r w'=>r = .returned (.agg #[.bool false,.slice ad n c])/\Gr w w':=by
 go_enter Try.func29,Try.ntmps29
 go_wp2
 refine bodyPost_ret (v:=.agg #[.bool false,.slice ad n c]) ?_ rfl ⟨rfl,((Gr.refl w).alloc _).alloc _⟩
 simp[results,Try.results29,go_sem]
theorem Wh.size {w:World} {s:Bool} {ad:Option Addr} {n c:Nat} {X:Int} (h:Wh w s ad n c X):Wh w false ad n c (X.natAbs:Int):=⟨by rw[Int.natAbs_natCast];exact h.lim,h.le,fun _=>rfl,by rw[Int.natAbs_natCast,iv_f]⟩
def RLm4 (t0 t1 t3 t4 t5 t7 t8 t9 t10 t11 t12 t13 t14 t15 t16 t17 t18 t19 t20 t21 t22 t23 t24 t25 t26 t27 t28 t29 t30 t31 t32 t33 t34 t35 t36 t37 t38:Value) (pA nA cA pG nG cG:Nat) (sA sG:Bool) (aA aG:Option Addr) (Q R:Int) (wq:World):Exit->Act->World->Prop
 | .normal,a,w=>∃u25 u26 u27 u28 u29 u30 u31 u32 p8 p9 b1 q1 m1 d1 z1 b2 q2 m2 d2 z2,a = {tmps:=#[t0,t1,.pointer (some ⟨pA,0,none⟩),t3,t4,t5,.pointer (some ⟨pG,0,none⟩),t7,.pointer (some ⟨p8,0,none⟩),.pointer (some ⟨p9,0,none⟩),.int .i64 0,t11,t12,t13,t14,t15,t16,t17,t18,t19,t20,t21,t22,t23,t24,u25,u26,u27,u28,u29,u30,u31,u32,t33,t34,t35,t36,t37,t38],defers:=[]}/\w.heap[p8]? = some (.cells #[.bool b1,.slice q1 m1 d1] 24)/\w.heap[p9]? = some (.cells #[.bool b2,.slice q2 m2 d2] 24)/\Nw w b1 q1 m1 d1 z1/\Nw w b2 q2 m2 d2 z2/\(isZ Q) z1/\(isZ R) z2/\wq.heap.size<=p8/\wq.heap.size<=p9/\Gr wq w
 | _,_,_=>False
set_option maxRecDepth 100000 in
set_option maxHeartbeats 4000000 in
theorem regLm4 (t0 t1 t3 t4 t5 t7 t8 t9 t10 t11 t12 t13 t14 t15 t16 t17 t18 t19 t20 t21 t22 t23 t24 t25 t26 t27 t28 t29 t30 t31 t32 t33 t34 t35 t36 t37 t38:Value) (pA nA cA pG nG cG:Nat) (sA sG:Bool) (aA aG:Option Addr) (Q R:Int) (wq:World)
  (X0:∀w1 v,Gr wq w1->isC (.agg #[.bool sA,.slice aA nA cA]) w1 v->Calls Try.prog 29 #[v] w1 fun e w'=>∃u,e = .returned u/\isC (.agg #[.bool false,.slice aA nA cA]) w' u/\Gr w1 w')
  (X1:∀w1 v v',Gr wq w1->isC (.agg #[.bool false,.slice aA nA cA]) w1 v->isC (.agg #[.bool sG,.slice aG nG cG]) w1 v'->Calls Try.prog 28 #[v,v'] w1 fun e w'=>∃u,e = .returned u/\TupF [NumF (isZ Q),NumF (isZ R),isC (.int .i64 0)] w' u/\Gr w1 w') (hbA:wq.heap[pA]? = some (.cells #[.bool sA,.slice aA nA cA] 24)) (hbG:wq.heap[pG]? = some (.cells #[.bool sG,.slice aG nG cG] 24)) :
  Code.wp Try.prog (Code.region 4 #[{dst:=some 26,op:=Op.load 24 (Operand.tmp 2),type:=24,pos:= "gcd.go:41",after:=#[],guard:=none},{dst:=some 27,op:=Op.call {callee:=Callee.value (Operand.func 29),args:=#[Operand.tmp 26],argTypes:=#[24]},type:=24,pos:= "gcd.go:41",after:=#[{on:=0,ground:=Ground.data}],guard:=none},{dst:=some 28,op:=Op.load 24 (Operand.tmp 6),type:=24,pos:= "gcd.go:41",after:=#[],guard:=none},{dst:=some 29,op:=Op.call {callee:=Callee.value (Operand.func 28),args:=#[Operand.tmp 27,Operand.tmp 28],argTypes:=#[24,24]},type:=39,pos:= "gcd.go:41",after:=#[{on:=1,ground:=Ground.data},{on:=2,ground:=Ground.data},{on:=1,ground:=Ground.chain}],guard:=none},{dst:=some 25,op:=Op.move (Operand.tmp 29),type:=39,pos:= "gcd.go:41",after:=#[{on:=3,ground:=Ground.data}],guard:=none},{dst:=some 30,op:=Op.extract (Operand.tmp 25) 0,type:=24,pos:= "gcd.go:41",after:=#[{on:=4,ground:=Ground.data}],guard:=none},{dst:=some 31,op:=Op.extract (Operand.tmp 25) 1,type:=24,pos:= "gcd.go:41",after:=#[{on:=4,ground:=Ground.data},{on:=10,ground:=Ground.gcOnly Departure.lateStores}],guard:=none},{dst:=some 32,op:=Op.extract (Operand.tmp 25) 2,type:=28,pos:= "gcd.go:41",after:=#[{on:=4,ground:=Ground.data},{on:=11,ground:=Ground.gcOnly Departure.lateStores}],guard:=none},{dst:=some 8,op:=Op.alloc 24,type:=0,pos:= "gcd.go:41",after:=#[],guard:=none},{dst:=some 9,op:=Op.alloc 24,type:=0,pos:= "gcd.go:41",after:=#[],guard:=none},{dst:=none,op:=Op.store 24 (Operand.tmp 8) (Operand.tmp 30),type:=0,pos:= "gcd.go:41",after:=#[{on:=8,ground:=Ground.data},{on:=5,ground:=Ground.data},{on:=3,ground:=Ground.chain},{on:=0,ground:=Ground.phase},{on:=1,ground:=Ground.phase},{on:=2,ground:=Ground.phase},{on:=3,ground:=Ground.phase},{on:=4,ground:=Ground.phase},{on:=5,ground:=Ground.phase},{on:=6,ground:=Ground.textOnly Departure.lateStores},{on:=7,ground:=Ground.textOnly Departure.lateStores},{on:=8,ground:=Ground.phase},{on:=9,ground:=Ground.phase}],guard:=none},{dst:=none,op:=Op.store 24 (Operand.tmp 9) (Operand.tmp 31),type:=0,pos:= "gcd.go:41",after:=#[{on:=9,ground:=Ground.data},{on:=6,ground:=Ground.data},{on:=10,ground:=Ground.chain},{on:=0,ground:=Ground.phase},{on:=1,ground:=Ground.phase},{on:=2,ground:=Ground.phase},{on:=3,ground:=Ground.phase},{on:=4,ground:=Ground.phase},{on:=5,ground:=Ground.phase},{on:=6,ground:=Ground.phase},{on:=7,ground:=Ground.textOnly Departure.lateStores},{on:=8,ground:=Ground.phase},{on:=9,ground:=Ground.phase},{on:=10,ground:=Ground.phase}],guard:=none},{dst:=some 10,op:=Op.assign (Operand.tmp 32),type:=28,pos:= "gcd.go:41",after:=#[{on:=7,ground:=Ground.data},{on:=11,ground:=Ground.chain},{on:=0,ground:=Ground.phase},{on:=1,ground:=Ground.phase},{on:=2,ground:=Ground.phase},{on:=3,ground:=Ground.phase},{on:=4,ground:=Ground.phase},{on:=5,ground:=Ground.phase},{on:=6,ground:=Ground.phase},{on:=7,ground:=Ground.phase},{on:=8,ground:=Ground.phase},{on:=9,ground:=Ground.phase},{on:=10,ground:=Ground.phase},{on:=11,ground:=Ground.phase}],guard:=none}] true) (RLm4 t0 t1 t3 t4 t5 t7 t8 t9 t10 t11 t12 t13 t14 t15 t16 t17 t18 t19 t20 t21 t22 t23 t24 t25 t26 t27 t28 t29 t30 t31 t32 t33 t34 t35 t36 t37 t38 pA nA cA pG nG cG sA sG aA aG Q R wq) {tmps:=#[t0,t1,.pointer (some ⟨pA,0,none⟩),t3,t4,t5,.pointer (some ⟨pG,0,none⟩),t7,t8,t9,t10,t11,t12,t13,t14,t15,t16,t17,t18,t19,t20,t21,t22,t23,t24,t25,t26,t27,t28,t29,t30,t31,t32,t33,t34,t35,t36,t37,t38],defers:=[]} wq:=by
 refine region_roles (rs:=[.g 26 (isC (.agg #[.bool sA,.slice aA nA cA])),.g 27 (isC (.agg #[.bool false,.slice aA nA cA])),.g 28 (isC (.agg #[.bool sG,.slice aG nG cG])),.g 29 (TupF [(NumF (isZ Q)),(NumF (isZ R)),(isC (.int .i64 0))]),.g 25 (TupF [(NumF (isZ Q)),(NumF (isZ R)),(isC (.int .i64 0))]),.g 30 (NumF (isZ Q)),.g 31 (NumF (isZ R)),.g 32 (isC (.int .i64 0)),.a 8,.a 9,.s 8 30 (isZ Q),.s 9 31 (isZ R),.g 10 (isC (.int .i64 0))]) (back_ofW (by kernel_rfl)) (ndB_out rfl) rfl ⟨ob_ld (q:=pA) rfl rfl rfl rfl rfl hbA,ob_c1 (k:=0) Try.ent_sizeOf rfl rfl rfl (stb_c _) rfl (by kernel_rfl) X0,ob_ld (q:=pG) rfl rfl rfl rfl rfl hbG,ob_c2 (k:=1) (k':=2) Try.ent_Trunc rfl rfl rfl (stb_3 (stb_n _) (stb_n _) (stb_c _)) rfl (by kernel_rfl) rfl (by kernel_rfl) X1,ob_mv (k:=3) rfl rfl rfl (stb_3 (stb_n _) (stb_n _) (stb_c _)) rfl (by kernel_rfl),ob_ex (k:=4) rfl rfl rfl (stb_n _) rfl (by kernel_rfl) rfl,ob_ex (k:=4) rfl rfl rfl (stb_n _) rfl (by kernel_rfl) rfl,ob_ex (k:=4) rfl rfl rfl (stb_c _) rfl (by kernel_rfl) rfl,ob_al rfl rfl rfl,ob_al rfl rfl rfl,⟨_,_,_,8,5,rfl,rfl,rfl,by kernel_rfl,by kernel_rfl⟩,⟨_,_,_,9,6,rfl,rfl,rfl,by kernel_rfl,by kernel_rfl⟩,ob_as (k:=7) rfl rfl rfl (stb_c _) rfl (by kernel_rfl),trivial⟩ (fun f w g H=>?_)
 obtain⟨p8,b1,q1,m1,d1,z1,e8,l8,H8,U8,J8⟩:=H 10 _ rfl
 obtain⟨p9,b2,q2,m2,d2,z2,e9,l9,H9,U9,J9⟩:=H 11 _ rfl
 have e10:=H 12 _ rfl
 refine⟨f 25,f 26,f 27,f 28,f 29,f 30,f 31,f 32,p8,p9,b1,q1,m1,d1,z1,b2,q2,m2,d2,z2,?_,H8,H9,U8,U9,J8,J9,l8,l9,g⟩
 simp only[List.map,Ro.dn,List.foldl,List.setIfInBounds_toArray,List.set_cons_zero,List.set_cons_succ,List.set_nil]
 rw[e8,e9,(show f 10 = .int .i64 0 from e10)]
def RLm5 (t0 t1 t2 t5 t6 t7 t9 t10 t11 t12 t13 t14 t15 t16 t17 t18 t19 t20 t21 t22 t23 t24 t25 t26 t27 t28 t29 t30 t31 t32 t33 t34 t35 t36 t37 t38:Value) (kB kO kP nb cb cq dq BW:Nat) (sb:Bool) (ab bq:Option Addr) (M Q:Int) (w0:World) (wq:World):Exit->Act->World->Prop
 | .normal,a,w=>∃u33 u34 u35 u36 u37 u38 a9 b9 c9 d9 e9,a = {tmps:=#[t0,t1,t2,.pointer (some ⟨kB,0,none⟩),.pointer (some ⟨kO,0,none⟩),.int .i64 e9,t6,t7,.pointer (some ⟨kP,0,none⟩),t9,t10,t11,t12,t13,t14,t15,t16,t17,t18,t19,t20,t21,t22,t23,t24,t25,t26,t27,t28,t29,t30,t31,t32,u33,u34,u35,u36,u37,u38],defers:=[]}/\w.heap[kO]? = some (.cells #[.bool a9,.slice b9 c9 d9] 24)/\Tol BW w a9 b9 c9 d9 e9 M/\Gr w0 w
 | _,_,_=>False
set_option maxRecDepth 100000 in
set_option maxHeartbeats 20000000 in
theorem regLm5 (t0 t1 t2 t5 t6 t7 t9 t10 t11 t12 t13 t14 t15 t16 t17 t18 t19 t20 t21 t22 t23 t24 t25 t26 t27 t28 t29 t30 t31 t32 t33 t34 t35 t36 t37 t38:Value) (kB kO kP nb cb cq dq BW:Nat) (sb:Bool) (ab bq:Option Addr) (M Q:Int) (w0:World) (wq:World)
  (X0:Hid (∀w1,Calls Try.prog 29 #[.agg #[.bool sb,.slice ab nb cb]] w1 fun r w'=>r = .returned (.agg #[.bool false,.slice ab nb cb])/\Gr w1 w'))
  (X1:Hid (∀w1,Gr w0 w1->Nw w1 false bq cq dq Q->Calls Try.prog 14 #[.agg #[.bool false,.slice bq cq dq],.agg #[.bool false,.slice ab nb cb]] w1 fun r w'=>∃a b c d e,r = .returned (.tuple #[.agg #[.bool a,.slice b c d],.int .i64 e])/\Hid (Tol BW w' a b c d e M)/\Gr w1 w'))
  (hO:wq.heap[kO]? = some (.cells #[.bool false,.slice none 0 0] 24)) (hQ:Nw wq false bq cq dq Q) (l1:w0.heap.size<=kO) (l2:kO<kP) (l3:kB<kO) (G0:Gr w0 wq) (hcs:(wq.cell? ⟨kB,0,none⟩=some (.bool sb)/\wq.cell? ⟨kB,1,none⟩=some (.slice ab nb cb)/\wq.cell? ⟨kP,0,none⟩=some (.bool false)/\wq.cell? ⟨kP,1,none⟩=some (.slice bq cq dq))) :
  Code.wp Try.prog (Code.region 5 #[{dst:=some 33,op:=Op.load 24 (Operand.tmp 8),type:=24,pos:= "gcd.go:42",after:=#[],guard:=none},{dst:=some 34,op:=Op.load 24 (Operand.tmp 3),type:=24,pos:= "gcd.go:42",after:=#[],guard:=none},{dst:=some 35,op:=Op.call {callee:=Callee.value (Operand.func 29),args:=#[Operand.tmp 34],argTypes:=#[24]},type:=24,pos:= "gcd.go:42",after:=#[{on:=1,ground:=Ground.data}],guard:=none},{dst:=some 36,op:=Op.call {callee:=Callee.value (Operand.func 14),args:=#[Operand.tmp 33,Operand.tmp 35],argTypes:=#[24,24]},type:=29,pos:= "gcd.go:42",after:=#[{on:=0,ground:=Ground.data},{on:=2,ground:=Ground.data},{on:=2,ground:=Ground.chain}],guard:=none},{dst:=some 37,op:=Op.extract (Operand.tmp 36) 0,type:=24,pos:= "gcd.go:42",after:=#[{on:=3,ground:=Ground.data}],guard:=none},{dst:=some 38,op:=Op.extract (Operand.tmp 36) 1,type:=28,pos:= "gcd.go:42",after:=#[{on:=3,ground:=Ground.data}],guard:=none},{dst:=none,op:=Op.store 24 (Operand.tmp 4) (Operand.tmp 37),type:=0,pos:= "gcd.go:42",after:=#[{on:=4,ground:=Ground.data},{on:=3,ground:=Ground.chain},{on:=0,ground:=Ground.phase},{on:=1,ground:=Ground.phase},{on:=2,ground:=Ground.phase},{on:=3,ground:=Ground.phase},{on:=4,ground:=Ground.phase},{on:=5,ground:=Ground.phase}],guard:=none},{dst:=some 5,op:=Op.assign (Operand.tmp 38),type:=28,pos:= "gcd.go:42",after:=#[{on:=5,ground:=Ground.data},{on:=6,ground:=Ground.chain},{on:=0,ground:=Ground.phase},{on:=1,ground:=Ground.phase},{on:=2,ground:=Ground.phase},{on:=3,ground:=Ground.phase},{on:=4,ground:=Ground.phase},{on:=5,ground:=Ground.phase},{on:=6,ground:=Ground.phase}],guard:=none}] true) (RLm5 t0 t1 t2 t5 t6 t7 t9 t10 t11 t12 t13 t14 t15 t16 t17 t18 t19 t20 t21 t22 t23 t24 t25 t26 t27 t28 t29 t30 t31 t32 t33 t34 t35 t36 t37 t38 kB kO kP nb cb cq dq BW sb ab bq M Q w0 wq) {tmps:=#[t0,t1,t2,.pointer (some ⟨kB,0,none⟩),.pointer (some ⟨kO,0,none⟩),t5,t6,t7,.pointer (some ⟨kP,0,none⟩),t9,t10,t11,t12,t13,t14,t15,t16,t17,t18,t19,t20,t21,t22,t23,t24,t25,t26,t27,t28,t29,t30,t31,t32,t33,t34,t35,t36,t37,t38],defers:=[]} wq:=by
 have hS0:(wq.drew.cell? ⟨kB,0,none⟩=some (.bool sb)/\wq.drew.cell? ⟨kB,1,none⟩=some (.slice ab nb cb)/\wq.drew.cell? ⟨kP,0,none⟩=some (.bool false)/\wq.drew.cell? ⟨kP,1,none⟩=some (.slice bq cq dq))/\Gr w0 wq.drew:=⟨hcs,G0.drew⟩
 have O_1:wq.drew.heap[kO]? = some (.cells #[.bool false,.slice none 0 0] 24):=hO
 have NQ_2:Nw wq.drew false bq cq dq Q:=hQ.gr ((Gr.refl wq).drew)
 clear hcs G0 hO hQ
 refine wp_region_held_drew (S:=fun w'=>(w'.cell? ⟨kB,0,none⟩=some (.bool sb)/\w'.cell? ⟨kB,1,none⟩=some (.slice ab nb cb)/\w'.cell? ⟨kP,0,none⟩=some (.bool false)/\w'.cell? ⟨kP,1,none⟩=some (.slice bq cq dq))/\Gr w0 w') (by kernel_rfl) hS0 (fun hHeld=>?_)
 clear hS0
 generalize wq.drew=wd at *
 refine wpAnyH_take (i:=0) (oi:=({dst:=some 33,op:=Op.load 24 (Operand.tmp 8),type:=24,pos:= "gcd.go:42",after:=#[],guard:=none}:Oper)) (v:=?_) rfl (by kernel_rfl) (by kernel_rfl) (by kernel_rfl) (fun _ _ _ h=>h) (Or.inl ⟨by rfl,?_⟩) (by with_reducible assumption) ?_
 rotate_left
 ·intro w hSw
  (try dsimp only at hSw)
  first|(go_simp;done)|(go_simp;with_reducible rfl)
 (try simp only[Act.put,List.setIfInBounds_toArray,List.set_cons_zero,List.set_cons_succ])
 refine wpAnyH_take (i:=1) (oi:=({dst:=some 34,op:=Op.load 24 (Operand.tmp 3),type:=24,pos:= "gcd.go:42",after:=#[],guard:=none}:Oper)) (v:=?_) rfl (by kernel_rfl) (by kernel_rfl) (by kernel_rfl) (fun _ _ _ h=>h) (Or.inl ⟨by rfl,?_⟩) (by with_reducible assumption) ?_
 rotate_left
 ·intro w hSw
  (try dsimp only at hSw)
  first|(go_simp;done)|(go_simp;with_reducible rfl)
 (try simp only[Act.put,List.setIfInBounds_toArray,List.set_cons_zero,List.set_cons_succ])
 refine wpAnyH_ready (rs:=[2]) (by kernel_rfl) (by simp) ?_
 refine AllReadyH.cons (o:=({dst:=some 35,op:=Op.call {callee:=Callee.value (Operand.func 29),args:=#[Operand.tmp 34],argTypes:=#[24]},type:=24,pos:= "gcd.go:42",after:=#[{on:=1,ground:=Ground.data}],guard:=none}:Oper)) rfl (fun K hK=>?_) AllReadyH.nil
 go_simp
 with_reducible refine(X0.out _).mono ?_
 rintro r wc3 ⟨rfl,gg5⟩
 refine hK.out _ _ ⟨⟨keepG gg5 hHeld.1.1,keepG gg5 hHeld.1.2.1,keepG gg5 hHeld.1.2.2.1,keepG gg5 hHeld.1.2.2.2⟩,hHeld.2.trans gg5⟩ (fun hH4=>?_)
 have hzwc3:=hHeld.2.size
 clear hK K
 (try simp only[Act.put,List.setIfInBounds_toArray,List.set_cons_zero,List.set_cons_succ])
 have O_6:=keepO gg5 O_1
 clear O_1
 have NQ_7:=NQ_2.gr gg5
 clear NQ_2
 refine wpAnyH_ready (rs:=[3]) (by kernel_rfl) (by simp) ?_
 refine AllReadyH.cons (o:=({dst:=some 36,op:=Op.call {callee:=Callee.value (Operand.func 14),args:=#[Operand.tmp 33,Operand.tmp 35],argTypes:=#[24,24]},type:=29,pos:= "gcd.go:42",after:=#[{on:=0,ground:=Ground.data},{on:=2,ground:=Ground.data},{on:=2,ground:=Ground.chain}],guard:=none}:Oper)) rfl (fun K hK=>?_) AllReadyH.nil
 go_simp
 with_reducible refine(X1.out _ hH4.2 NQ_7).mono ?_
 rintro r wc8 ⟨a9,b9,c9,d9,e9,rfl,WM_11,gg10⟩
 replace WM_11:=WM_11.out
 refine hK.out _ _ ⟨⟨keepG gg10 hH4.1.1,keepG gg10 hH4.1.2.1,keepG gg10 hH4.1.2.2.1,keepG gg10 hH4.1.2.2.2⟩,hH4.2.trans gg10⟩ (fun hH9=>?_)
 have hzwc8:=hH4.2.size
 clear hK K
 (try simp only[Act.put,List.setIfInBounds_toArray,List.set_cons_zero,List.set_cons_succ])
 have O_12:=keepO gg10 O_6
 clear O_6
 have NQ_13:=NQ_7.gr gg10
 clear NQ_7
 refine wpAnyH_take (i:=4) (oi:=({dst:=some 37,op:=Op.extract (Operand.tmp 36) 0,type:=24,pos:= "gcd.go:42",after:=#[{on:=3,ground:=Ground.data}],guard:=none}:Oper)) (v:=?_) rfl (by kernel_rfl) (by kernel_rfl) (by kernel_rfl) (fun _ _ _ h=>h) (Or.inl ⟨by rfl,?_⟩) (by with_reducible assumption) ?_
 rotate_left
 ·intro w hSw
  (try dsimp only at hSw)
  first|(go_simp;done)|(go_simp;with_reducible rfl)
 (try simp only[Act.put,List.setIfInBounds_toArray,List.set_cons_zero,List.set_cons_succ])
 refine wpAnyH_take (i:=5) (oi:=({dst:=some 38,op:=Op.extract (Operand.tmp 36) 1,type:=28,pos:= "gcd.go:42",after:=#[{on:=3,ground:=Ground.data}],guard:=none}:Oper)) (v:=?_) rfl (by kernel_rfl) (by kernel_rfl) (by kernel_rfl) (fun _ _ _ h=>h) (Or.inl ⟨by rfl,?_⟩) (by with_reducible assumption) ?_
 rotate_left
 ·intro w hSw
  (try dsimp only at hSw)
  first|(go_simp;done)|(go_simp;with_reducible rfl)
 (try simp only[Act.put,List.setIfInBounds_toArray,List.set_cons_zero,List.set_cons_succ])
 refine wpAnyH_ready (rs:=[6]) (by kernel_rfl) (by simp) ?_
 refine AllReadyH.cons (o:=({dst:=none,op:=Op.store 24 (Operand.tmp 4) (Operand.tmp 37),type:=0,pos:= "gcd.go:42",after:=#[{on:=4,ground:=Ground.data},{on:=3,ground:=Ground.chain},{on:=0,ground:=Ground.phase},{on:=1,ground:=Ground.phase},{on:=2,ground:=Ground.phase},{on:=3,ground:=Ground.phase},{on:=4,ground:=Ground.phase},{on:=5,ground:=Ground.phase}],guard:=none}:Oper)) rfl (fun K hK=>?_) AllReadyH.nil
 obtain⟨t0',t1',u0',u1'⟩:=outAny O_12
 go_simp
 refine hK.out _ _ ⟨⟨far2 (B:=kO) (by omega) hH9.1.1,far2 (B:=kO) (by omega) hH9.1.2.1,far2 (B:=kO) (by omega) hH9.1.2.2.1,far2 (B:=kO) (by omega) hH9.1.2.2.2⟩,((hH9.2.setCell (p:=⟨kO,0,none⟩) (by show _<=kO;omega) _).setCell (p:=⟨kO,1,none⟩) (by show _<=kO;omega) _)⟩ (fun hS14=>?_)
 clear hK K t0' t1' u0' u1'
 (try simp only[Act.put,List.setIfInBounds_toArray,List.set_cons_zero,List.set_cons_succ])
 have NQ_15:=NQ_13.set2 O_12 (.bool a9) (.slice b9 c9 d9) (by decide)
 have WM_16:=WM_11.set2 O_12 (.bool a9) (.slice b9 c9 d9) (by decide)
 have O_17:=put2_block O_12 (.bool a9) (.slice b9 c9 d9)
 clear NQ_13 WM_11 O_12
 refine wpAnyH_take (i:=7) (oi:=({dst:=some 5,op:=Op.assign (Operand.tmp 38),type:=28,pos:= "gcd.go:42",after:=#[{on:=5,ground:=Ground.data},{on:=6,ground:=Ground.chain},{on:=0,ground:=Ground.phase},{on:=1,ground:=Ground.phase},{on:=2,ground:=Ground.phase},{on:=3,ground:=Ground.phase},{on:=4,ground:=Ground.phase},{on:=5,ground:=Ground.phase},{on:=6,ground:=Ground.phase}],guard:=none}:Oper)) (v:=?_) rfl (by kernel_rfl) (by kernel_rfl) (by kernel_rfl) (fun _ _ _ h=>h) (Or.inl ⟨by rfl,?_⟩) (by with_reducible assumption) ?_
 rotate_left
 ·intro w hSw
  (try dsimp only at hSw)
  first|(go_simp;done)|(go_simp;with_reducible rfl)
 (try simp only[Act.put,List.setIfInBounds_toArray,List.set_cons_zero,List.set_cons_succ])
 refine wpAnyH_done (by kernel_rfl) ?_ _
 exact⟨_,_,_,_,_,_,a9,b9,c9,d9,e9,rfl,O_17,WM_16,hS14.2⟩
def LcmR (w:World) (M:Int) (r:Ending) (w':World):Prop:=∃a b c d e,r = .returned (.tuple #[.agg #[.bool a,.slice b c d],.int .i64 e])/\Hid (Tol w.heap.size w' a b c d e M)/\Gr w w'
theorem LcmR.mk' {w w':World} {M:Int} {r:Ending} (h:∃a b c d e,r = .returned (.tuple #[.agg #[.bool a,.slice b c d],.int .i64 e])/\Hid (Tol w.heap.size w' a b c d e M)/\Gr w w'):LcmR w M r w':=h
theorem lcm_num (X Y:Int):((Int.lcm X Y:Nat):Int)=(X.natAbs:Int).tdiv (Int.gcd X Y:Nat)*(Y.natAbs:Int):=by
 rw[Int.tdiv_eq_ediv_of_nonneg (by omega),<-Int.natCast_ediv,<-Int.natCast_mul]
 congr 1
 show Nat.lcm X.natAbs Y.natAbs=_
 unfold Nat.lcm
 show _=X.natAbs / Nat.gcd X.natAbs Y.natAbs*Y.natAbs
 rw[Nat.mul_comm (X.natAbs / _),<-Nat.mul_div_assoc _ (Nat.gcd_dvd_left _ _),Nat.mul_comm Y.natAbs]
set_option maxRecDepth 4000 in
set_option maxHeartbeats 8000000 in
theorem lcmG (sa sb:Bool) (aa ab:Option Addr) (na nb ca cb:Nat) (X Y:Int) (w:World) (hx:Wh w sa aa na ca X) (hy:Wh w sb ab nb cb Y) :
  Calls Try.prog 9 #[.agg #[.bool sa,.slice aa na ca],.agg #[.bool sb,.slice ab nb cb]] w fun r w'=>LcmR w (Int.lcm X Y:Nat) r w':=by
 have W0:=(((Gr.refl w).alloc (.cells #[.bool sa,.slice aa na ca] 24)).alloc (.cells #[.bool sb,.slice ab nb cb] 24)).alloc (.cells #[.bool false,.slice none 0 0] 24)
 obtain⟨H0,H1,H2⟩:=blk3 w (.cells #[.bool sa,.slice aa na ca] 24) (.cells #[.bool sb,.slice ab nb cb] 24) (.cells #[.bool false,.slice none 0 0] 24)
 obtain⟨x0,x1⟩:=bx2 H0
 obtain⟨x2,x3⟩:=bx2 H1
 have OF:=hide (fun w1 (g:Gr w w1)=>ofG sa sb aa ab na nb ca cb X Y w1 (hx.gr g) (hy.gr g))
 have S0:=hide (fun w1=>sizeOfG sa aa na ca w1)
 have S1:=hide (fun w1=>sizeOfG sb ab nb cb w1)
 have TT:=hide (fun w1 (g:Gr w w1) ag ng cg (hg:Nm w1 ⟨ag,ng,cg⟩ (Int.gcd X Y:Nat)) (h0:((Int.gcd X Y:Nat):Int)≠0)=>truncT false false aa ag na ng ca cg (X.natAbs:Int) (Int.gcd X Y:Nat) w1 (hx.gr g).size hg.1 h0)
 have MM:=hide (fun w1 (g:Gr w w1) bq cq dq Q (hq:Wh w1 false bq cq dq Q)=>mulT false false bq ab cq nb dq cb Q (Y.natAbs:Int) w1 hq (hy.gr g).size)
 clear hx hy
 have l1:w.heap.size<w.heap.size+1:=by omega
 have l2:w.heap.size+1<w.heap.size+1+1:=by omega
 have l3:=lt_of_get2 H2
 have HH:=hide (And.intro W0 (And.intro H0 (And.intro H1 H2)))
 clear W0 H0 H1 H2
 by_cases hg0:Int.gcd X Y=0
 ·have IN:=hide (fun w1 ag ng cg (hg:Nm w1 ⟨ag,ng,cg⟩ (Int.gcd X Y:Nat))=>isNoughtG false ag ng cg w1)
  have hL:((Int.lcm X Y:Nat):Int)=0:=by
   rw[lcm_num,hg0]
   have:Y.natAbs=0:=(Nat.gcd_eq_zero_iff.1 hg0).2
   rw[this];simp
  rw[hL]
  go_enter Try.func9,Try.ntmps9
  go_wp2_with (first
   | (go_at_call 6;(with_reducible refine(OF.out _ HH.out.1).mono ?_);rintro r w1 ⟨b,c,d,rfl,TG,g1⟩;have gx:=(Gr.refl w1).alloc (.cells #[.bool false,.slice b c d] 24);have KG:=blk1 w1 (.cells #[.bool false,.slice b c d] 24);have K2:=keepO gx (keepO g1 HH.out.2.2.2);obtain⟨y0,y1⟩:=bx2 KG;have hc:c=0:=(TG.out.1.1.n0.2 (by rw[hg0];rfl));have IN2:=hide (fun w1=>isNoughtG false b c d w1);rw[decide_eq_true hc] at IN2;clear hc)
   | (go_at_call 23;(with_reducible refine(IN2.out _).mono ?_);rintro r w2 ⟨rfl,g2⟩;have K4:=keepO g2 K2;obtain⟨z0,z1,z2,z3⟩:=outAny K4))
  obtain⟨e0,e1⟩:=bx2 (put2_block K4 (.bool false) (.slice none 0 0))
  have lz:w.heap.size<=w.heap.size+1+1:=by omega
  have BQ:LcmR w 0 (.returned (.tuple #[.agg #[.bool false,.slice none 0 0],.int .i64 0])) _:=LcmR.mk' ⟨false,none,0,0,0,rfl,Or.inl ⟨topN_pos,rfl,(Nw.nil _).1,Fresh.nil _ _⟩,((((HH.out.1.trans g1).trans gx).trans g2).setCell (p:=⟨w.heap.size+1+1,0,none⟩) lz (.bool false)).setCell (p:=⟨w.heap.size+1+1,1,none⟩) lz (.slice none 0 0)⟩
  refine bodyPost_ret (v:=.tuple #[.agg #[.bool false,.slice none 0 0],.int .i64 0]) ?_ rfl BQ
  simp[results,Try.results9,go_sem,e0,e1]
 ·have hg1:((Int.gcd X Y:Nat):Int)≠0:=by omega
  rw[lcm_num]
  go_enter Try.func9,Try.ntmps9
  go_wp2_with (first
   | (go_at_call 6;(with_reducible refine(OF.out _ HH.out.1).mono ?_);rintro r w1 ⟨b,c,d,rfl,TG,g1⟩;have gx:=(Gr.refl w1).alloc (.cells #[.bool false,.slice b c d] 24);have KG:=blk1 w1 (.cells #[.bool false,.slice b c d] 24);have K2:=keepO gx (keepO g1 HH.out.2.2.2);have K0:=keepO gx (keepO g1 HH.out.2.1);have K1:=keepO gx (keepO g1 HH.out.2.2.1);clear x0 x1 x2 x3;obtain⟨y0,y1⟩:=bx2 KG;have hc:¬c=0:=fun q=>hg1 (TG.out.1.1.n0.1 q);have IN2:=hide (fun w1=>isNoughtG false b c d w1);rw[decide_eq_false hc] at IN2;clear hc)
   | (go_at_call 23;(with_reducible refine(IN2.out _).mono ?_);rintro r w2 ⟨rfl,g2⟩;have KG2:=keepO g2 KG;have K22:=keepO g2 K2;have K02:=keepO g2 K0;have K12:=keepO g2 K1))
  have GW:=(((HH.out.1.trans g1).trans gx).trans g2)
  have NG:=(TG.out.1.gr gx).gr g2
  obtain⟨z0,z1⟩:=bx2 K02
  obtain⟨z2,z3⟩:=bx2 KG2
  have X0:∀w9 v,Gr w2 w9->isC (.agg #[.bool sa,.slice aa na ca]) w9 v->Calls Try.prog 29 #[v] w9 fun e w'=>∃u,e = .returned u/\isC (.agg #[.bool false,.slice aa na ca]) w' u/\Gr w9 w':=by
   rintro w9 v g rfl
   refine(S0.out w9).mono ?_
   rintro r w' ⟨rfl,g'⟩
   exact⟨_,rfl,rfl,g'⟩
  have X1:∀w9 v v',Gr w2 w9->isC (.agg #[.bool false,.slice aa na ca]) w9 v->isC (.agg #[.bool false,.slice b c d]) w9 v'->Calls Try.prog 28 #[v,v'] w9 fun e w'=>∃u,e = .returned u/\TupF [NumF (isZ ((X.natAbs:Int).tdiv (Int.gcd X Y:Nat))),NumF (isZ ((X.natAbs:Int).tmod (Int.gcd X Y:Nat))),isC (.int .i64 0)] w' u/\Gr w9 w':=by
   rintro w9 v v' g rfl rfl
   refine(TT.out w9 (GW.trans g) b c d (NG.gr g) hg1).mono ?_
   rintro r w' ⟨a,b,c,d,a',b',c',d',rfl,k1,k2,k3,k4,k5,k6⟩
   exact⟨_,rfl,tup3 ⟨a,b,c,d,_,rfl,⟨k1.out,k3.out.low (Nat.zero_le _)⟩,rfl⟩ ⟨a',b',c',d',_,rfl,⟨k2.out,k4.out.low (Nat.zero_le _)⟩,rfl⟩ rfl,k6⟩
  have lw2:=GW.size
  have lk0:=lt_of_get2 K02
  have lkG:=lt_of_get2 KG2
  have lk2:=lt_of_get2 K22
  refine Code.wp_mono ?_ (regLm4 _ _ _ _ _ _ _ _ _ _ _ _ _ _ _ _ _ _ _ _ _ _ _ _ _ _ _ _ _ _ _ _ _ _ _ _ _ w.heap.size na ca w1.heap.size c d sa false aa b _ _ w2 X0 X1 K02 KG2)
  intro e a1 w3 hR
  cases e <;> first|(exact False.elim hR)|skip
  obtain⟨_,_,_,_,_,_,_,_,kP,kR,sq,bq,cq,dq,zq,sr,br,cr,dr,zr,rfl,HP,HR,NQ,NR,ez,ez',lP,lR,g3⟩:=hR
  unfold isZ at ez
  subst ez
  obtain rfl:sq=false:=by
   cases sq
   ·rfl
   ·have:=NQ.1.neg_iff.1 rfl
    have:=Int.tdiv_nonneg (a:=(X.natAbs:Int)) (b:=(Int.gcd X Y:Nat)) (by omega) (by omega)
    omega
  clear HR NR ez' lR X0 X1
  have G3:=GW.trans g3
  have K13:=keepO g3 K12
  have K23:=keepO g3 K22
  obtain⟨v0,v1⟩:=bx2 K13
  obtain⟨v2,v3⟩:=bx2 HP
  have X3:Hid (∀w1,Gr w w1->Nw w1 false bq cq dq ((X.natAbs:Int).tdiv (Int.gcd X Y:Nat))->Calls Try.prog 14 #[.agg #[.bool false,.slice bq cq dq],.agg #[.bool false,.slice ab nb cb]] w1 fun r w'=>∃a b c d e,r = .returned (.tuple #[.agg #[.bool a,.slice b c d],.int .i64 e])/\Hid (Tol w.heap.size w' a b c d e ((X.natAbs:Int).tdiv (Int.gcd X Y:Nat)*(Y.natAbs:Int)))/\Gr w1 w'):=fun w1 g h=>by
   refine(MM.out w1 g bq cq dq _ h.1).mono ?_
   rintro r w' ⟨a,b,c,d,e,rfl,k1,k2⟩
   exact⟨a,b,c,d,e,rfl,k1.out.low g.size,k2⟩
  go_wp2
  refine Code.wp_mono ?_ (regLm5 _ _ _ _ _ _ _ _ _ _ _ _ _ _ _ _ _ _ _ _ _ _ _ _ _ _ _ _ _ _ _ _ _ _ _ _ (w.heap.size+1) (w.heap.size+1+1) kP nb cb cq dq w.heap.size sb ab bq _ ((X.natAbs:Int).tdiv (Int.gcd X Y:Nat)) w w3 S1 X3 K23 NQ (by omega) (by omega) (by omega) G3 ⟨v0,v1,v2,v3⟩)
  intro e a1 w4 hR
  cases e <;> first|(exact False.elim hR)|skip
  obtain⟨_,_,_,_,_,_,a9,b9,c9,d9,e9,rfl,HO,TM,G4⟩:=hR
  obtain⟨y0,y1⟩:=bx2 HO
  have BQ:LcmR w ((X.natAbs:Int).tdiv (Int.gcd X Y:Nat)*(Y.natAbs:Int)) (.returned (.tuple #[.agg #[.bool a9,.slice b9 c9 d9],.int .i64 e9])) w4:=LcmR.mk' ⟨a9,b9,c9,d9,e9,rfl,TM,G4⟩
  go_wp2
  refine bodyPost_ret (v:=.tuple #[.agg #[.bool a9,.slice b9 c9 d9],.int .i64 e9]) ?_ rfl BQ
  simp[results,Try.results9,go_sem,y0,y1]
set_option maxHeartbeats 4000000 in
theorem lcmN (sa sb:Bool) (aa ab:Option Addr) (na nb ca cb:Nat) (xs ys:List Nat) (w:World) (rx:Row w aa na ca xs) (ry:Row w ab nb cb ys) (hN:(rightN sa xs && rightN sb ys)=false) :
  Calls Try.prog 9 #[.agg #[.bool sa,.slice aa na ca],.agg #[.bool sb,.slice ab nb cb]] w fun r w'=>r = .returned (.tuple #[.agg #[.bool false,.slice none 0 0],.int .i64 2])/\Gr w w':=by
 have W0:=(((Gr.refl w).alloc (.cells #[.bool sa,.slice aa na ca] 24)).alloc (.cells #[.bool sb,.slice ab nb cb] 24)).alloc (.cells #[.bool false,.slice none 0 0] 24)
 obtain⟨H0,H1,H2⟩:=blk3 w (.cells #[.bool sa,.slice aa na ca] 24) (.cells #[.bool sb,.slice ab nb cb] 24) (.cells #[.bool false,.slice none 0 0] 24)
 obtain⟨x0,x1⟩:=bx2 H0
 obtain⟨x2,x3⟩:=bx2 H1
 have OF:=hide (fun w1 (g:Gr w w1)=>ofN sa sb aa ab na nb ca cb xs ys w1 (rx.gr g) (ry.gr g) hN)
 clear rx ry hN
 have HH:=hide (And.intro W0 H2)
 clear W0 H0 H1 H2
 go_enter Try.func9,Try.ntmps9
 go_wp2_with (go_at_call 6;(with_reducible refine(OF.out _ HH.out.1).mono ?_);rintro r w1 ⟨rfl,g1⟩;have gx:=(Gr.refl w1).alloc (.cells #[.bool false,.slice none 0 0] 24);have K2:=keepO gx (keepO g1 HH.out.2);obtain⟨z0,z1,z2,z3⟩:=outAny K2)
 obtain⟨e0,e1⟩:=bx2 (put2_block K2 (.bool false) (.slice none 0 0))
 have lz:w.heap.size<=w.heap.size+1+1:=by omega
 refine bodyPost_ret (v:=.tuple #[.agg #[.bool false,.slice none 0 0],.int .i64 2]) ?_ rfl ⟨rfl,(((HH.out.1.trans g1).trans gx).setCell (p:=⟨w.heap.size+1+1,0,none⟩) lz (.bool false)).setCell (p:=⟨w.heap.size+1+1,1,none⟩) lz (.slice none 0 0)⟩
 simp[results,Try.results9,go_sem,e0,e1]
end Go.Proofs.Ytmdakhpdofepeaa
