import Derived.Test.YtapnglidnblmcaaGreatQ29
import Derived.Test.YtapnglidnblmcaaGreatQ34
import Derived.Test.YtapnglidnblmcaaGreatQ05
import Derived.Test.YtapnglidnblmcaaGreatQ08
import Derived.Test.YtapnglidnblmcaaGreatQ15
import Derived.Test.YtapnglidnblmcaaGreatQ19
import Derived.Laws.OwnMore
namespace Go.Proofs.YtapnglidnblmcaaGreat
open Go.RowKit
set_option linter.unusedVariables false
set_option linter.unusedSimpArgs false
set_option maxHeartbeats 2000000 in
theorem smallV (z:Int) (w:World) (h1 : -9223372036854775808<=z) (h2:z<=9223372036854775807) :
  Calls Tryz.prog 23 #[.int .i64 z] w fun r w'=>∃a b c d,r = .returned (.agg #[.bool a,.slice b c d])/\Hid (Wh w' a b c d z)/\Gr w w':=by
 have WQ:=hide (wholeQ z)
 have TB:Hid (∀(s:Bool) (ad:Option Addr) (n cap:Nat) (w1:World),Lim w1 ad n cap 18446744073709551616 z.natAbs->Calls Tryz.prog 51 #[.agg #[.bool s,.slice ad n cap,.int .i64 0]] w1 fun r w'=>∃a b c d ok,r = .returned (.tuple #[.agg #[.bool a,.slice b c d],.bool ok])/\Hid (TelR w' a b c d ok (iv s z.natAbs))/\Gr w1 w'):=fun s ad n cap w1 hl=>by
  have:=tellB s ad n cap z.natAbs 0 w1 hl (Nat.le_trans (bl_64 (by omega)) (by omega)) (by omega)
  rw[Nat.pow_zero,Nat.mul_one] at this
  exact this
 have hzt:Hid (z.natAbs<TopN):=lt_top (by omega)
 have B1:=blk1 w (.cells #[.bool false,.slice none 0 0] 24)
 have GA:Gr w (w.alloc (.cells #[.bool false,.slice none 0 0] 24)):=(Gr.refl w).alloc _
 go_enter Tryz.func23,Tryz.ntmps23
 go_wp2_with (first|(go_at_call 20;(with_reducible refine(WQ.out _ h1 h2).mono ?_);rintro r w1 ⟨s1,a1,n1,c1,rfl,L1,E1,g1⟩)|(go_at_call 51;(with_reducible refine(TB.out s1 a1 n1 c1 _ L1.out).mono ?_);rintro r w2 ⟨a2,b2,c2,d2,ok2,rfl,T2,g2⟩;have H0:=keepO (g1.trans g2) B1;have H1:=keepO ((Gr.refl w2).alloc (.cells #[.bool a2,.slice b2 c2 d2] 24)) H0;obtain⟨z0,z1,z2,z3⟩:=Out2.of H1;obtain⟨q0,q1⟩:=bx2 (blk1 w2 (.cells #[.bool a2,.slice b2 c2 d2] 24))))
 have WH:Wh w2 a2 b2 c2 d2 z:=by
  have hT:=T2.out
  rw[E1.out] at hT
  rcases hT with ⟨_,_,h⟩|⟨h,_⟩
  ·exact h
  ·exact absurd hzt.out (Nat.not_lt.2 h)
 have gx:Gr w2 (w2.alloc (.cells #[.bool a2,.slice b2 c2 d2] 24)):=(Gr.refl w2).alloc _
 have G3:Gr w (w2.alloc (.cells #[.bool a2,.slice b2 c2 d2] 24)):=((GA.trans g1).trans g2).trans gx
 refine bodyPost_ret (v:=.agg #[.bool a2,.slice b2 c2 d2]) ?_ rfl ⟨a2,b2,c2,d2,rfl,(WH.gr gx).out2 H1 _ _,(G3.setCell (p:=⟨w.heap.size,0,none⟩) (Nat.le_refl _) _).setCell (p:=⟨w.heap.size,1,none⟩) (Nat.le_refl _) _⟩
 simp[results,Tryz.results23,go_sem,z0,z1]
theorem sameIB {s t:Bool} {ad1 ad2:Option Addr} {n1 n2 c1 c2:Nat} {X Y:Int} {w:World} (e:X=Y) (hx:Wh w s ad1 n1 c1 X) (hy:Wh w t ad2 n2 c2 Y) :
  Calls Tryz.prog 15 #[.agg #[.bool s,.slice ad1 n1 c1],.agg #[.bool t,.slice ad2 n2 c2]] w fun r w'=>r = .returned (.bool true)/\Gr w w':=by
 have:=sameIntL s t ad1 ad2 n1 n2 c1 c2 X Y w hx hy
 rw[eqI_t e] at this
 exact this
theorem tx255:Bs.Tx 16 255 [15,15]:=⟨by decide,by decide,by decide,by decide⟩
theorem ff_txt:stB (txtB true [15,15]) = {data:=#[45,102,102]}:=by rfl
theorem awPrint (w:World) (s:Bool) (ad:Option Addr) (n cap:Nat) (hx:Wh w s ad n cap (-255)) :
  Calls Tryz.prog 8 #[.agg #[.bool s,.slice ad n cap],.int .i64 16] w fun r w'=>r = .returned (.tuple #[.string {data:=#[45,102,102]},.int .i64 0])/\Gr w w':=by
 refine(printB 16 s ad n cap (-255) w (by omega) (by omega) hx).mono ?_
 rintro r w' ⟨ds,e,hT,g⟩
 have h1:ds=[15,15]:=hT.out.one (by omega) tx255
 have h2:s=true:=hx.neg_iff.2 (by omega)
 rw[h1,h2,ff_txt] at e
 exact⟨e,g⟩
theorem awCount (w:World) (s:Bool) (ad:Option Addr) (n cap:Nat) (hx:Wh w s ad n cap (-255)) :
  Calls Tryz.prog 10 #[.agg #[.bool s,.slice ad n cap],.int .i64 16] w fun r w'=>r = .returned (.tuple #[.int .i64 2,.int .i64 0])/\Gr w w':=by
 refine(countB 16 s ad n cap (-255) w (by omega) (by omega) hx).mono ?_
 rintro r w' ⟨ds,e,hT,g⟩
 have h1:ds=[15,15]:=hT.out.one (by omega) tx255
 rw[h1] at e
 exact⟨e,g⟩
theorem pl_z:Bs.Pl 36 false [122] 1:=⟨by decide,fun i hi=>by
 have h:i=0:=by omega
 subst h
 exact⟨by decide,fun _=>.inr rfl,fun h=>absurd h (by omega)⟩,fun h=>absurd h (by decide)⟩
theorem z_ng:ngB {data:=#[122]}=false:=by decide
theorem z_tl:nB (tlB {data:=#[122]})=[122]:=by decide
theorem z_sz:(tlB {data:=#[122]}).size=1:=by decide
theorem z_wv:Bs.wv 36 ([122].map Bs.dgv)=35:=by decide
theorem awParse (w:World) :
  Calls Tryz.prog 13 #[.string {data:=#[122]},.int .i64 36] w fun r w'=>∃q m d,r = .returned (.tuple #[.agg #[.bool false,.slice q m d],.agg #[.int .i64 0,.int .i64 0]])/\Hid (Wh w' false q m d 35)/\Gr w w':=by
 refine(parseB {data:=#[122]} 36 w (by omega) (by omega) (by decide)).mono ?_
 rintro r w' ⟨h,g⟩
 unfold PaR at h
 rw[z_ng,z_tl,z_sz] at h
 rcases h with ⟨m,h1,h2,_⟩|⟨_,_,h3,_⟩|⟨_,_,q,m,d,h4,h5,_⟩
 ·exact absurd ⟨h1.one pl_z,by omega⟩ h2
 ·rw[z_wv] at h3
  have:(35:Nat)<TopN:=lt_top (by omega)
  omega
 ·rw[z_wv] at h5
  exact⟨q,m,d,h4,h5.to (by decide),g⟩
def RAw4 (t0 t7 t8 t9 t10 t11 t12 t13 t14 t15 t16 t17 t18 t19 t20 t21 t22 t23 t24 t25 t26 t27 t28 t29 t30 t31 t32 t33 t34 t35 t36 t37 t38 t39 t40 t41 t42 t43 t44:Value) (p3 p4 nx cx:Nat) (sx:Bool) (ax:Option Addr) (wq:World):Exit->Act->World->Prop
 | .normal,a,w=>∃u21 u22 u23 u24 u25 u26 u27 u28 u29 u30 u31 u32 u33 u34 u35 u36 u37 u38 u39 u40 u41 u42 u43 u44,a = {tmps:=#[.bool true,.string {data:=#[45,102,102]},.int .i64 0,.pointer (some ⟨p3,0,none⟩),.pointer (some ⟨p4,0,none⟩),.int .i64 2,.int .i64 0,t7,t8,t9,t10,t11,t12,t13,t14,t15,t16,t17,t18,t19,t20,u21,u22,u23,u24,u25,u26,u27,u28,u29,u30,u31,u32,u33,u34,u35,u36,u37,u38,u39,u40,u41,u42,u43,u44],defers:=[]}/\Gr wq w
 | _,_,_=>False
set_option maxRecDepth 100000 in
set_option maxHeartbeats 20000000 in
theorem regAw4 (t0 t7 t8 t9 t10 t11 t12 t13 t14 t15 t16 t17 t18 t19 t20 t21 t22 t23 t24 t25 t26 t27 t28 t29 t30 t31 t32 t33 t34 t35 t36 t37 t38 t39 t40 t41 t42 t43 t44:Value) (p3 p4 nx cx:Nat) (sx:Bool) (ax:Option Addr) (wq:World)
  (X1:Hid (∀w1,Gr wq w1->Calls Tryz.prog 23 #[.int .i64 35] w1 fun r w'=>∃a b c d,r = .returned (.agg #[.bool a,.slice b c d])/\Hid (Wh w' a b c d 35)/\Gr w1 w'))
  (X2:Hid (∀w1 a b c d,Gr wq w1->Wh w1 a b c d 35->Calls Tryz.prog 15 #[.agg #[.bool sx,.slice ax nx cx],.agg #[.bool a,.slice b c d]] w1 fun r w'=>r = .returned (.bool true)/\Gr w1 w')) (G0:Gr wq wq) (hcs:(wq.cell? ⟨p3,0,none⟩=some (.bool sx)/\wq.cell? ⟨p3,1,none⟩=some (.slice ax nx cx)/\wq.cell? ⟨p4,0,none⟩=some (.int .i64 0)/\wq.cell? ⟨p4,1,none⟩=some (.int .i64 0))) :
  Code.wp Tryz.prog (Code.region 4 #[{dst:=some 21,op:=Op.move (Operand.tmp 1),type:=9,pos:= "law.go:25",after:=#[],guard:=none},{dst:=some 22,op:=Op.binOp BinOp.eql 9 (Operand.tmp 21) (Operand.const (Value.string {data:=#[45,102,102]})) 9,type:=4,pos:= "law.go:25",after:=#[{on:=0,ground:=Ground.data}],guard:=none},{dst:=some 23,op:=Op.move (Operand.tmp 22),type:=4,pos:= "law.go:25",after:=#[{on:=1,ground:=Ground.data}],guard:=none},{dst:=some 24,op:=Op.move (Operand.tmp 2),type:=27,pos:= "law.go:25",after:=#[{on:=2,ground:=Ground.guard}],guard:=some (2,true)},{dst:=some 25,op:=Op.binOp BinOp.eql 27 (Operand.tmp 24) (Operand.const (Value.int IntKind.i64 0)) 27,type:=4,pos:= "law.go:25",after:=#[{on:=3,ground:=Ground.data},{on:=2,ground:=Ground.guard}],guard:=some (2,true)},{dst:=some 26,op:=Op.pick (Operand.tmp 23) (Operand.tmp 25) (Operand.const (Value.bool false)),type:=4,pos:= "law.go:25",after:=#[{on:=2,ground:=Ground.data},{on:=4,ground:=Ground.data}],guard:=none},{dst:=some 27,op:=Op.move (Operand.tmp 26),type:=4,pos:= "law.go:25",after:=#[{on:=5,ground:=Ground.data},{on:=2,ground:=Ground.chain}],guard:=none},{dst:=some 28,op:=Op.load 35 (Operand.tmp 4),type:=35,pos:= "law.go:25",after:=#[{on:=6,ground:=Ground.guard}],guard:=some (6,true)},{dst:=some 29,op:=Op.build 35 #[],type:=35,pos:= "law.go:25",after:=#[{on:=6,ground:=Ground.guard}],guard:=some (6,true)},{dst:=some 30,op:=Op.binOp BinOp.eql 35 (Operand.tmp 28) (Operand.tmp 29) 35,type:=4,pos:= "law.go:25",after:=#[{on:=7,ground:=Ground.data},{on:=8,ground:=Ground.data},{on:=6,ground:=Ground.guard}],guard:=some (6,true)},{dst:=some 31,op:=Op.pick (Operand.tmp 27) (Operand.tmp 30) (Operand.const (Value.bool false)),type:=4,pos:= "law.go:25",after:=#[{on:=6,ground:=Ground.data},{on:=9,ground:=Ground.data}],guard:=none},{dst:=some 32,op:=Op.move (Operand.tmp 31),type:=4,pos:= "law.go:25",after:=#[{on:=10,ground:=Ground.data},{on:=6,ground:=Ground.chain}],guard:=none},{dst:=some 33,op:=Op.load 24 (Operand.tmp 3),type:=24,pos:= "law.go:25",after:=#[{on:=11,ground:=Ground.guard}],guard:=some (11,true)},{dst:=some 34,op:=Op.call {callee:=Callee.value (Operand.func 23),args:=#[Operand.const (Value.int IntKind.i64 35)],argTypes:=#[2]},type:=24,pos:= "law.go:25",after:=#[{on:=11,ground:=Ground.chain},{on:=11,ground:=Ground.guard}],guard:=some (11,true)},{dst:=some 35,op:=Op.call {callee:=Callee.value (Operand.func 15),args:=#[Operand.tmp 33,Operand.tmp 34],argTypes:=#[24,24]},type:=4,pos:= "law.go:25",after:=#[{on:=12,ground:=Ground.data},{on:=13,ground:=Ground.data},{on:=13,ground:=Ground.chain},{on:=11,ground:=Ground.guard}],guard:=some (11,true)},{dst:=some 36,op:=Op.pick (Operand.tmp 32) (Operand.tmp 35) (Operand.const (Value.bool false)),type:=4,pos:= "law.go:25",after:=#[{on:=11,ground:=Ground.data},{on:=14,ground:=Ground.data}],guard:=none},{dst:=some 37,op:=Op.move (Operand.tmp 36),type:=4,pos:= "law.go:25",after:=#[{on:=15,ground:=Ground.data},{on:=14,ground:=Ground.chain}],guard:=none},{dst:=some 38,op:=Op.move (Operand.tmp 5),type:=3,pos:= "law.go:25",after:=#[{on:=16,ground:=Ground.guard}],guard:=some (16,true)},{dst:=some 39,op:=Op.binOp BinOp.eql 3 (Operand.tmp 38) (Operand.const (Value.int IntKind.i64 2)) 3,type:=4,pos:= "law.go:25",after:=#[{on:=17,ground:=Ground.data},{on:=16,ground:=Ground.guard}],guard:=some (16,true)},{dst:=some 40,op:=Op.pick (Operand.tmp 37) (Operand.tmp 39) (Operand.const (Value.bool false)),type:=4,pos:= "law.go:25",after:=#[{on:=16,ground:=Ground.data},{on:=18,ground:=Ground.data}],guard:=none},{dst:=some 41,op:=Op.move (Operand.tmp 40),type:=4,pos:= "law.go:25",after:=#[{on:=19,ground:=Ground.data},{on:=16,ground:=Ground.chain}],guard:=none},{dst:=some 42,op:=Op.move (Operand.tmp 6),type:=27,pos:= "law.go:25",after:=#[{on:=20,ground:=Ground.guard}],guard:=some (20,true)},{dst:=some 43,op:=Op.binOp BinOp.eql 27 (Operand.tmp 42) (Operand.const (Value.int IntKind.i64 0)) 27,type:=4,pos:= "law.go:25",after:=#[{on:=21,ground:=Ground.data},{on:=20,ground:=Ground.guard}],guard:=some (20,true)},{dst:=some 44,op:=Op.pick (Operand.tmp 41) (Operand.tmp 43) (Operand.const (Value.bool false)),type:=4,pos:= "law.go:25",after:=#[{on:=20,ground:=Ground.data},{on:=22,ground:=Ground.data}],guard:=none},{dst:=some 0,op:=Op.assign (Operand.tmp 44),type:=4,pos:= "law.go:25",after:=#[{on:=23,ground:=Ground.data},{on:=20,ground:=Ground.chain},{on:=0,ground:=Ground.phase},{on:=1,ground:=Ground.phase},{on:=2,ground:=Ground.phase},{on:=3,ground:=Ground.phase},{on:=4,ground:=Ground.phase},{on:=5,ground:=Ground.phase},{on:=6,ground:=Ground.phase},{on:=7,ground:=Ground.phase},{on:=8,ground:=Ground.phase},{on:=9,ground:=Ground.phase},{on:=10,ground:=Ground.phase},{on:=11,ground:=Ground.phase},{on:=12,ground:=Ground.phase},{on:=13,ground:=Ground.phase},{on:=14,ground:=Ground.phase},{on:=15,ground:=Ground.phase},{on:=16,ground:=Ground.phase},{on:=17,ground:=Ground.phase},{on:=18,ground:=Ground.phase},{on:=19,ground:=Ground.phase},{on:=20,ground:=Ground.phase},{on:=21,ground:=Ground.phase},{on:=22,ground:=Ground.phase},{on:=23,ground:=Ground.phase}],guard:=none}] true) (RAw4 t0 t7 t8 t9 t10 t11 t12 t13 t14 t15 t16 t17 t18 t19 t20 t21 t22 t23 t24 t25 t26 t27 t28 t29 t30 t31 t32 t33 t34 t35 t36 t37 t38 t39 t40 t41 t42 t43 t44 p3 p4 nx cx sx ax wq) {tmps:=#[t0,.string {data:=#[45,102,102]},.int .i64 0,.pointer (some ⟨p3,0,none⟩),.pointer (some ⟨p4,0,none⟩),.int .i64 2,.int .i64 0,t7,t8,t9,t10,t11,t12,t13,t14,t15,t16,t17,t18,t19,t20,t21,t22,t23,t24,t25,t26,t27,t28,t29,t30,t31,t32,t33,t34,t35,t36,t37,t38,t39,t40,t41,t42,t43,t44],defers:=[]} wq:=by
 have hS0:(wq.drew.cell? ⟨p3,0,none⟩=some (.bool sx)/\wq.drew.cell? ⟨p3,1,none⟩=some (.slice ax nx cx)/\wq.drew.cell? ⟨p4,0,none⟩=some (.int .i64 0)/\wq.drew.cell? ⟨p4,1,none⟩=some (.int .i64 0))/\Gr wq wq.drew:=⟨hcs,G0.drew⟩
 clear hcs G0
 refine wp_region_held_drew (S:=fun w'=>(w'.cell? ⟨p3,0,none⟩=some (.bool sx)/\w'.cell? ⟨p3,1,none⟩=some (.slice ax nx cx)/\w'.cell? ⟨p4,0,none⟩=some (.int .i64 0)/\w'.cell? ⟨p4,1,none⟩=some (.int .i64 0))/\Gr wq w') (by kernel_rfl) hS0 (fun hHeld=>?_)
 clear hS0
 generalize wq.drew=wd at *
 refine wpAnyH_take (i:=0) (oi:=({dst:=some 21,op:=Op.move (Operand.tmp 1),type:=9,pos:= "law.go:25",after:=#[],guard:=none}:Oper)) (v:=?_) rfl (by kernel_rfl) (by kernel_rfl) (by kernel_rfl) (fun _ _ _ h=>h) (Or.inl ⟨by rfl,?_⟩) (by with_reducible assumption) ?_
 rotate_left
 ·intro w hSw
  (try dsimp only at hSw)
  first|(go_simp;done)|(go_simp;with_reducible rfl)
 (try simp only[Act.put,List.setIfInBounds_toArray,List.set_cons_zero,List.set_cons_succ])
 refine wpAnyH_take (i:=1) (oi:=({dst:=some 22,op:=Op.binOp BinOp.eql 9 (Operand.tmp 21) (Operand.const (Value.string {data:=#[45,102,102]})) 9,type:=4,pos:= "law.go:25",after:=#[{on:=0,ground:=Ground.data}],guard:=none}:Oper)) (v:=?_) rfl (by kernel_rfl) (by kernel_rfl) (by kernel_rfl) (fun _ _ _ h=>h) (Or.inl ⟨by rfl,?_⟩) (by with_reducible assumption) ?_
 rotate_left
 ·intro w hSw
  (try dsimp only at hSw)
  first|(go_simp;done)|(go_simp;with_reducible rfl)
 (try simp only[Act.put,List.setIfInBounds_toArray,List.set_cons_zero,List.set_cons_succ])
 refine wpAnyH_take (i:=2) (oi:=({dst:=some 23,op:=Op.move (Operand.tmp 22),type:=4,pos:= "law.go:25",after:=#[{on:=1,ground:=Ground.data}],guard:=none}:Oper)) (v:=?_) rfl (by kernel_rfl) (by kernel_rfl) (by kernel_rfl) (fun _ _ _ h=>h) (Or.inl ⟨by rfl,?_⟩) (by with_reducible assumption) ?_
 rotate_left
 ·intro w hSw
  (try dsimp only at hSw)
  first|(go_simp;done)|(go_simp;with_reducible rfl)
 (try simp only[Act.put,List.setIfInBounds_toArray,List.set_cons_zero,List.set_cons_succ])
 refine wpAnyH_take (i:=3) (oi:=({dst:=some 24,op:=Op.move (Operand.tmp 2),type:=27,pos:= "law.go:25",after:=#[{on:=2,ground:=Ground.guard}],guard:=some (2,true)}:Oper)) (v:=?_) rfl (by kernel_rfl) (by kernel_rfl) (by kernel_rfl) (fun _ _ _ h=>h) (Or.inl ⟨by rfl,?_⟩) (by with_reducible assumption) ?_
 rotate_left
 ·intro w hSw
  (try dsimp only at hSw)
  first|(go_simp;done)|(go_simp;with_reducible rfl)
 (try simp only[Act.put,List.setIfInBounds_toArray,List.set_cons_zero,List.set_cons_succ])
 refine wpAnyH_take (i:=4) (oi:=({dst:=some 25,op:=Op.binOp BinOp.eql 27 (Operand.tmp 24) (Operand.const (Value.int IntKind.i64 0)) 27,type:=4,pos:= "law.go:25",after:=#[{on:=3,ground:=Ground.data},{on:=2,ground:=Ground.guard}],guard:=some (2,true)}:Oper)) (v:=?_) rfl (by kernel_rfl) (by kernel_rfl) (by kernel_rfl) (fun _ _ _ h=>h) (Or.inl ⟨by rfl,?_⟩) (by with_reducible assumption) ?_
 rotate_left
 ·intro w hSw
  (try dsimp only at hSw)
  first|(go_simp;done)|(go_simp;with_reducible rfl)
 (try simp only[Act.put,List.setIfInBounds_toArray,List.set_cons_zero,List.set_cons_succ])
 refine wpAnyH_take (i:=5) (oi:=({dst:=some 26,op:=Op.pick (Operand.tmp 23) (Operand.tmp 25) (Operand.const (Value.bool false)),type:=4,pos:= "law.go:25",after:=#[{on:=2,ground:=Ground.data},{on:=4,ground:=Ground.data}],guard:=none}:Oper)) (v:=?_) rfl (by kernel_rfl) (by kernel_rfl) (by kernel_rfl) (fun _ _ _ h=>h) (Or.inl ⟨by rfl,?_⟩) (by with_reducible assumption) ?_
 rotate_left
 ·intro w hSw
  (try dsimp only at hSw)
  first|(go_simp;done)|(go_simp;with_reducible rfl)
 (try simp only[Act.put,List.setIfInBounds_toArray,List.set_cons_zero,List.set_cons_succ])
 refine wpAnyH_take (i:=6) (oi:=({dst:=some 27,op:=Op.move (Operand.tmp 26),type:=4,pos:= "law.go:25",after:=#[{on:=5,ground:=Ground.data},{on:=2,ground:=Ground.chain}],guard:=none}:Oper)) (v:=?_) rfl (by kernel_rfl) (by kernel_rfl) (by kernel_rfl) (fun _ _ _ h=>h) (Or.inl ⟨by rfl,?_⟩) (by with_reducible assumption) ?_
 rotate_left
 ·intro w hSw
  (try dsimp only at hSw)
  first|(go_simp;done)|(go_simp;with_reducible rfl)
 (try simp only[Act.put,List.setIfInBounds_toArray,List.set_cons_zero,List.set_cons_succ])
 refine wpAnyH_take (i:=7) (oi:=({dst:=some 28,op:=Op.load 35 (Operand.tmp 4),type:=35,pos:= "law.go:25",after:=#[{on:=6,ground:=Ground.guard}],guard:=some (6,true)}:Oper)) (v:=?_) rfl (by kernel_rfl) (by kernel_rfl) (by kernel_rfl) (fun _ _ _ h=>h) (Or.inl ⟨by rfl,?_⟩) (by with_reducible assumption) ?_
 rotate_left
 ·intro w hSw
  (try dsimp only at hSw)
  first|(go_simp;done)|(go_simp;with_reducible rfl)
 (try simp only[Act.put,List.setIfInBounds_toArray,List.set_cons_zero,List.set_cons_succ])
 refine wpAnyH_take (i:=8) (oi:=({dst:=some 29,op:=Op.build 35 #[],type:=35,pos:= "law.go:25",after:=#[{on:=6,ground:=Ground.guard}],guard:=some (6,true)}:Oper)) (v:=?_) rfl (by kernel_rfl) (by kernel_rfl) (by kernel_rfl) (fun _ _ _ h=>h) (Or.inl ⟨by rfl,?_⟩) (by with_reducible assumption) ?_
 rotate_left
 ·intro w hSw
  (try dsimp only at hSw)
  first|(go_simp;done)|(go_simp;with_reducible rfl)
 (try simp only[Act.put,List.setIfInBounds_toArray,List.set_cons_zero,List.set_cons_succ])
 refine wpAnyH_take (i:=9) (oi:=({dst:=some 30,op:=Op.binOp BinOp.eql 35 (Operand.tmp 28) (Operand.tmp 29) 35,type:=4,pos:= "law.go:25",after:=#[{on:=7,ground:=Ground.data},{on:=8,ground:=Ground.data},{on:=6,ground:=Ground.guard}],guard:=some (6,true)}:Oper)) (v:=?_) rfl (by kernel_rfl) (by kernel_rfl) (by kernel_rfl) (fun _ _ _ h=>h) (Or.inl ⟨by rfl,?_⟩) (by with_reducible assumption) ?_
 rotate_left
 ·intro w hSw
  (try dsimp only at hSw)
  first|(go_simp;done)|(go_simp;with_reducible rfl)
 (try simp only[Act.put,List.setIfInBounds_toArray,List.set_cons_zero,List.set_cons_succ])
 refine wpAnyH_take (i:=10) (oi:=({dst:=some 31,op:=Op.pick (Operand.tmp 27) (Operand.tmp 30) (Operand.const (Value.bool false)),type:=4,pos:= "law.go:25",after:=#[{on:=6,ground:=Ground.data},{on:=9,ground:=Ground.data}],guard:=none}:Oper)) (v:=?_) rfl (by kernel_rfl) (by kernel_rfl) (by kernel_rfl) (fun _ _ _ h=>h) (Or.inl ⟨by rfl,?_⟩) (by with_reducible assumption) ?_
 rotate_left
 ·intro w hSw
  (try dsimp only at hSw)
  first|(go_simp;done)|(go_simp;with_reducible rfl)
 (try simp only[Act.put,List.setIfInBounds_toArray,List.set_cons_zero,List.set_cons_succ])
 refine wpAnyH_take (i:=11) (oi:=({dst:=some 32,op:=Op.move (Operand.tmp 31),type:=4,pos:= "law.go:25",after:=#[{on:=10,ground:=Ground.data},{on:=6,ground:=Ground.chain}],guard:=none}:Oper)) (v:=?_) rfl (by kernel_rfl) (by kernel_rfl) (by kernel_rfl) (fun _ _ _ h=>h) (Or.inl ⟨by rfl,?_⟩) (by with_reducible assumption) ?_
 rotate_left
 ·intro w hSw
  (try dsimp only at hSw)
  first|(go_simp;done)|(go_simp;with_reducible rfl)
 (try simp only[Act.put,List.setIfInBounds_toArray,List.set_cons_zero,List.set_cons_succ])
 refine wpAnyH_take (i:=12) (oi:=({dst:=some 33,op:=Op.load 24 (Operand.tmp 3),type:=24,pos:= "law.go:25",after:=#[{on:=11,ground:=Ground.guard}],guard:=some (11,true)}:Oper)) (v:=?_) rfl (by kernel_rfl) (by kernel_rfl) (by kernel_rfl) (fun _ _ _ h=>h) (Or.inl ⟨by rfl,?_⟩) (by with_reducible assumption) ?_
 rotate_left
 ·intro w hSw
  (try dsimp only at hSw)
  first|(go_simp;done)|(go_simp;with_reducible rfl)
 (try simp only[Act.put,List.setIfInBounds_toArray,List.set_cons_zero,List.set_cons_succ])
 refine wpAnyH_ready (rs:=[13]) (by kernel_rfl) (by simp) ?_
 refine AllReadyH.cons (o:=({dst:=some 34,op:=Op.call {callee:=Callee.value (Operand.func 23),args:=#[Operand.const (Value.int IntKind.i64 35)],argTypes:=#[2]},type:=24,pos:= "law.go:25",after:=#[{on:=11,ground:=Ground.chain},{on:=11,ground:=Ground.guard}],guard:=some (11,true)}:Oper)) rfl (fun K hK=>?_) AllReadyH.nil
 go_simp
 with_reducible refine(X1.out _ hHeld.2).mono ?_
 rintro r wc1 ⟨s9,a9,n9,c9,rfl,W9_4,gg3⟩
 replace W9_4:=W9_4.out
 refine hK.out _ _ ⟨⟨keepG gg3 hHeld.1.1,keepG gg3 hHeld.1.2.1,keepG gg3 hHeld.1.2.2.1,keepG gg3 hHeld.1.2.2.2⟩,hHeld.2.trans gg3⟩ (fun hH2=>?_)
 have hzwc1:=hHeld.2.size
 clear hK K
 (try simp only[Act.put,List.setIfInBounds_toArray,List.set_cons_zero,List.set_cons_succ])
 refine wpAnyH_ready (rs:=[14]) (by kernel_rfl) (by simp) ?_
 refine AllReadyH.cons (o:=({dst:=some 35,op:=Op.call {callee:=Callee.value (Operand.func 15),args:=#[Operand.tmp 33,Operand.tmp 34],argTypes:=#[24,24]},type:=4,pos:= "law.go:25",after:=#[{on:=12,ground:=Ground.data},{on:=13,ground:=Ground.data},{on:=13,ground:=Ground.chain},{on:=11,ground:=Ground.guard}],guard:=some (11,true)}:Oper)) rfl (fun K hK=>?_) AllReadyH.nil
 go_simp
 with_reducible refine(X2.out _ _ _ _ _ hH2.2 W9_4).mono ?_
 rintro r wc5 ⟨rfl,gg7⟩
 refine hK.out _ _ ⟨⟨keepG gg7 hH2.1.1,keepG gg7 hH2.1.2.1,keepG gg7 hH2.1.2.2.1,keepG gg7 hH2.1.2.2.2⟩,hH2.2.trans gg7⟩ (fun hH6=>?_)
 have hzwc5:=hH2.2.size
 clear hK K
 (try simp only[Act.put,List.setIfInBounds_toArray,List.set_cons_zero,List.set_cons_succ])
 have W9_8:=W9_4.gr gg7
 clear W9_4
 refine wpAnyH_take (i:=15) (oi:=({dst:=some 36,op:=Op.pick (Operand.tmp 32) (Operand.tmp 35) (Operand.const (Value.bool false)),type:=4,pos:= "law.go:25",after:=#[{on:=11,ground:=Ground.data},{on:=14,ground:=Ground.data}],guard:=none}:Oper)) (v:=?_) rfl (by kernel_rfl) (by kernel_rfl) (by kernel_rfl) (fun _ _ _ h=>h) (Or.inl ⟨by rfl,?_⟩) (by with_reducible assumption) ?_
 rotate_left
 ·intro w hSw
  (try dsimp only at hSw)
  first|(go_simp;done)|(go_simp;with_reducible rfl)
 (try simp only[Act.put,List.setIfInBounds_toArray,List.set_cons_zero,List.set_cons_succ])
 refine wpAnyH_take (i:=16) (oi:=({dst:=some 37,op:=Op.move (Operand.tmp 36),type:=4,pos:= "law.go:25",after:=#[{on:=15,ground:=Ground.data},{on:=14,ground:=Ground.chain}],guard:=none}:Oper)) (v:=?_) rfl (by kernel_rfl) (by kernel_rfl) (by kernel_rfl) (fun _ _ _ h=>h) (Or.inl ⟨by rfl,?_⟩) (by with_reducible assumption) ?_
 rotate_left
 ·intro w hSw
  (try dsimp only at hSw)
  first|(go_simp;done)|(go_simp;with_reducible rfl)
 (try simp only[Act.put,List.setIfInBounds_toArray,List.set_cons_zero,List.set_cons_succ])
 refine wpAnyH_take (i:=17) (oi:=({dst:=some 38,op:=Op.move (Operand.tmp 5),type:=3,pos:= "law.go:25",after:=#[{on:=16,ground:=Ground.guard}],guard:=some (16,true)}:Oper)) (v:=?_) rfl (by kernel_rfl) (by kernel_rfl) (by kernel_rfl) (fun _ _ _ h=>h) (Or.inl ⟨by rfl,?_⟩) (by with_reducible assumption) ?_
 rotate_left
 ·intro w hSw
  (try dsimp only at hSw)
  first|(go_simp;done)|(go_simp;with_reducible rfl)
 (try simp only[Act.put,List.setIfInBounds_toArray,List.set_cons_zero,List.set_cons_succ])
 refine wpAnyH_take (i:=18) (oi:=({dst:=some 39,op:=Op.binOp BinOp.eql 3 (Operand.tmp 38) (Operand.const (Value.int IntKind.i64 2)) 3,type:=4,pos:= "law.go:25",after:=#[{on:=17,ground:=Ground.data},{on:=16,ground:=Ground.guard}],guard:=some (16,true)}:Oper)) (v:=?_) rfl (by kernel_rfl) (by kernel_rfl) (by kernel_rfl) (fun _ _ _ h=>h) (Or.inl ⟨by rfl,?_⟩) (by with_reducible assumption) ?_
 rotate_left
 ·intro w hSw
  (try dsimp only at hSw)
  first|(go_simp;done)|(go_simp;with_reducible rfl)
 (try simp only[Act.put,List.setIfInBounds_toArray,List.set_cons_zero,List.set_cons_succ])
 refine wpAnyH_take (i:=19) (oi:=({dst:=some 40,op:=Op.pick (Operand.tmp 37) (Operand.tmp 39) (Operand.const (Value.bool false)),type:=4,pos:= "law.go:25",after:=#[{on:=16,ground:=Ground.data},{on:=18,ground:=Ground.data}],guard:=none}:Oper)) (v:=?_) rfl (by kernel_rfl) (by kernel_rfl) (by kernel_rfl) (fun _ _ _ h=>h) (Or.inl ⟨by rfl,?_⟩) (by with_reducible assumption) ?_
 rotate_left
 ·intro w hSw
  (try dsimp only at hSw)
  first|(go_simp;done)|(go_simp;with_reducible rfl)
 (try simp only[Act.put,List.setIfInBounds_toArray,List.set_cons_zero,List.set_cons_succ])
 refine wpAnyH_take (i:=20) (oi:=({dst:=some 41,op:=Op.move (Operand.tmp 40),type:=4,pos:= "law.go:25",after:=#[{on:=19,ground:=Ground.data},{on:=16,ground:=Ground.chain}],guard:=none}:Oper)) (v:=?_) rfl (by kernel_rfl) (by kernel_rfl) (by kernel_rfl) (fun _ _ _ h=>h) (Or.inl ⟨by rfl,?_⟩) (by with_reducible assumption) ?_
 rotate_left
 ·intro w hSw
  (try dsimp only at hSw)
  first|(go_simp;done)|(go_simp;with_reducible rfl)
 (try simp only[Act.put,List.setIfInBounds_toArray,List.set_cons_zero,List.set_cons_succ])
 refine wpAnyH_take (i:=21) (oi:=({dst:=some 42,op:=Op.move (Operand.tmp 6),type:=27,pos:= "law.go:25",after:=#[{on:=20,ground:=Ground.guard}],guard:=some (20,true)}:Oper)) (v:=?_) rfl (by kernel_rfl) (by kernel_rfl) (by kernel_rfl) (fun _ _ _ h=>h) (Or.inl ⟨by rfl,?_⟩) (by with_reducible assumption) ?_
 rotate_left
 ·intro w hSw
  (try dsimp only at hSw)
  first|(go_simp;done)|(go_simp;with_reducible rfl)
 (try simp only[Act.put,List.setIfInBounds_toArray,List.set_cons_zero,List.set_cons_succ])
 refine wpAnyH_take (i:=22) (oi:=({dst:=some 43,op:=Op.binOp BinOp.eql 27 (Operand.tmp 42) (Operand.const (Value.int IntKind.i64 0)) 27,type:=4,pos:= "law.go:25",after:=#[{on:=21,ground:=Ground.data},{on:=20,ground:=Ground.guard}],guard:=some (20,true)}:Oper)) (v:=?_) rfl (by kernel_rfl) (by kernel_rfl) (by kernel_rfl) (fun _ _ _ h=>h) (Or.inl ⟨by rfl,?_⟩) (by with_reducible assumption) ?_
 rotate_left
 ·intro w hSw
  (try dsimp only at hSw)
  first|(go_simp;done)|(go_simp;with_reducible rfl)
 (try simp only[Act.put,List.setIfInBounds_toArray,List.set_cons_zero,List.set_cons_succ])
 refine wpAnyH_take (i:=23) (oi:=({dst:=some 44,op:=Op.pick (Operand.tmp 41) (Operand.tmp 43) (Operand.const (Value.bool false)),type:=4,pos:= "law.go:25",after:=#[{on:=20,ground:=Ground.data},{on:=22,ground:=Ground.data}],guard:=none}:Oper)) (v:=?_) rfl (by kernel_rfl) (by kernel_rfl) (by kernel_rfl) (fun _ _ _ h=>h) (Or.inl ⟨by rfl,?_⟩) (by with_reducible assumption) ?_
 rotate_left
 ·intro w hSw
  (try dsimp only at hSw)
  first|(go_simp;done)|(go_simp;with_reducible rfl)
 (try simp only[Act.put,List.setIfInBounds_toArray,List.set_cons_zero,List.set_cons_succ])
 refine wpAnyH_take (i:=24) (oi:=({dst:=some 0,op:=Op.assign (Operand.tmp 44),type:=4,pos:= "law.go:25",after:=#[{on:=23,ground:=Ground.data},{on:=20,ground:=Ground.chain},{on:=0,ground:=Ground.phase},{on:=1,ground:=Ground.phase},{on:=2,ground:=Ground.phase},{on:=3,ground:=Ground.phase},{on:=4,ground:=Ground.phase},{on:=5,ground:=Ground.phase},{on:=6,ground:=Ground.phase},{on:=7,ground:=Ground.phase},{on:=8,ground:=Ground.phase},{on:=9,ground:=Ground.phase},{on:=10,ground:=Ground.phase},{on:=11,ground:=Ground.phase},{on:=12,ground:=Ground.phase},{on:=13,ground:=Ground.phase},{on:=14,ground:=Ground.phase},{on:=15,ground:=Ground.phase},{on:=16,ground:=Ground.phase},{on:=17,ground:=Ground.phase},{on:=18,ground:=Ground.phase},{on:=19,ground:=Ground.phase},{on:=20,ground:=Ground.phase},{on:=21,ground:=Ground.phase},{on:=22,ground:=Ground.phase},{on:=23,ground:=Ground.phase}],guard:=none}:Oper)) (v:=?_) rfl (by kernel_rfl) (by kernel_rfl) (by kernel_rfl) (fun _ _ _ h=>h) (Or.inl ⟨by rfl,?_⟩) (by with_reducible assumption) ?_
 rotate_left
 ·intro w hSw
  (try dsimp only at hSw)
  first|(go_simp;done)|(go_simp;with_reducible rfl)
 (try simp only[Act.put,List.setIfInBounds_toArray,List.set_cons_zero,List.set_cons_succ])
 refine wpAnyH_done (by kernel_rfl) ?_ _
 exact⟨_,_,_,_,_,_,_,_,_,_,_,_,_,_,_,_,_,_,_,_,_,_,_,_,rfl,hH6.2⟩
set_option maxRecDepth 4000 in
set_option maxHeartbeats 4000000 in
theorem awakeB (w:World):Calls Tryz.prog 6 #[] w fun r w'=>r = .returned (.bool true)/\Gr w w':=by
 have SM:Hid (∀(z:Int) w1,-1000<=z->z<=1000->Calls Tryz.prog 23 #[.int .i64 z] w1 fun r w'=>∃a b c d,r = .returned (.agg #[.bool a,.slice b c d])/\Hid (Wh w' a b c d z)/\Gr w1 w'):=fun z w1 h1 h2=>smallV z w1 (by omega) (by omega)
 have S255:Hid (∀w1,Calls Tryz.prog 23 #[.int .i64 (-255)] w1 fun r w'=>∃a b c d,r = .returned (.agg #[.bool a,.slice b c d])/\Hid (Wh w' a b c d (-255))/\Gr w1 w'):=fun w1=>SM.out (-255) w1 (by omega) (by omega)
 have PR:Hid (∀w1 s ad n cap,Wh w1 s ad n cap (-255)->Calls Tryz.prog 8 #[.agg #[.bool s,.slice ad n cap],.int .i64 16] w1 fun r w'=>r = .returned (.tuple #[.string {data:=#[45,102,102]},.int .i64 0])/\Gr w1 w'):=awPrint
 have CT:Hid (∀w1 s ad n cap,Wh w1 s ad n cap (-255)->Calls Tryz.prog 10 #[.agg #[.bool s,.slice ad n cap],.int .i64 16] w1 fun r w'=>r = .returned (.tuple #[.int .i64 2,.int .i64 0])/\Gr w1 w'):=awCount
 have PA:=hide awParse
 have st:True:=trivial
 go_enter Tryz.func6,Tryz.ntmps6
 go_wp2_with (first|(go_at_call 23;have _u:=st;clear st;(with_reducible refine(S255.out _).mono ?_);rintro r w1 ⟨a1,b1,c1,d1,rfl,W1,g1⟩)|(go_at_call 8;(with_reducible refine(PR.out _ _ _ _ _ W1.out).mono ?_);rintro r w2 ⟨rfl,g2⟩)|(go_at_call 13;(with_reducible refine(PA.out _).mono ?_);rintro r w3 ⟨q,m,d,rfl,W3,g3⟩))
 have H3:=blk2 w3 (.cells #[.bool false,.slice q m d] 24) (.cells #[.int .i64 0,.int .i64 0] 35)
 have gx:Gr w3 ((w3.alloc (.cells #[.bool false,.slice q m d] 24)).alloc (.cells #[.int .i64 0,.int .i64 0] 35)):=((Gr.refl _).alloc _).alloc _
 have W4:=W3.out.gr gx
 have G4:=((g1.trans g2).trans g3).trans gx
 obtain⟨H5,H6⟩:=H3
 have hs:(w3.alloc (.cells #[.bool false,.slice q m d] 24)).heap.size=w3.heap.size+1:=by simp
 generalize ((w3.alloc (.cells #[.bool false,.slice q m d] 24)).alloc (.cells #[.int .i64 0,.int .i64 0] 35))=w4 at *
 go_wp2_with (first|(go_at_call 23;(with_reducible refine(S255.out _).mono ?_);rintro r w5 ⟨a5,b5,c5,d5,rfl,W5,g5⟩)|(go_at_call 10;(with_reducible refine(CT.out _ _ _ _ _ W5.out).mono ?_);rintro r w6 ⟨rfl,g6⟩))
 have G6:=G4.trans (g5.trans g6)
 have K5:=keepO (g5.trans g6) H5
 have K6:=keepO (g5.trans g6) H6
 have W6:=W4.gr (g5.trans g6)
 obtain⟨x0,x1⟩:=bx2 K5
 obtain⟨y0,y1⟩:=bx2 K6
 refine Code.wp_mono ?_ (regAw4 _ _ _ _ _ _ _ _ _ _ _ _ _ _ _ _ _ _ _ _ _ _ _ _ _ _ _ _ _ _ _ _ _ _ _ _ _ _ _ w3.heap.size (w3.heap.size+1) m d false q w6 (hide (fun w1 _=>SM.out 35 w1 (by omega) (by omega))) (hide (fun w1 a b c d g h=>sameIB rfl (W6.gr g) h)) (Gr.refl _) ⟨x0,x1,y0,y1⟩)
 intro e a1 w7 hR
 cases e <;> first|(exact False.elim hR)|skip
 obtain⟨u21,u22,u23,u24,u25,u26,u27,u28,u29,u30,u31,u32,u33,u34,u35,u36,u37,u38,u39,u40,u41,u42,u43,u44,rfl,g7⟩:=hR
 go_wp2
 go_ret
 exact⟨rfl,G6.trans g7⟩
def Kp (w:World) (pf:Nat):Prop:=w.heap[pf]? = some (.cells #[.int .i64 0] 27)
theorem Kp.gr {w w':World} {pf:Nat} (h:Kp w pf) (g:Gr w w'):Kp w' pf:=keepO g h
theorem Kp.gt {w w':World} {pf g:Nat} (h:Kp w pf) (k:Gt g w w') (hne:pf≠g):Kp w' pf:=(k.block pf (lt_of_get2 h) hne).trans h
theorem modify_sameV {α:Type} (a:Array α) (i:Nat) (f:α->α) (h:∀x,a[i]? = some x->f x=x):a.modify i f=a:=by
 apply Array.ext'
 rw[Array.toList_modify]
 apply List.ext_getElem?
 intro j
 rw[List.getElem?_modify]
 by_cases hj:i=j
 ·subst hj
  cases hx:a.toList[i]? with
  | none=>rfl
  | some x =>
   show some (if i=i then f x else x)=some x
   rw[if_pos rfl,h x (by rw[<-Array.getElem?_toList];exact hx)]
 ·simp[hj]
theorem Kp.same {w:World} {pf:Nat} (h:Kp w pf):w.setCell ⟨pf,0,none⟩ (.int .i64 0)=w:=by
 unfold World.setCell
 unfold Kp at h
 rw[modify_sameV _ _ _ (fun x hx=>by rw[h] at hx;cases hx;rfl)]
theorem Kp.lt {w:World} {pf:Nat} (h:Kp w pf):pf<w.heap.size:=lt_of_get2 h
end Go.Proofs.YtapnglidnblmcaaGreat
namespace Go.Proofs.YtapnglidnblmcaaGreat
end Go.Proofs.YtapnglidnblmcaaGreat
