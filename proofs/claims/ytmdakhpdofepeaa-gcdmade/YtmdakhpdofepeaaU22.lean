import Derived.Test.YtmdakhpdofepeaaU19
import Derived.Test.YtmdakhpdofepeaaU21
import Derived.Deep.RegionHeld3
namespace Go.Proofs.Ytmdakhpdofepeaa
open Go.RowKit
set_option linter.unusedVariables false
set_option linter.unusedSimpArgs false
theorem outAny {w:World} {B:Nat} {v0 v1:Value} {T:TypeId} (h:w.heap[B]? = some (.cells #[v0,v1] T)):w.cell? ⟨B,0,none⟩=some v0/\w.cell? ⟨B,1,none⟩=some v1/\w.frozen? ⟨B,0,none⟩=false/\w.frozen? ⟨B,1,none⟩=false:=by
 refine⟨(bx2 h).1,(bx2 h).2,?_,?_⟩ <;> simp[World.frozen?,h]
theorem heap_farW {w:World} {q k i:Nat} {v:Value} {o:Obj} (h:w.heap[k]? = some o) (hk:k≠q):(w.setCell ⟨q,i,none⟩ v).heap[k]? = some o:=(Below.heap_setCell _ _ _ _ (by omega)).trans h
theorem wh_set2W {w:World} {s:Bool} {ad:Option Addr} {n cap B1:Nat} {X:Int} (h:Wh w s ad n cap X) (f:Fresh B1 w ad n cap) {B2:Nat} {cs:Array Value} {T:TypeId} {fr:Nat × Nat} (hb:w.heap[B2]? = some (.cells cs T fr)) (v0 v1:Value) (hT:T≠52):Wh ((w.setCell ⟨B2,0,none⟩ v0).setCell ⟨B2,1,none⟩ v1) s ad n cap X:=
 (h.far (f.ne hb hT) _).far (f.ne hb hT) _
theorem ou_set2 {w:World} {g N C:Nat} {zs:List Nat} (h:OU w g N C zs) {B2:Nat} {cs:Array Value} {T:TypeId} {fr:Nat × Nat} (hb:w.heap[B2]? = some (.cells cs T fr)) (v0 v1:Value) (hT:T≠52):OU ((w.setCell ⟨B2,0,none⟩ v0).setCell ⟨B2,1,none⟩ v1) g N C zs:=by
 have f:Fresh g w (some ⟨g,0,none⟩) N C:=⟨zs,h⟩
 have hn:g≠B2:=f.ne hb hT _ rfl
 exact(h.gt ((Gt.refl B2 w).setCell rfl _) hn).gt ((Gt.refl B2 _).setCell rfl _) hn
def LieA (b b':Option Addr):Prop:=∀x y,b=some x->b'=some y->x.block≠y.block
theorem isNoughtDT (s:Bool) (ad:Option Addr) (n cap:Nat) (w:World) (hn:n=0):Calls Try.prog 35 #[.agg #[.bool s,.slice ad n cap]] w fun r w'=>r = .returned (.bool true)/\Gr w w':=by
 subst hn
 go_enter Try.func35,Try.ntmps35
 go_wp2
 go_ret
 exact⟨rfl,(Gr.refl w).alloc _⟩
theorem isNoughtDF (s:Bool) (ad:Option Addr) (n cap:Nat) (w:World) (hn:¬n=0):Calls Try.prog 35 #[.agg #[.bool s,.slice ad n cap]] w fun r w'=>r = .returned (.bool false)/\Gr w w':=by
 have hz:((n:Int)==0)=false:=by simp;omega
 go_enter Try.func35,Try.ntmps35
 go_wp2
 go_ret
 exact⟨rfl,(Gr.refl w).alloc _⟩
theorem settledD (s:Bool) (g N C B v:Nat) (zs:List Nat) (w:World) (hown:OU w g N C zs) (hB:B<=g) (hz:∀z∈zs,z<18446744073709551616) (hv:nv 18446744073709551616 zs=v) (hN:N<=1099511627776) (hV:v<TopN) :
  Calls Try.prog 47 #[.bool s,.slice (some ⟨g,0,none⟩) N C] w fun r w'=>∃a b c d,r = .returned (.agg #[.bool a,.slice b c d])/\Hid (Wh w' a b c d (iv s v))/\Hid (Fresh B w' b c d)/\Hid (∀x,b=some x->x.block=g)/\Gr w w':=by
 have HT:Hid (∀w1,Gr w w1->Calls Try.prog 68 #[.slice (some ⟨g,0,none⟩) N C] w1 fun e w'=>∃j,e = .returned (.slice (some ⟨g,0,none⟩) j C)/\j<=N/\Hid (Lim w (some ⟨g,0,none⟩) j C 18446744073709551616 v)/\Hid (Fresh B w (some ⟨g,0,none⟩) j C)/\((j:Int)=0 ↔ v=0)/\((j:Int)<=4096 ↔ v<TopN)/\w'=w1):=fun w1 gr=>(trimDO hown hz hv gr).mono (by
  rintro e w' ⟨j,h1,h2,h3,h4,h5⟩
  obtain⟨xs,rx,dx⟩:=id h3
  have z1:=dx.zero_iff (by omega)
  have z2:=topN_len dx
  rw[rx.len] at z1 z2
  exact⟨j,h1,h2,h3,h4.low hB,by omega,by omega,h5⟩)
 clear hown hz hv
 have GA:Gr w (w.alloc (.cells #[.bool false,.slice none 0 0] 24)):=(Gr.refl w).alloc _
 have ha:=iv_abs s v
 by_cases h0:v=0
 ·have I0:iv s v=0:=by rw[h0];cases s <;> rfl
  rw[I0]
  have HT0:Hid (∀w1,Gr w w1->Calls Try.prog 68 #[.slice (some ⟨g,0,none⟩) N C] w1 fun e w'=>∃j:Nat,e = .returned (.slice (some ⟨g,0,none⟩) 0 C)/\w'=w1):=fun w1 gr=>(HT.out w1 gr).mono (by
   rintro e w' ⟨j,h1,h2,h3,h4,h5,h6,h7⟩
   have:j=0:=by have:=h5.2 h0;omega
   subst this
   exact⟨0,h1,h7⟩)
  clear HT I0 h0 ha
  go_enter Try.func47,Try.ntmps47
  go_wp2_with (first|(go_at_call 68;with_reducible refine(HT0.out _ GA).mono ?_;rintro e w1 ⟨j,rfl,rfl⟩))
  refine bodyPost_ret (v:=.agg #[.bool false,.slice none 0 0]) ?_ rfl ⟨_,_,_,_,rfl,Wh.nil _,Fresh.nil _ _,(fun x h=>by cases h),(Gr.refl w).alloc _⟩
  simp[results,Try.results47,go_sem]
 ·have HT0:Hid (∀w1,Gr w w1->Calls Try.prog 68 #[.slice (some ⟨g,0,none⟩) N C] w1 fun e w'=>∃j:Nat,e = .returned (.slice (some ⟨g,0,none⟩) j C)/\((j:Int)==0)=false/\Hid (Wh w s (some ⟨g,0,none⟩) j C (iv s v))/\Hid (Fresh B w (some ⟨g,0,none⟩) j C)/\w'=w1):=fun w1 gr=>(HT.out w1 gr).mono (by
   rintro e w' ⟨j,h1,h2,h3,h4',h5,h6,h7⟩
   refine⟨j,h1,by simp;omega,⟨by rw[ha];exact h3.out,by have:=h6.2 hV;omega,fun h=>?_,by rw[ha]⟩,h4',h7⟩
   have:v=0:=by rw[<-ha,h];rfl
   omega)
  clear HT ha h0
  go_enter Try.func47,Try.ntmps47
  go_wp2_with (first|(go_at_call 68;with_reducible refine(HT0.out _ GA).mono ?_;rintro e w1 ⟨j,rfl,hj0,hw,hf,rfl⟩))
  refine bodyPost_ret (v:=.agg #[.bool s,.slice (some ⟨g,0,none⟩) j C]) ?_ rfl ⟨_,_,_,_,rfl,hw.out.gr ((Gr.refl w).alloc _),hf.out.gr ((Gr.refl w).alloc _),(fun x h=>by cases h;rfl),(Gr.refl w).alloc _⟩
  simp[results,Try.results47,go_sem]
structure Bx4 (w:World) (p:Nat) (s t:Bool) (ad1:Option Addr) (n1 c1:Nat) (ad2:Option Addr) (n2 c2:Nat):Prop where
 a:w.heap[p]? = some (.cells #[.bool s,.slice ad1 n1 c1] 24)
 b:w.heap[p+1]? = some (.cells #[.bool t,.slice ad2 n2 c2] 24)
 o:w.heap[p+1+1]? = some (.cells #[.bool false,.slice none 0 0] 24)
 u:w.heap[p+1+1+1]? = some (.cells #[.bool false,.slice none 0 0] 24)
theorem Bx4.mk' (w:World) (s t:Bool) (ad1:Option Addr) (n1 c1:Nat) (ad2:Option Addr) (n2 c2:Nat):Bx4 ((((w.alloc (.cells #[.bool s,.slice ad1 n1 c1] 24)).alloc (.cells #[.bool t,.slice ad2 n2 c2] 24)).alloc (.cells #[.bool false,.slice none 0 0] 24)).alloc (.cells #[.bool false,.slice none 0 0] 24)) w.heap.size s t ad1 n1 c1 ad2 n2 c2:=by
 have h:=Bx3.mk' w s t ad1 n1 c1 ad2 n2 c2
 have hu:=blk1 (((w.alloc (.cells #[.bool s,.slice ad1 n1 c1] 24)).alloc (.cells #[.bool t,.slice ad2 n2 c2] 24)).alloc (.cells #[.bool false,.slice none 0 0] 24)) (.cells #[.bool false,.slice none 0 0] 24)
 have g:=(Gr.refl (((w.alloc (.cells #[.bool s,.slice ad1 n1 c1] 24)).alloc (.cells #[.bool t,.slice ad2 n2 c2] 24)).alloc (.cells #[.bool false,.slice none 0 0] 24))).alloc (.cells #[.bool false,.slice none 0 0] 24)
 refine⟨keepO g h.a,keepO g h.b,keepO g h.o,?_⟩
 have e:(((w.alloc (.cells #[.bool s,.slice ad1 n1 c1] 24)).alloc (.cells #[.bool t,.slice ad2 n2 c2] 24)).alloc (.cells #[.bool false,.slice none 0 0] 24)).heap.size=w.heap.size+1+1+1:=by
  simp only[World.alloc,Array.size_push]
 rw[<-e]
 exact hu
theorem Bx4.gr {w w':World} {p:Nat} {s t:Bool} {ad1:Option Addr} {n1 c1:Nat} {ad2:Option Addr} {n2 c2:Nat} (h:Bx4 w p s t ad1 n1 c1 ad2 n2 c2) (g:Gr w w'):Bx4 w' p s t ad1 n1 c1 ad2 n2 c2:=⟨keepO g h.a,keepO g h.b,keepO g h.o,keepO g h.u⟩
theorem iv_tdiv (s t:Bool) (m n:Nat):iv (!(s==t)) (m / n)=(iv s m).tdiv (iv t n):=by
 cases s <;> cases t <;> simp[iv,Int.neg_tdiv,Int.tdiv_neg,Int.ofNat_tdiv]
theorem iv_tmod (s t:Bool) (m n:Nat):iv s (m % n)=(iv s m).tmod (iv t n):=by
 cases s <;> cases t <;> simp[iv,Int.neg_tmod,Int.tmod_neg] <;> exact(Int.tmod_eq_emod_of_nonneg (Int.natCast_nonneg _)).symm
def RTc6 (t0 t1 t6 t9 t10 t11 t12 t13 t14 t15 t16 t17 t18 t19 t20 t21 t22 t23 t24 t25 t26 t27 t28 t29 t30 t31 t32 t33 t34 t35 t36 t37 t38 t39 t40 t41:Value) (pa pb b4 b5 gq gr L N:Nat) (s t:Bool) (qs rs:List Nat) (Z1 Z2:Int) (w0:World) (wq:World):Exit->Act->World->Prop
 | .normal,a,w=>∃u31 u32 u33 u34 u35 u36 u37 u38 u39 u40 u41 a1 q1 m1 d1 a2 q2 m2 d2,a = {tmps:=#[t0,t1,.pointer (some ⟨pa,0,none⟩),.pointer (some ⟨pb,0,none⟩),.pointer (some ⟨b4,0,none⟩),.pointer (some ⟨b5,0,none⟩),.int .i64 0,.slice (some ⟨gq,0,none⟩) L L,.slice (some ⟨gr,0,none⟩) N N,t9,t10,t11,t12,t13,t14,t15,t16,t17,t18,t19,t20,t21,t22,t23,t24,t25,t26,t27,t28,t29,t30,u31,u32,u33,u34,u35,u36,u37,u38,u39,u40,u41],defers:=[]}/\w.heap[b4]? = some (.cells #[.bool a1,.slice q1 m1 d1] 24)/\w.heap[b5]? = some (.cells #[.bool a2,.slice q2 m2 d2] 24)/\Wh w a1 q1 m1 d1 Z1/\Wh w a2 q2 m2 d2 Z2/\Fresh w0.heap.size w q1 m1 d1/\Fresh w0.heap.size w q2 m2 d2/\(∀x,q1=some x->x.block=gq)/\(∀x,q2=some x->x.block=gr)/\Gr w0 w
 | _,_,_=>False
set_option maxRecDepth 100000 in
set_option maxHeartbeats 20000000 in
theorem regTc6 (t0 t1 t6 t9 t10 t11 t12 t13 t14 t15 t16 t17 t18 t19 t20 t21 t22 t23 t24 t25 t26 t27 t28 t29 t30 t31 t32 t33 t34 t35 t36 t37 t38 t39 t40 t41:Value) (pa pb b4 b5 gq gr L N:Nat) (s t:Bool) (qs rs:List Nat) (Z1 Z2:Int) (w0:World) (wq:World)
  (X1:Hid (∀w1,Gr w0 w1->OU w1 gq L L qs->Calls Try.prog 47 #[.bool (!(s==t)),.slice (some ⟨gq,0,none⟩) L L] w1 fun r w'=>∃a b c d,r = .returned (.agg #[.bool a,.slice b c d])/\Hid (Wh w' a b c d Z1)/\Hid (Fresh w0.heap.size w' b c d)/\Hid (∀x,b=some x->x.block=gq)/\Gr w1 w'))
  (X2:Hid (∀w1,Gr w0 w1->OU w1 gr N N rs->Calls Try.prog 47 #[.bool s,.slice (some ⟨gr,0,none⟩) N N] w1 fun r w'=>∃a b c d,r = .returned (.agg #[.bool a,.slice b c d])/\Hid (Wh w' a b c d Z2)/\Hid (Fresh w0.heap.size w' b c d)/\Hid (∀x,b=some x->x.block=gr)/\Gr w1 w'))
  (hq:OU wq gq L L qs) (hr:OU wq gr N N rs) (h4:wq.heap[b4]? = some (.cells #[.bool false,.slice none 0 0] 24)) (h5:wq.heap[b5]? = some (.cells #[.bool false,.slice none 0 0] 24)) (l1:w0.heap.size<=pa) (l2:pa<pb) (l3:pb<b4) (l4:b4<b5) (G0:Gr w0 wq) (hcs:(wq.cell? ⟨pa,0,none⟩=some (.bool s)/\wq.cell? ⟨pb,0,none⟩=some (.bool t))) :
  Code.wp Try.prog (Code.region 6 #[{dst:=some 31,op:=Op.fieldAddr 24 (Operand.tmp 2) 0,type:=0,pos:= "divide.go:30",after:=#[],guard:=none},{dst:=some 32,op:=Op.load 4 (Operand.tmp 31),type:=4,pos:= "divide.go:30",after:=#[{on:=0,ground:=Ground.data}],guard:=none},{dst:=some 33,op:=Op.fieldAddr 24 (Operand.tmp 3) 0,type:=0,pos:= "divide.go:30",after:=#[],guard:=none},{dst:=some 34,op:=Op.load 4 (Operand.tmp 33),type:=4,pos:= "divide.go:30",after:=#[{on:=2,ground:=Ground.data}],guard:=none},{dst:=some 35,op:=Op.binOp BinOp.neq 4 (Operand.tmp 32) (Operand.tmp 34) 4,type:=4,pos:= "divide.go:30",after:=#[{on:=1,ground:=Ground.data},{on:=3,ground:=Ground.data}],guard:=none},{dst:=some 36,op:=Op.move (Operand.tmp 7),type:=22,pos:= "divide.go:30",after:=#[],guard:=none},{dst:=some 37,op:=Op.call {callee:=Callee.value (Operand.func 47),args:=#[Operand.tmp 35,Operand.tmp 36],argTypes:=#[4,22]},type:=24,pos:= "divide.go:30",after:=#[{on:=4,ground:=Ground.data},{on:=5,ground:=Ground.data}],guard:=none},{dst:=some 38,op:=Op.fieldAddr 24 (Operand.tmp 2) 0,type:=0,pos:= "divide.go:30",after:=#[],guard:=none},{dst:=some 39,op:=Op.load 4 (Operand.tmp 38),type:=4,pos:= "divide.go:30",after:=#[{on:=7,ground:=Ground.data}],guard:=none},{dst:=some 40,op:=Op.move (Operand.tmp 8),type:=22,pos:= "divide.go:30",after:=#[],guard:=none},{dst:=some 41,op:=Op.call {callee:=Callee.value (Operand.func 47),args:=#[Operand.tmp 39,Operand.tmp 40],argTypes:=#[4,22]},type:=24,pos:= "divide.go:30",after:=#[{on:=8,ground:=Ground.data},{on:=9,ground:=Ground.data},{on:=6,ground:=Ground.chain}],guard:=none},{dst:=none,op:=Op.store 24 (Operand.tmp 4) (Operand.tmp 37),type:=0,pos:= "divide.go:30",after:=#[{on:=6,ground:=Ground.data},{on:=10,ground:=Ground.chain},{on:=0,ground:=Ground.phase},{on:=1,ground:=Ground.phase},{on:=2,ground:=Ground.phase},{on:=3,ground:=Ground.phase},{on:=4,ground:=Ground.phase},{on:=5,ground:=Ground.phase},{on:=6,ground:=Ground.phase},{on:=7,ground:=Ground.textOnly Departure.lateStores},{on:=8,ground:=Ground.textOnly Departure.lateStores},{on:=9,ground:=Ground.textOnly Departure.lateStores},{on:=10,ground:=Ground.textOnly Departure.lateStoresUnsure}],guard:=none},{dst:=none,op:=Op.store 24 (Operand.tmp 5) (Operand.tmp 41),type:=0,pos:= "divide.go:30",after:=#[{on:=10,ground:=Ground.data},{on:=11,ground:=Ground.chain},{on:=0,ground:=Ground.phase},{on:=1,ground:=Ground.phase},{on:=2,ground:=Ground.phase},{on:=3,ground:=Ground.phase},{on:=4,ground:=Ground.phase},{on:=5,ground:=Ground.phase},{on:=6,ground:=Ground.phase},{on:=7,ground:=Ground.phase},{on:=8,ground:=Ground.phase},{on:=9,ground:=Ground.phase},{on:=10,ground:=Ground.phase},{on:=11,ground:=Ground.phase}],guard:=none},{dst:=some 6,op:=Op.assign (Operand.const (Value.int IntKind.i64 0)),type:=28,pos:= "divide.go:30",after:=#[{on:=12,ground:=Ground.chain},{on:=0,ground:=Ground.phase},{on:=1,ground:=Ground.phase},{on:=2,ground:=Ground.phase},{on:=3,ground:=Ground.phase},{on:=4,ground:=Ground.phase},{on:=5,ground:=Ground.phase},{on:=6,ground:=Ground.phase},{on:=7,ground:=Ground.phase},{on:=8,ground:=Ground.phase},{on:=9,ground:=Ground.phase},{on:=10,ground:=Ground.phase},{on:=11,ground:=Ground.phase},{on:=12,ground:=Ground.phase}],guard:=none}] true) (RTc6 t0 t1 t6 t9 t10 t11 t12 t13 t14 t15 t16 t17 t18 t19 t20 t21 t22 t23 t24 t25 t26 t27 t28 t29 t30 t31 t32 t33 t34 t35 t36 t37 t38 t39 t40 t41 pa pb b4 b5 gq gr L N s t qs rs Z1 Z2 w0 wq) {tmps:=#[t0,t1,.pointer (some ⟨pa,0,none⟩),.pointer (some ⟨pb,0,none⟩),.pointer (some ⟨b4,0,none⟩),.pointer (some ⟨b5,0,none⟩),t6,.slice (some ⟨gq,0,none⟩) L L,.slice (some ⟨gr,0,none⟩) N N,t9,t10,t11,t12,t13,t14,t15,t16,t17,t18,t19,t20,t21,t22,t23,t24,t25,t26,t27,t28,t29,t30,t31,t32,t33,t34,t35,t36,t37,t38,t39,t40,t41],defers:=[]} wq:=by
 have hS0:(wq.drew.cell? ⟨pa,0,none⟩=some (.bool s)/\wq.drew.cell? ⟨pb,0,none⟩=some (.bool t))/\Gr w0 wq.drew:=⟨hcs,G0.drew⟩
 have OQ_1:OU wq.drew gq L L qs:=hq
 have OR_2:OU wq.drew gr N N rs:=hr
 have B4_3:wq.drew.heap[b4]? = some (.cells #[.bool false,.slice none 0 0] 24):=h4
 have B5_4:wq.drew.heap[b5]? = some (.cells #[.bool false,.slice none 0 0] 24):=h5
 clear hcs G0 hq hr h4 h5
 refine wp_region_held_drew (S:=fun w'=>(w'.cell? ⟨pa,0,none⟩=some (.bool s)/\w'.cell? ⟨pb,0,none⟩=some (.bool t))/\Gr w0 w') (by kernel_rfl) hS0 (fun hHeld=>?_)
 clear hS0
 generalize wq.drew=wd at *
 refine wpAnyH_take (i:=0) (oi:=({dst:=some 31,op:=Op.fieldAddr 24 (Operand.tmp 2) 0,type:=0,pos:= "divide.go:30",after:=#[],guard:=none}:Oper)) (v:=?_) rfl (by kernel_rfl) (by kernel_rfl) (by kernel_rfl) (fun _ _ _ h=>h) (Or.inl ⟨by rfl,?_⟩) (by with_reducible assumption) ?_
 rotate_left
 ·intro w hSw
  (try dsimp only at hSw)
  first|(go_simp;done)|(go_simp;with_reducible rfl)
 (try simp only[Act.put,List.setIfInBounds_toArray,List.set_cons_zero,List.set_cons_succ])
 refine wpAnyH_take (i:=1) (oi:=({dst:=some 32,op:=Op.load 4 (Operand.tmp 31),type:=4,pos:= "divide.go:30",after:=#[{on:=0,ground:=Ground.data}],guard:=none}:Oper)) (v:=?_) rfl (by kernel_rfl) (by kernel_rfl) (by kernel_rfl) (fun _ _ _ h=>h) (Or.inl ⟨by rfl,?_⟩) (by with_reducible assumption) ?_
 rotate_left
 ·intro w hSw
  (try dsimp only at hSw)
  first|(go_simp;done)|(go_simp;with_reducible rfl)
 (try simp only[Act.put,List.setIfInBounds_toArray,List.set_cons_zero,List.set_cons_succ])
 refine wpAnyH_take (i:=2) (oi:=({dst:=some 33,op:=Op.fieldAddr 24 (Operand.tmp 3) 0,type:=0,pos:= "divide.go:30",after:=#[],guard:=none}:Oper)) (v:=?_) rfl (by kernel_rfl) (by kernel_rfl) (by kernel_rfl) (fun _ _ _ h=>h) (Or.inl ⟨by rfl,?_⟩) (by with_reducible assumption) ?_
 rotate_left
 ·intro w hSw
  (try dsimp only at hSw)
  first|(go_simp;done)|(go_simp;with_reducible rfl)
 (try simp only[Act.put,List.setIfInBounds_toArray,List.set_cons_zero,List.set_cons_succ])
 refine wpAnyH_take (i:=3) (oi:=({dst:=some 34,op:=Op.load 4 (Operand.tmp 33),type:=4,pos:= "divide.go:30",after:=#[{on:=2,ground:=Ground.data}],guard:=none}:Oper)) (v:=?_) rfl (by kernel_rfl) (by kernel_rfl) (by kernel_rfl) (fun _ _ _ h=>h) (Or.inl ⟨by rfl,?_⟩) (by with_reducible assumption) ?_
 rotate_left
 ·intro w hSw
  (try dsimp only at hSw)
  first|(go_simp;done)|(go_simp;with_reducible rfl)
 (try simp only[Act.put,List.setIfInBounds_toArray,List.set_cons_zero,List.set_cons_succ])
 refine wpAnyH_take (i:=4) (oi:=({dst:=some 35,op:=Op.binOp BinOp.neq 4 (Operand.tmp 32) (Operand.tmp 34) 4,type:=4,pos:= "divide.go:30",after:=#[{on:=1,ground:=Ground.data},{on:=3,ground:=Ground.data}],guard:=none}:Oper)) (v:=?_) rfl (by kernel_rfl) (by kernel_rfl) (by kernel_rfl) (fun _ _ _ h=>h) (Or.inl ⟨by rfl,?_⟩) (by with_reducible assumption) ?_
 rotate_left
 ·intro w hSw
  (try dsimp only at hSw)
  first|(go_simp;done)|(go_simp;with_reducible rfl)
 (try simp only[Act.put,List.setIfInBounds_toArray,List.set_cons_zero,List.set_cons_succ])
 refine wpAnyH_take (i:=5) (oi:=({dst:=some 36,op:=Op.move (Operand.tmp 7),type:=22,pos:= "divide.go:30",after:=#[],guard:=none}:Oper)) (v:=?_) rfl (by kernel_rfl) (by kernel_rfl) (by kernel_rfl) (fun _ _ _ h=>h) (Or.inl ⟨by rfl,?_⟩) (by with_reducible assumption) ?_
 rotate_left
 ·intro w hSw
  (try dsimp only at hSw)
  first|(go_simp;done)|(go_simp;with_reducible rfl)
 (try simp only[Act.put,List.setIfInBounds_toArray,List.set_cons_zero,List.set_cons_succ])
 refine wpAnyH_take (i:=7) (oi:=({dst:=some 38,op:=Op.fieldAddr 24 (Operand.tmp 2) 0,type:=0,pos:= "divide.go:30",after:=#[],guard:=none}:Oper)) (v:=?_) rfl (by kernel_rfl) (by kernel_rfl) (by kernel_rfl) (fun _ _ _ h=>h) (Or.inl ⟨by rfl,?_⟩) (by with_reducible assumption) ?_
 rotate_left
 ·intro w hSw
  (try dsimp only at hSw)
  first|(go_simp;done)|(go_simp;with_reducible rfl)
 (try simp only[Act.put,List.setIfInBounds_toArray,List.set_cons_zero,List.set_cons_succ])
 refine wpAnyH_take (i:=8) (oi:=({dst:=some 39,op:=Op.load 4 (Operand.tmp 38),type:=4,pos:= "divide.go:30",after:=#[{on:=7,ground:=Ground.data}],guard:=none}:Oper)) (v:=?_) rfl (by kernel_rfl) (by kernel_rfl) (by kernel_rfl) (fun _ _ _ h=>h) (Or.inl ⟨by rfl,?_⟩) (by with_reducible assumption) ?_
 rotate_left
 ·intro w hSw
  (try dsimp only at hSw)
  first|(go_simp;done)|(go_simp;with_reducible rfl)
 (try simp only[Act.put,List.setIfInBounds_toArray,List.set_cons_zero,List.set_cons_succ])
 refine wpAnyH_take (i:=9) (oi:=({dst:=some 40,op:=Op.move (Operand.tmp 8),type:=22,pos:= "divide.go:30",after:=#[],guard:=none}:Oper)) (v:=?_) rfl (by kernel_rfl) (by kernel_rfl) (by kernel_rfl) (fun _ _ _ h=>h) (Or.inl ⟨by rfl,?_⟩) (by with_reducible assumption) ?_
 rotate_left
 ·intro w hSw
  (try dsimp only at hSw)
  first|(go_simp;done)|(go_simp;with_reducible rfl)
 (try simp only[Act.put,List.setIfInBounds_toArray,List.set_cons_zero,List.set_cons_succ])
 refine wpAnyH_ready (rs:=[6]) (by kernel_rfl) (by simp) ?_
 refine AllReadyH.cons (o:=({dst:=some 37,op:=Op.call {callee:=Callee.value (Operand.func 47),args:=#[Operand.tmp 35,Operand.tmp 36],argTypes:=#[4,22]},type:=24,pos:= "divide.go:30",after:=#[{on:=4,ground:=Ground.data},{on:=5,ground:=Ground.data}],guard:=none}:Oper)) rfl (fun K hK=>?_) AllReadyH.nil
 go_simp
 with_reducible refine(X1.out _ hHeld.2 OQ_1).mono ?_
 rintro r wc5 ⟨a1,q1,m1,d1,rfl,W1_8,F1_9,P1_10,gg7⟩
 replace W1_8:=W1_8.out
 replace F1_9:=F1_9.out
 replace P1_10:=P1_10.out
 refine hK.out _ _ ⟨⟨keepG gg7 hHeld.1.1,keepG gg7 hHeld.1.2⟩,hHeld.2.trans gg7⟩ (fun hH6=>?_)
 have hzwc5:=hHeld.2.size
 clear hK K
 (try simp only[Act.put,List.setIfInBounds_toArray,List.set_cons_zero,List.set_cons_succ])
 have OQ_11:=OQ_1.gr gg7
 clear OQ_1
 have OR_12:=OR_2.gr gg7
 clear OR_2
 have B4_13:=keepO gg7 B4_3
 clear B4_3
 have B5_14:=keepO gg7 B5_4
 clear B5_4
 refine wpAnyH_ready (rs:=[10]) (by kernel_rfl) (by simp) ?_
 refine AllReadyH.cons (o:=({dst:=some 41,op:=Op.call {callee:=Callee.value (Operand.func 47),args:=#[Operand.tmp 39,Operand.tmp 40],argTypes:=#[4,22]},type:=24,pos:= "divide.go:30",after:=#[{on:=8,ground:=Ground.data},{on:=9,ground:=Ground.data},{on:=6,ground:=Ground.chain}],guard:=none}:Oper)) rfl (fun K hK=>?_) AllReadyH.nil
 go_simp
 with_reducible refine(X2.out _ hH6.2 OR_12).mono ?_
 rintro r wc15 ⟨a2,q2,m2,d2,rfl,W2_18,F2_19,P2_20,gg17⟩
 replace W2_18:=W2_18.out
 replace F2_19:=F2_19.out
 replace P2_20:=P2_20.out
 refine hK.out _ _ ⟨⟨keepG gg17 hH6.1.1,keepG gg17 hH6.1.2⟩,hH6.2.trans gg17⟩ (fun hH16=>?_)
 have hzwc15:=hH6.2.size
 clear hK K
 (try simp only[Act.put,List.setIfInBounds_toArray,List.set_cons_zero,List.set_cons_succ])
 have OQ_21:=OQ_11.gr gg17
 clear OQ_11
 have OR_22:=OR_12.gr gg17
 clear OR_12
 have B4_23:=keepO gg17 B4_13
 clear B4_13
 have B5_24:=keepO gg17 B5_14
 clear B5_14
 have W1_25:=W1_8.gr gg17
 clear W1_8
 have F1_26:=F1_9.gr gg17
 clear F1_9
 refine wpAnyH_ready (rs:=[11]) (by kernel_rfl) (by simp) ?_
 refine AllReadyH.cons (o:=({dst:=none,op:=Op.store 24 (Operand.tmp 4) (Operand.tmp 37),type:=0,pos:= "divide.go:30",after:=#[{on:=6,ground:=Ground.data},{on:=10,ground:=Ground.chain},{on:=0,ground:=Ground.phase},{on:=1,ground:=Ground.phase},{on:=2,ground:=Ground.phase},{on:=3,ground:=Ground.phase},{on:=4,ground:=Ground.phase},{on:=5,ground:=Ground.phase},{on:=6,ground:=Ground.phase},{on:=7,ground:=Ground.textOnly Departure.lateStores},{on:=8,ground:=Ground.textOnly Departure.lateStores},{on:=9,ground:=Ground.textOnly Departure.lateStores},{on:=10,ground:=Ground.textOnly Departure.lateStoresUnsure}],guard:=none}:Oper)) rfl (fun K hK=>?_) AllReadyH.nil
 obtain⟨t0',t1',u0',u1'⟩:=outAny B4_23
 go_simp
 refine hK.out _ _ ⟨⟨far2 (B:=b4) (by omega) hH16.1.1,far2 (B:=b4) (by omega) hH16.1.2⟩,((hH16.2.setCell (p:=⟨b4,0,none⟩) (by show _<=b4;omega) _).setCell (p:=⟨b4,1,none⟩) (by show _<=b4;omega) _)⟩ (fun hS27=>?_)
 clear hK K t0' t1' u0' u1'
 (try simp only[Act.put,List.setIfInBounds_toArray,List.set_cons_zero,List.set_cons_succ])
 have OQ_28:=ou_set2 OQ_21 B4_23 (.bool a1) (.slice q1 m1 d1) (by decide)
 have OR_29:=ou_set2 OR_22 B4_23 (.bool a1) (.slice q1 m1 d1) (by decide)
 have B5_30:=heap_farW (q:=b4) (i:=1) (v:=.slice q1 m1 d1) (heap_farW (q:=b4) (i:=0) (v:=.bool a1) B5_24 (by omega)) (by omega)
 have W1_31:=wh_set2W W1_25 F1_26 B4_23 (.bool a1) (.slice q1 m1 d1) (by decide)
 have F1_32:=fresh_set2 F1_26 B4_23 (.bool a1) (.slice q1 m1 d1) (by decide)
 have W2_33:=wh_set2W W2_18 F2_19 B4_23 (.bool a1) (.slice q1 m1 d1) (by decide)
 have F2_34:=fresh_set2 F2_19 B4_23 (.bool a1) (.slice q1 m1 d1) (by decide)
 have B4_35:=put2_block B4_23 (.bool a1) (.slice q1 m1 d1)
 clear OQ_21 OR_22 B5_24 W1_25 F1_26 W2_18 F2_19 B4_23
 refine wpAnyH_ready (rs:=[12]) (by kernel_rfl) (by simp) ?_
 refine AllReadyH.cons (o:=({dst:=none,op:=Op.store 24 (Operand.tmp 5) (Operand.tmp 41),type:=0,pos:= "divide.go:30",after:=#[{on:=10,ground:=Ground.data},{on:=11,ground:=Ground.chain},{on:=0,ground:=Ground.phase},{on:=1,ground:=Ground.phase},{on:=2,ground:=Ground.phase},{on:=3,ground:=Ground.phase},{on:=4,ground:=Ground.phase},{on:=5,ground:=Ground.phase},{on:=6,ground:=Ground.phase},{on:=7,ground:=Ground.phase},{on:=8,ground:=Ground.phase},{on:=9,ground:=Ground.phase},{on:=10,ground:=Ground.phase},{on:=11,ground:=Ground.phase}],guard:=none}:Oper)) rfl (fun K hK=>?_) AllReadyH.nil
 obtain⟨t0',t1',u0',u1'⟩:=outAny B5_30
 go_simp
 refine hK.out _ _ ⟨⟨far2 (B:=b5) (by omega) hS27.1.1,far2 (B:=b5) (by omega) hS27.1.2⟩,((hS27.2.setCell (p:=⟨b5,0,none⟩) (by show _<=b5;omega) _).setCell (p:=⟨b5,1,none⟩) (by show _<=b5;omega) _)⟩ (fun hS36=>?_)
 clear hK K t0' t1' u0' u1'
 (try simp only[Act.put,List.setIfInBounds_toArray,List.set_cons_zero,List.set_cons_succ])
 have OQ_37:=ou_set2 OQ_28 B5_30 (.bool a2) (.slice q2 m2 d2) (by decide)
 have OR_38:=ou_set2 OR_29 B5_30 (.bool a2) (.slice q2 m2 d2) (by decide)
 have B4_39:=heap_farW (q:=b5) (i:=1) (v:=.slice q2 m2 d2) (heap_farW (q:=b5) (i:=0) (v:=.bool a2) B4_35 (by omega)) (by omega)
 have W1_40:=wh_set2W W1_31 F1_32 B5_30 (.bool a2) (.slice q2 m2 d2) (by decide)
 have F1_41:=fresh_set2 F1_32 B5_30 (.bool a2) (.slice q2 m2 d2) (by decide)
 have W2_42:=wh_set2W W2_33 F2_34 B5_30 (.bool a2) (.slice q2 m2 d2) (by decide)
 have F2_43:=fresh_set2 F2_34 B5_30 (.bool a2) (.slice q2 m2 d2) (by decide)
 have B5_44:=put2_block B5_30 (.bool a2) (.slice q2 m2 d2)
 clear OQ_28 OR_29 B4_35 W1_31 F1_32 W2_33 F2_34 B5_30
 refine wpAnyH_take (i:=13) (oi:=({dst:=some 6,op:=Op.assign (Operand.const (Value.int IntKind.i64 0)),type:=28,pos:= "divide.go:30",after:=#[{on:=12,ground:=Ground.chain},{on:=0,ground:=Ground.phase},{on:=1,ground:=Ground.phase},{on:=2,ground:=Ground.phase},{on:=3,ground:=Ground.phase},{on:=4,ground:=Ground.phase},{on:=5,ground:=Ground.phase},{on:=6,ground:=Ground.phase},{on:=7,ground:=Ground.phase},{on:=8,ground:=Ground.phase},{on:=9,ground:=Ground.phase},{on:=10,ground:=Ground.phase},{on:=11,ground:=Ground.phase},{on:=12,ground:=Ground.phase}],guard:=none}:Oper)) (v:=?_) rfl (by kernel_rfl) (by kernel_rfl) (by kernel_rfl) (fun _ _ _ h=>h) (Or.inl ⟨by rfl,?_⟩) (by with_reducible assumption) ?_
 rotate_left
 ·intro w hSw
  (try dsimp only at hSw)
  first|(go_simp;done)|(go_simp;with_reducible rfl)
 (try simp only[Act.put,List.setIfInBounds_toArray,List.set_cons_zero,List.set_cons_succ])
 refine wpAnyH_done (by kernel_rfl) ?_ _
 exact⟨_,_,_,_,_,_,_,_,_,_,_,a1,q1,m1,d1,a2,q2,m2,d2,rfl,B4_39,B5_44,W1_40,W2_42,F1_41,F2_43,P1_10,P2_20,hS36.2⟩
end Go.Proofs.Ytmdakhpdofepeaa
