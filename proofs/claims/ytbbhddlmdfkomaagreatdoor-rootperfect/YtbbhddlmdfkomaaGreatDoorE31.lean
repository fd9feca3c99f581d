import Derived.Test.YtbbhddlmdfkomaaGreatDoorE30
namespace Go.Proofs.YtbbhddlmdfkomaaGreatDoor
open Go.RowKit
set_option linter.unusedVariables false
set_option linter.unusedSimpArgs false
def LRA (w:World) (K n V:Nat) (r:Ending) (w':World):Prop:=∃g C zs,r = .returned (.slice (some ⟨g,0,none⟩) K C)/\w.heap.size<=g/\Hid (OU w' g K C zs)/\Hid (∀z∈zs,z<18446744073709551616)/\Hid ((18446744073709551616:Int) ^ K ∣ (V:Int)*((nv 18446744073709551616 zs:Nat):Int) ^ n-1)/\Gr w w'
def LROK (K:Nat):Prop:=∀(n:Nat),n % 2=1->n<=9223372036854775807->∀(ad:Option Addr) (m cap:Nat) (xs:List Nat) (w:World),Row w ad m cap xs->(∀x∈xs,x<18446744073709551616)->0<m->xs.getD 0 0 % 2=1->Calls Tryz.prog 92 #[.slice ad m cap,.int .i64 (n:Int),.int .i64 (K:Int)] w (LRA w K n (nv 18446744073709551616 xs))
theorem nv_lowest {xs:List Nat} (h:0<xs.length):∃c:Nat,nv 18446744073709551616 xs=xs.getD 0 0+18446744073709551616*c:=by
 cases xs with
 | nil=>simp at h
 | cons x xs=>exact⟨nv 18446744073709551616 xs,rfl⟩
set_option maxHeartbeats 1600000 in
theorem lowRootB:LROK 1:=by
 intro n hn hn2 ad m cap xs w rx hx hm ho
 obtain⟨b,off,rfl,hb,hc⟩:=rx.cells hm
 have hcell:=hc 0 hm
 have hv:=getD_lt (by omega) hx 0
 obtain⟨c,hcv⟩:=nv_lowest (xs:=xs) (by rw[rx.len];exact hm)
 have h1:=rx.le
 have h2:=rx.max
 obtain⟨v,hvv⟩:∃v,xs.getD 0 0=v:=⟨_,rfl⟩
 rw[hvv] at hcell hv ho hcv
 have LR:=hide (fun w1=>limbRootZ v n ho hv hn hn2 w1)
 have HC:=hide hcv
 have i1:(0:Int)<(m:Int):=by omega
 rw[Nat.add_zero] at hcell
 clear hc hcv hvv ho hx rx
 go_enter Tryz.func92,Tryz.ntmps92
 go_wp2_with (go_at_call 128;(with_reducible refine(LR.out _).mono ?_);rintro r w1 ⟨p,rfl,hp,hP,rfl⟩)
 go_ret
 refine⟨w1.heap.size,1,[p],rfl,Nat.le_refl _,own1 w1 p,fun z hz=>by rw[List.mem_singleton] at hz;omega,?_,(Gr.refl w1).alloc _⟩
 show _ ∣ _
 have e:nv 18446744073709551616 [p]=p:=by simp[nv]
 rw[e,HC.out,Int.pow_succ,Int.pow_zero,Int.one_mul]
 have e2:((v+18446744073709551616*c:Nat):Int)*(p:Int) ^ n-1=((v:Int)*(p:Int) ^ n-1)+18446744073709551616*((c:Int)*(p:Int) ^ n):=by
  rw[Int.natCast_add,Int.natCast_mul]
  generalize (p:Int) ^ n=P
  generalize (c:Int)=C
  grind
 rw[e2]
 exact Int.dvd_add hP.out (Int.dvd_mul_right _ _)
theorem sg_keyZ (d:Int):(sg d=0)=(d=0):=by
 unfold sg
 split
 ·apply propext;omega
 ·split
  ·apply propext;omega
  ·apply propext;omega
theorem two_of_dvd {a b:Int} {k:Nat} (hk:1<=k) (h:(2:Int) ^ k ∣ a*b-1):b % 2=1/\a % 2=1:=by
 obtain⟨c,hc⟩:=h
 obtain⟨j,rfl⟩:∃j,k=j+1:=⟨k-1,by omega⟩
 have e:(2:Int) ^ (j+1)*c=2*(2 ^ j*c):=by rw[Int.pow_succ];grind
 have h1:(a*b) % 2=1:=by omega
 rw[Int.mul_emod] at h1
 rcases (show a % 2=0\/a % 2=1 by omega) with h2|h2
 ·rw[h2] at h1;simp at h1
 ·rcases (show b % 2=0\/b % 2=1 by omega) with h3|h3
  ·rw[h3] at h1;simp at h1
  ·exact⟨h3,h2⟩
theorem low_find {O I R t n m K:Nat} (hm:K<=m) (hK:1<=K) (hI:(18446744073709551616:Int) ^ m ∣ (O:Int)*I-1) (hR:(18446744073709551616:Int) ^ K ∣ (I:Int)*(R:Int) ^ n-1) (hn:n % 2=1) (ht:t ^ n=O) (hO:O % 2=1) (htK:t<2 ^ (64*K)) (hRK:R<2 ^ (64*K)):R=t:=by
 have eW:∀j:Nat,(18446744073709551616:Int) ^ j=2 ^ (64*j):=fun j=>by rw[Int.pow_mul];rfl
 rw[eW] at hI hR
 have hI2:(2:Int) ^ (64*K) ∣ (O:Int)*I-1:=Int.dvd_trans (two_dvd (by omega)) hI
 have hRo:(R:Int) ^ n % 2=1:=(two_of_dvd (by omega) hR).1
 have hR1:(R:Int) % 2=1:=by
  rcases (show(R:Int) % 2=0\/(R:Int) % 2=1 by omega) with h|h
  ·obtain⟨j,rfl⟩:∃j,n=j+1:=⟨n-1,by omega⟩
   rw[Int.pow_succ,Int.mul_emod,h] at hRo
   simp at hRo
  ·exact h
 have ht1:(t:Int) % 2=1:=by
  rcases (show t % 2=0\/t % 2=1 by omega) with h|h
  ·obtain⟨j,rfl⟩:∃j,n=j+1:=⟨n-1,by omega⟩
   rw[<-ht,Nat.pow_succ,Nat.mul_mod,h] at hO
   simp at hO
  ·omega
 have hd:(2:Int) ^ (64*K) ∣ (R:Int) ^ n-(t:Int) ^ n:=by
  have e:(R:Int) ^ n-(t:Int) ^ n=(O:Int)*((I:Int)*(R:Int) ^ n-1)-((O:Int)*I-1)*(R:Int) ^ n:=by
   have:(t:Int) ^ n=(O:Int):=by rw[<-ht];simp
   rw[this]
   generalize (R:Int) ^ n=P
   grind
  rw[e]
  exact Int.dvd_sub (Int.dvd_trans hR (Int.dvd_mul_left _ _)) (Int.dvd_trans hI2 (Int.dvd_mul_right _ _))
 obtain⟨c,hc⟩:=Rt.low_one hR1 ht1 hn hd
 have hp:(2:Int) ^ (64*K)=((2 ^ (64*K):Nat):Int):=by simp
 rw[hp] at hc
 generalize 2 ^ (64*K)=P at *
 rcases Int.lt_trichotomy c 0 with h|h|h
 ·have:(P:Int)*c<=(P:Int)*(-1):=Int.mul_le_mul_of_nonneg_left (by omega) (by omega)
  omega
 ·subst h
  omega
 ·have:(P:Int)*1<=(P:Int)*c:=Int.mul_le_mul_of_nonneg_left (by omega) (by omega)
  omega
theorem root_bl {O t n:Nat} (hn:1<=n) (hO:0<O) (ht:Rt.IsRt O n t):bl t=(bl O-1) / n+1:=by
 have h1:=Rt.rt_bits hn ht (bl_lt O)
 have h2:=Rt.rt_bits_ge hn ht (bl_powZ hO rfl).2.1
 refine bl_unique h1 ?_
 rw[Nat.pow_succ]
 omega
def ROr5 (t0 t1 t3 t5 t6 t7 t9 t10 t12 t13 t14 t15 t16 t17 t18 t19 t20 t21 t22 t23 t24 t25 t26 t27 t28 t29 t30:Value) (b4 p4 p7 N:Nat) (a1 a2:Bool) (q1 q2:Option Addr) (m1 d1 m2 d2:Nat) (Z1 k:Int) (w0:World) (wq:World):Exit->Act->World->Prop
 | .normal,a,w=>∃u25 u26 u27 u28 u29 u30,a = {tmps:=#[t0,t1,.int .i64 (N:Int),t3,.pointer (some ⟨p4,0,none⟩),t5,t6,t7,.pointer (some ⟨b4,0,none⟩),.bool (k==0),t10,.pointer (some ⟨p7,0,none⟩),t12,t13,t14,t15,t16,t17,t18,t19,t20,t21,t22,t23,t24,u25,u26,u27,u28,u29,u30],defers:=[]}/\w.heap[b4]? = some (.cells #[.bool a1,.slice q1 m1 d1] 24)/\Wh w a1 q1 m1 d1 Z1/\Fresh w0.heap.size w q1 m1 d1/\Gr w0 w
 | _,_,_=>False
set_option maxRecDepth 100000 in
set_option maxHeartbeats 20000000 in
theorem regOr5 (t0 t1 t3 t5 t6 t7 t9 t10 t12 t13 t14 t15 t16 t17 t18 t19 t20 t21 t22 t23 t24 t25 t26 t27 t28 t29 t30:Value) (b4 p4 p7 N:Nat) (a1 a2:Bool) (q1 q2:Option Addr) (m1 d1 m2 d2:Nat) (Z1 k:Int) (w0:World) (wq:World)
  (X1:Hid (∀w1,Gr w0 w1->Wh w1 a1 q1 m1 d1 Z1->Calls Tryz.prog 37 #[.agg #[.bool a1,.slice q1 m1 d1],.int .i64 (N:Int),.agg #[.bool a2,.slice q2 m2 d2]] w1 fun r w'=>r = .returned (.int .i64 k)/\Gr w1 w'))
  (h4:wq.heap[b4]? = some (.cells #[.bool false,.slice none 0 0] 24)) (hw1:Wh wq a1 q1 m1 d1 Z1) (hf1:Fresh w0.heap.size wq q1 m1 d1) (l1:w0.heap.size<=b4) (l2:p4<b4) (l3:b4<p7) (G0:Gr w0 wq) (hcs:(wq.cell? ⟨p7,0,none⟩=some (.bool a1)/\wq.cell? ⟨p7,1,none⟩=some (.slice q1 m1 d1)/\wq.cell? ⟨p4,0,none⟩=some (.bool a2)/\wq.cell? ⟨p4,1,none⟩=some (.slice q2 m2 d2))) :
  Code.wp Tryz.prog (Code.region 5 #[{dst:=some 25,op:=Op.load 24 (Operand.tmp 11),type:=24,pos:= "perfect.go:74",after:=#[],guard:=none},{dst:=some 26,op:=Op.load 24 (Operand.tmp 11),type:=24,pos:= "perfect.go:74",after:=#[],guard:=none},{dst:=some 27,op:=Op.move (Operand.tmp 2),type:=3,pos:= "perfect.go:74",after:=#[],guard:=none},{dst:=some 28,op:=Op.load 24 (Operand.tmp 4),type:=24,pos:= "perfect.go:74",after:=#[],guard:=none},{dst:=some 29,op:=Op.call {callee:=Callee.value (Operand.func 37),args:=#[Operand.tmp 26,Operand.tmp 27,Operand.tmp 28],argTypes:=#[24,3,24]},type:=3,pos:= "perfect.go:74",after:=#[{on:=1,ground:=Ground.data},{on:=2,ground:=Ground.data},{on:=3,ground:=Ground.data}],guard:=none},{dst:=some 30,op:=Op.binOp BinOp.eql 3 (Operand.tmp 29) (Operand.const (Value.int IntKind.i64 0)) 3,type:=4,pos:= "perfect.go:74",after:=#[{on:=4,ground:=Ground.data},{on:=6,ground:=Ground.gcOnly Departure.lateStores}],guard:=none},{dst:=none,op:=Op.store 24 (Operand.tmp 8) (Operand.tmp 25),type:=0,pos:= "perfect.go:74",after:=#[{on:=0,ground:=Ground.data},{on:=4,ground:=Ground.chain},{on:=0,ground:=Ground.phase},{on:=1,ground:=Ground.textOnly Departure.lateStores},{on:=2,ground:=Ground.textOnly Departure.lateStores},{on:=3,ground:=Ground.textOnly Departure.lateStores},{on:=4,ground:=Ground.textOnly Departure.lateStoresUnsure},{on:=5,ground:=Ground.textOnly Departure.lateStores}],guard:=none},{dst:=some 9,op:=Op.assign (Operand.tmp 30),type:=4,pos:= "perfect.go:74",after:=#[{on:=5,ground:=Ground.data},{on:=6,ground:=Ground.chain},{on:=0,ground:=Ground.phase},{on:=1,ground:=Ground.phase},{on:=2,ground:=Ground.phase},{on:=3,ground:=Ground.phase},{on:=4,ground:=Ground.phase},{on:=5,ground:=Ground.phase},{on:=6,ground:=Ground.phase}],guard:=none}] true) (ROr5 t0 t1 t3 t5 t6 t7 t9 t10 t12 t13 t14 t15 t16 t17 t18 t19 t20 t21 t22 t23 t24 t25 t26 t27 t28 t29 t30 b4 p4 p7 N a1 a2 q1 q2 m1 d1 m2 d2 Z1 k w0 wq) {tmps:=#[t0,t1,.int .i64 (N:Int),t3,.pointer (some ⟨p4,0,none⟩),t5,t6,t7,.pointer (some ⟨b4,0,none⟩),t9,t10,.pointer (some ⟨p7,0,none⟩),t12,t13,t14,t15,t16,t17,t18,t19,t20,t21,t22,t23,t24,t25,t26,t27,t28,t29,t30],defers:=[]} wq:=by
 have hS0:(wq.drew.cell? ⟨p7,0,none⟩=some (.bool a1)/\wq.drew.cell? ⟨p7,1,none⟩=some (.slice q1 m1 d1)/\wq.drew.cell? ⟨p4,0,none⟩=some (.bool a2)/\wq.drew.cell? ⟨p4,1,none⟩=some (.slice q2 m2 d2))/\Gr w0 wq.drew:=⟨hcs,G0.drew⟩
 have B4_1:wq.drew.heap[b4]? = some (.cells #[.bool false,.slice none 0 0] 24):=h4
 have W1_2:Wh wq.drew a1 q1 m1 d1 Z1:=hw1.gr ((Gr.refl wq).drew)
 have F1_3:Fresh w0.heap.size wq.drew q1 m1 d1:=hf1
 clear hcs G0 h4 hw1 hf1
 refine wp_region_held_drew (S:=fun w'=>(w'.cell? ⟨p7,0,none⟩=some (.bool a1)/\w'.cell? ⟨p7,1,none⟩=some (.slice q1 m1 d1)/\w'.cell? ⟨p4,0,none⟩=some (.bool a2)/\w'.cell? ⟨p4,1,none⟩=some (.slice q2 m2 d2))/\Gr w0 w') (by kernel_rfl) hS0 (fun hHeld=>?_)
 clear hS0
 generalize wq.drew=wd at *
 refine wpAnyH_take (i:=0) (oi:=({dst:=some 25,op:=Op.load 24 (Operand.tmp 11),type:=24,pos:= "perfect.go:74",after:=#[],guard:=none}:Oper)) (v:=?_) rfl (by kernel_rfl) (by kernel_rfl) (by kernel_rfl) (fun _ _ _ h=>h) (Or.inl ⟨by rfl,?_⟩) (by with_reducible assumption) ?_
 rotate_left
 ·intro w hSw
  (try dsimp only at hSw)
  first|(go_simp;done)|(go_simp;with_reducible rfl)
 (try simp only[Act.put,List.setIfInBounds_toArray,List.set_cons_zero,List.set_cons_succ])
 refine wpAnyH_take (i:=1) (oi:=({dst:=some 26,op:=Op.load 24 (Operand.tmp 11),type:=24,pos:= "perfect.go:74",after:=#[],guard:=none}:Oper)) (v:=?_) rfl (by kernel_rfl) (by kernel_rfl) (by kernel_rfl) (fun _ _ _ h=>h) (Or.inl ⟨by rfl,?_⟩) (by with_reducible assumption) ?_
 rotate_left
 ·intro w hSw
  (try dsimp only at hSw)
  first|(go_simp;done)|(go_simp;with_reducible rfl)
 (try simp only[Act.put,List.setIfInBounds_toArray,List.set_cons_zero,List.set_cons_succ])
 refine wpAnyH_take (i:=2) (oi:=({dst:=some 27,op:=Op.move (Operand.tmp 2),type:=3,pos:= "perfect.go:74",after:=#[],guard:=none}:Oper)) (v:=?_) rfl (by kernel_rfl) (by kernel_rfl) (by kernel_rfl) (fun _ _ _ h=>h) (Or.inl ⟨by rfl,?_⟩) (by with_reducible assumption) ?_
 rotate_left
 ·intro w hSw
  (try dsimp only at hSw)
  first|(go_simp;done)|(go_simp;with_reducible rfl)
 (try simp only[Act.put,List.setIfInBounds_toArray,List.set_cons_zero,List.set_cons_succ])
 refine wpAnyH_take (i:=3) (oi:=({dst:=some 28,op:=Op.load 24 (Operand.tmp 4),type:=24,pos:= "perfect.go:74",after:=#[],guard:=none}:Oper)) (v:=?_) rfl (by kernel_rfl) (by kernel_rfl) (by kernel_rfl) (fun _ _ _ h=>h) (Or.inl ⟨by rfl,?_⟩) (by with_reducible assumption) ?_
 rotate_left
 ·intro w hSw
  (try dsimp only at hSw)
  first|(go_simp;done)|(go_simp;with_reducible rfl)
 (try simp only[Act.put,List.setIfInBounds_toArray,List.set_cons_zero,List.set_cons_succ])
 refine wpAnyH_ready (rs:=[4]) (by kernel_rfl) (by simp) ?_
 refine AllReadyH.cons (o:=({dst:=some 29,op:=Op.call {callee:=Callee.value (Operand.func 37),args:=#[Operand.tmp 26,Operand.tmp 27,Operand.tmp 28],argTypes:=#[24,3,24]},type:=3,pos:= "perfect.go:74",after:=#[{on:=1,ground:=Ground.data},{on:=2,ground:=Ground.data},{on:=3,ground:=Ground.data}],guard:=none}:Oper)) rfl (fun K hK=>?_) AllReadyH.nil
 go_simp
 with_reducible refine(X1.out _ hHeld.2 W1_2).mono ?_
 rintro r wc4 ⟨rfl,gg6⟩
 refine hK.out _ _ ⟨⟨keepG gg6 hHeld.1.1,keepG gg6 hHeld.1.2.1,keepG gg6 hHeld.1.2.2.1,keepG gg6 hHeld.1.2.2.2⟩,hHeld.2.trans gg6⟩ (fun hH5=>?_)
 have hzwc4:=hHeld.2.size
 clear hK K
 (try simp only[Act.put,List.setIfInBounds_toArray,List.set_cons_zero,List.set_cons_succ])
 have B4_7:=keepO gg6 B4_1
 clear B4_1
 have W1_8:=W1_2.gr gg6
 clear W1_2
 have F1_9:=F1_3.gr gg6
 clear F1_3
 refine wpAnyH_take (i:=5) (oi:=({dst:=some 30,op:=Op.binOp BinOp.eql 3 (Operand.tmp 29) (Operand.const (Value.int IntKind.i64 0)) 3,type:=4,pos:= "perfect.go:74",after:=#[{on:=4,ground:=Ground.data},{on:=6,ground:=Ground.gcOnly Departure.lateStores}],guard:=none}:Oper)) (v:=?_) rfl (by kernel_rfl) (by kernel_rfl) (by kernel_rfl) (fun _ _ _ h=>h) (Or.inl ⟨by rfl,?_⟩) (by with_reducible assumption) ?_
 rotate_left
 ·intro w hSw
  (try dsimp only at hSw)
  first|(go_simp;done)|(go_simp;with_reducible rfl)
 (try simp only[Act.put,List.setIfInBounds_toArray,List.set_cons_zero,List.set_cons_succ])
 refine wpAnyH_ready (rs:=[6]) (by kernel_rfl) (by simp) ?_
 refine AllReadyH.cons (o:=({dst:=none,op:=Op.store 24 (Operand.tmp 8) (Operand.tmp 25),type:=0,pos:= "perfect.go:74",after:=#[{on:=0,ground:=Ground.data},{on:=4,ground:=Ground.chain},{on:=0,ground:=Ground.phase},{on:=1,ground:=Ground.textOnly Departure.lateStores},{on:=2,ground:=Ground.textOnly Departure.lateStores},{on:=3,ground:=Ground.textOnly Departure.lateStores},{on:=4,ground:=Ground.textOnly Departure.lateStoresUnsure},{on:=5,ground:=Ground.textOnly Departure.lateStores}],guard:=none}:Oper)) rfl (fun K hK=>?_) AllReadyH.nil
 obtain⟨t0',t1',u0',u1'⟩:=outAny B4_7
 go_simp
 refine hK.out _ _ ⟨⟨far2 (B:=b4) (by omega) hH5.1.1,far2 (B:=b4) (by omega) hH5.1.2.1,far2 (B:=b4) (by omega) hH5.1.2.2.1,far2 (B:=b4) (by omega) hH5.1.2.2.2⟩,((hH5.2.setCell (p:=⟨b4,0,none⟩) (by show _<=b4;omega) _).setCell (p:=⟨b4,1,none⟩) (by show _<=b4;omega) _)⟩ (fun hS10=>?_)
 clear hK K t0' t1' u0' u1'
 (try simp only[Act.put,List.setIfInBounds_toArray,List.set_cons_zero,List.set_cons_succ])
 have W1_11:=wh_set2W W1_8 F1_9 B4_7 (.bool a1) (.slice q1 m1 d1) (by decide)
 have F1_12:=fresh_set2 F1_9 B4_7 (.bool a1) (.slice q1 m1 d1) (by decide)
 have B4_13:=put2_block B4_7 (.bool a1) (.slice q1 m1 d1)
 clear W1_8 F1_9 B4_7
 refine wpAnyH_take (i:=7) (oi:=({dst:=some 9,op:=Op.assign (Operand.tmp 30),type:=4,pos:= "perfect.go:74",after:=#[{on:=5,ground:=Ground.data},{on:=6,ground:=Ground.chain},{on:=0,ground:=Ground.phase},{on:=1,ground:=Ground.phase},{on:=2,ground:=Ground.phase},{on:=3,ground:=Ground.phase},{on:=4,ground:=Ground.phase},{on:=5,ground:=Ground.phase},{on:=6,ground:=Ground.phase}],guard:=none}:Oper)) (v:=?_) rfl (by kernel_rfl) (by kernel_rfl) (by kernel_rfl) (fun _ _ _ h=>h) (Or.inl ⟨by rfl,?_⟩) (by with_reducible assumption) ?_
 rotate_left
 ·intro w hSw
  (try dsimp only at hSw)
  first|(go_simp;done)|(go_simp;with_reducible rfl)
 (try simp only[Act.put,List.setIfInBounds_toArray,List.set_cons_zero,List.set_cons_succ])
 refine wpAnyH_done (by kernel_rfl) ?_ _
 exact⟨_,_,_,_,_,_,rfl,B4_13,W1_11,F1_12,hS10.2⟩
def ORA (w:World) (O n t:Nat) (r:Ending) (w':World):Prop:=∃(ok:Bool) (a:Bool) (b:Option Addr) (c d:Nat) (Z:Int),r = .returned (.tuple #[.agg #[.bool a,.slice b c d],.bool ok])/\(ok=true ↔ t ^ n=O)/\(ok=true->Z=(t:Int))/\Hid (Wh w' a b c d Z)/\Hid (Fresh w.heap.size w' b c d)/\Gr w w'
theorem ORA.mk' {w w':World} {O n t:Nat} {r:Ending} (h:∃(ok:Bool) (a:Bool) (b:Option Addr) (c d:Nat) (Z:Int),r = .returned (.tuple #[.agg #[.bool a,.slice b c d],.bool ok])/\(ok=true ↔ t ^ n=O)/\(ok=true->Z=(t:Int))/\Hid (Wh w' a b c d Z)/\Hid (Fresh w.heap.size w' b c d)/\Gr w w'):ORA w O n t r w':=h
set_option maxRecDepth 8000 in
set_option maxHeartbeats 8000000 in
theorem oddRootZ (ad ai:Option Addr) (n cap m ci N O t K:Nat) (xs:List Nat) (w:World) (hx:Wh w false ad n cap (O:Int)) (rx:Row w ai m ci xs) (hxs:∀x∈xs,x<18446744073709551616) (hI:(18446744073709551616:Int) ^ m ∣ (O:Int)*((nv 18446744073709551616 xs:Nat):Int)-1) (hO:O % 2=1) (hN1:3<=N) (hN2:N<=9223372036854775807) (hodd:N % 2=1) (ht:Rt.IsRt O N t) (hK:((bl O-1) / N+1+95) / 64=K) (hKm:K<=m) (hK4:K<=4096) (LRK:LROK K) :
  Calls Tryz.prog 96 #[.agg #[.bool false,.slice ad n cap],.slice ai m ci,.int .i64 (N:Int),.int .i64 (((bl O-1) / N+1:Nat):Int)] w (ORA w O N t):=by
 obtain⟨H4,HO⟩:=blk2 w (.cells #[.bool false,.slice ad n cap] 24) (.cells #[.bool false,.slice none 0 0] 24)
 have GW:Gr w ((w.alloc (.cells #[.bool false,.slice ad n cap] 24)).alloc (.cells #[.bool false,.slice none 0 0] 24)):=((Gr.refl w).alloc _).alloc _
 obtain⟨c,hc⟩:∃c,(bl O-1) / N+1=c:=⟨_,rfl⟩
 have hOT:=hx.lt
 rw[Int.natAbs_natCast] at hOT
 have hbO:bl O<=262144:=topN_bl.2 hOT
 have hcb:c<=262145:=by have:=Nat.div_le_self (bl O-1) N;omega
 have hrb:=root_bl (show 1<=N by omega) (show 0<O by omega) ht
 rw[hc] at hK hrb ⊢
 have hK1:1<=K:=by omega
 have LL:=hide (fun w1=>lowLimbsZ c (by omega) w1)
 rw[hK] at LL
 have hm1:0<m:=by omega
 have ho0:xs.getD 0 0 % 2=1:=by
  obtain⟨cc,hcc⟩:=nv_lowest (xs:=xs) (by rw[rx.len];exact hm1)
  have eW:(18446744073709551616:Int) ^ m=2 ^ (64*m):=by rw[Int.pow_mul];rfl
  rw[eW] at hI
  have h1:=(two_of_dvd (by omega) hI).1
  rw[hcc] at h1
  omega
 have LR:Hid (∀w1,Gr w w1->Calls Tryz.prog 92 #[.slice ai m ci,.int .i64 (N:Int),.int .i64 (K:Int)] w1 (LRA w1 K N (nv 18446744073709551616 xs))):=fun w1 g=>LRK N hodd hN2 ai m ci xs w1 (rx.gr g) hxs hm1 ho0
 have l4:=lt_of_get2 H4
 have CP0:=hide (fun (w1:World) (s':Bool) (a:Option Addr) (n' cc:Nat) (R:Nat) (g:Gr w w1) (h:Wh w1 s' a n' cc (R:Int))=>compPowZ s' false a ad n' n cc cap N (R:Int) (O:Int) w1 h (hx.gr g) hN2 (by omega))
 have MM:Hid (∀R:Nat,R<2 ^ (64*K)->(18446744073709551616:Int) ^ K ∣ ((nv 18446744073709551616 xs:Nat):Int)*(R:Int) ^ N-1->(bl R=c->(R ^ N=O ↔ t ^ N=O)/\(t ^ N=O->R=t))/\(bl R≠c->t ^ N≠O)):=fun R hR hRd=>by
  have htK:t<2 ^ (64*K):=by
   have:=bl_lt t
   rw[hrb] at this
   exact Nat.lt_of_lt_of_le this (Nat.pow_le_pow_right (by omega) (by omega))
  have hf:=fun e=>low_find hKm hK1 hI hRd hodd e hO htK hR
  refine⟨fun hb=>⟨⟨fun e=>?_,fun e=>?_⟩,hf⟩,fun hb e=>?_⟩
  ·have:Rt.IsRt O N R:=⟨by omega,by rw[<-e];exact Nat.pow_lt_pow_left (by omega) (by omega)⟩
   rw[ht.one this];exact e
  ·rw[hf e];exact e
  ·rw[hf e] at hb;exact hb hrb
 clear hx rx hI hO ht hK hKm LRK hrb hOT ho0 hc hxs hbO
 go_enter Tryz.func96,Tryz.ntmps96
 have tok0:True:=trivial
 go_wp2_with (go_at_call 93;have _t:=tok0;(with_reducible refine(LL.out _).mono ?_);rintro r v0 ⟨rfl,gN⟩;clear tok0;replace H4:=keepO gN H4;replace HO:=keepO gN HO;replace GW:=GW.trans gN;clear gN)
 have tok1:True:=trivial
 go_wp2_with (go_at_call 92;have _t:=tok1;(with_reducible refine(LR.out _ GW).mono ?_);rintro r v1 ⟨g,C,zs,rfl,hgs,OW,ZL,ZV,gN⟩;replace hgs:=hide (Nat.le_trans GW.size hgs);clear tok1;replace H4:=keepO gN H4;replace HO:=keepO gN HO;replace GW:=GW.trans gN;clear gN)
 have tok2:True:=trivial
 go_wp2_with (go_at_call 133;have _t:=tok2;(with_reducible refine((lowestZ _ _ _ K zs _ OW.out.row ZL.out hK4)).mono ?_);rintro r v2 ⟨k,rfl,hk1,hk2,U11,gN⟩;have J11:=hide (Fresh.takeG (gN.owns (owns_low OW.out hgs.out)) hk1);clear tok2;replace H4:=keepO gN H4;replace HO:=keepO gN HO;replace U11:=U11.out;replace J11:=J11.out.low (Nat.le_refl _);replace GW:=GW.trans gN;clear gN;have Q11:=hide GW.size;have q4_11:=hide (lt_of_get2 H4);have qO_11:=hide (lt_of_get2 HO);have gx:Gr v2 (v2.alloc (.cells #[.bool false,.slice (some ⟨g,0,none⟩) k C] 24)):=(Gr.refl _).alloc _;have H11:=blk1 v2 (.cells #[.bool false,.slice (some ⟨g,0,none⟩) k C] 24);replace H4:=keepO gx H4;replace HO:=keepO gx HO;replace U11:=U11.gr gx;replace J11:=J11.gr gx;replace GW:=GW.trans gx;clear gx;obtain⟨x11,y11⟩:=bx2 H11)
 generalize (v2.alloc (.cells #[.bool false,.slice (some ⟨g,0,none⟩) k C] 24))=w3 at *
 have RV:Hid (nv 18446744073709551616 (zs.take K)<2 ^ (64*K)/\(18446744073709551616:Int) ^ K ∣ ((nv 18446744073709551616 xs:Nat):Int)*((nv 18446744073709551616 (zs.take K):Nat):Int) ^ N-1):=by
  have hl:=OW.out.len
  rw[List.take_of_length_le (by omega)]
  refine⟨?_,ZV.out⟩
  have:=nv_lt 18446744073709551616 zs ZL.out
  rw[hl] at this
  rwa [Nat.pow_mul]
 generalize nv 18446744073709551616 (zs.take K)=R at *
 obtain⟨M1,M2⟩:=MM.out R RV.out.1 RV.out.2
 clear MM RV OW ZL ZV LR LL
 obtain⟨B,hB⟩:∃B,bl R=B:=⟨_,rfl⟩
 have BO:=hide (fun (w1:World) (s':Bool) (a:Option Addr) (n' cc:Nat) (h:Wh w1 s' a n' cc (R:Int))=>bitsOfZ s' a n' cc (R:Int) w1 h)
 rw[Int.natAbs_natCast,hB] at BO
 rw[hB] at M1 M2
 clear hB
 by_cases hbc:B=c
 ·subst hbc
  obtain⟨M3,M4⟩:=M1 rfl
  clear M1 M2
  obtain⟨kk,hkk⟩:∃kk,sg ((R:Int) ^ N-(O:Int))=kk:=⟨_,rfl⟩
  have hk0:kk=0 ↔ R ^ N=O:=by
   have e:(R:Int) ^ N=((R ^ N:Nat):Int):=by simp
   rw[<-hkk,e,(sg_keyZ _)]
   omega
  have CP:=hide (fun (w1:World) (gw:Gr w w1) (h:Wh w1 false (some ⟨g,0,none⟩) k C (R:Int))=>CP0.out w1 false (some ⟨g,0,none⟩) k C R gw h)
  rw[hkk] at CP
  have MK:=hide (And.intro (Iff.trans hk0 M3) M4)
  clear hkk hk0 M3 M4 CP0
  have tokB0:True:=trivial
  go_wp2_with (go_at_call 60;have _t:=tokB0;(with_reducible refine(BO.out _ _ _ _ _ U11).mono ?_);rintro r vB0 ⟨rfl,gN⟩;clear tokB0;clear x11 y11;replace H4:=keepO gN H4;replace HO:=keepO gN HO;replace H11:=keepO gN H11;replace U11:=U11.gr gN;replace J11:=J11.gr gN;replace GW:=GW.trans gN;clear gN;obtain⟨x11,y11⟩:=bx2 H11;obtain⟨x4,y4⟩:=bx2 H4)
  refine Code.wp_mono ?_ (regOr5 _ _ _ _ _ _ _ _ _ _ _ _ _ _ _ _ _ _ _ _ _ _ _ _ _ _ _ (w.heap.size+1) w.heap.size v2.heap.size N false false (some ⟨g,0,none⟩) ad k C n cap (R:Int) kk w vB0 CP HO U11 J11 (by omega) (by omega) qO_11.out GW ⟨x11,y11,x4,y4⟩)
  intro e a1 wR hR
  cases e <;> first|(exact False.elim hR)|skip
  obtain⟨u25,u26,u27,u28,u29,u30,rfl,h4,W1,F1,G5⟩:=hR
  obtain⟨e0,e1⟩:=bx2 h4
  go_wp2
  refine bodyPost_ret (v:=.tuple #[.agg #[.bool false,.slice (some ⟨g,0,none⟩) k C],.bool (kk==0)]) ?_ rfl (ORA.mk' ⟨(kk==0),false,(some ⟨g,0,none⟩),k,C,(R:Int),rfl,by rw[<-MK.out.1];simp,fun h=>?_,W1,F1,G5⟩)
  ·simp[results,Tryz.results96,go_sem,e0,e1]
  ·have e:kk=0:=by simpa using h
   have e2:=MK.out.2 (MK.out.1.1 e)
   rw[e2]
 ·have MK:=hide (M2 hbc)
  have hbci:((B:Int)==(c:Int))=false:=by simp;omega
  have hbcn:¬(B:Int)=(c:Int):=by omega
  clear M1 M2 hbc CP0
  have tokB0:True:=trivial
  go_wp2_with (go_at_call 60;have _t:=tokB0;(with_reducible refine(BO.out _ _ _ _ _ U11).mono ?_);rintro r vB0 ⟨rfl,gN⟩;clear tokB0;clear x11 y11;replace H4:=keepO gN H4;replace HO:=keepO gN HO;replace H11:=keepO gN H11;replace U11:=U11.gr gN;replace J11:=J11.gr gN;replace GW:=GW.trans gN;clear gN;obtain⟨xO,yO,vO,zO⟩:=outAny HO)
  have PO:=put2_block HO (.bool false) (.slice none 0 0)
  obtain⟨e0,e1⟩:=bx2 PO
  refine bodyPost_ret (v:=.tuple #[.agg #[.bool false,.slice none 0 0],.bool false]) ?_ rfl (ORA.mk' ⟨false,false,none,0,0,0,rfl,by simp[MK.out],(fun h=>by cases h),Wh.nil _,Fresh.nil _ _,(GW.setCell (p:=⟨(w.heap.size+1),0,none⟩) (by show _<=(w.heap.size+1);omega) (.bool false)).setCell (p:=⟨(w.heap.size+1),1,none⟩) (by show _<=(w.heap.size+1);omega) (.slice none 0 0)⟩)
  simp[results,Tryz.results96,go_sem,e0,e1]
end Go.Proofs.YtbbhddlmdfkomaaGreatDoor
