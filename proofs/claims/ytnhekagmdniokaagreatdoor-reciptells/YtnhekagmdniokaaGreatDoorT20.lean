import Derived.Test.YtnhekagmdniokaaGreatDoorT19
namespace Go.Proofs.YtnhekagmdniokaaGreatDoor
open Go.RowKit
set_option linter.unusedVariables false
set_option linter.unusedSimpArgs false
theorem cell_gt {g:Nat} {w w':World} (k:Gt g w w') {b o:Nat} {v:Value} (hb:b≠g) (h:w.cell? ⟨b,o,none⟩=some v):w'.cell? ⟨b,o,none⟩=some v:=by
 rw[World.cell?_of_block (w:=w) (a:=⟨b,o,none⟩) (k.block b (lt_of_cell' h) hb)]
 exact h
def R669 (t0 t1 t2 t3 t4 t5 t6 t11 t12 t13 t14 t15 t16 t17 t18 t19 t20 t21 t22 t23 t24 t25 t26 t27 t28 t29 t30 t31 t32 t33 t34 t35 t36 t37 t38 t39 t40 t41 t42 t43 t44 t45 t46 t47 t48 t49:Value) (g N C i j Q bx np cp V:Nat) (adp:Option Addr) (wq:World):Exit->Act->World->Prop
 | .normal,a,w=>∃u40 u41 u42 u43 u44 u45 u46 u47 zs9,a = {tmps:=#[t0,t1,t2,t3,t4,t5,t6,.slice (some ⟨g,0,none⟩) N C,.int .i64 (i:Int),.int .i64 (j:Int),.pointer (some ⟨bx,0,none⟩),t11,t12,t13,t14,t15,t16,t17,t18,t19,t20,t21,t22,t23,t24,t25,t26,t27,t28,t29,t30,t31,t32,t33,t34,t35,t36,t37,t38,t39,u40,u41,u42,u43,u44,u45,u46,u47,t48,t49],defers:=[]}/\(∀z∈zs9,z<18446744073709551616)/\nv 18446744073709551616 zs9=V/\OU w g N C zs9/\Gt g wq w
 | _,_,_=>False
set_option maxRecDepth 100000 in
set_option maxHeartbeats 20000000 in
theorem reg669 (t0 t1 t2 t3 t4 t5 t6 t11 t12 t13 t14 t15 t16 t17 t18 t19 t20 t21 t22 t23 t24 t25 t26 t27 t28 t29 t30 t31 t32 t33 t34 t35 t36 t37 t38 t39 t40 t41 t42 t43 t44 t45 t46 t47 t48 t49:Value) (g N C i j Q bx np cp V:Nat) (adp:Option Addr) (wq:World)
  (X1:Hid (Calls Tryz.prog 104 #[.slice (some ⟨g,Q,none⟩) (N-Q) (C-Q),.slice adp np cp] wq.drew fun e w'=>e = .returned (.tuple #[])/\∃zs:List Nat,Hid (∀z∈zs,z<18446744073709551616)/\Hid (nv 18446744073709551616 zs=V)/\Hid (OU w' g N C zs)/\Hid (Gt g wq.drew w')))
  (hQ:IntKind.i64.wrap ((i:Int)+(j:Int))=(Q:Int)) (hQ2:Q<N) (hNC:N<=C) (hne:bx≠g) (hcs:(wq.cell? ⟨bx,1,none⟩=some (.slice adp np cp))) :
  Code.wp Tryz.prog (Code.region 9 #[{dst:=some 40,op:=Op.move (Operand.tmp 7),type:=22,pos:= "recip.go:105",after:=#[],guard:=none},{dst:=some 41,op:=Op.move (Operand.tmp 8),type:=3,pos:= "recip.go:105",after:=#[],guard:=none},{dst:=some 42,op:=Op.move (Operand.tmp 9),type:=3,pos:= "recip.go:105",after:=#[],guard:=none},{dst:=some 43,op:=Op.binOp BinOp.add 3 (Operand.tmp 41) (Operand.tmp 42) 3,type:=3,pos:= "recip.go:105",after:=#[{on:=1,ground:=Ground.data},{on:=2,ground:=Ground.data}],guard:=none},{dst:=some 44,op:=Op.slice 22 (Operand.tmp 40) (some (Operand.tmp 43)) none none,type:=22,pos:= "recip.go:105",after:=#[{on:=0,ground:=Ground.data},{on:=3,ground:=Ground.data}],guard:=none},{dst:=some 45,op:=Op.fieldAddr 24 (Operand.tmp 10) 1,type:=0,pos:= "recip.go:105",after:=#[],guard:=none},{dst:=some 46,op:=Op.load 22 (Operand.tmp 45),type:=22,pos:= "recip.go:105",after:=#[{on:=5,ground:=Ground.data}],guard:=none},{dst:=some 47,op:=Op.call {callee:=Callee.value (Operand.func 104),args:=#[Operand.tmp 44,Operand.tmp 46],argTypes:=#[22,22]},type:=0,pos:= "recip.go:105",after:=#[{on:=4,ground:=Ground.data},{on:=6,ground:=Ground.data}],guard:=none}] true) (R669 t0 t1 t2 t3 t4 t5 t6 t11 t12 t13 t14 t15 t16 t17 t18 t19 t20 t21 t22 t23 t24 t25 t26 t27 t28 t29 t30 t31 t32 t33 t34 t35 t36 t37 t38 t39 t40 t41 t42 t43 t44 t45 t46 t47 t48 t49 g N C i j Q bx np cp V adp wq) {tmps:=#[t0,t1,t2,t3,t4,t5,t6,.slice (some ⟨g,0,none⟩) N C,.int .i64 (i:Int),.int .i64 (j:Int),.pointer (some ⟨bx,0,none⟩),t11,t12,t13,t14,t15,t16,t17,t18,t19,t20,t21,t22,t23,t24,t25,t26,t27,t28,t29,t30,t31,t32,t33,t34,t35,t36,t37,t38,t39,t40,t41,t42,t43,t44,t45,t46,t47,t48,t49],defers:=[]} wq:=by
 have hS0:(wq.drew.cell? ⟨bx,1,none⟩=some (.slice adp np cp))/\Gt g wq wq.drew:=⟨hcs,(Gt.refl g wq).drew⟩
 have j1:Q<=C:=by omega
 have j2:Q<=N:=by omega
 have j3:¬C=Q:=by omega
 have j4:(Q:Int)<=(C:Int):=by omega
 have j5:(Q:Int)<=(N:Int):=by omega
 clear hcs
 refine wp_region_held_drew (S:=fun w'=>(w'.cell? ⟨bx,1,none⟩=some (.slice adp np cp))/\Gt g wq w') (by kernel_rfl) hS0 (fun hHeld=>?_)
 clear hS0
 generalize wq.drew=wd at *
 refine wpAnyH_take (i:=0) (oi:=({dst:=some 40,op:=Op.move (Operand.tmp 7),type:=22,pos:= "recip.go:105",after:=#[],guard:=none}:Oper)) (v:=?_) rfl (by kernel_rfl) (by kernel_rfl) (by kernel_rfl) (fun _ _ _ h=>h) (Or.inl ⟨by rfl,?_⟩) (by with_reducible assumption) ?_
 rotate_left
 ·intro w hSw
  (try dsimp only at hSw)
  first|(go_simp;done)|(go_simp;with_reducible rfl)
 (try simp only[Act.put,List.setIfInBounds_toArray,List.set_cons_zero,List.set_cons_succ])
 refine wpAnyH_take (i:=1) (oi:=({dst:=some 41,op:=Op.move (Operand.tmp 8),type:=3,pos:= "recip.go:105",after:=#[],guard:=none}:Oper)) (v:=?_) rfl (by kernel_rfl) (by kernel_rfl) (by kernel_rfl) (fun _ _ _ h=>h) (Or.inl ⟨by rfl,?_⟩) (by with_reducible assumption) ?_
 rotate_left
 ·intro w hSw
  (try dsimp only at hSw)
  first|(go_simp;done)|(go_simp;with_reducible rfl)
 (try simp only[Act.put,List.setIfInBounds_toArray,List.set_cons_zero,List.set_cons_succ])
 refine wpAnyH_take (i:=2) (oi:=({dst:=some 42,op:=Op.move (Operand.tmp 9),type:=3,pos:= "recip.go:105",after:=#[],guard:=none}:Oper)) (v:=?_) rfl (by kernel_rfl) (by kernel_rfl) (by kernel_rfl) (fun _ _ _ h=>h) (Or.inl ⟨by rfl,?_⟩) (by with_reducible assumption) ?_
 rotate_left
 ·intro w hSw
  (try dsimp only at hSw)
  first|(go_simp;done)|(go_simp;with_reducible rfl)
 (try simp only[Act.put,List.setIfInBounds_toArray,List.set_cons_zero,List.set_cons_succ])
 refine wpAnyH_take (i:=3) (oi:=({dst:=some 43,op:=Op.binOp BinOp.add 3 (Operand.tmp 41) (Operand.tmp 42) 3,type:=3,pos:= "recip.go:105",after:=#[{on:=1,ground:=Ground.data},{on:=2,ground:=Ground.data}],guard:=none}:Oper)) (v:=?_) rfl (by kernel_rfl) (by kernel_rfl) (by kernel_rfl) (fun _ _ _ h=>h) (Or.inl ⟨by rfl,?_⟩) (by with_reducible assumption) ?_
 rotate_left
 ·intro w hSw
  (try dsimp only at hSw)
  first|(go_simp;done)|(go_simp;with_reducible rfl)
 (try simp only[Act.put,List.setIfInBounds_toArray,List.set_cons_zero,List.set_cons_succ])
 refine wpAnyH_take (i:=4) (oi:=({dst:=some 44,op:=Op.slice 22 (Operand.tmp 40) (some (Operand.tmp 43)) none none,type:=22,pos:= "recip.go:105",after:=#[{on:=0,ground:=Ground.data},{on:=3,ground:=Ground.data}],guard:=none}:Oper)) (v:=?_) rfl (by kernel_rfl) (by kernel_rfl) (by kernel_rfl) (fun _ _ _ h=>h) (Or.inl ⟨by rfl,?_⟩) (by with_reducible assumption) ?_
 rotate_left
 ·intro w hSw
  (try dsimp only at hSw)
  first|(go_simp;done)|(go_simp;with_reducible rfl)
 (try simp only[Act.put,List.setIfInBounds_toArray,List.set_cons_zero,List.set_cons_succ])
 refine wpAnyH_take (i:=5) (oi:=({dst:=some 45,op:=Op.fieldAddr 24 (Operand.tmp 10) 1,type:=0,pos:= "recip.go:105",after:=#[],guard:=none}:Oper)) (v:=?_) rfl (by kernel_rfl) (by kernel_rfl) (by kernel_rfl) (fun _ _ _ h=>h) (Or.inl ⟨by rfl,?_⟩) (by with_reducible assumption) ?_
 rotate_left
 ·intro w hSw
  (try dsimp only at hSw)
  first|(go_simp;done)|(go_simp;with_reducible rfl)
 (try simp only[Act.put,List.setIfInBounds_toArray,List.set_cons_zero,List.set_cons_succ])
 refine wpAnyH_take (i:=6) (oi:=({dst:=some 46,op:=Op.load 22 (Operand.tmp 45),type:=22,pos:= "recip.go:105",after:=#[{on:=5,ground:=Ground.data}],guard:=none}:Oper)) (v:=?_) rfl (by kernel_rfl) (by kernel_rfl) (by kernel_rfl) (fun _ _ _ h=>h) (Or.inl ⟨by rfl,?_⟩) (by with_reducible assumption) ?_
 rotate_left
 ·intro w hSw
  (try dsimp only at hSw)
  first|(go_simp;done)|(go_simp;with_reducible rfl)
 (try simp only[Act.put,List.setIfInBounds_toArray,List.set_cons_zero,List.set_cons_succ])
 refine wpAnyH_ready (rs:=[7]) (by kernel_rfl) (by simp) ?_
 refine AllReadyH.cons (o:=({dst:=some 47,op:=Op.call {callee:=Callee.value (Operand.func 104),args:=#[Operand.tmp 44,Operand.tmp 46],argTypes:=#[22,22]},type:=0,pos:= "recip.go:105",after:=#[{on:=4,ground:=Ground.data},{on:=6,ground:=Ground.data}],guard:=none}:Oper)) rfl (fun K hK=>?_) AllReadyH.nil
 go_simp
 with_reducible refine X1.out.mono ?_
 rintro r wc1 ⟨rfl,zs9,M9,E9,O9,T9⟩
 refine hK.out _ _ ⟨cell_gt T9.out hne hHeld.1,hHeld.2.trans T9.out⟩ (fun hH2=>?_)
 clear hK K
 (try simp only[Act.put,List.setIfInBounds_toArray,List.set_cons_zero,List.set_cons_succ])
 refine wpAnyH_done (by kernel_rfl) ?_ _
 exact⟨_,_,_,_,_,_,_,_,zs9,rfl,M9.out,E9.out,O9.out,hH2.2⟩
theorem fresh_ge {B:Nat} {w:World} {ad:Option Addr} {n cap:Nat} (h:Fresh B w ad n cap):∀a,ad=some a->B<=a.block:=by
 intro a ha
 subst ha
 obtain⟨xs,hx⟩:=h
 exact(World.ownsRow.lt hx a.block rfl).1
theorem Pc_lt {xs:List Nat} (hx:∀x∈xs,x<18446744073709551616) (i:Nat):Pc xs i<18446744073709551616 ^ (min 2048 (xs.length-i)):=by
 unfold Pc
 have:=nv_lt 18446744073709551616 _ (take_lt (drop_lt hx i) 2048)
 rw[List.length_take,List.length_drop] at this
 exact this
theorem lim_lenV {w:World} {ad:Option Addr} {n cap x k:Nat} (h:Lim w ad n cap 18446744073709551616 x) (hx:x<18446744073709551616 ^ k):n<=k:=by
 obtain⟨xs,rx,dx⟩:=h
 have hl:=rx.len
 refine Nat.le_of_not_lt fun hlt=>?_
 have h1:=dx.lower (k:=n-1) (by omega)
 have h2:18446744073709551616 ^ k<=18446744073709551616 ^ (n-1):=Nat.pow_le_pow_right (by omega) (by omega)
 omega
theorem take_le (xs:List Nat) (i:Nat):nv 18446744073709551616 (xs.take i)<=nv 18446744073709551616 xs:=by
 have:=nv_append 18446744073709551616 (xs.take i) (xs.drop i)
 rw[List.take_append_drop] at this
 omega
theorem prod_in (xs ys:List Nat) (i j:Nat):nv 18446744073709551616 (xs.take i)*nv 18446744073709551616 ys+18446744073709551616 ^ i*(Pc xs i*nv 18446744073709551616 (ys.take (j+2048)))=(nv 18446744073709551616 (xs.take i)*nv 18446744073709551616 ys+18446744073709551616 ^ i*(Pc xs i*nv 18446744073709551616 (ys.take j)))+18446744073709551616 ^ (i+j)*(Pc xs i*Pc ys j):=by
 rw[nv_take_add ys j 2048,Nat.pow_add]
 show _+18446744073709551616 ^ i*(Pc xs i*(nv 18446744073709551616 (ys.take j)+18446744073709551616 ^ j*Pc ys j))=_
 rw[Nat.mul_add,Nat.mul_add,<-Nat.add_assoc]
 congr 1
 generalize 18446744073709551616 ^ i=a
 generalize 18446744073709551616 ^ j=b
 ac_rfl
theorem prod_out (xs ys:List Nat) (i:Nat):nv 18446744073709551616 (xs.take i)*nv 18446744073709551616 ys+18446744073709551616 ^ i*(Pc xs i*nv 18446744073709551616 ys)=nv 18446744073709551616 (xs.take (i+2048))*nv 18446744073709551616 ys:=by
 rw[nv_take_add,Nat.add_mul,Nat.mul_assoc]
 rfl
theorem pc_top {xs ys:List Nat} (hx:∀x∈xs,x<18446744073709551616) (hy:∀x∈ys,x<18446744073709551616) (i j:Nat):((Pc xs i:Int)*(Pc ys j:Int)).natAbs<TopN:=by
 have h1:=Pc_lt hx i
 have h2:=Pc_lt hy j
 have h3:=mul_lt_pow h1 h2
 have e:=K4_eq
 have h4:((Pc xs i:Int)*(Pc ys j:Int)).natAbs=Pc xs i*Pc ys j:=by rw[Int.natAbs_mul];rfl
 rw[h4,topN_eq]
 exact Nat.lt_of_lt_of_le h3 (Nat.pow_le_pow_right (by omega) (by omega))
set_option maxRecDepth 8000 in
set_option maxHeartbeats 8000000 in
theorem prodV (ad1 ad2:Option Addr) (n1 n2 c1 c2 pf:Nat) (xs ys:List Nat) (w:World) (rx:Row w ad1 n1 c1 xs) (ry:Row w ad2 n2 c2 ys) (hx:∀x∈xs,x<18446744073709551616) (hy:∀x∈ys,x<18446744073709551616) (b1:n1<=1099511620000) (b2:n2<=1099511620000) (hk:Kp w pf) :
  Calls Tryz.prog 66 #[.slice ad1 n1 c1,.slice ad2 n2 c2,.func (.func 95) #[] #[.pointer (some ⟨pf,0,none⟩)]] w fun e w'=>∃ad n c,e = .returned (.slice ad n c)/\n<=n1+n2/\Hid (Lim w' ad n c 18446744073709551616 (nv 18446744073709551616 xs*nv 18446744073709551616 ys))/\Hid (Fresh w.heap.size w' ad n c)/\Gr w w':=by
 have RX:=hide rx
 have RY:=hide ry
 have LX:=hide hx
 have LY:=hide hy
 have HK:=hide hk
 have l1:=rx.len
 have l2:=ry.len
 have BX:Hid (nv 18446744073709551616 xs<18446744073709551616 ^ n1):=by have:=nv_lt 18446744073709551616 xs hx;rw[l1] at this;exact this
 have BY:Hid (nv 18446744073709551616 ys<18446744073709551616 ^ n2):=by have:=nv_lt 18446744073709551616 ys hy;rw[l2] at this;exact this
 clear rx ry hx hy hk
 go_enter Tryz.func66,Tryz.ntmps66
 go_wp2_with (at_make;refine wpList_made rfl _ _ rfl (n1+n2) _ rfl rfl (by omega) (by omega) ?_;intro w2 hown0 hg2)
 have O2:Hid (OU w2 w.heap.size (n1+n2) (n1+n2) (List.replicate (n1+n2) 0)):=hown0
 have G2:Hid (Gr w w2):=hg2
 have K2:Hid (Kp w2 pf):=HK.out.gr hg2
 have hpf:=HK.out.lt
 have hgl:=ou_lt O2.out
 clear hg2 hown0 HK
 obtain⟨g,hgdef⟩:∃g,w.heap.size=g:=⟨_,rfl⟩
 rw[hgdef] at O2 hpf hgl
 obtain⟨N,hN⟩:∃N,n1+n2=N:=⟨_,rfl⟩
 rw[hN] at O2
 rw[hgdef,hN]
 have NE1:Hid (0<n1->∀b,ad1=some b->b.block≠g):=fun hp b hb=>by
  obtain⟨pa,oa,hae,hab,_⟩:=RX.out.cells hp
  rw[hb] at hae
  injection hae with hae
  rw[hae]
  show pa≠g
  omega
 have NE2:Hid (0<n2->∀b,ad2=some b->b.block≠g):=fun hp b hb=>by
  obtain⟨pa,oa,hae,hab,_⟩:=RY.out.cells hp
  rw[hb] at hae
  injection hae with hae
  rw[hae]
  show pa≠g
  omega
 have RX2:Hid (∀w',Gt g w2 w'->Row w' ad1 n1 c1 xs):=fun w' k=>(RX.out.gr G2.out).gt k NE1.out
 have RY2:Hid (∀w',Gt g w2 w'->Row w' ad2 n2 c2 ys):=fun w' k=>(RY.out.gr G2.out).gt k NE2.out
 go_loopw [8] (fun ti wr=>∃(i:Nat) (zs:List Nat),i<=n1+2048/\ti = .int .i64 (i:Int)/\Hid (OU wr g N N zs)/\Hid (∀z∈zs,z<18446744073709551616)/\Hid (nv 18446744073709551616 zs=nv 18446744073709551616 (xs.take i)*nv 18446744073709551616 ys)/\Hid (Gt g w2 wr)) (fun ti _=>n1-(intOf ti).toNat)
 case atStart=>exact⟨0,_,by omega,rfl,O2,(fun z hz=>by rw[(List.mem_replicate.1 hz).2];omega),(by show _=_;rw[nv_zeros,List.take_zero,nv_nil,Nat.zero_mul]),Gt.refl _ _⟩
 case round =>
  obtain⟨i,zs,hi,rfl,hown,hzl,hA,hg⟩:=hrel
  by_cases hlt:(i:Int)<(n1:Int)
  ·have hin:i<n1:=by omega
   obtain⟨pb1,ob1,hae1,_,_⟩:=RX.out.cells (by omega)
   subst hae1
   go_wp2
   go_loopw [9] (fun tj wr=>∃(j:Nat) (zs:List Nat),j<=n2+2048/\tj = .int .i64 (j:Int)/\Hid (OU wr g N N zs)/\Hid (∀z∈zs,z<18446744073709551616)/\Hid (nv 18446744073709551616 zs=nv 18446744073709551616 (xs.take i)*nv 18446744073709551616 ys+18446744073709551616 ^ i*(Pc xs i*nv 18446744073709551616 (ys.take j)))/\Hid (Gt g w2 wr)) (fun tj _=>n2-(intOf tj).toNat)
   case atStart=>exact⟨0,zs,by omega,rfl,hown,hzl,(by show _=_;rw[hA.out,List.take_zero,nv_nil,Nat.mul_zero,Nat.mul_zero,Nat.add_zero]),hg⟩
   case round =>
    clear hA hown hzl hg
    rename World=>wo
    obtain⟨j,zs,hj,rfl,hown,hzl,hA,hg⟩:=hrel
    by_cases hlt2:(j:Int)<(n2:Int)
    ·have hjn:j<n2:=by omega
     obtain⟨pb2,ob2,hae2,_,_⟩:=RY.out.cells (by omega)
     subst hae2
     have GT:=hg.out
     have KF:=K2.out.gt hg.out (by omega)
     replace hown:=hown.out
     have tok0:True:=trivial
     clear hg
     go_wp2_with (first|(go_at_call 103;have _t:=tok0;(with_reducible refine(pieceAtT pb1 ob1 n1 c1 i xs _ (RX2.out _ GT) LX.out hin (by omega)).mono ?_);rintro r wa ⟨k1,d1,rfl,hk1,hk1',H1,ga⟩;clear tok0;have tok1:True:=trivial;replace GT:=GT.trans (Gt.of_gr ga);replace KF:=KF.gr ga;replace hown:=hown.gr ga)|(go_at_call 103;have _t:=tok1;(with_reducible refine(pieceAtT pb2 ob2 n2 c2 j ys _ (RY2.out _ GT) LY.out hjn (by omega)).mono ?_);rintro r wb ⟨k2,d2,rfl,hk2,hk2',H2,gb⟩;clear tok1;have tok2:True:=trivial;replace GT:=GT.trans (Gt.of_gr gb);replace KF:=KF.gr gb;replace hown:=hown.gr gb;have hsb:=GT.size)|(go_at_call 102;(with_reducible refine(mulF _ _ _ _ _ _ _ _ _ _ _ (H1.out.gr gb) H2.out (pc_top LX.out LY.out i j)).mono ?_);rintro r wc ⟨a3,b3,c3,d3,rfl,H3,F3,gc⟩;replace GT:=GT.trans (Gt.of_gr gc);replace KF:=KF.gr gc;replace hown:=hown.gr gc)|(go_at_call 95;(with_reducible refine(keepT a3 b3 c3 d3 pf _ KF).mono ?_);rintro r wd ⟨rfl,gd⟩;replace GT:=GT.trans (Gt.of_gr gd);replace KF:=KF.gr gd;replace hown:=hown.gr gd))
     have GX:Gr wd (wd.alloc (.cells #[.bool a3,.slice b3 c3 d3] 24)):=(Gr.refl wd).alloc _
     have hb1:=(bx2 (blk1 wd (.cells #[.bool a3,.slice b3 c3 d3] 24))).2
     have LP:Lim (wd.alloc (.cells #[.bool a3,.slice b3 c3 d3] 24)) b3 c3 d3 18446744073709551616 (Pc xs i*Pc ys j):=by
      have:=((H3.out.gr gd).gr GX).lim
      rw[Int.natAbs_mul] at this
      exact this
     have hnb:∀a,b3=some a->a.block≠g:=fun a ha=>by
      have:=fresh_ge F3.out a ha
      omega
     have hlt1:=Pc_lt LX.out i
     have hlt2:=Pc_lt LY.out j
     rw[l1] at hlt1
     rw[l2] at hlt2
     have hc3:=lim_lenV LP (mul_lt_pow hlt1 hlt2)
     have hgd:=ou_lt hown
     replace hown:=hown.gr GX
     replace GT:=GT.trans (Gt.of_gr GX)
     have hbx:wd.heap.size≠g:=by omega
     obtain⟨ps,rp,dp⟩:=LP
     obtain⟨V,hV⟩:∃V,nv 18446744073709551616 (xs.take i)*nv 18446744073709551616 ys+18446744073709551616 ^ i*(Pc xs i*nv 18446744073709551616 (ys.take (j+2048)))=V:=⟨_,rfl⟩
     have hVs:V=nv 18446744073709551616 zs+18446744073709551616 ^ (i+j)*nv 18446744073709551616 ps:=by rw[<-hV,hA.out,dp.1];exact prod_in xs ys i j
     have hVr:nv 18446744073709551616 zs+18446744073709551616 ^ (i+j)*nv 18446744073709551616 ps<18446744073709551616 ^ N:=by
      rw[<-hVs,<-hV,<-hN]
      refine Nat.lt_of_le_of_lt ?_ (mul_lt_pow BX.out BY.out)
      refine Nat.le_trans (Nat.add_le_add_left (Nat.mul_le_mul_left _ (Nat.mul_le_mul_left _ (take_le ys _))) _) ?_
      rw[prod_out]
      exact Nat.mul_le_mul_right _ (take_le xs _)
     have hQ1:IntKind.i64.wrap ((i:Int)+(j:Int))=((i+j:Nat):Int):=by rw[IntKind.wrap_i64];omega
     have hQ2:i+j<N:=by omega
     generalize wd.heap.size=bx at *
     generalize (wd.alloc (.cells #[.bool a3,.slice b3 c3 d3] 24))=wx at *
     have PV:Hid (Calls Tryz.prog 104 #[.slice (some ⟨g,i+j,none⟩) (N-(i+j)) (N-(i+j)),.slice b3 c3 d3] wx.drew fun e w'=>e = .returned (.tuple #[])/\∃zs:List Nat,Hid (∀z∈zs,z<18446744073709551616)/\Hid (nv 18446744073709551616 zs=V)/\Hid (OU w' g N N zs)/\Hid (Gt g wx.drew w')):=by
      have hp:=putV g N N (i+j) (N-(i+j)) (N-(i+j)) b3 c3 d3 ps zs wx.drew (rp.gr (Gr.refl wx).drew) (fun _=>hnb) dp.2.1 hzl.out (by omega) (by omega) (by omega) (Nat.le_refl _) (by omega) (hown.gr (Gr.refl wx).drew) hVr
      rw[<-hVs] at hp
      exact hp
     have HR:Hid (∀t0 t1 t2 t3 t4 t5 t6 t11 t12 t13 t14 t15 t16 t17 t18 t19 t20 t21 t22 t23 t24 t25 t26 t27 t28 t29 t30 t31 t32 t33 t34 t35 t36 t37 t38 t39 t40 t41 t42 t43 t44 t45 t46 t47 t48 t49:Value,_):=fun t0 t1 t2 t3 t4 t5 t6 t11 t12 t13 t14 t15 t16 t17 t18 t19 t20 t21 t22 t23 t24 t25 t26 t27 t28 t29 t30 t31 t32 t33 t34 t35 t36 t37 t38 t39 t40 t41 t42 t43 t44 t45 t46 t47 t48 t49=>reg669 t0 t1 t2 t3 t4 t5 t6 t11 t12 t13 t14 t15 t16 t17 t18 t19 t20 t21 t22 t23 t24 t25 t26 t27 t28 t29 t30 t31 t32 t33 t34 t35 t36 t37 t38 t39 t40 t41 t42 t43 t44 t45 t46 t47 t48 t49 g N N i j (i+j) bx c3 d3 V b3 wx PV hQ1 hQ2 (Nat.le_refl _) hbx hb1
     have VH:=hide hV
     replace GT:=hide GT
     clear PV hV hVs hVr hQ1 dp rp hnb hc3 hlt1 hlt2 hb1 GX H3 F3 H1 H2 ga gb gc gd KF hA hzl hown
     refine Code.wp_mono ?_ (HR.out _ _ _ _ _ _ _ _ _ _ _ _ _ _ _ _ _ _ _ _ _ _ _ _ _ _ _ _ _ _ _ _ _ _ _ _ _ _ _ _ _ _ _ _ _ _)
     intro e a1 w9 hR
     cases e <;> first|(exact False.elim hR)|skip
     obtain⟨u40,u41,u42,u43,u44,u45,u46,u47,zs9,rfl,M9,E9,O9,X9⟩:=hR
     have O9':Hid (OU w9 g N N zs9):=O9
     have X9':Hid (Gt g w2 w9):=GT.out.trans X9
     have M9':=hide M9
     have E9':Hid (nv 18446744073709551616 zs9=nv 18446744073709551616 (xs.take i)*nv 18446744073709551616 ys+18446744073709551616 ^ i*(Pc xs i*nv 18446744073709551616 (ys.take (j+2048)))):=E9.trans VH.out.symm
     clear O9 X9 M9 E9 HR VH GT
     go_wp2
     go_roundw
     case rel=>exact⟨j+2048,zs9,by omega,by go_num,O9',M9',E9',X9'⟩
     case measure=>simp only[intOf];omega
    ·have hA':Hid (nv 18446744073709551616 zs=nv 18446744073709551616 (xs.take (i+2048))*nv 18446744073709551616 ys):=by
      show _=_
      rw[hA.out,show ys.take j=ys from List.take_of_length_le (by omega),prod_out]
     clear hA
     go_wp2
     go_roundw
     case rel=>exact⟨i+2048,zs,by omega,by go_num,hown,hzl,hA',hg⟩
     case measure=>simp only[intOf];omega
  ·have hA':nv 18446744073709551616 zs=nv 18446744073709551616 xs*nv 18446744073709551616 ys:=by rw[hA.out,List.take_of_length_le (by omega)]
   have TR:=hide (trimVO (v:=nv 18446744073709551616 xs*nv 18446744073709551616 ys) (B:=g) hown.out hzl.out hA' (Gr.refl wr))
   have GF:Hid (Gr w wr):=Gt.gr G2.out hg.out (by omega)
   clear hA'
   go_wp2_with (go_at_call 105;(with_reducible refine TR.out.mono ?_);rintro r wz ⟨k9,rfl,hk9,L9,F9,rfl⟩)
   go_ret
   exact⟨_,_,_,rfl,by omega,L9,(by have:=F9.low (show w.heap.size<=g by omega);exact this),GF.out⟩
theorem lim_lt {w:World} {ad:Option Addr} {n cap x:Nat} (h:Lim w ad n cap 18446744073709551616 x):x<18446744073709551616 ^ n:=by
 obtain⟨xs,rx,dx⟩:=h
 have:=dx.upper
 rw[rx.len] at this
 exact this
theorem row_ne {w:World} {ad:Option Addr} {n cap:Nat} {xs:List Nat} (h:Row w ad n cap xs) {g:Nat} (hg:w.heap.size<=g):0<n->∀b,ad=some b->b.block≠g:=fun hp b hb=>by
 obtain⟨pa,oa,hae,hab,_⟩:=h.cells hp
 rw[hb] at hae
 injection hae with hae
 rw[hae]
 show pa≠g
 omega
set_option maxRecDepth 8000 in
set_option maxHeartbeats 4000000 in
theorem sumV (ad1 ad2:Option Addr) (n1 n2 c1 c2 x y:Nat) (w:World) (hx:Lim w ad1 n1 c1 18446744073709551616 x) (hy:Lim w ad2 n2 c2 18446744073709551616 y) (b1:n1<=1099511620000) (b2:n2<=1099511620000) :
  Calls Tryz.prog 109 #[.slice ad1 n1 c1,.slice ad2 n2 c2] w fun e w'=>∃ad n c,e = .returned (.slice ad n c)/\n<=max n1 n2+1/\Hid (Lim w' ad n c 18446744073709551616 (x+y))/\Hid (Fresh w.heap.size w' ad n c)/\Gr w w':=by
 have lx:=lim_lt hx
 have ly:=lim_lt hy
 obtain⟨xs,rx,dx⟩:=hx
 obtain⟨ys,ry,dy⟩:=hy
 obtain⟨M,hM⟩:∃M,max n1 n2=M:=⟨_,rfl⟩
 have hmax:max (n1:Int) (n2:Int)=(M:Int):=by omega
 have hb1:n1<=M:=by omega
 have hb2:n2<=M:=by omega
 have hb3:M<=1099511620000:=by omega
 have hbx:Hid (x<18446744073709551616 ^ M):=Nat.lt_of_lt_of_le lx (Nat.pow_le_pow_right (by omega) hb1)
 have hby:Hid (y<18446744073709551616 ^ M):=Nat.lt_of_lt_of_le ly (Nat.pow_le_pow_right (by omega) hb2)
 rw[hM]
 clear hM lx ly
 have RX:=hide rx
 have RY:=hide ry
 have DX:=hide dx
 have DY:=hide dy
 clear rx ry dx dy
 go_enter Tryz.func109,Tryz.ntmps109
 go_wp2_with (at_make;refine wpList_made rfl _ _ rfl (M+1) _ rfl rfl (by omega) (by omega) ?_;intro w2 hown0 hg2)
 have O2:Hid (OU w2 w.heap.size (M+1) (M+1) (List.replicate (M+1) 0)):=hown0
 have G2:Hid (Gr w w2):=hg2
 clear hg2 hown0
 obtain⟨g,hgdef⟩:∃g,w.heap.size=g:=⟨_,rfl⟩
 obtain⟨N,hN⟩:∃N,M+1=N:=⟨_,rfl⟩
 have NEX:=hide (row_ne RX.out (Nat.le_of_eq hgdef))
 have NEY:=hide (row_ne RY.out (Nat.le_of_eq hgdef))
 rw[hgdef,hN] at O2
 rw[hgdef,hN]
 have hp:Hid (18446744073709551616 ^ M*2<=18446744073709551616 ^ N):=by
  show _<=_
  rw[<-hN,Nat.pow_succ]
  exact Nat.mul_le_mul_left _ (by omega)
 have P1:=hide (putV g N N 0 N N ad1 n1 c1 xs (List.replicate N 0) w2 (RX.out.gr G2.out) NEX.out DX.out.2.1 (fun z hz=>by rw[(List.mem_replicate.1 hz).2];omega) (by omega) (by omega) (by omega) (Nat.le_refl _) (by omega) O2.out (by
  rw[nv_zeros,Nat.pow_zero,Nat.one_mul,DX.out.1]
  have:=hp.out
  have:=hbx.out
  omega))
 go_wp2_with (go_at_call 104;(with_reducible refine P1.out.mono ?_);rintro r w3 ⟨rfl,zs1,M1,E1,O3,T3⟩)
 have E1':Hid (nv 18446744073709551616 zs1=x):=by
  show _=_
  rw[E1.out,nv_zeros,Nat.pow_zero,Nat.one_mul,DX.out.1,Nat.zero_add]
 clear P1 E1
 have P2:=hide (putV g N N 0 N N ad2 n2 c2 ys zs1 w3 ((RY.out.gr G2.out).gt T3.out NEY.out) NEY.out DY.out.2.1 M1.out (by omega) (by omega) (by omega) (Nat.le_refl _) (by omega) O3.out (by
  rw[E1'.out,Nat.pow_zero,Nat.one_mul,DY.out.1]
  have:=hp.out
  have:=hbx.out
  have:=hby.out
  omega))
 go_wp2_with (go_at_call 104;(with_reducible refine P2.out.mono ?_);rintro r w4 ⟨rfl,zs2,M2,E2,O4,T4⟩)
 have E2':nv 18446744073709551616 zs2=x+y:=by rw[E2.out,E1'.out,Nat.pow_zero,Nat.one_mul,DY.out.1]
 have GF:Hid (Gr w w4):=Gt.gr G2.out (T3.out.trans T4.out) (by omega)
 have TR:=hide (trimVO (v:=x+y) (B:=g) O4.out M2.out E2' (Gr.refl w4))
 clear P2 E2'
 go_wp2_with (go_at_call 105;(with_reducible refine TR.out.mono ?_);rintro r wz ⟨k9,rfl,hk9,L9,F9,rfl⟩)
 go_ret
 exact⟨_,_,_,rfl,by omega,L9,(by have:=F9.low (show w.heap.size<=g by omega);exact this),GF.out⟩
theorem TakAt.nextS {ys zs zs0:List Nat} {j c N o y:Nat} (h:TakAt ys zs zs0 0 j 1 c N) (hj:j<N) (ho:zs.getD j 0=o) (hy:ys.getD j 0=y) (hc:c<=1) (bo:o<18446744073709551616) (by0:y<18446744073709551616) :
  (o+18446744073709551616-y-c) % 18446744073709551616<18446744073709551616/\(if o<y+c then 1 else 0)<=1/\TakAt ys (zs.set j ((o+18446744073709551616-y-c) % 18446744073709551616)) zs0 0 (j+1) 1 (if o<y+c then 1 else 0) N:=by
 obtain⟨r,hr⟩:∃r,(o+18446744073709551616-y-c) % 18446744073709551616=r:=⟨_,rfl⟩
 obtain⟨b,hb⟩:∃b,(if o<y+c then 1 else 0)=b:=⟨_,rfl⟩
 rw[hr,hb]
 have hb1:b<=1:=by rw[<-hb];split <;> omega
 have hrW:r<18446744073709551616:=by omega
 have NX0:=h.next (o:=o) (y:=y) (lo:=(y+c) % 18446744073709551616) (hi:=(y+c) / 18446744073709551616) (new:=r) (bo:=b-(y+c) / 18446744073709551616) (by omega) (by rw[Nat.zero_add];exact ho.symm) hy.symm (by
  by_cases h9:o<y+c
  ·rw[if_pos h9] at hb;omega
  ·rw[if_neg h9] at hb;omega) (by omega) hrW
 rw[show(y+c) / 18446744073709551616+(b-(y+c) / 18446744073709551616)=b by
  by_cases h9:o<y+c
  ·rw[if_pos h9] at hb;omega
  ·rw[if_neg h9] at hb;omega,Nat.zero_add] at NX0
 exact⟨hrW,hb1,NX0⟩
set_option maxRecDepth 8000 in
set_option maxHeartbeats 4000000 in
theorem differenceV (ad1 ad2:Option Addr) (n1 n2 c1 c2 x y:Nat) (w:World) (hx:Lim w ad1 n1 c1 18446744073709551616 x) (hy:Lim w ad2 n2 c2 18446744073709551616 y) (b1:n1<=1099511620000) (b2:n2<=1099511620000) (hxy:y<=x) :
  Calls Tryz.prog 110 #[.slice ad1 n1 c1,.slice ad2 n2 c2] w fun e w'=>∃ad n c,e = .returned (.slice ad n c)/\n<=n1/\Hid (Lim w' ad n c 18446744073709551616 (x-y))/\Hid (Fresh w.heap.size w' ad n c)/\Gr w w':=by
 have lx:=lim_lt hx
 have hn21:n2<=n1:=lim_lenV hy (Nat.lt_of_le_of_lt hxy lx)
 obtain⟨xs,rx,dx⟩:=hx
 obtain⟨ys,ry,dy⟩:=hy
 have CL:=hide (cloneL ad1 n1 c1 xs w rx (by omega))
 have DX:=hide dx
 have DY:=hide dy
 have RY:=hide ry
 have LX:=hide lx
 have HXY:=hide hxy
 have ly:=ry.len
 have lxx:=rx.len
 clear rx ry dx dy lx hxy
 by_cases h0:n1=0
 ·have hx0:xs=[]:=List.eq_nil_of_length_eq_zero (by omega)
  have hy0:ys=[]:=List.eq_nil_of_length_eq_zero (by omega)
  have ex:Hid (x-y=0):=by
   show _=_
   rw[<-DX.out.1,hx0,nv_nil];omega
  subst hx0
  subst h0
  clear hy0
  go_enter Tryz.func110,Tryz.ntmps110
  go_wp2_with (go_at_call 140;(with_reducible refine CL.out.mono ?_);rintro r w2 ⟨b,C0,rfl,OW,g2⟩)
  go_loopw [6,13] (fun cr i wr=>i = .int .i64 0/\cr = .int .u64 0/\wr=w2) (fun _ _ _=>0)
  case atStart=>exact⟨rfl,rfl,rfl⟩
  case round =>
   obtain⟨rfl,rfl,rfl⟩:=hrel
   have TR:=hide (trimVO (v:=0) OW.out (by simp) rfl (Gr.refl wr))
   go_wp2_with (go_at_call 105;(with_reducible refine TR.out.mono ?_);rintro r wz ⟨k9,rfl,hk9,L9,F9,rfl⟩)
   go_ret
   exact⟨_,_,_,rfl,hk9,(by rw[ex.out];exact L9),F9,g2⟩
 ·go_enter Tryz.func110,Tryz.ntmps110
  go_wp2_with (go_at_call 140;(with_reducible refine CL.out.mono ?_);rintro r w2 ⟨b,C0,rfl,OW,g2⟩)
  obtain⟨g,C,hEq,hge,hC1,hC2,hO⟩:=OU.of_owns OW.out (by omega)
  simp only[Value.slice.injEq,true_and] at hEq
  obtain⟨rfl,rfl⟩:=hEq
  have O2:=hide hO
  have G2:=hide g2
  have NEY:=hide (row_ne RY.out hge)
  clear OW CL hO g2
  have RY2:Hid (∀w',Gt g w2 w'->Row w' ad2 n2 c2 ys):=fun w' k=>(RY.out.gr G2.out).gt k NEY.out
  go_loopw [6,13] (fun cr i wr=>∃(j c:Nat) (zs:List Nat),j<=n1/\c<=1/\i = .int .i64 (j:Int)/\cr = .int .u64 (c:Int)/\Hid (OU wr g n1 C0 zs)/\Hid (TakAt ys zs xs 0 j 1 c n1)/\Hid (Gt g w2 wr)) (fun _ i _=>n1-(intOf i).toNat)
  case atStart=>exact⟨0,0,xs,by omega,by omega,rfl,rfl,O2,TakAt.start O2.out.len DX.out.2.1,Gt.refl _ _⟩
  case round =>
   obtain⟨j,c,zs,hj,hc,rfl,rfl,hown,hA,hg⟩:=hrel
   by_cases hlt:(j:Int)<(n1:Int)
   ·obtain⟨o,ho⟩:∃o,zs.getD j 0=o:=⟨_,rfl⟩
    obtain⟨y0,hy0⟩:∃y0,ys.getD j 0=y0:=⟨_,rfl⟩
    have hcell:=hown.out.cell j (by omega)
    have hfz:=hown.out.fz j
    have OS:=hown.out.set j
    rw[ho] at hcell
    have bo0:o<18446744073709551616:=ho ▸ getD_lt (by omega) hA.out.lt j
    have by0:y0<18446744073709551616:=hy0 ▸ getD_lt (by omega) DY.out.2.1 j
    have NX:=hA.out.nextS (by omega) ho hy0 hc bo0 by0
    have A0:=fun w=>sub64N o y0 c hc w
    obtain⟨r,hr⟩:∃r,(o+18446744073709551616-y0-c) % 18446744073709551616=r:=⟨_,rfl⟩
    obtain⟨b,hb⟩:∃b,(if o<y0+c then 1 else 0)=b:=⟨_,rfl⟩
    rw[hr,hb] at A0 NX
    obtain⟨hrW,hb1,NX1⟩:=NX
    have NX2:=hide NX1
    have OS':Hid (OU (wr.setCell ⟨g,j,none⟩ (.int .u64 (r:Int))) g n1 C0 (zs.set j r)):=OS r
    clear NX1 ho hr hb OS
    by_cases hlt2:(j:Int)<(n2:Int)
    ·obtain⟨pb,ob,hpe,hpb,hpc⟩:=(RY2.out wr hg.out).cells (by omega)
     have hcell2:=hpc j (by omega)
     rw[hy0] at hcell2
     subst hpe
     have A1:Hid (∀w,(callFunc 141 #[.int .u64 (o:Int),.int .u64 (y0:Int),.int .u64 (c:Int)]).run Tryz.prog w = .ok (.value (.tuple #[.int .u64 (r:Int),.int .u64 (b:Int)])) w):=A0
     clear A0 hpc hpb hy0
     go_wp2_with (simp only[A1.out])
     go_roundw
     case rel=>exact⟨j+1,b,_,by omega,hb1,by go_num,rfl,OS',NX2,hg.out.setCell rfl _⟩
     case measure=>simp only[intOf];omega
    ·have hy1:y0=0:=by rw[<-hy0];exact getD_out (by omega)
     subst hy1
     have hlt3:(n2:Int)<=(j:Int):=by omega
     have A1:Hid (∀w,(callFunc 141 #[.int .u64 (o:Int),.int .u64 0,.int .u64 (c:Int)]).run Tryz.prog w = .ok (.value (.tuple #[.int .u64 (r:Int),.int .u64 (b:Int)])) w):=A0
     clear A0 hy0
     go_wp2_with (simp only[A1.out])
     go_roundw
     case rel=>exact⟨j+1,b,_,by omega,hb1,by go_num,rfl,OS',NX2,hg.out.setCell rfl _⟩
     case measure=>simp only[intOf];omega
   ·obtain rfl:j=n1:=by omega
    have hv:=hA.out.val
    have V9:nv 18446744073709551616 zs=x-y:=by
     rw[List.take_of_length_le (by omega),Nat.zero_add,Nat.pow_zero,Nat.one_mul,Nat.one_mul,DX.out.1,DY.out.1] at hv
     have h1:=nv_lt 18446744073709551616 zs hA.out.lt
     rw[hown.out.len] at h1
     have h2:=HXY.out
     have h3:c=0:=by
      rcases (show c=0\/c=1 by omega) with h|h
      ·exact h
      ·rw[h,Nat.mul_one] at hv;omega
     rw[h3,Nat.mul_zero] at hv
     omega
    have GF:Hid (Gr w wr):=Gt.gr G2.out hg.out hge
    have TR:=hide (trimVO (v:=x-y) (B:=w.heap.size) (owns_lowT hown.out hge) hA.out.lt V9 (Gr.refl wr))
    clear hv V9
    go_wp2_with (go_at_call 105;(with_reducible refine TR.out.mono ?_);rintro r wz ⟨k9,rfl,hk9,L9,F9,rfl⟩)
    go_ret
    exact⟨_,_,_,rfl,hk9,L9,F9,GF.out⟩
end Go.Proofs.YtnhekagmdniokaaGreatDoor
