import Derived.Test.YtmdakhpdofepeaaU09
namespace Go.Proofs.Ytmdakhpdofepeaa
open Go.RowKit
set_option linter.unusedVariables false
set_option linter.unusedSimpArgs false
def Pr (w:World) (A n:Nat) (e:Ending) (w':World):Prop:=∃g C zs,e = .returned (.slice (some ⟨g,0,none⟩) n C)/\w.heap.size<=g/\(∀z∈zs,z<18446744073709551616)/\nv 18446744073709551616 zs=A/\OU w' g n C zs/\Gr w w'
set_option maxRecDepth 8000 in
set_option maxHeartbeats 4000000 in
theorem byLimbsT (ad1 ad2:Option Addr) (n1 n2 c1 c2:Nat) (xs ys:List Nat) (w:World) (rx:Row w ad1 n1 c1 xs) (ry:Row w ad2 n2 c2 ys) (hx:∀x∈xs,x<18446744073709551616) (hy:∀x∈ys,x<18446744073709551616) (b1:n1<=1099511627776) (b2:n2<=1099511627776) :
  Calls Try.prog 51 #[.slice ad1 n1 c1,.slice ad2 n2 c2] w fun e w'=>Pr w (nv 18446744073709551616 xs*nv 18446744073709551616 ys) (n1+n2) e w':=by
 have RX:=hide rx
 have RY:=hide ry
 have HX:Hid (∀x∈xs,x<18446744073709551616):=hx
 have HY:Hid (∀x∈ys,x<18446744073709551616):=hy
 have l1:=rx.le
 have l2:=ry.le
 clear rx ry hx hy
 by_cases hs:(n1:Int)<(n2:Int)
 ·have hs2:=hs
  go_enter Try.func51,Try.ntmps51
  go_wp2_with (at_make;refine wpList_made rfl _ _ rfl (n2+n1) _ rfl rfl (by omega) (by omega) ?_;intro w2 hown0 hg2)
  have O2:Hid (OU w2 w.heap.size (n2+n1) (n2+n1) (List.replicate (n2+n1) 0)):=hown0
  have G2:Hid (Gr w w2):=hg2
  clear hg2 hown0
  obtain⟨g,hgdef⟩:∃g,w.heap.size=g:=⟨_,rfl⟩
  rw[hgdef] at O2
  obtain⟨N,hN⟩:∃N,n2+n1=N:=⟨_,rfl⟩
  rw[hN] at O2
  rw[hgdef,hN]
  go_loopw [22] (fun i wr=>∃(k:Nat) (zs:List Nat),k<=n1/\i = .int .i64 (k:Int)/\Hid (OU wr g N N zs)/\Hid (TimT xs ys zs k N)/\Hid (Gt g w2 wr)) (fun i _=>n1-(intOf i).toNat)
  case atStart=>exact⟨0,List.replicate N 0,by omega,rfl,O2,TimT.start,Gt.refl _ _⟩
  case round =>
   obtain⟨k,zs,hk,rfl,hown,hA,hg⟩:=hrel
   have GW:Gr w wr:=Gt.gr G2.out hg.out (by omega)
   by_cases hlt:(k:Int)<(n1:Int)
   ·obtain⟨pb,ob,hpe,hpb,hpc⟩:=(RX.out.gr GW).cells (by omega)
    have hpw:pb<w.heap.size:=by
     obtain⟨pb',ob',hpe',hpb',_⟩:=RX.out.cells (by omega)
     rw[hpe] at hpe'
     injection hpe' with hpe'
     injection hpe' with e1 e2
     omega
    have hcell:=hpc k (by omega)
    subst hpe
    have bx:xs.getD k 0<18446744073709551616:=getD_lt (by omega) HX.out k
    obtain⟨x,hxd⟩:∃x,x=xs.getD k 0:=⟨_,rfl⟩
    rw[<-hxd] at hcell bx
    have PT:Hid (∀(cp:Nat),n2<=cp->cp<=9223372036854775807->Calls Try.prog 69 #[.slice (some ⟨g,k,none⟩) n2 cp,.slice ad2 n2 c2,.int .u64 (x:Int)] wr.drew fun e w'=>∃(c:Nat) (zs':List Nat),e = .returned (.int .u64 (c:Int))/\c<18446744073709551616/\Hid (MulAt ys zs' zs k n2 x c N)/\Hid (OU w' g N N zs')/\Hid (Gt g wr.drew w')):=fun cp h1 h2=>putTimesT g N N k n2 cp x ad2 n2 c2 ys zs wr.drew (RY.out.gr GW.drew) (fun hp b hb=>by
     obtain⟨pa,oa,hae,hab,_⟩:=RY.out.cells hp
     rw[hb] at hae
     injection hae with hae
     rw[hae]
     show pa≠g
     omega) HY.out bx hA.out.lt (by omega) (by omega) (Nat.le_refl _) h1 h2 hown.out
    have HXD:Hid (x=xs.getD k 0):=hxd
    have HR:Hid (∀t2 t3 t4 t7 t8 t9 t10 t11 t12 t13 t14 t15 t16 t17 t18 t19 t20 t21 t22 t23 t24 t25 t26 t27 t28 t29 t30 t31 t32 t33 t34 t35 t36 t37 t38 t39 t40 t41 t42 t43 t44 t45:Value,_):=fun t2 t3 t4 t7 t8 t9 t10 t11 t12 t13 t14 t15 t16 t17 t18 t19 t20 t21 t22 t23 t24 t25 t26 t27 t28 t29 t30 t31 t32 t33 t34 t35 t36 t37 t38 t39 t40 t41 t42 t43 t44 t45=>reg467 t2 t3 t4 t7 t8 t9 t10 t11 t12 t13 t14 t15 t16 t17 t18 t19 t20 t21 t22 t23 t24 t25 t26 t27 t28 t29 t30 t31 t32 t33 t34 t35 t36 t37 t38 t39 t40 t41 t42 t43 t44 t45 ad2 pb ob g k n2 c2 n1 c1 N x (k+n2) ys zs wr PT hcell hlt (by rw[IntKind.wrap_i64];omega) rfl (by omega) (by omega) (by omega)
    clear PT hcell hxd hpc hpb
    go_wp2
    refine Code.wp_mono ?_ (HR.out _ _ _ _ _ _ _ _ _ _ _ _ _ _ _ _ _ _ _ _ _ _ _ _ _ _ _ _ _ _ _ _ _ _ _ _ _ _ _ _ _ _)
    intro e a1 w9 hR
    cases e <;> first|(exact False.elim hR)|skip
    obtain⟨u25,u26,u27,u28,u29,u30,u31,u32,u33,u34,u35,u36,u37,u38,u39,u40,u41,u42,u43,c9,zs9,rfl,hc9,M9,O9,X9⟩:=hR
    have NX:Hid (TimT xs ys (zs9.set (k+n2) c9) (k+1) N):=hA.out.next M9.out (by omega) RY.out.len HXD.out hc9
    have O9':Hid (OU w9 g N N (zs9.set (k+n2) c9)):=O9
    have X9':Hid (Gt g w2 w9):=hg.out.trans X9
    clear O9 X9 M9 HR HXD
    go_wp2
    go_roundw
    case rel=>exact⟨k+1,_,by omega,by go_num,O9',NX,X9'⟩
    case measure=>simp only[intOf];omega
   ·have hke:k=n1:=by omega
    have VL:Hid (nv 18446744073709551616 zs=nv 18446744073709551616 xs*nv 18446744073709551616 ys):=by
     show _=_
     rw[hA.out.val,nv_take_all _ xs _ (by rw[RX.out.len];omega)]
    have HL:=hide hA.out.lt
    go_wp2
    go_ret
    exact⟨g,N,zs,(by rw[show n1+n2=N by omega];rfl),(by omega),HL.out,VL.out,(by rw[show n1+n2=N by omega];exact hown.out),GW⟩
 ·have hs2:(n2:Int)<=(n1:Int):=by omega
  go_enter Try.func51,Try.ntmps51
  go_wp2_with (at_make;refine wpList_made rfl _ _ rfl (n1+n2) _ rfl rfl (by omega) (by omega) ?_;intro w2 hown0 hg2)
  have O2:Hid (OU w2 w.heap.size (n1+n2) (n1+n2) (List.replicate (n1+n2) 0)):=hown0
  have G2:Hid (Gr w w2):=hg2
  clear hg2 hown0
  obtain⟨g,hgdef⟩:∃g,w.heap.size=g:=⟨_,rfl⟩
  rw[hgdef] at O2
  obtain⟨N,hN⟩:∃N,n1+n2=N:=⟨_,rfl⟩
  rw[hN] at O2
  rw[hgdef,hN]
  go_loopw [22] (fun i wr=>∃(k:Nat) (zs:List Nat),k<=n2/\i = .int .i64 (k:Int)/\Hid (OU wr g N N zs)/\Hid (TimT ys xs zs k N)/\Hid (Gt g w2 wr)) (fun i _=>n2-(intOf i).toNat)
  case atStart=>exact⟨0,List.replicate N 0,by omega,rfl,O2,TimT.start,Gt.refl _ _⟩
  case round =>
   obtain⟨k,zs,hk,rfl,hown,hA,hg⟩:=hrel
   have GW:Gr w wr:=Gt.gr G2.out hg.out (by omega)
   by_cases hlt:(k:Int)<(n2:Int)
   ·obtain⟨pb,ob,hpe,hpb,hpc⟩:=(RY.out.gr GW).cells (by omega)
    have hpw:pb<w.heap.size:=by
     obtain⟨pb',ob',hpe',hpb',_⟩:=RY.out.cells (by omega)
     rw[hpe] at hpe'
     injection hpe' with hpe'
     injection hpe' with e1 e2
     omega
    have hcell:=hpc k (by omega)
    subst hpe
    have bx:ys.getD k 0<18446744073709551616:=getD_lt (by omega) HY.out k
    obtain⟨x,hxd⟩:∃x,x=ys.getD k 0:=⟨_,rfl⟩
    rw[<-hxd] at hcell bx
    have PT:Hid (∀(cp:Nat),n1<=cp->cp<=9223372036854775807->Calls Try.prog 69 #[.slice (some ⟨g,k,none⟩) n1 cp,.slice ad1 n1 c1,.int .u64 (x:Int)] wr.drew fun e w'=>∃(c:Nat) (zs':List Nat),e = .returned (.int .u64 (c:Int))/\c<18446744073709551616/\Hid (MulAt xs zs' zs k n1 x c N)/\Hid (OU w' g N N zs')/\Hid (Gt g wr.drew w')):=fun cp h1 h2=>putTimesT g N N k n1 cp x ad1 n1 c1 xs zs wr.drew (RX.out.gr GW.drew) (fun hp b hb=>by
     obtain⟨pa,oa,hae,hab,_⟩:=RX.out.cells hp
     rw[hb] at hae
     injection hae with hae
     rw[hae]
     show pa≠g
     omega) HX.out bx hA.out.lt (by omega) (by omega) (Nat.le_refl _) h1 h2 hown.out
    have HXD:Hid (x=ys.getD k 0):=hxd
    have HR:Hid (∀t2 t3 t4 t7 t8 t9 t10 t11 t12 t13 t14 t15 t16 t17 t18 t19 t20 t21 t22 t23 t24 t25 t26 t27 t28 t29 t30 t31 t32 t33 t34 t35 t36 t37 t38 t39 t40 t41 t42 t43 t44 t45:Value,_):=fun t2 t3 t4 t7 t8 t9 t10 t11 t12 t13 t14 t15 t16 t17 t18 t19 t20 t21 t22 t23 t24 t25 t26 t27 t28 t29 t30 t31 t32 t33 t34 t35 t36 t37 t38 t39 t40 t41 t42 t43 t44 t45=>reg467 t2 t3 t4 t7 t8 t9 t10 t11 t12 t13 t14 t15 t16 t17 t18 t19 t20 t21 t22 t23 t24 t25 t26 t27 t28 t29 t30 t31 t32 t33 t34 t35 t36 t37 t38 t39 t40 t41 t42 t43 t44 t45 ad1 pb ob g k n1 c1 n2 c2 N x (k+n1) xs zs wr PT hcell hlt (by rw[IntKind.wrap_i64];omega) rfl (by omega) (by omega) (by omega)
    clear PT hcell hxd hpc hpb
    go_wp2
    refine Code.wp_mono ?_ (HR.out _ _ _ _ _ _ _ _ _ _ _ _ _ _ _ _ _ _ _ _ _ _ _ _ _ _ _ _ _ _ _ _ _ _ _ _ _ _ _ _ _ _)
    intro e a1 w9 hR
    cases e <;> first|(exact False.elim hR)|skip
    obtain⟨u25,u26,u27,u28,u29,u30,u31,u32,u33,u34,u35,u36,u37,u38,u39,u40,u41,u42,u43,c9,zs9,rfl,hc9,M9,O9,X9⟩:=hR
    have NX:Hid (TimT ys xs (zs9.set (k+n1) c9) (k+1) N):=hA.out.next M9.out (by omega) RX.out.len HXD.out hc9
    have O9':Hid (OU w9 g N N (zs9.set (k+n1) c9)):=O9
    have X9':Hid (Gt g w2 w9):=hg.out.trans X9
    clear O9 X9 M9 HR HXD
    go_wp2
    go_roundw
    case rel=>exact⟨k+1,_,by omega,by go_num,O9',NX,X9'⟩
    case measure=>simp only[intOf];omega
   ·have hke:k=n2:=by omega
    have VL:Hid (nv 18446744073709551616 zs=nv 18446744073709551616 xs*nv 18446744073709551616 ys):=by
     show _=_
     rw[hA.out.val,nv_take_all _ ys _ (by rw[RY.out.len];omega),Nat.mul_comm]
    have HL:=hide hA.out.lt
    go_wp2
    go_ret
    exact⟨g,N,zs,rfl,(by omega),HL.out,VL.out,hown.out,GW⟩
def R1084 (t2 t3 t6 t7 t8 t9 t10 t11 t12 t13 t14 t15 t16 t17 t18 t19 t20 t21 t22 t23 t24 t25 t26 t27 t28 t29 t30 t31 t32 t33 t34 t35 t36 t37 t38 t39 t40 t41 t42 t43 t44 t45 t46 t47 t48 t49 t50 t51 t52 t53:Value) (pb ob g k J L cp n2 c2 N C c o y r b:Nat) (zs:List Nat) (wq:World):Exit->Act->World->Prop
 | .normal,a,w=>∃u13 u14 u15 u16 u17 u18 u19 u20 u21 u22 u23 u24 u25 u26 u27 u28,a = {tmps:=#[.slice (some ⟨g,k,none⟩) L cp,.slice (some ⟨pb,ob,none⟩) n2 c2,t2,t3,.int .u64 (b:Int),.int .i64 (J:Int),t6,t7,t8,t9,t10,t11,t12,u13,u14,u15,u16,u17,u18,u19,u20,u21,u22,u23,u24,u25,u26,u27,u28,t29,t30,t31,t32,t33,t34,t35,t36,t37,t38,t39,t40,t41,t42,t43,t44,t45,t46,t47,t48,t49,t50,t51,t52,t53],defers:=[]}/\OU w g N C (zs.set (k+J) r)/\Gt g wq w
 | _,_,_=>False
set_option maxRecDepth 100000 in
set_option maxHeartbeats 20000000 in
theorem reg1084 (t2 t3 t6 t7 t8 t9 t10 t11 t12 t13 t14 t15 t16 t17 t18 t19 t20 t21 t22 t23 t24 t25 t26 t27 t28 t29 t30 t31 t32 t33 t34 t35 t36 t37 t38 t39 t40 t41 t42 t43 t44 t45 t46 t47 t48 t49 t50 t51 t52 t53:Value) (pb ob g k J L cp n2 c2 N C c o y r b:Nat) (zs:List Nat) (wq:World)
  (AD:Hid (∀w,(callFunc 73 #[.int .u64 (o:Int),.int .u64 (y:Int),.int .u64 (c:Int)]).run Try.prog w = .ok (.value (.tuple #[.int .u64 (r:Int),.int .u64 (b:Int)])) w))
  (hO:OU wq g N C zs) (ho:zs.getD (k+J) 0=o) (hcs:wq.cell? ⟨pb,ob+J,none⟩=some (.int .u64 (y:Int))) (i1:(J:Int)<(n2:Int)) (i2:(J:Int)<(L:Int)) (hkJ:k+J<N) (hnb:pb≠g) :
  Code.wp Try.prog (Code.region 4 #[{dst:=some 14,op:=Op.move (Operand.tmp 0),type:=22,pos:= "size.go:85",after:=#[],guard:=none},{dst:=some 15,op:=Op.move (Operand.tmp 5),type:=3,pos:= "size.go:85",after:=#[],guard:=none},{dst:=some 16,op:=Op.move (Operand.tmp 0),type:=22,pos:= "size.go:85",after:=#[],guard:=none},{dst:=some 17,op:=Op.move (Operand.tmp 5),type:=3,pos:= "size.go:85",after:=#[],guard:=none},{dst:=some 18,op:=Op.indexAddr 22 (Operand.tmp 16) (Operand.tmp 17),type:=0,pos:= "size.go:85",after:=#[{on:=2,ground:=Ground.data},{on:=3,ground:=Ground.data}],guard:=none},{dst:=some 19,op:=Op.load 52 (Operand.tmp 18),type:=52,pos:= "size.go:85",after:=#[{on:=4,ground:=Ground.data}],guard:=none},{dst:=some 20,op:=Op.move (Operand.tmp 1),type:=22,pos:= "size.go:85",after:=#[],guard:=none},{dst:=some 21,op:=Op.move (Operand.tmp 5),type:=3,pos:= "size.go:85",after:=#[],guard:=none},{dst:=some 22,op:=Op.indexAddr 22 (Operand.tmp 20) (Operand.tmp 21),type:=0,pos:= "size.go:85",after:=#[{on:=6,ground:=Ground.data},{on:=7,ground:=Ground.data}],guard:=none},{dst:=some 23,op:=Op.load 52 (Operand.tmp 22),type:=52,pos:= "size.go:85",after:=#[{on:=8,ground:=Ground.data}],guard:=none},{dst:=some 24,op:=Op.move (Operand.tmp 4),type:=52,pos:= "size.go:85",after:=#[],guard:=none},{dst:=some 25,op:=Op.call {callee:=Callee.value (Operand.func 73),args:=#[Operand.tmp 19,Operand.tmp 23,Operand.tmp 24],argTypes:=#[52,52,52]},type:=93,pos:= "size.go:85",after:=#[{on:=5,ground:=Ground.data},{on:=9,ground:=Ground.data},{on:=10,ground:=Ground.data}],guard:=none},{dst:=some 13,op:=Op.move (Operand.tmp 25),type:=93,pos:= "size.go:85",after:=#[{on:=11,ground:=Ground.data}],guard:=none},{dst:=some 26,op:=Op.extract (Operand.tmp 13) 0,type:=52,pos:= "size.go:85",after:=#[{on:=12,ground:=Ground.data}],guard:=none},{dst:=some 27,op:=Op.extract (Operand.tmp 13) 1,type:=52,pos:= "size.go:85",after:=#[{on:=12,ground:=Ground.data},{on:=16,ground:=Ground.gcOnly Departure.lateStores}],guard:=none},{dst:=some 28,op:=Op.indexAddr 22 (Operand.tmp 14) (Operand.tmp 15),type:=0,pos:= "size.go:85",after:=#[{on:=0,ground:=Ground.data},{on:=1,ground:=Ground.data},{on:=0,ground:=Ground.phase},{on:=1,ground:=Ground.phase},{on:=2,ground:=Ground.phase},{on:=3,ground:=Ground.phase},{on:=4,ground:=Ground.phase},{on:=5,ground:=Ground.phase},{on:=6,ground:=Ground.phase},{on:=7,ground:=Ground.phase},{on:=8,ground:=Ground.phase},{on:=9,ground:=Ground.phase},{on:=10,ground:=Ground.phase},{on:=11,ground:=Ground.phase},{on:=12,ground:=Ground.phase},{on:=13,ground:=Ground.phase},{on:=14,ground:=Ground.textOnly Departure.lateStores}],guard:=none},{dst:=none,op:=Op.store 52 (Operand.tmp 28) (Operand.tmp 26),type:=0,pos:= "size.go:85",after:=#[{on:=15,ground:=Ground.data},{on:=13,ground:=Ground.data},{on:=11,ground:=Ground.chain},{on:=0,ground:=Ground.phase},{on:=1,ground:=Ground.phase},{on:=2,ground:=Ground.phase},{on:=3,ground:=Ground.phase},{on:=4,ground:=Ground.phase},{on:=5,ground:=Ground.phase},{on:=6,ground:=Ground.phase},{on:=7,ground:=Ground.phase},{on:=8,ground:=Ground.phase},{on:=9,ground:=Ground.phase},{on:=10,ground:=Ground.phase},{on:=11,ground:=Ground.phase},{on:=12,ground:=Ground.phase},{on:=13,ground:=Ground.phase},{on:=14,ground:=Ground.textOnly Departure.lateStores}],guard:=none},{dst:=some 4,op:=Op.assign (Operand.tmp 27),type:=52,pos:= "size.go:85",after:=#[{on:=14,ground:=Ground.data},{on:=16,ground:=Ground.chain},{on:=0,ground:=Ground.phase},{on:=1,ground:=Ground.phase},{on:=2,ground:=Ground.phase},{on:=3,ground:=Ground.phase},{on:=4,ground:=Ground.phase},{on:=5,ground:=Ground.phase},{on:=6,ground:=Ground.phase},{on:=7,ground:=Ground.phase},{on:=8,ground:=Ground.phase},{on:=9,ground:=Ground.phase},{on:=10,ground:=Ground.phase},{on:=11,ground:=Ground.phase},{on:=12,ground:=Ground.phase},{on:=13,ground:=Ground.phase},{on:=14,ground:=Ground.phase},{on:=15,ground:=Ground.phase},{on:=16,ground:=Ground.phase}],guard:=none}] true) (R1084 t2 t3 t6 t7 t8 t9 t10 t11 t12 t13 t14 t15 t16 t17 t18 t19 t20 t21 t22 t23 t24 t25 t26 t27 t28 t29 t30 t31 t32 t33 t34 t35 t36 t37 t38 t39 t40 t41 t42 t43 t44 t45 t46 t47 t48 t49 t50 t51 t52 t53 pb ob g k J L cp n2 c2 N C c o y r b zs wq) {tmps:=#[.slice (some ⟨g,k,none⟩) L cp,.slice (some ⟨pb,ob,none⟩) n2 c2,t2,t3,.int .u64 (c:Int),.int .i64 (J:Int),t6,t7,t8,t9,t10,t11,t12,t13,t14,t15,t16,t17,t18,t19,t20,t21,t22,t23,t24,t25,t26,t27,t28,t29,t30,t31,t32,t33,t34,t35,t36,t37,t38,t39,t40,t41,t42,t43,t44,t45,t46,t47,t48,t49,t50,t51,t52,t53],defers:=[]} wq:=by
 have hS0:wq.drew.cell? ⟨pb,ob+J,none⟩=some (.int .u64 (y:Int))/\Gt g wq wq.drew:=⟨hcs,(Gt.refl g wq).drew⟩
 have hO0:OU wq.drew g N C zs:=hO
 clear hcs hO
 refine wp_region_held_drew (S:=fun w'=>w'.cell? ⟨pb,ob+J,none⟩=some (.int .u64 (y:Int))/\Gt g wq w') (by kernel_rfl) hS0 (fun hHeld=>?_)
 clear hS0
 generalize wq.drew=wd at *
 refine wpAnyH_take (i:=0) (oi:=({dst:=some 14,op:=Op.move (Operand.tmp 0),type:=22,pos:= "size.go:85",after:=#[],guard:=none}:Oper)) (v:=?_) rfl (by kernel_rfl) (by kernel_rfl) (by kernel_rfl) (fun _ _ _ h=>h) (Or.inl ⟨by rfl,?_⟩) (by with_reducible assumption) ?_
 rotate_left
 ·intro w hSw
  (try dsimp only at hSw)
  first|(go_simp;done)|(go_simp;with_reducible rfl)
 (try simp only[Act.put,List.setIfInBounds_toArray,List.set_cons_zero,List.set_cons_succ])
 refine wpAnyH_take (i:=1) (oi:=({dst:=some 15,op:=Op.move (Operand.tmp 5),type:=3,pos:= "size.go:85",after:=#[],guard:=none}:Oper)) (v:=?_) rfl (by kernel_rfl) (by kernel_rfl) (by kernel_rfl) (fun _ _ _ h=>h) (Or.inl ⟨by rfl,?_⟩) (by with_reducible assumption) ?_
 rotate_left
 ·intro w hSw
  (try dsimp only at hSw)
  first|(go_simp;done)|(go_simp;with_reducible rfl)
 (try simp only[Act.put,List.setIfInBounds_toArray,List.set_cons_zero,List.set_cons_succ])
 refine wpAnyH_take (i:=2) (oi:=({dst:=some 16,op:=Op.move (Operand.tmp 0),type:=22,pos:= "size.go:85",after:=#[],guard:=none}:Oper)) (v:=?_) rfl (by kernel_rfl) (by kernel_rfl) (by kernel_rfl) (fun _ _ _ h=>h) (Or.inl ⟨by rfl,?_⟩) (by with_reducible assumption) ?_
 rotate_left
 ·intro w hSw
  (try dsimp only at hSw)
  first|(go_simp;done)|(go_simp;with_reducible rfl)
 (try simp only[Act.put,List.setIfInBounds_toArray,List.set_cons_zero,List.set_cons_succ])
 refine wpAnyH_take (i:=3) (oi:=({dst:=some 17,op:=Op.move (Operand.tmp 5),type:=3,pos:= "size.go:85",after:=#[],guard:=none}:Oper)) (v:=?_) rfl (by kernel_rfl) (by kernel_rfl) (by kernel_rfl) (fun _ _ _ h=>h) (Or.inl ⟨by rfl,?_⟩) (by with_reducible assumption) ?_
 rotate_left
 ·intro w hSw
  (try dsimp only at hSw)
  first|(go_simp;done)|(go_simp;with_reducible rfl)
 (try simp only[Act.put,List.setIfInBounds_toArray,List.set_cons_zero,List.set_cons_succ])
 refine wpAnyH_take (i:=4) (oi:=({dst:=some 18,op:=Op.indexAddr 22 (Operand.tmp 16) (Operand.tmp 17),type:=0,pos:= "size.go:85",after:=#[{on:=2,ground:=Ground.data},{on:=3,ground:=Ground.data}],guard:=none}:Oper)) (v:=?_) rfl (by kernel_rfl) (by kernel_rfl) (by kernel_rfl) (fun _ _ _ h=>h) (Or.inl ⟨by rfl,?_⟩) (by with_reducible assumption) ?_
 rotate_left
 ·intro w hSw
  (try dsimp only at hSw)
  first|(go_simp;done)|(go_simp;with_reducible rfl)
 (try simp only[Act.put,List.setIfInBounds_toArray,List.set_cons_zero,List.set_cons_succ])
 refine wpAnyH_take (i:=6) (oi:=({dst:=some 20,op:=Op.move (Operand.tmp 1),type:=22,pos:= "size.go:85",after:=#[],guard:=none}:Oper)) (v:=?_) rfl (by kernel_rfl) (by kernel_rfl) (by kernel_rfl) (fun _ _ _ h=>h) (Or.inl ⟨by rfl,?_⟩) (by with_reducible assumption) ?_
 rotate_left
 ·intro w hSw
  (try dsimp only at hSw)
  first|(go_simp;done)|(go_simp;with_reducible rfl)
 (try simp only[Act.put,List.setIfInBounds_toArray,List.set_cons_zero,List.set_cons_succ])
 refine wpAnyH_take (i:=7) (oi:=({dst:=some 21,op:=Op.move (Operand.tmp 5),type:=3,pos:= "size.go:85",after:=#[],guard:=none}:Oper)) (v:=?_) rfl (by kernel_rfl) (by kernel_rfl) (by kernel_rfl) (fun _ _ _ h=>h) (Or.inl ⟨by rfl,?_⟩) (by with_reducible assumption) ?_
 rotate_left
 ·intro w hSw
  (try dsimp only at hSw)
  first|(go_simp;done)|(go_simp;with_reducible rfl)
 (try simp only[Act.put,List.setIfInBounds_toArray,List.set_cons_zero,List.set_cons_succ])
 refine wpAnyH_take (i:=8) (oi:=({dst:=some 22,op:=Op.indexAddr 22 (Operand.tmp 20) (Operand.tmp 21),type:=0,pos:= "size.go:85",after:=#[{on:=6,ground:=Ground.data},{on:=7,ground:=Ground.data}],guard:=none}:Oper)) (v:=?_) rfl (by kernel_rfl) (by kernel_rfl) (by kernel_rfl) (fun _ _ _ h=>h) (Or.inl ⟨by rfl,?_⟩) (by with_reducible assumption) ?_
 rotate_left
 ·intro w hSw
  (try dsimp only at hSw)
  first|(go_simp;done)|(go_simp;with_reducible rfl)
 (try simp only[Act.put,List.setIfInBounds_toArray,List.set_cons_zero,List.set_cons_succ])
 refine wpAnyH_take (i:=9) (oi:=({dst:=some 23,op:=Op.load 52 (Operand.tmp 22),type:=52,pos:= "size.go:85",after:=#[{on:=8,ground:=Ground.data}],guard:=none}:Oper)) (v:=?_) rfl (by kernel_rfl) (by kernel_rfl) (by kernel_rfl) (fun _ _ _ h=>h) (Or.inl ⟨by rfl,?_⟩) (by with_reducible assumption) ?_
 rotate_left
 ·intro w hSw
  (try dsimp only at hSw)
  first|(go_simp;done)|(go_simp;with_reducible rfl)
 (try simp only[Act.put,List.setIfInBounds_toArray,List.set_cons_zero,List.set_cons_succ])
 refine wpAnyH_take (i:=10) (oi:=({dst:=some 24,op:=Op.move (Operand.tmp 4),type:=52,pos:= "size.go:85",after:=#[],guard:=none}:Oper)) (v:=?_) rfl (by kernel_rfl) (by kernel_rfl) (by kernel_rfl) (fun _ _ _ h=>h) (Or.inl ⟨by rfl,?_⟩) (by with_reducible assumption) ?_
 rotate_left
 ·intro w hSw
  (try dsimp only at hSw)
  first|(go_simp;done)|(go_simp;with_reducible rfl)
 (try simp only[Act.put,List.setIfInBounds_toArray,List.set_cons_zero,List.set_cons_succ])
 refine wpAnyH_ready (rs:=[5]) (by kernel_rfl) (by simp) ?_
 refine AllReadyH.cons (o:=({dst:=some 19,op:=Op.load 52 (Operand.tmp 18),type:=52,pos:= "size.go:85",after:=#[{on:=4,ground:=Ground.data}],guard:=none}:Oper)) rfl (fun K hK=>?_) AllReadyH.nil
 have x0':=hO0.cell (k+J) hkJ
 rw[ho] at x0'
 go_simp
 refine hK.out _ _ hHeld (fun hH1=>?_)
 clear hK K x0'
 (try simp only[Act.put,List.setIfInBounds_toArray,List.set_cons_zero,List.set_cons_succ])
 refine wpAnyH_ready (rs:=[11]) (by kernel_rfl) (by simp) ?_
 refine AllReadyH.cons (o:=({dst:=some 25,op:=Op.call {callee:=Callee.value (Operand.func 73),args:=#[Operand.tmp 19,Operand.tmp 23,Operand.tmp 24],argTypes:=#[52,52,52]},type:=93,pos:= "size.go:85",after:=#[{on:=5,ground:=Ground.data},{on:=9,ground:=Ground.data},{on:=10,ground:=Ground.data}],guard:=none}:Oper)) rfl (fun K hK=>?_) AllReadyH.nil
 go_simp
 simp only[AD.out]
 go_simp
 refine hK.out _ _ hH1 (fun hH2=>?_)
 clear hK K
 (try simp only[Act.put,List.setIfInBounds_toArray,List.set_cons_zero,List.set_cons_succ])
 refine wpAnyH_take (i:=12) (oi:=({dst:=some 13,op:=Op.move (Operand.tmp 25),type:=93,pos:= "size.go:85",after:=#[{on:=11,ground:=Ground.data}],guard:=none}:Oper)) (v:=?_) rfl (by kernel_rfl) (by kernel_rfl) (by kernel_rfl) (fun _ _ _ h=>h) (Or.inl ⟨by rfl,?_⟩) (by with_reducible assumption) ?_
 rotate_left
 ·intro w hSw
  (try dsimp only at hSw)
  first|(go_simp;done)|(go_simp;with_reducible rfl)
 (try simp only[Act.put,List.setIfInBounds_toArray,List.set_cons_zero,List.set_cons_succ])
 refine wpAnyH_take (i:=13) (oi:=({dst:=some 26,op:=Op.extract (Operand.tmp 13) 0,type:=52,pos:= "size.go:85",after:=#[{on:=12,ground:=Ground.data}],guard:=none}:Oper)) (v:=?_) rfl (by kernel_rfl) (by kernel_rfl) (by kernel_rfl) (fun _ _ _ h=>h) (Or.inl ⟨by rfl,?_⟩) (by with_reducible assumption) ?_
 rotate_left
 ·intro w hSw
  (try dsimp only at hSw)
  first|(go_simp;done)|(go_simp;with_reducible rfl)
 (try simp only[Act.put,List.setIfInBounds_toArray,List.set_cons_zero,List.set_cons_succ])
 refine wpAnyH_take (i:=14) (oi:=({dst:=some 27,op:=Op.extract (Operand.tmp 13) 1,type:=52,pos:= "size.go:85",after:=#[{on:=12,ground:=Ground.data},{on:=16,ground:=Ground.gcOnly Departure.lateStores}],guard:=none}:Oper)) (v:=?_) rfl (by kernel_rfl) (by kernel_rfl) (by kernel_rfl) (fun _ _ _ h=>h) (Or.inl ⟨by rfl,?_⟩) (by with_reducible assumption) ?_
 rotate_left
 ·intro w hSw
  (try dsimp only at hSw)
  first|(go_simp;done)|(go_simp;with_reducible rfl)
 (try simp only[Act.put,List.setIfInBounds_toArray,List.set_cons_zero,List.set_cons_succ])
 refine wpAnyH_take (i:=15) (oi:=({dst:=some 28,op:=Op.indexAddr 22 (Operand.tmp 14) (Operand.tmp 15),type:=0,pos:= "size.go:85",after:=#[{on:=0,ground:=Ground.data},{on:=1,ground:=Ground.data},{on:=0,ground:=Ground.phase},{on:=1,ground:=Ground.phase},{on:=2,ground:=Ground.phase},{on:=3,ground:=Ground.phase},{on:=4,ground:=Ground.phase},{on:=5,ground:=Ground.phase},{on:=6,ground:=Ground.phase},{on:=7,ground:=Ground.phase},{on:=8,ground:=Ground.phase},{on:=9,ground:=Ground.phase},{on:=10,ground:=Ground.phase},{on:=11,ground:=Ground.phase},{on:=12,ground:=Ground.phase},{on:=13,ground:=Ground.phase},{on:=14,ground:=Ground.textOnly Departure.lateStores}],guard:=none}:Oper)) (v:=?_) rfl (by kernel_rfl) (by kernel_rfl) (by kernel_rfl) (fun _ _ _ h=>h) (Or.inl ⟨by rfl,?_⟩) (by with_reducible assumption) ?_
 rotate_left
 ·intro w hSw
  (try dsimp only at hSw)
  first|(go_simp;done)|(go_simp;with_reducible rfl)
 (try simp only[Act.put,List.setIfInBounds_toArray,List.set_cons_zero,List.set_cons_succ])
 refine wpAnyH_ready (rs:=[16]) (by kernel_rfl) (by simp) ?_
 refine AllReadyH.cons (o:=({dst:=none,op:=Op.store 52 (Operand.tmp 28) (Operand.tmp 26),type:=0,pos:= "size.go:85",after:=#[{on:=15,ground:=Ground.data},{on:=13,ground:=Ground.data},{on:=11,ground:=Ground.chain},{on:=0,ground:=Ground.phase},{on:=1,ground:=Ground.phase},{on:=2,ground:=Ground.phase},{on:=3,ground:=Ground.phase},{on:=4,ground:=Ground.phase},{on:=5,ground:=Ground.phase},{on:=6,ground:=Ground.phase},{on:=7,ground:=Ground.phase},{on:=8,ground:=Ground.phase},{on:=9,ground:=Ground.phase},{on:=10,ground:=Ground.phase},{on:=11,ground:=Ground.phase},{on:=12,ground:=Ground.phase},{on:=13,ground:=Ground.phase},{on:=14,ground:=Ground.textOnly Departure.lateStores}],guard:=none}:Oper)) rfl (fun K hK=>?_) AllReadyH.nil
 have x0':=hO0.cell (k+J) hkJ
 have y0':=hO0.fz (k+J)
 go_simp
 refine hK.out _ _ ⟨far1T hnb hH2.1 _,hH2.2.setCell rfl _⟩ (fun hS3=>?_)
 clear hK K x0' y0'
 (try simp only[Act.put,List.setIfInBounds_toArray,List.set_cons_zero,List.set_cons_succ])
 refine wpAnyH_take (i:=17) (oi:=({dst:=some 4,op:=Op.assign (Operand.tmp 27),type:=52,pos:= "size.go:85",after:=#[{on:=14,ground:=Ground.data},{on:=16,ground:=Ground.chain},{on:=0,ground:=Ground.phase},{on:=1,ground:=Ground.phase},{on:=2,ground:=Ground.phase},{on:=3,ground:=Ground.phase},{on:=4,ground:=Ground.phase},{on:=5,ground:=Ground.phase},{on:=6,ground:=Ground.phase},{on:=7,ground:=Ground.phase},{on:=8,ground:=Ground.phase},{on:=9,ground:=Ground.phase},{on:=10,ground:=Ground.phase},{on:=11,ground:=Ground.phase},{on:=12,ground:=Ground.phase},{on:=13,ground:=Ground.phase},{on:=14,ground:=Ground.phase},{on:=15,ground:=Ground.phase},{on:=16,ground:=Ground.phase}],guard:=none}:Oper)) (v:=?_) rfl (by kernel_rfl) (by kernel_rfl) (by kernel_rfl) (fun _ _ _ h=>h) (Or.inl ⟨by rfl,?_⟩) (by with_reducible assumption) ?_
 rotate_left
 ·intro w hSw
  (try dsimp only at hSw)
  first|(go_simp;done)|(go_simp;with_reducible rfl)
 (try simp only[Act.put,List.setIfInBounds_toArray,List.set_cons_zero,List.set_cons_succ])
 refine wpAnyH_done (by kernel_rfl) ?_ _
 exact⟨_,_,_,_,_,_,_,_,_,_,_,_,_,_,_,_,rfl,hO0.set (k+J) r,hS3.2⟩
end Go.Proofs.Ytmdakhpdofepeaa
