import Derived.Test.YtmdakhpdofepeaaU12
import Derived.Test.YtmdakhpdofepeaaU07
namespace Go.Proofs.Ytmdakhpdofepeaa
open Go.RowKit
set_option linter.unusedVariables false
set_option linter.unusedSimpArgs false
theorem sub64BW (o l:Nat) (ho:o<18446744073709551616) (hl:l<18446744073709551616):∃new bo:Nat,new+l=o+18446744073709551616*bo/\bo<=1/\new<18446744073709551616/\(l=0->bo=0)/\∀w,(callFunc 74 #[.int .u64 (o:Int),.int .u64 (l:Int),.int .u64 0]).run Try.prog w = .ok (.value (.tuple #[.int .u64 (new:Int),.int .u64 (bo:Int)])) w:=by
 refine⟨(o+18446744073709551616-l-0) % 18446744073709551616,if o<l+0 then 1 else 0,?_,?_,Nat.mod_lt _ (by omega),?_,fun w=>sub64N o l 0 (by omega) w⟩
 ·split <;> omega
 ·split <;> omega
 ·intro h;rw[if_neg (by omega)]
set_option maxHeartbeats 1600000 in
theorem takeOffD (g N C k cp x:Nat) (ad2:Option Addr) (n2 c2:Nat) (ys zs0:List Nat) (w:World) (ry:Row w ad2 n2 c2 ys) (hne:0<n2->∀b,ad2=some b->b.block≠g) (hy:∀x∈ys,x<18446744073709551616) (bx:x<18446744073709551616) (h0:∀z∈zs0,z<18446744073709551616)
  (hkN:k+n2+1<=N) (hNm:N<=4398046511104) (hcp:n2+1<=cp) (hcp2:cp<=9223372036854775807) (how:OU w g N C zs0) :
  Calls Try.prog 66 #[.slice (some ⟨g,k,none⟩) (n2+1) cp,.slice ad2 n2 c2,.int .u64 (x:Int)] w fun e w'=>∃(b:Nat) (zs:List Nat),e = .returned (.int .u64 (b:Int))/\b<=1/\Hid (zs.length=N/\(∀z∈zs,z<18446744073709551616)/\nv 18446744073709551616 zs+18446744073709551616 ^ k*(x*nv 18446744073709551616 ys)=nv 18446744073709551616 zs0+18446744073709551616 ^ (k+n2+1)*b/\∀i,k+n2+1<=i->zs.getD i 0=zs0.getD i 0)/\Hid (OU w' g N C zs)/\Hid (Gt g w w'):=by
 have RY:Hid (∀w',Gt g w w'->Row w' ad2 n2 c2 ys):=fun w' k=>ry.gt k hne
 have HY:Hid (∀x∈ys,x<18446744073709551616):=hy
 have H0:Hid (∀x∈zs0,x<18446744073709551616):=h0
 have HO:Hid (OU w g N C zs0):=how
 have HL:Hid (ys.length=n2):=ry.len
 have hl2:=ry.le
 have hm3:=ry.max
 clear ry hy h0 hne how
 go_enter Try.func66,Try.ntmps66
 go_wp2
 go_loopw [7,19] (fun cr i wr=>∃(j c:Nat) (zs:List Nat),j<=n2/\c<18446744073709551616/\i = .int .i64 (j:Int)/\cr = .int .u64 (c:Int)/\Hid (OU wr g N C zs)/\Hid (TakAt ys zs zs0 k j x c N)/\Hid (Gt g w wr)) (fun _ i _=>n2-(intOf i).toNat)
 case atStart=>exact⟨0,0,zs0,by omega,by omega,rfl,rfl,HO,TakAt.start HO.out.len H0.out,Gt.refl _ _⟩
 case round =>
  obtain⟨j,c,zs,hj,hc,rfl,rfl,hown,hA,hg⟩:=hrel
  by_cases hlt:j<n2
  ·obtain⟨p2,o2,hp2e,hp2,hc2⟩:=(RY.out wr hg.out).cells (by omega)
   have hcell2:=hc2 j hlt
   have hcell3:=hown.out.cell (k+j) (by omega)
   have hfz:=hown.out.fz (k+j)
   subst hp2e
   obtain⟨yk,hyk⟩:∃yk,yk=ys.getD j 0:=⟨_,rfl⟩
   obtain⟨ok,hok⟩:∃ok,ok=zs.getD (k+j) 0:=⟨_,rfl⟩
   rw[<-hyk] at hcell2
   rw[<-hok] at hcell3
   have byk:yk<18446744073709551616:=hyk ▸ getD_lt (by omega) HY.out j
   have bok:ok<18446744073709551616:=hok ▸ getD_lt (by omega) hA.out.lt (k+j)
   have MUL:=fun w=>Try.bits_Mul64 yk x byk bx w
   have hm:=prod_le bx byk
   rw[Nat.mul_comm yk x] at MUL
   obtain⟨m,hmm⟩:∃m,m=x*yk:=⟨_,rfl⟩
   rw[<-hmm] at MUL hm
   obtain⟨hi,hhi⟩:∃hi,hi=m / 18446744073709551616:=⟨_,rfl⟩
   obtain⟨lo,hlo⟩:∃lo,lo=m % 18446744073709551616:=⟨_,rfl⟩
   rw[<-hhi,<-hlo] at MUL
   have M:Hid (∀w1,Calls Try.prog 84 #[.int .u64 (yk:Int),.int .u64 (x:Int)] w1 fun e w'=>e = .returned (.tuple #[.int .u64 (hi:Int),.int .u64 (lo:Int)])/\w'=w1):=MUL
   have A1:=fun w=>add64N lo c 0 (by omega) w
   obtain⟨l1,hl1⟩:∃l1,l1=(lo+c+0) % 18446744073709551616:=⟨_,rfl⟩
   obtain⟨m1,hm1⟩:∃m1,m1=(lo+c+0) / 18446744073709551616:=⟨_,rfl⟩
   rw[<-hl1,<-hm1] at A1
   have A1':Hid (∀w,(callFunc 73 #[.int .u64 (lo:Int),.int .u64 (c:Int),.int .u64 0]).run Try.prog w = .ok (.value (.tuple #[.int .u64 (l1:Int),.int .u64 (m1:Int)])) w):=A1
   obtain⟨nw,bo,q1,q2,q3,q4,S⟩:=sub64BW ok l1 bok (by omega)
   have S':Hid (∀w,(callFunc 74 #[.int .u64 (ok:Int),.int .u64 (l1:Int),.int .u64 0]).run Try.prog w = .ok (.value (.tuple #[.int .u64 (nw:Int),.int .u64 (bo:Int)])) w):=S
   have NX':Hid (TakAt ys (zs.set (k+j) nw) zs0 k (j+1) x (hi+m1+bo) N):=hA.out.next (by omega) hok hyk q1 (by rw[<-hmm];omega) q3
   have b1:hi+m1+bo<18446744073709551616:=by
    by_cases z:l1=0
    ·have:=q4 z;omega
    ·omega
   have b2:hi+m1<18446744073709551616:=by omega
   clear A1 MUL hhi hlo hl1 hm1 hm hmm S q1 q4 hyk hok hc2
   have i1:(j:Int)<(n2:Int):=by omega
   have i2:(j:Int)<(n2:Int)+1:=by omega
   go_wp2_with (first|(simp only[A1'.out])|(simp only[S'.out])|(go_at_call 84;with_reducible refine(M.out _).mono ?_;rintro e w' ⟨rfl,rfl⟩))
   go_roundw
   case rel=>exact⟨j+1,hi+m1+bo,_,by omega,b1,by go_num,by go_num,hown.out.set (k+j) nw,NX',hg.out.setCell rfl _⟩
   case measure=>simp only[intOf];omega
  ·have hk2:j=n2:=by omega
   subst hk2
   have hcell3:=hown.out.cell (k+j) (by omega)
   have hfz:=hown.out.fz (k+j)
   obtain⟨ok,hok⟩:∃ok,ok=zs.getD (k+j) 0:=⟨_,rfl⟩
   rw[<-hok] at hcell3
   have bok:ok<18446744073709551616:=hok ▸ getD_lt (by omega) hA.out.lt (k+j)
   obtain⟨nw,bo,q1,q2,q3,q4,S⟩:=sub64BW ok c bok hc
   have S':Hid (∀w,(callFunc 74 #[.int .u64 (ok:Int),.int .u64 (c:Int),.int .u64 0]).run Try.prog w = .ok (.value (.tuple #[.int .u64 (nw:Int),.int .u64 (bo:Int)])) w):=S
   have F:=hide (hA.out.last (by omega) hok q1 (by rw[HL.out];exact Nat.le_refl _) q3)
   clear S q1 q3 q4 hok
   go_wp2_with (first|(simp only[S'.out]))
   go_ret
   exact⟨bo,_,rfl,q2,F,hown.out.set (k+j) nw,hg.out.setCell rfl _⟩
def RD565 (t2 t3 t4 t7 t8 t9 t10 t11 t12 t13 t14 t15 t16 t17 t18 t19 t20 t21 t22 t23 t24 t25 t26 t27 t28 t29 t30 t31 t32 t33 t34 t35 t36 t37 t38 t39 t40 t41 t42 t43 t44:Value) (pb ob g k J L cp n2 c2 N C c o y r b:Nat) (zs:List Nat) (wq:World):Exit->Act->World->Prop
 | .normal,a,w=>∃u13 u14 u15 u16 u17 u18 u19 u20 u21 u22 u23 u24 u25 u26 u27 u28,a = {tmps:=#[.slice (some ⟨g,k,none⟩) L cp,.slice (some ⟨pb,ob,none⟩) n2 c2,t2,t3,t4,.int .u64 (b:Int),.int .i64 (J:Int),t7,t8,t9,t10,t11,t12,u13,u14,u15,u16,u17,u18,u19,u20,u21,u22,u23,u24,u25,u26,u27,u28,t29,t30,t31,t32,t33,t34,t35,t36,t37,t38,t39,t40,t41,t42,t43,t44],defers:=[]}/\OU w g N C (zs.set (k+J) r)/\Gt g wq w
 | _,_,_=>False
set_option maxRecDepth 100000 in
set_option maxHeartbeats 20000000 in
theorem regD565 (t2 t3 t4 t7 t8 t9 t10 t11 t12 t13 t14 t15 t16 t17 t18 t19 t20 t21 t22 t23 t24 t25 t26 t27 t28 t29 t30 t31 t32 t33 t34 t35 t36 t37 t38 t39 t40 t41 t42 t43 t44:Value) (pb ob g k J L cp n2 c2 N C c o y r b:Nat) (zs:List Nat) (wq:World)
  (AD:Hid (∀w,(callFunc 73 #[.int .u64 (o:Int),.int .u64 (y:Int),.int .u64 (c:Int)]).run Try.prog w = .ok (.value (.tuple #[.int .u64 (r:Int),.int .u64 (b:Int)])) w))
  (hO:OU wq g N C zs) (ho:zs.getD (k+J) 0=o) (hcs:wq.cell? ⟨pb,ob+J,none⟩=some (.int .u64 (y:Int))) (i1:(J:Int)<(n2:Int)) (i2:(J:Int)<(L:Int)) (hkJ:k+J<N) (hnb:pb≠g) :
  Code.wp Try.prog (Code.region 5 #[{dst:=some 14,op:=Op.move (Operand.tmp 0),type:=22,pos:= "size.go:80",after:=#[],guard:=none},{dst:=some 15,op:=Op.move (Operand.tmp 6),type:=3,pos:= "size.go:80",after:=#[],guard:=none},{dst:=some 16,op:=Op.move (Operand.tmp 0),type:=22,pos:= "size.go:80",after:=#[],guard:=none},{dst:=some 17,op:=Op.move (Operand.tmp 6),type:=3,pos:= "size.go:80",after:=#[],guard:=none},{dst:=some 18,op:=Op.indexAddr 22 (Operand.tmp 16) (Operand.tmp 17),type:=0,pos:= "size.go:80",after:=#[{on:=2,ground:=Ground.data},{on:=3,ground:=Ground.data}],guard:=none},{dst:=some 19,op:=Op.load 52 (Operand.tmp 18),type:=52,pos:= "size.go:80",after:=#[{on:=4,ground:=Ground.data}],guard:=none},{dst:=some 20,op:=Op.move (Operand.tmp 1),type:=22,pos:= "size.go:80",after:=#[],guard:=none},{dst:=some 21,op:=Op.move (Operand.tmp 6),type:=3,pos:= "size.go:80",after:=#[],guard:=none},{dst:=some 22,op:=Op.indexAddr 22 (Operand.tmp 20) (Operand.tmp 21),type:=0,pos:= "size.go:80",after:=#[{on:=6,ground:=Ground.data},{on:=7,ground:=Ground.data}],guard:=none},{dst:=some 23,op:=Op.load 52 (Operand.tmp 22),type:=52,pos:= "size.go:80",after:=#[{on:=8,ground:=Ground.data}],guard:=none},{dst:=some 24,op:=Op.move (Operand.tmp 5),type:=52,pos:= "size.go:80",after:=#[],guard:=none},{dst:=some 25,op:=Op.call {callee:=Callee.value (Operand.func 73),args:=#[Operand.tmp 19,Operand.tmp 23,Operand.tmp 24],argTypes:=#[52,52,52]},type:=93,pos:= "size.go:80",after:=#[{on:=5,ground:=Ground.data},{on:=9,ground:=Ground.data},{on:=10,ground:=Ground.data}],guard:=none},{dst:=some 13,op:=Op.move (Operand.tmp 25),type:=93,pos:= "size.go:80",after:=#[{on:=11,ground:=Ground.data}],guard:=none},{dst:=some 26,op:=Op.extract (Operand.tmp 13) 0,type:=52,pos:= "size.go:80",after:=#[{on:=12,ground:=Ground.data}],guard:=none},{dst:=some 27,op:=Op.extract (Operand.tmp 13) 1,type:=52,pos:= "size.go:80",after:=#[{on:=12,ground:=Ground.data},{on:=16,ground:=Ground.gcOnly Departure.lateStores}],guard:=none},{dst:=some 28,op:=Op.indexAddr 22 (Operand.tmp 14) (Operand.tmp 15),type:=0,pos:= "size.go:80",after:=#[{on:=0,ground:=Ground.data},{on:=1,ground:=Ground.data},{on:=0,ground:=Ground.phase},{on:=1,ground:=Ground.phase},{on:=2,ground:=Ground.phase},{on:=3,ground:=Ground.phase},{on:=4,ground:=Ground.phase},{on:=5,ground:=Ground.phase},{on:=6,ground:=Ground.phase},{on:=7,ground:=Ground.phase},{on:=8,ground:=Ground.phase},{on:=9,ground:=Ground.phase},{on:=10,ground:=Ground.phase},{on:=11,ground:=Ground.phase},{on:=12,ground:=Ground.phase},{on:=13,ground:=Ground.phase},{on:=14,ground:=Ground.textOnly Departure.lateStores}],guard:=none},{dst:=none,op:=Op.store 52 (Operand.tmp 28) (Operand.tmp 26),type:=0,pos:= "size.go:80",after:=#[{on:=15,ground:=Ground.data},{on:=13,ground:=Ground.data},{on:=11,ground:=Ground.chain},{on:=0,ground:=Ground.phase},{on:=1,ground:=Ground.phase},{on:=2,ground:=Ground.phase},{on:=3,ground:=Ground.phase},{on:=4,ground:=Ground.phase},{on:=5,ground:=Ground.phase},{on:=6,ground:=Ground.phase},{on:=7,ground:=Ground.phase},{on:=8,ground:=Ground.phase},{on:=9,ground:=Ground.phase},{on:=10,ground:=Ground.phase},{on:=11,ground:=Ground.phase},{on:=12,ground:=Ground.phase},{on:=13,ground:=Ground.phase},{on:=14,ground:=Ground.textOnly Departure.lateStores}],guard:=none},{dst:=some 5,op:=Op.assign (Operand.tmp 27),type:=52,pos:= "size.go:80",after:=#[{on:=14,ground:=Ground.data},{on:=16,ground:=Ground.chain},{on:=0,ground:=Ground.phase},{on:=1,ground:=Ground.phase},{on:=2,ground:=Ground.phase},{on:=3,ground:=Ground.phase},{on:=4,ground:=Ground.phase},{on:=5,ground:=Ground.phase},{on:=6,ground:=Ground.phase},{on:=7,ground:=Ground.phase},{on:=8,ground:=Ground.phase},{on:=9,ground:=Ground.phase},{on:=10,ground:=Ground.phase},{on:=11,ground:=Ground.phase},{on:=12,ground:=Ground.phase},{on:=13,ground:=Ground.phase},{on:=14,ground:=Ground.phase},{on:=15,ground:=Ground.phase},{on:=16,ground:=Ground.phase}],guard:=none}] true) (RD565 t2 t3 t4 t7 t8 t9 t10 t11 t12 t13 t14 t15 t16 t17 t18 t19 t20 t21 t22 t23 t24 t25 t26 t27 t28 t29 t30 t31 t32 t33 t34 t35 t36 t37 t38 t39 t40 t41 t42 t43 t44 pb ob g k J L cp n2 c2 N C c o y r b zs wq) {tmps:=#[.slice (some ⟨g,k,none⟩) L cp,.slice (some ⟨pb,ob,none⟩) n2 c2,t2,t3,t4,.int .u64 (c:Int),.int .i64 (J:Int),t7,t8,t9,t10,t11,t12,t13,t14,t15,t16,t17,t18,t19,t20,t21,t22,t23,t24,t25,t26,t27,t28,t29,t30,t31,t32,t33,t34,t35,t36,t37,t38,t39,t40,t41,t42,t43,t44],defers:=[]} wq:=by
 have hS0:wq.drew.cell? ⟨pb,ob+J,none⟩=some (.int .u64 (y:Int))/\Gt g wq wq.drew:=⟨hcs,(Gt.refl g wq).drew⟩
 have hO0:OU wq.drew g N C zs:=hO
 clear hcs hO
 refine wp_region_held_drew (S:=fun w'=>w'.cell? ⟨pb,ob+J,none⟩=some (.int .u64 (y:Int))/\Gt g wq w') (by kernel_rfl) hS0 (fun hHeld=>?_)
 clear hS0
 generalize wq.drew=wd at *
 refine wpAnyH_take (i:=0) (oi:=({dst:=some 14,op:=Op.move (Operand.tmp 0),type:=22,pos:= "size.go:80",after:=#[],guard:=none}:Oper)) (v:=?_) rfl (by kernel_rfl) (by kernel_rfl) (by kernel_rfl) (fun _ _ _ h=>h) (Or.inl ⟨by rfl,?_⟩) (by with_reducible assumption) ?_
 rotate_left
 ·intro w hSw
  (try dsimp only at hSw)
  first|(go_simp;done)|(go_simp;with_reducible rfl)
 (try simp only[Act.put,List.setIfInBounds_toArray,List.set_cons_zero,List.set_cons_succ])
 refine wpAnyH_take (i:=1) (oi:=({dst:=some 15,op:=Op.move (Operand.tmp 6),type:=3,pos:= "size.go:80",after:=#[],guard:=none}:Oper)) (v:=?_) rfl (by kernel_rfl) (by kernel_rfl) (by kernel_rfl) (fun _ _ _ h=>h) (Or.inl ⟨by rfl,?_⟩) (by with_reducible assumption) ?_
 rotate_left
 ·intro w hSw
  (try dsimp only at hSw)
  first|(go_simp;done)|(go_simp;with_reducible rfl)
 (try simp only[Act.put,List.setIfInBounds_toArray,List.set_cons_zero,List.set_cons_succ])
 refine wpAnyH_take (i:=2) (oi:=({dst:=some 16,op:=Op.move (Operand.tmp 0),type:=22,pos:= "size.go:80",after:=#[],guard:=none}:Oper)) (v:=?_) rfl (by kernel_rfl) (by kernel_rfl) (by kernel_rfl) (fun _ _ _ h=>h) (Or.inl ⟨by rfl,?_⟩) (by with_reducible assumption) ?_
 rotate_left
 ·intro w hSw
  (try dsimp only at hSw)
  first|(go_simp;done)|(go_simp;with_reducible rfl)
 (try simp only[Act.put,List.setIfInBounds_toArray,List.set_cons_zero,List.set_cons_succ])
 refine wpAnyH_take (i:=3) (oi:=({dst:=some 17,op:=Op.move (Operand.tmp 6),type:=3,pos:= "size.go:80",after:=#[],guard:=none}:Oper)) (v:=?_) rfl (by kernel_rfl) (by kernel_rfl) (by kernel_rfl) (fun _ _ _ h=>h) (Or.inl ⟨by rfl,?_⟩) (by with_reducible assumption) ?_
 rotate_left
 ·intro w hSw
  (try dsimp only at hSw)
  first|(go_simp;done)|(go_simp;with_reducible rfl)
 (try simp only[Act.put,List.setIfInBounds_toArray,List.set_cons_zero,List.set_cons_succ])
 refine wpAnyH_take (i:=4) (oi:=({dst:=some 18,op:=Op.indexAddr 22 (Operand.tmp 16) (Operand.tmp 17),type:=0,pos:= "size.go:80",after:=#[{on:=2,ground:=Ground.data},{on:=3,ground:=Ground.data}],guard:=none}:Oper)) (v:=?_) rfl (by kernel_rfl) (by kernel_rfl) (by kernel_rfl) (fun _ _ _ h=>h) (Or.inl ⟨by rfl,?_⟩) (by with_reducible assumption) ?_
 rotate_left
 ·intro w hSw
  (try dsimp only at hSw)
  first|(go_simp;done)|(go_simp;with_reducible rfl)
 (try simp only[Act.put,List.setIfInBounds_toArray,List.set_cons_zero,List.set_cons_succ])
 refine wpAnyH_take (i:=6) (oi:=({dst:=some 20,op:=Op.move (Operand.tmp 1),type:=22,pos:= "size.go:80",after:=#[],guard:=none}:Oper)) (v:=?_) rfl (by kernel_rfl) (by kernel_rfl) (by kernel_rfl) (fun _ _ _ h=>h) (Or.inl ⟨by rfl,?_⟩) (by with_reducible assumption) ?_
 rotate_left
 ·intro w hSw
  (try dsimp only at hSw)
  first|(go_simp;done)|(go_simp;with_reducible rfl)
 (try simp only[Act.put,List.setIfInBounds_toArray,List.set_cons_zero,List.set_cons_succ])
 refine wpAnyH_take (i:=7) (oi:=({dst:=some 21,op:=Op.move (Operand.tmp 6),type:=3,pos:= "size.go:80",after:=#[],guard:=none}:Oper)) (v:=?_) rfl (by kernel_rfl) (by kernel_rfl) (by kernel_rfl) (fun _ _ _ h=>h) (Or.inl ⟨by rfl,?_⟩) (by with_reducible assumption) ?_
 rotate_left
 ·intro w hSw
  (try dsimp only at hSw)
  first|(go_simp;done)|(go_simp;with_reducible rfl)
 (try simp only[Act.put,List.setIfInBounds_toArray,List.set_cons_zero,List.set_cons_succ])
 refine wpAnyH_take (i:=8) (oi:=({dst:=some 22,op:=Op.indexAddr 22 (Operand.tmp 20) (Operand.tmp 21),type:=0,pos:= "size.go:80",after:=#[{on:=6,ground:=Ground.data},{on:=7,ground:=Ground.data}],guard:=none}:Oper)) (v:=?_) rfl (by kernel_rfl) (by kernel_rfl) (by kernel_rfl) (fun _ _ _ h=>h) (Or.inl ⟨by rfl,?_⟩) (by with_reducible assumption) ?_
 rotate_left
 ·intro w hSw
  (try dsimp only at hSw)
  first|(go_simp;done)|(go_simp;with_reducible rfl)
 (try simp only[Act.put,List.setIfInBounds_toArray,List.set_cons_zero,List.set_cons_succ])
 refine wpAnyH_take (i:=9) (oi:=({dst:=some 23,op:=Op.load 52 (Operand.tmp 22),type:=52,pos:= "size.go:80",after:=#[{on:=8,ground:=Ground.data}],guard:=none}:Oper)) (v:=?_) rfl (by kernel_rfl) (by kernel_rfl) (by kernel_rfl) (fun _ _ _ h=>h) (Or.inl ⟨by rfl,?_⟩) (by with_reducible assumption) ?_
 rotate_left
 ·intro w hSw
  (try dsimp only at hSw)
  first|(go_simp;done)|(go_simp;with_reducible rfl)
 (try simp only[Act.put,List.setIfInBounds_toArray,List.set_cons_zero,List.set_cons_succ])
 refine wpAnyH_take (i:=10) (oi:=({dst:=some 24,op:=Op.move (Operand.tmp 5),type:=52,pos:= "size.go:80",after:=#[],guard:=none}:Oper)) (v:=?_) rfl (by kernel_rfl) (by kernel_rfl) (by kernel_rfl) (fun _ _ _ h=>h) (Or.inl ⟨by rfl,?_⟩) (by with_reducible assumption) ?_
 rotate_left
 ·intro w hSw
  (try dsimp only at hSw)
  first|(go_simp;done)|(go_simp;with_reducible rfl)
 (try simp only[Act.put,List.setIfInBounds_toArray,List.set_cons_zero,List.set_cons_succ])
 refine wpAnyH_ready (rs:=[5]) (by kernel_rfl) (by simp) ?_
 refine AllReadyH.cons (o:=({dst:=some 19,op:=Op.load 52 (Operand.tmp 18),type:=52,pos:= "size.go:80",after:=#[{on:=4,ground:=Ground.data}],guard:=none}:Oper)) rfl (fun K hK=>?_) AllReadyH.nil
 have x0':=hO0.cell (k+J) hkJ
 rw[ho] at x0'
 go_simp
 refine hK.out _ _ hHeld (fun hH1=>?_)
 clear hK K x0'
 (try simp only[Act.put,List.setIfInBounds_toArray,List.set_cons_zero,List.set_cons_succ])
 refine wpAnyH_ready (rs:=[11]) (by kernel_rfl) (by simp) ?_
 refine AllReadyH.cons (o:=({dst:=some 25,op:=Op.call {callee:=Callee.value (Operand.func 73),args:=#[Operand.tmp 19,Operand.tmp 23,Operand.tmp 24],argTypes:=#[52,52,52]},type:=93,pos:= "size.go:80",after:=#[{on:=5,ground:=Ground.data},{on:=9,ground:=Ground.data},{on:=10,ground:=Ground.data}],guard:=none}:Oper)) rfl (fun K hK=>?_) AllReadyH.nil
 go_simp
 simp only[AD.out]
 go_simp
 refine hK.out _ _ hH1 (fun hH2=>?_)
 clear hK K
 (try simp only[Act.put,List.setIfInBounds_toArray,List.set_cons_zero,List.set_cons_succ])
 refine wpAnyH_take (i:=12) (oi:=({dst:=some 13,op:=Op.move (Operand.tmp 25),type:=93,pos:= "size.go:80",after:=#[{on:=11,ground:=Ground.data}],guard:=none}:Oper)) (v:=?_) rfl (by kernel_rfl) (by kernel_rfl) (by kernel_rfl) (fun _ _ _ h=>h) (Or.inl ⟨by rfl,?_⟩) (by with_reducible assumption) ?_
 rotate_left
 ·intro w hSw
  (try dsimp only at hSw)
  first|(go_simp;done)|(go_simp;with_reducible rfl)
 (try simp only[Act.put,List.setIfInBounds_toArray,List.set_cons_zero,List.set_cons_succ])
 refine wpAnyH_take (i:=13) (oi:=({dst:=some 26,op:=Op.extract (Operand.tmp 13) 0,type:=52,pos:= "size.go:80",after:=#[{on:=12,ground:=Ground.data}],guard:=none}:Oper)) (v:=?_) rfl (by kernel_rfl) (by kernel_rfl) (by kernel_rfl) (fun _ _ _ h=>h) (Or.inl ⟨by rfl,?_⟩) (by with_reducible assumption) ?_
 rotate_left
 ·intro w hSw
  (try dsimp only at hSw)
  first|(go_simp;done)|(go_simp;with_reducible rfl)
 (try simp only[Act.put,List.setIfInBounds_toArray,List.set_cons_zero,List.set_cons_succ])
 refine wpAnyH_take (i:=14) (oi:=({dst:=some 27,op:=Op.extract (Operand.tmp 13) 1,type:=52,pos:= "size.go:80",after:=#[{on:=12,ground:=Ground.data},{on:=16,ground:=Ground.gcOnly Departure.lateStores}],guard:=none}:Oper)) (v:=?_) rfl (by kernel_rfl) (by kernel_rfl) (by kernel_rfl) (fun _ _ _ h=>h) (Or.inl ⟨by rfl,?_⟩) (by with_reducible assumption) ?_
 rotate_left
 ·intro w hSw
  (try dsimp only at hSw)
  first|(go_simp;done)|(go_simp;with_reducible rfl)
 (try simp only[Act.put,List.setIfInBounds_toArray,List.set_cons_zero,List.set_cons_succ])
 refine wpAnyH_take (i:=15) (oi:=({dst:=some 28,op:=Op.indexAddr 22 (Operand.tmp 14) (Operand.tmp 15),type:=0,pos:= "size.go:80",after:=#[{on:=0,ground:=Ground.data},{on:=1,ground:=Ground.data},{on:=0,ground:=Ground.phase},{on:=1,ground:=Ground.phase},{on:=2,ground:=Ground.phase},{on:=3,ground:=Ground.phase},{on:=4,ground:=Ground.phase},{on:=5,ground:=Ground.phase},{on:=6,ground:=Ground.phase},{on:=7,ground:=Ground.phase},{on:=8,ground:=Ground.phase},{on:=9,ground:=Ground.phase},{on:=10,ground:=Ground.phase},{on:=11,ground:=Ground.phase},{on:=12,ground:=Ground.phase},{on:=13,ground:=Ground.phase},{on:=14,ground:=Ground.textOnly Departure.lateStores}],guard:=none}:Oper)) (v:=?_) rfl (by kernel_rfl) (by kernel_rfl) (by kernel_rfl) (fun _ _ _ h=>h) (Or.inl ⟨by rfl,?_⟩) (by with_reducible assumption) ?_
 rotate_left
 ·intro w hSw
  (try dsimp only at hSw)
  first|(go_simp;done)|(go_simp;with_reducible rfl)
 (try simp only[Act.put,List.setIfInBounds_toArray,List.set_cons_zero,List.set_cons_succ])
 refine wpAnyH_ready (rs:=[16]) (by kernel_rfl) (by simp) ?_
 refine AllReadyH.cons (o:=({dst:=none,op:=Op.store 52 (Operand.tmp 28) (Operand.tmp 26),type:=0,pos:= "size.go:80",after:=#[{on:=15,ground:=Ground.data},{on:=13,ground:=Ground.data},{on:=11,ground:=Ground.chain},{on:=0,ground:=Ground.phase},{on:=1,ground:=Ground.phase},{on:=2,ground:=Ground.phase},{on:=3,ground:=Ground.phase},{on:=4,ground:=Ground.phase},{on:=5,ground:=Ground.phase},{on:=6,ground:=Ground.phase},{on:=7,ground:=Ground.phase},{on:=8,ground:=Ground.phase},{on:=9,ground:=Ground.phase},{on:=10,ground:=Ground.phase},{on:=11,ground:=Ground.phase},{on:=12,ground:=Ground.phase},{on:=13,ground:=Ground.phase},{on:=14,ground:=Ground.textOnly Departure.lateStores}],guard:=none}:Oper)) rfl (fun K hK=>?_) AllReadyH.nil
 have x0':=hO0.cell (k+J) hkJ
 have y0':=hO0.fz (k+J)
 go_simp
 refine hK.out _ _ ⟨far1T hnb hH2.1 _,hH2.2.setCell rfl _⟩ (fun hS3=>?_)
 clear hK K x0' y0'
 (try simp only[Act.put,List.setIfInBounds_toArray,List.set_cons_zero,List.set_cons_succ])
 refine wpAnyH_take (i:=17) (oi:=({dst:=some 5,op:=Op.assign (Operand.tmp 27),type:=52,pos:= "size.go:80",after:=#[{on:=14,ground:=Ground.data},{on:=16,ground:=Ground.chain},{on:=0,ground:=Ground.phase},{on:=1,ground:=Ground.phase},{on:=2,ground:=Ground.phase},{on:=3,ground:=Ground.phase},{on:=4,ground:=Ground.phase},{on:=5,ground:=Ground.phase},{on:=6,ground:=Ground.phase},{on:=7,ground:=Ground.phase},{on:=8,ground:=Ground.phase},{on:=9,ground:=Ground.phase},{on:=10,ground:=Ground.phase},{on:=11,ground:=Ground.phase},{on:=12,ground:=Ground.phase},{on:=13,ground:=Ground.phase},{on:=14,ground:=Ground.phase},{on:=15,ground:=Ground.phase},{on:=16,ground:=Ground.phase}],guard:=none}:Oper)) (v:=?_) rfl (by kernel_rfl) (by kernel_rfl) (by kernel_rfl) (fun _ _ _ h=>h) (Or.inl ⟨by rfl,?_⟩) (by with_reducible assumption) ?_
 rotate_left
 ·intro w hSw
  (try dsimp only at hSw)
  first|(go_simp;done)|(go_simp;with_reducible rfl)
 (try simp only[Act.put,List.setIfInBounds_toArray,List.set_cons_zero,List.set_cons_succ])
 refine wpAnyH_done (by kernel_rfl) ?_ _
 exact⟨_,_,_,_,_,_,_,_,_,_,_,_,_,_,_,_,rfl,hO0.set (k+J) r,hS3.2⟩
set_option maxRecDepth 8000 in
set_option maxHeartbeats 4000000 in
theorem putBackD (g N C k cp:Nat) (ad2:Option Addr) (n2 c2:Nat) (ys zs0:List Nat) (w:World) (ry:Row w ad2 n2 c2 ys) (hne:0<n2->∀b,ad2=some b->b.block≠g) (hy:∀x∈ys,x<18446744073709551616) (h0:∀z∈zs0,z<18446744073709551616)
  (hkN:k+n2+1<=N) (hNm:N<=4398046511104) (hcp:n2+1<=cp) (hcp2:cp<=9223372036854775807) (how:OU w g N C zs0) :
  Calls Try.prog 67 #[.slice (some ⟨g,k,none⟩) (n2+1) cp,.slice ad2 n2 c2] w fun e w'=>∃(c:Nat) (zs:List Nat),e = .returned (.int .u64 (c:Int))/\c<=1/\Hid (zs.length=N/\(∀z∈zs,z<18446744073709551616)/\nv 18446744073709551616 zs+18446744073709551616 ^ (k+n2+1)*c=nv 18446744073709551616 zs0+18446744073709551616 ^ k*nv 18446744073709551616 ys/\∀i,k+n2+1<=i->zs.getD i 0=zs0.getD i 0)/\Hid (OU w' g N C zs)/\Hid (Gt g w w'):=by
 have RY:Hid (∀w',Gt g w w'->Row w' ad2 n2 c2 ys):=fun w' k=>ry.gt k hne
 have HNE:Hid (0<n2->∀b,ad2=some b->b.block≠g):=hne
 have HY:Hid (∀x∈ys,x<18446744073709551616):=hy
 have H0:Hid (∀x∈zs0,x<18446744073709551616):=h0
 have HO:Hid (OU w g N C zs0):=how
 have hl2:=ry.le
 have hm3:=ry.max
 have HLY:Hid (ys.length=n2):=ry.len
 clear ry hy h0 hne how
 obtain⟨L,hL⟩:∃L,n2+1=L:=⟨_,rfl⟩
 rw[hL]
 have hL1:n2<L:=by omega
 have hL2:L<=n2+1:=by omega
 clear hL
 go_enter Try.func67,Try.ntmps67
 go_wp2
 go_loopw [5,10] (fun cr i wr=>∃(j c:Nat) (zs:List Nat),j<=n2/\c<=1/\i = .int .i64 (j:Int)/\cr = .int .u64 (c:Int)/\Hid (OU wr g N C zs)/\Hid (PutAt ys zs zs0 k j c N)/\Hid (Gt g w wr)) (fun _ i _=>n2-(intOf i).toNat)
 case atStart=>exact⟨0,0,zs0,by omega,by omega,rfl,rfl,HO,PutAt.start HO.out.len H0.out,Gt.refl _ _⟩
 case round =>
  obtain⟨j,c,zs,hj,hc,rfl,rfl,hown,hA,hg⟩:=hrel
  by_cases hlt:(j:Int)<(n2:Int)
  ·obtain⟨pb,ob,hpe,hpb,hpc⟩:=(RY.out wr hg.out).cells (by omega)
   have hcell:=hpc j (by omega)
   have hnb:pb≠g:=HNE.out (by omega) _ hpe
   subst hpe
   obtain⟨o,ho⟩:∃o,zs.getD (k+j) 0=o:=⟨_,rfl⟩
   obtain⟨y,hyd⟩:∃y,ys.getD j 0=y:=⟨_,rfl⟩
   rw[hyd] at hcell
   have by0:y<18446744073709551616:=hyd ▸ getD_lt (by omega) HY.out j
   have bo0:o<18446744073709551616:=ho ▸ getD_lt (by omega) hA.out.lt (k+j)
   have A0:=fun w=>add64N o y c hc w
   have NX0:=hA.out.next (o:=o) (y:=y) (by omega) ho.symm hyd.symm
   obtain⟨r,hr⟩:∃r,(o+y+c) % 18446744073709551616=r:=⟨_,rfl⟩
   obtain⟨b,hb⟩:∃b,(o+y+c) / 18446744073709551616=b:=⟨_,rfl⟩
   rw[hr,hb] at A0 NX0
   have hb1:b<=1:=by omega
   have hrW:r<18446744073709551616:=by omega
   have HR:Hid (∀t2 t3 t4 t7 t8 t9 t10 t11 t12 t13 t14 t15 t16 t17 t18 t19 t20 t21 t22 t23 t24 t25 t26 t27 t28 t29 t30 t31 t32 t33 t34 t35 t36 t37 t38 t39 t40 t41 t42 t43 t44:Value,_):=fun t2 t3 t4 t7 t8 t9 t10 t11 t12 t13 t14 t15 t16 t17 t18 t19 t20 t21 t22 t23 t24 t25 t26 t27 t28 t29 t30 t31 t32 t33 t34 t35 t36 t37 t38 t39 t40 t41 t42 t43 t44=>regD565 t2 t3 t4 t7 t8 t9 t10 t11 t12 t13 t14 t15 t16 t17 t18 t19 t20 t21 t22 t23 t24 t25 t26 t27 t28 t29 t30 t31 t32 t33 t34 t35 t36 t37 t38 t39 t40 t41 t42 t43 t44 pb ob g k j L cp n2 c2 N C c o y r b zs wr A0 hown.out ho hcell hlt (by omega) (by omega) hnb
   have NX:Hid (PutAt ys (zs.set (k+j) r) zs0 k (j+1) b N):=NX0
   clear NX0 A0 hcell hpc hpb ho hyd hr hb
   go_wp2
   refine Code.wp_mono ?_ (HR.out _ _ _ _ _ _ _ _ _ _ _ _ _ _ _ _ _ _ _ _ _ _ _ _ _ _ _ _ _ _ _ _ _ _ _ _ _ _ _ _ _)
   intro e a1 w9 hR
   cases e <;> first|(exact False.elim hR)|skip
   obtain⟨u13,u14,u15,u16,u17,u18,u19,u20,u21,u22,u23,u24,u25,u26,u27,u28,rfl,O9,X9⟩:=hR
   have O9':Hid (OU w9 g N C (zs.set (k+j) r)):=O9
   have X9':Hid (Gt g w w9):=hg.out.trans X9
   clear O9 X9 HR
   go_wp2
   go_roundw
   case rel=>exact⟨j+1,b,_,by omega,hb1,by go_num,rfl,O9',NX,X9'⟩
   case measure=>simp only[intOf];omega
  ·obtain rfl:j=n2:=by omega
   obtain⟨o,ho⟩:∃o,zs.getD (k+j) 0=o:=⟨_,rfl⟩
   have hcell:=hown.out.cell (k+j) (by omega)
   have hfz:=hown.out.fz (k+j)
   rw[ho] at hcell
   have bo0:o<18446744073709551616:=ho ▸ getD_lt (by omega) hA.out.lt (k+j)
   have A0:=fun w=>add64N o 0 c hc w
   have NX0:=hA.out.next (o:=o) (y:=0) (by omega) ho.symm (getD_out (by rw[HLY.out];exact Nat.le_refl _)).symm
   obtain⟨r,hr⟩:∃r,(o+0+c) % 18446744073709551616=r:=⟨_,rfl⟩
   obtain⟨b,hb⟩:∃b,(o+0+c) / 18446744073709551616=b:=⟨_,rfl⟩
   rw[hr,hb] at A0 NX0
   have hb1:b<=1:=by omega
   have A1:Hid (∀w,(callFunc 73 #[.int .u64 (o:Int),.int .u64 0,.int .u64 (c:Int)]).run Try.prog w = .ok (.value (.tuple #[.int .u64 (r:Int),.int .u64 (b:Int)])) w):=A0
   have VAL:=hide (And.intro NX0.len (And.intro NX0.lt (And.intro (show nv 18446744073709551616 (zs.set (k+j) r)+18446744073709551616 ^ (k+j+1)*b=nv 18446744073709551616 zs0+18446744073709551616 ^ k*nv 18446744073709551616 ys from by
    have:=NX0.val
    rw[List.take_of_length_le (by rw[HLY.out];omega)] at this
    exact this) NX0.rest)))
   have i2:(j:Int)<(L:Int):=by omega
   clear NX0 A0 ho hr hb
   go_wp2_with (simp only[A1.out])
   go_ret
   exact⟨b,rfl,hb1,_,VAL,hown.out.set (k+j) r,hg.out.setCell rfl _⟩
end Go.Proofs.Ytmdakhpdofepeaa
