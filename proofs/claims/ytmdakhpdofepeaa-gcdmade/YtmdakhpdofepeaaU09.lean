import Derived.Test.YtmdakhpdofepeaaU06
import Derived.Laws.OwnMore
import Derived.Deep.RegionHeld3
namespace Go.Proofs.Ytmdakhpdofepeaa
open Go.RowKit
set_option linter.unusedVariables false
def OU (w:World) (g N C:Nat) (zs:List Nat):Prop:=w.ownsRow g 52 1 (.slice (some ⟨g,0,none⟩) N C) N (u64s zs)
theorem OU.cell {w:World} {g N C:Nat} {zs:List Nat} (h:OU w g N C zs) (j:Nat) (hj:j<N):w.cell? ⟨g,j,none⟩=some (.int .u64 ((zs.getD j 0:Nat):Int)):=by
 have hl:zs.length=N:=by have:=h.1;rw[u64s_length] at this;omega
 rw[World.ownsRow.cellAt h j (by omega),u64s_getD (by omega)]
theorem OU.set {w:World} {g N C:Nat} {zs:List Nat} (h:OU w g N C zs) (j v:Nat):OU (w.setCell ⟨g,j,none⟩ (.int .u64 (v:Int))) g N C (zs.set j v):=by
 have:=(World.ownsRow.stored h j (.int .u64 (v:Int))).1
 unfold OU
 rw[show u64s (zs.set j v)=(u64s zs).set j (.int .u64 (v:Int)) by simp[u64s]]
 exact this
theorem OU.len {w:World} {g N C:Nat} {zs:List Nat} (h:OU w g N C zs):zs.length=N:=by
 have:=h.1;rw[u64s_length] at this;omega
theorem OU.fz {w:World} {g N C:Nat} {zs:List Nat} (h:OU w g N C zs) (j:Nat):w.frozen? ⟨g,j,none⟩=false:=World.ownsRow.frozenAt h j
structure Gt (g:Nat) (w w':World):Prop where
 os:w'.os=w.os
 output:w'.output=w.output
 size:w.heap.size<=w'.heap.size
 block:∀k,k<w.heap.size->k≠g->w'.heap[k]? = w.heap[k]?
theorem Gt.refl (g:Nat) (w:World):Gt g w w:=⟨rfl,rfl,Nat.le_refl _,fun _ _ _=>rfl⟩
theorem Gt.trans {g:Nat} {a b c:World} (h:Gt g a b) (k:Gt g b c):Gt g a c:=
 ⟨k.os.trans h.os,k.output.trans h.output,Nat.le_trans h.size k.size,fun i hi hn=>(k.block i (Nat.lt_of_lt_of_le hi h.size) hn).trans (h.block i hi hn)⟩
theorem Gt.of_gr {g:Nat} {w w':World} (h:Gr w w'):Gt g w w':=⟨h.os,h.output,h.size,fun k hk _=>h.block k hk⟩
theorem Gt.setCell {g:Nat} {a w:World} (h:Gt g a w) {p:Addr} (hp:p.block=g) (u:Value):Gt g a (w.setCell p u):=
 ⟨h.os,h.output,by simpa [World.setCell] using h.size,fun k hk hn=>(Below.heap_setCell _ _ _ _ (by omega)).trans (h.block k hk hn)⟩
theorem Gt.gr {g:Nat} {a w w':World} (h:Gr a w) (k:Gt g w w') (hg:a.heap.size<=g):Gr a w':=
 ⟨k.os.trans h.os,k.output.trans h.output,Nat.le_trans h.size k.size,fun i hi=>(k.block i (Nat.lt_of_lt_of_le hi h.size) (by omega)).trans (h.block i hi)⟩
theorem Gt.drew {g:Nat} {a w:World} (h:Gt g a w):Gt g a w.drew:=⟨h.os,h.output,h.size,h.block⟩
theorem Gt.drewN {g:Nat} {a w:World} (h:Gt g a w) (n:Nat):Gt g a (w.drewN n):=⟨h.os,h.output,h.size,h.block⟩
theorem Row.gt {g:Nat} {w w':World} {ad:Option Addr} {n cap:Nat} {xs:List Nat} (h:Row w ad n cap xs) (k:Gt g w w') (hne:0<n->∀b,ad=some b->b.block≠g):Row w' ad n cap xs:=by
 refine⟨h.len,h.le,h.max,h.nil,fun hp=>?_⟩
 obtain⟨b,off,e,hb,hc⟩:=h.cells hp
 refine⟨b,off,e,Nat.lt_of_lt_of_le hb k.size,fun j hj=>?_⟩
 rw[World.cell?_of_block (w:=w) (a:=⟨b,off+j,none⟩) (k.block b hb (hne hp _ e))]
 exact hc j hj
theorem OU.gt {f g:Nat} {w w':World} {N C:Nat} {zs:List Nat} (h:OU w f N C zs) (k:Gt g w w') (hne:f≠g):OU w' f N C zs:=by
 refine⟨h.1,?_⟩
 rcases h.2 with hn|⟨g',cap,cur,e1,hb,hgg,rest⟩
 ·exact .inl hn
 ·refine .inr ⟨g',cap,cur,e1,hb,?_,rest⟩
  have:g'=f:=by
   simp only[Value.slice.injEq,Option.some.injEq,Addr.mk.injEq] at e1
   exact e1.1.1.symm
  rw[k.block g' (Array.getElem?_eq_some_iff.1 hgg).1 (by omega)]
  exact hgg
set_option maxHeartbeats 1600000 in
theorem putTimesT (g N C k m2 cp x:Nat) (ad2:Option Addr) (n2 c2:Nat) (ys zs0:List Nat) (w:World) (ry:Row w ad2 n2 c2 ys) (hne:0<n2->∀b,ad2=some b->b.block≠g) (hy:∀x∈ys,x<18446744073709551616) (bx:x<18446744073709551616) (h0:∀z∈zs0,z<18446744073709551616)
  (hkN:k+n2<=N) (hNm:N<=4398046511104) (hm2:n2<=m2) (hcp:m2<=cp) (hcp2:cp<=9223372036854775807) (how:OU w g N C zs0) :
  Calls Try.prog 69 #[.slice (some ⟨g,k,none⟩) m2 cp,.slice ad2 n2 c2,.int .u64 (x:Int)] w fun e w'=>∃(c:Nat) (zs:List Nat),e = .returned (.int .u64 (c:Int))/\c<18446744073709551616/\Hid (MulAt ys zs zs0 k n2 x c N)/\Hid (OU w' g N C zs)/\Hid (Gt g w w'):=by
 have RY:Hid (∀w',Gt g w w'->Row w' ad2 n2 c2 ys):=fun w' k=>ry.gt k hne
 have HY:Hid (∀x∈ys,x<18446744073709551616):=hy
 have H0:Hid (∀x∈zs0,x<18446744073709551616):=h0
 have HO:Hid (OU w g N C zs0):=how
 have hl2:=ry.le
 have hm3:=ry.max
 clear ry hy h0 hne how
 go_enter Try.func69,Try.ntmps69
 go_wp2
 go_loopw [7,19] (fun cr i wr=>∃(j c:Nat) (zs:List Nat),j<=n2/\c<18446744073709551616/\i = .int .i64 (j:Int)/\cr = .int .u64 (c:Int)/\Hid (OU wr g N C zs)/\Hid (MulAt ys zs zs0 k j x c N)/\Hid (Gt g w wr)) (fun _ i _=>n2-(intOf i).toNat)
 case atStart=>exact⟨0,0,zs0,by omega,by omega,rfl,rfl,HO,⟨HO.out.len,H0.out,by simp[nv],fun _ _=>rfl⟩,Gt.refl _ _⟩
 case round =>
  obtain⟨j,c,zs,hj,hc,rfl,rfl,hown,hA,hg⟩:=hrel
  by_cases hlt:j<n2
  ·obtain⟨p2,o2,hp2e,hp2,hc2⟩:=(RY.out wr hg.out).cells (by omega)
   have hcell2:=hc2 j hlt
   have hcell3:=hown.out.cell (k+j) (by omega)
   have hfz:=hown.out.fz (k+j)
   subst hp2e
   obtain⟨yk,hyk⟩:∃yk,yk=ys.getD j 0:=⟨_,rfl⟩
   obtain⟨ok,hok⟩:∃ok,ok=zs.getD (k+j) 0:=⟨_,rfl⟩
   rw[<-hyk] at hcell2
   rw[<-hok] at hcell3
   have byk:yk<18446744073709551616:=hyk ▸ getD_lt (by omega) HY.out j
   have bok:ok<18446744073709551616:=hok ▸ getD_lt (by omega) hA.out.lt (k+j)
   have NX:=hA.out.next (by omega) hok hyk
   have MUL:=fun w=>Try.bits_Mul64 yk x byk bx w
   have hm:=prod_le bx byk
   rw[Nat.mul_comm yk x] at MUL
   clear hyk hok hc2
   generalize x*yk=m at *
   obtain⟨hi,hhi⟩:∃hi,hi=m / 18446744073709551616:=⟨_,rfl⟩
   obtain⟨lo,hlo⟩:∃lo,lo=m % 18446744073709551616:=⟨_,rfl⟩
   rw[<-hhi,<-hlo] at MUL
   have M:Hid (∀w1,Calls Try.prog 84 #[.int .u64 (yk:Int),.int .u64 (x:Int)] w1 fun e w'=>e = .returned (.tuple #[.int .u64 (hi:Int),.int .u64 (lo:Int)])/\w'=w1):=MUL
   have A1:=fun w=>add64N lo c 0 (by omega) w
   obtain⟨l1,hl1⟩:∃l1,l1=(lo+c+0) % 18446744073709551616:=⟨_,rfl⟩
   obtain⟨m1,hm1⟩:∃m1,m1=(lo+c+0) / 18446744073709551616:=⟨_,rfl⟩
   rw[<-hl1,<-hm1] at A1
   have A1':Hid (∀w,(callFunc 73 #[.int .u64 (lo:Int),.int .u64 (c:Int),.int .u64 0]).run Try.prog w = .ok (.value (.tuple #[.int .u64 (l1:Int),.int .u64 (m1:Int)])) w):=A1
   have A2:=fun w=>add64N l1 ok 0 (by omega) w
   obtain⟨l2,hl2'⟩:∃l2,l2=(l1+ok+0) % 18446744073709551616:=⟨_,rfl⟩
   obtain⟨m2',hm2'⟩:∃m2,m2=(l1+ok+0) / 18446744073709551616:=⟨_,rfl⟩
   rw[<-hl2',<-hm2'] at A2
   have A2':Hid (∀w,(callFunc 73 #[.int .u64 (l1:Int),.int .u64 (ok:Int),.int .u64 0]).run Try.prog w = .ok (.value (.tuple #[.int .u64 (l2:Int),.int .u64 (m2':Int)])) w):=A2
   have e1:(m+ok+c) % 18446744073709551616=l2:=by omega
   have e2:(m+ok+c) / 18446744073709551616=hi+m1+m2':=by omega
   have b1:hi+m1+m2'<18446744073709551616:=by omega
   rw[e1,e2] at NX
   have NX':Hid (MulAt ys (zs.set (k+j) l2) zs0 k (j+1) x (hi+m1+m2') N):=NX
   clear NX e1 e2 A1 A2 MUL hhi hlo hl1 hm1 hl2' hm2' hm
   have i1:(j:Int)<(n2:Int):=by omega
   go_wp2_with (first|(simp only[A1'.out])|(simp only[A2'.out])|(go_at_call 84;with_reducible refine(M.out _).mono ?_;rintro e w' ⟨rfl,rfl⟩))
   go_roundw
   case rel=>exact⟨j+1,hi+m1+m2',_,by omega,b1,by go_num,by go_num,hown.out.set (k+j) l2,NX',hg.out.setCell rfl _⟩
   case measure=>simp only[intOf];omega
  ·have hk2:j=n2:=by omega
   subst hk2
   go_wp2
   go_ret
   exact⟨c,zs,rfl,hc,hA,hown,hg⟩
structure TimT (xs ys zs:List Nat) (k N:Nat):Prop where
 len:zs.length=N
 lt:∀x∈zs,x<18446744073709551616
 val:nv 18446744073709551616 zs=nv 18446744073709551616 (xs.take k)*nv 18446744073709551616 ys
 zero:∀j,k+ys.length<=j->zs.getD j 0=0
theorem TimT.start {xs ys:List Nat} {N:Nat}:TimT xs ys (List.replicate N 0) 0 N:=
 ⟨by simp,(fun x hx=>by rw[List.mem_replicate] at hx;omega),by simp[nv,nv_zeros],(fun j _=>by rw[List.getD_eq_getElem?_getD,List.getElem?_replicate];split <;> rfl)⟩
theorem TimT.next {xs ys zs zs0:List Nat} {k n2 N x c:Nat} (h:TimT xs ys zs0 k N) (m:MulAt ys zs zs0 k n2 x c N) (hk:k+n2<N) (hn:ys.length=n2) (hx:x=xs.getD k 0) (hc:c<18446744073709551616) :
  TimT xs ys (zs.set (k+n2) c) (k+1) N:=by
 have hl:=m.len
 refine⟨by rw[List.length_set];exact hl,set_lt m.lt hc,?_,?_⟩
 ·have h1:=nv_set 18446744073709551616 zs (k+n2) c (by omega)
  rw[m.rest _ (Nat.le_refl _),h.zero _ (by omega),Nat.mul_zero,Nat.add_zero,m.val,h.val,nv_take_all _ ys _ (by omega)] at h1
  rw[h1,nv_take_succ,Nat.add_mul,<-hx,Nat.mul_assoc]
 ·intro j hj
  rw[getD_set _ _ _ _ (by omega),if_neg (by omega),m.rest j (by omega)]
  exact h.zero j (by omega)
theorem far1T {w:World} {p:Addr} {v:Value} {B i:Nat} (hb:p.block≠B) (h:w.cell? p=some v) (u:Value):(w.setCell ⟨B,i,none⟩ u).cell? p=some v:=
 (World.cell?_of_block (w:=w) (a:=p) (Below.heap_setCell _ _ _ _ hb)).trans h
theorem farT {g:Nat} {w w':World} (k:Gt g w w') {b o:Nat} {v:Value} (hb:b≠g) (h:w.cell? ⟨b,o,none⟩=some v):w'.cell? ⟨b,o,none⟩=some v:=
 (World.cell?_of_block (w:=w) (a:=⟨b,o,none⟩) (k.block b (lt_of_cell' h) hb)).trans h
def R467 (t2 t3 t4 t7 t8 t9 t10 t11 t12 t13 t14 t15 t16 t17 t18 t19 t20 t21 t22 t23 t24 t25 t26 t27 t28 t29 t30 t31 t32 t33 t34 t35 t36 t37 t38 t39 t40 t41 t42 t43 t44 t45:Value) (ad:Option Addr) (pb ob g J n1 c1 n2 c2 N x Q:Nat) (ys zs0:List Nat) (wq:World):Exit->Act->World->Prop
 | .normal,a,w=>∃u25 u26 u27 u28 u29 u30 u31 u32 u33 u34 u35 u36 u37 u38 u39 u40 u41 u42 u43 c zs,a = {tmps:=#[.slice ad n1 c1,.slice (some ⟨pb,ob,none⟩) n2 c2,t2,t3,t4,.slice (some ⟨g,0,none⟩) N N,.int .i64 (J:Int),t7,t8,t9,t10,t11,t12,t13,t14,t15,t16,t17,t18,t19,t20,t21,t22,t23,t24,u25,u26,u27,u28,u29,u30,u31,u32,u33,u34,u35,u36,u37,u38,u39,u40,u41,u42,u43,t44,t45],defers:=[]}/\c<18446744073709551616/\Hid (MulAt ys zs zs0 J n1 x c N)/\OU w g N N (zs.set Q c)/\Gt g wq w
 | _,_,_=>False
set_option maxRecDepth 100000 in
set_option maxHeartbeats 20000000 in
theorem reg467 (t2 t3 t4 t7 t8 t9 t10 t11 t12 t13 t14 t15 t16 t17 t18 t19 t20 t21 t22 t23 t24 t25 t26 t27 t28 t29 t30 t31 t32 t33 t34 t35 t36 t37 t38 t39 t40 t41 t42 t43 t44 t45:Value) (ad:Option Addr) (pb ob g J n1 c1 n2 c2 N x Q:Nat) (ys zs0:List Nat) (wq:World)
  (PT:Hid (∀(cp:Nat),n1<=cp->cp<=9223372036854775807->Calls Try.prog 69 #[.slice (some ⟨g,J,none⟩) n1 cp,.slice ad n1 c1,.int .u64 (x:Int)] wq.drew fun e w'=>∃(c:Nat) (zs:List Nat),e = .returned (.int .u64 (c:Int))/\c<18446744073709551616/\Hid (MulAt ys zs zs0 J n1 x c N)/\Hid (OU w' g N N zs)/\Hid (Gt g wq.drew w')))
  (hcs:wq.cell? ⟨pb,ob+J,none⟩=some (.int .u64 (x:Int))) (i1:(J:Int)<(n2:Int)) (e1:IntKind.i64.wrap ((J:Int)+(n1:Int))=(Q:Int)) (hQ:Q=J+n1) (hN:J+n1<N) (hNm:N<=4398046511104) (hnb:pb≠g) :
  Code.wp Try.prog (Code.region 7 #[{dst:=some 25,op:=Op.move (Operand.tmp 5),type:=22,pos:= "size.go:21",after:=#[],guard:=none},{dst:=some 26,op:=Op.move (Operand.tmp 6),type:=3,pos:= "size.go:21",after:=#[],guard:=none},{dst:=some 27,op:=Op.move (Operand.tmp 0),type:=22,pos:= "size.go:21",after:=#[],guard:=none},{dst:=some 28,op:=Op.call {callee:=Callee.builtin Builtin.len,args:=#[Operand.tmp 27],argTypes:=#[22]},type:=3,pos:= "size.go:21",after:=#[{on:=2,ground:=Ground.data}],guard:=none},{dst:=some 29,op:=Op.binOp BinOp.add 3 (Operand.tmp 26) (Operand.tmp 28) 3,type:=3,pos:= "size.go:21",after:=#[{on:=1,ground:=Ground.data},{on:=3,ground:=Ground.data}],guard:=none},{dst:=some 30,op:=Op.move (Operand.tmp 5),type:=22,pos:= "size.go:21",after:=#[],guard:=none},{dst:=some 31,op:=Op.move (Operand.tmp 6),type:=3,pos:= "size.go:21",after:=#[],guard:=none},{dst:=some 32,op:=Op.move (Operand.tmp 6),type:=3,pos:= "size.go:21",after:=#[],guard:=none},{dst:=some 33,op:=Op.move (Operand.tmp 0),type:=22,pos:= "size.go:21",after:=#[],guard:=none},{dst:=some 34,op:=Op.call {callee:=Callee.builtin Builtin.len,args:=#[Operand.tmp 33],argTypes:=#[22]},type:=3,pos:= "size.go:21",after:=#[{on:=8,ground:=Ground.data}],guard:=none},{dst:=some 35,op:=Op.binOp BinOp.add 3 (Operand.tmp 32) (Operand.tmp 34) 3,type:=3,pos:= "size.go:21",after:=#[{on:=7,ground:=Ground.data},{on:=9,ground:=Ground.data}],guard:=none},{dst:=some 36,op:=Op.slice 22 (Operand.tmp 30) (some (Operand.tmp 31)) (some (Operand.tmp 35)) none,type:=22,pos:= "size.go:21",after:=#[{on:=5,ground:=Ground.data},{on:=6,ground:=Ground.data},{on:=10,ground:=Ground.data}],guard:=none},{dst:=some 37,op:=Op.move (Operand.tmp 0),type:=22,pos:= "size.go:21",after:=#[],guard:=none},{dst:=some 38,op:=Op.move (Operand.tmp 1),type:=22,pos:= "size.go:21",after:=#[],guard:=none},{dst:=some 39,op:=Op.move (Operand.tmp 6),type:=3,pos:= "size.go:21",after:=#[],guard:=none},{dst:=some 40,op:=Op.indexAddr 22 (Operand.tmp 38) (Operand.tmp 39),type:=0,pos:= "size.go:21",after:=#[{on:=13,ground:=Ground.data},{on:=14,ground:=Ground.data}],guard:=none},{dst:=some 41,op:=Op.load 52 (Operand.tmp 40),type:=52,pos:= "size.go:21",after:=#[{on:=15,ground:=Ground.data}],guard:=none},{dst:=some 42,op:=Op.call {callee:=Callee.value (Operand.func 69),args:=#[Operand.tmp 36,Operand.tmp 37,Operand.tmp 41],argTypes:=#[22,22,52]},type:=52,pos:= "size.go:21",after:=#[{on:=11,ground:=Ground.data},{on:=12,ground:=Ground.data},{on:=16,ground:=Ground.data}],guard:=none},{dst:=some 43,op:=Op.indexAddr 22 (Operand.tmp 25) (Operand.tmp 29),type:=0,pos:= "size.go:21",after:=#[{on:=0,ground:=Ground.data},{on:=4,ground:=Ground.data},{on:=0,ground:=Ground.phase},{on:=1,ground:=Ground.phase},{on:=2,ground:=Ground.phase},{on:=3,ground:=Ground.phase},{on:=4,ground:=Ground.phase},{on:=5,ground:=Ground.phase},{on:=6,ground:=Ground.phase},{on:=7,ground:=Ground.phase},{on:=8,ground:=Ground.phase},{on:=9,ground:=Ground.phase},{on:=10,ground:=Ground.phase},{on:=11,ground:=Ground.phase},{on:=12,ground:=Ground.phase},{on:=13,ground:=Ground.phase},{on:=14,ground:=Ground.phase},{on:=15,ground:=Ground.phase},{on:=16,ground:=Ground.phase},{on:=17,ground:=Ground.phase}],guard:=none},{dst:=none,op:=Op.store 52 (Operand.tmp 43) (Operand.tmp 42),type:=0,pos:= "size.go:21",after:=#[{on:=18,ground:=Ground.data},{on:=17,ground:=Ground.data},{on:=17,ground:=Ground.chain},{on:=0,ground:=Ground.phase},{on:=1,ground:=Ground.phase},{on:=2,ground:=Ground.phase},{on:=3,ground:=Ground.phase},{on:=4,ground:=Ground.phase},{on:=5,ground:=Ground.phase},{on:=6,ground:=Ground.phase},{on:=7,ground:=Ground.phase},{on:=8,ground:=Ground.phase},{on:=9,ground:=Ground.phase},{on:=10,ground:=Ground.phase},{on:=11,ground:=Ground.phase},{on:=12,ground:=Ground.phase},{on:=13,ground:=Ground.phase},{on:=14,ground:=Ground.phase},{on:=15,ground:=Ground.phase},{on:=16,ground:=Ground.phase},{on:=17,ground:=Ground.phase}],guard:=none}] true) (R467 t2 t3 t4 t7 t8 t9 t10 t11 t12 t13 t14 t15 t16 t17 t18 t19 t20 t21 t22 t23 t24 t25 t26 t27 t28 t29 t30 t31 t32 t33 t34 t35 t36 t37 t38 t39 t40 t41 t42 t43 t44 t45 ad pb ob g J n1 c1 n2 c2 N x Q ys zs0 wq) {tmps:=#[.slice ad n1 c1,.slice (some ⟨pb,ob,none⟩) n2 c2,t2,t3,t4,.slice (some ⟨g,0,none⟩) N N,.int .i64 (J:Int),t7,t8,t9,t10,t11,t12,t13,t14,t15,t16,t17,t18,t19,t20,t21,t22,t23,t24,t25,t26,t27,t28,t29,t30,t31,t32,t33,t34,t35,t36,t37,t38,t39,t40,t41,t42,t43,t44,t45],defers:=[]} wq:=by
 have hS0:wq.drew.cell? ⟨pb,ob+J,none⟩=some (.int .u64 (x:Int))/\Gt g wq wq.drew:=⟨hcs,(Gt.refl g wq).drew⟩
 have e3:Q-J=n1:=by omega
 have i2:(Q:Int)<(N:Int):=by omega
 have i5:(Q:Int)<=(N:Int):=by omega
 have i3:J<=Q:=by omega
 have i4:Q<=N:=by omega
 have i8:Q<N:=by omega
 have i7:¬N=J:=by omega
 have cA:n1<=N-J:=by omega
 have cB:N-J<=9223372036854775807:=by omega
 clear hQ
 clear hcs
 refine wp_region_held_drew (S:=fun w'=>w'.cell? ⟨pb,ob+J,none⟩=some (.int .u64 (x:Int))/\Gt g wq w') (by kernel_rfl) hS0 (fun hHeld=>?_)
 clear hS0
 generalize wq.drew=wd at *
 refine wpAnyH_take (i:=0) (oi:=({dst:=some 25,op:=Op.move (Operand.tmp 5),type:=22,pos:= "size.go:21",after:=#[],guard:=none}:Oper)) (v:=?_) rfl (by kernel_rfl) (by kernel_rfl) (by kernel_rfl) (fun _ _ _ h=>h) (Or.inl ⟨by rfl,?_⟩) (by with_reducible assumption) ?_
 rotate_left
 ·intro w hSw
  (try dsimp only at hSw)
  first|(go_simp;done)|(go_simp;with_reducible rfl)
 (try simp only[Act.put,List.setIfInBounds_toArray,List.set_cons_zero,List.set_cons_succ])
 refine wpAnyH_take (i:=1) (oi:=({dst:=some 26,op:=Op.move (Operand.tmp 6),type:=3,pos:= "size.go:21",after:=#[],guard:=none}:Oper)) (v:=?_) rfl (by kernel_rfl) (by kernel_rfl) (by kernel_rfl) (fun _ _ _ h=>h) (Or.inl ⟨by rfl,?_⟩) (by with_reducible assumption) ?_
 rotate_left
 ·intro w hSw
  (try dsimp only at hSw)
  first|(go_simp;done)|(go_simp;with_reducible rfl)
 (try simp only[Act.put,List.setIfInBounds_toArray,List.set_cons_zero,List.set_cons_succ])
 refine wpAnyH_take (i:=2) (oi:=({dst:=some 27,op:=Op.move (Operand.tmp 0),type:=22,pos:= "size.go:21",after:=#[],guard:=none}:Oper)) (v:=?_) rfl (by kernel_rfl) (by kernel_rfl) (by kernel_rfl) (fun _ _ _ h=>h) (Or.inl ⟨by rfl,?_⟩) (by with_reducible assumption) ?_
 rotate_left
 ·intro w hSw
  (try dsimp only at hSw)
  first|(go_simp;done)|(go_simp;with_reducible rfl)
 (try simp only[Act.put,List.setIfInBounds_toArray,List.set_cons_zero,List.set_cons_succ])
 refine wpAnyH_take (i:=3) (oi:=({dst:=some 28,op:=Op.call {callee:=Callee.builtin Builtin.len,args:=#[Operand.tmp 27],argTypes:=#[22]},type:=3,pos:= "size.go:21",after:=#[{on:=2,ground:=Ground.data}],guard:=none}:Oper)) (v:=?_) rfl (by kernel_rfl) (by kernel_rfl) (by kernel_rfl) (fun _ _ _ h=>h) (Or.inl ⟨by rfl,?_⟩) (by with_reducible assumption) ?_
 rotate_left
 ·intro w hSw
  (try dsimp only at hSw)
  first|(go_simp;done)|(go_simp;with_reducible rfl)
 (try simp only[Act.put,List.setIfInBounds_toArray,List.set_cons_zero,List.set_cons_succ])
 refine wpAnyH_take (i:=4) (oi:=({dst:=some 29,op:=Op.binOp BinOp.add 3 (Operand.tmp 26) (Operand.tmp 28) 3,type:=3,pos:= "size.go:21",after:=#[{on:=1,ground:=Ground.data},{on:=3,ground:=Ground.data}],guard:=none}:Oper)) (v:=?_) rfl (by kernel_rfl) (by kernel_rfl) (by kernel_rfl) (fun _ _ _ h=>h) (Or.inl ⟨by rfl,?_⟩) (by with_reducible assumption) ?_
 rotate_left
 ·intro w hSw
  (try dsimp only at hSw)
  first|(go_simp;done)|(go_simp;with_reducible rfl)
 (try simp only[Act.put,List.setIfInBounds_toArray,List.set_cons_zero,List.set_cons_succ])
 refine wpAnyH_take (i:=5) (oi:=({dst:=some 30,op:=Op.move (Operand.tmp 5),type:=22,pos:= "size.go:21",after:=#[],guard:=none}:Oper)) (v:=?_) rfl (by kernel_rfl) (by kernel_rfl) (by kernel_rfl) (fun _ _ _ h=>h) (Or.inl ⟨by rfl,?_⟩) (by with_reducible assumption) ?_
 rotate_left
 ·intro w hSw
  (try dsimp only at hSw)
  first|(go_simp;done)|(go_simp;with_reducible rfl)
 (try simp only[Act.put,List.setIfInBounds_toArray,List.set_cons_zero,List.set_cons_succ])
 refine wpAnyH_take (i:=6) (oi:=({dst:=some 31,op:=Op.move (Operand.tmp 6),type:=3,pos:= "size.go:21",after:=#[],guard:=none}:Oper)) (v:=?_) rfl (by kernel_rfl) (by kernel_rfl) (by kernel_rfl) (fun _ _ _ h=>h) (Or.inl ⟨by rfl,?_⟩) (by with_reducible assumption) ?_
 rotate_left
 ·intro w hSw
  (try dsimp only at hSw)
  first|(go_simp;done)|(go_simp;with_reducible rfl)
 (try simp only[Act.put,List.setIfInBounds_toArray,List.set_cons_zero,List.set_cons_succ])
 refine wpAnyH_take (i:=7) (oi:=({dst:=some 32,op:=Op.move (Operand.tmp 6),type:=3,pos:= "size.go:21",after:=#[],guard:=none}:Oper)) (v:=?_) rfl (by kernel_rfl) (by kernel_rfl) (by kernel_rfl) (fun _ _ _ h=>h) (Or.inl ⟨by rfl,?_⟩) (by with_reducible assumption) ?_
 rotate_left
 ·intro w hSw
  (try dsimp only at hSw)
  first|(go_simp;done)|(go_simp;with_reducible rfl)
 (try simp only[Act.put,List.setIfInBounds_toArray,List.set_cons_zero,List.set_cons_succ])
 refine wpAnyH_take (i:=8) (oi:=({dst:=some 33,op:=Op.move (Operand.tmp 0),type:=22,pos:= "size.go:21",after:=#[],guard:=none}:Oper)) (v:=?_) rfl (by kernel_rfl) (by kernel_rfl) (by kernel_rfl) (fun _ _ _ h=>h) (Or.inl ⟨by rfl,?_⟩) (by with_reducible assumption) ?_
 rotate_left
 ·intro w hSw
  (try dsimp only at hSw)
  first|(go_simp;done)|(go_simp;with_reducible rfl)
 (try simp only[Act.put,List.setIfInBounds_toArray,List.set_cons_zero,List.set_cons_succ])
 refine wpAnyH_take (i:=9) (oi:=({dst:=some 34,op:=Op.call {callee:=Callee.builtin Builtin.len,args:=#[Operand.tmp 33],argTypes:=#[22]},type:=3,pos:= "size.go:21",after:=#[{on:=8,ground:=Ground.data}],guard:=none}:Oper)) (v:=?_) rfl (by kernel_rfl) (by kernel_rfl) (by kernel_rfl) (fun _ _ _ h=>h) (Or.inl ⟨by rfl,?_⟩) (by with_reducible assumption) ?_
 rotate_left
 ·intro w hSw
  (try dsimp only at hSw)
  first|(go_simp;done)|(go_simp;with_reducible rfl)
 (try simp only[Act.put,List.setIfInBounds_toArray,List.set_cons_zero,List.set_cons_succ])
 refine wpAnyH_take (i:=10) (oi:=({dst:=some 35,op:=Op.binOp BinOp.add 3 (Operand.tmp 32) (Operand.tmp 34) 3,type:=3,pos:= "size.go:21",after:=#[{on:=7,ground:=Ground.data},{on:=9,ground:=Ground.data}],guard:=none}:Oper)) (v:=?_) rfl (by kernel_rfl) (by kernel_rfl) (by kernel_rfl) (fun _ _ _ h=>h) (Or.inl ⟨by rfl,?_⟩) (by with_reducible assumption) ?_
 rotate_left
 ·intro w hSw
  (try dsimp only at hSw)
  first|(go_simp;done)|(go_simp;with_reducible rfl)
 (try simp only[Act.put,List.setIfInBounds_toArray,List.set_cons_zero,List.set_cons_succ])
 refine wpAnyH_take (i:=11) (oi:=({dst:=some 36,op:=Op.slice 22 (Operand.tmp 30) (some (Operand.tmp 31)) (some (Operand.tmp 35)) none,type:=22,pos:= "size.go:21",after:=#[{on:=5,ground:=Ground.data},{on:=6,ground:=Ground.data},{on:=10,ground:=Ground.data}],guard:=none}:Oper)) (v:=?_) rfl (by kernel_rfl) (by kernel_rfl) (by kernel_rfl) (fun _ _ _ h=>h) (Or.inl ⟨by rfl,?_⟩) (by with_reducible assumption) ?_
 rotate_left
 ·intro w hSw
  (try dsimp only at hSw)
  first|(go_simp;done)|(go_simp;with_reducible rfl)
 (try simp only[Act.put,List.setIfInBounds_toArray,List.set_cons_zero,List.set_cons_succ])
 refine wpAnyH_take (i:=12) (oi:=({dst:=some 37,op:=Op.move (Operand.tmp 0),type:=22,pos:= "size.go:21",after:=#[],guard:=none}:Oper)) (v:=?_) rfl (by kernel_rfl) (by kernel_rfl) (by kernel_rfl) (fun _ _ _ h=>h) (Or.inl ⟨by rfl,?_⟩) (by with_reducible assumption) ?_
 rotate_left
 ·intro w hSw
  (try dsimp only at hSw)
  first|(go_simp;done)|(go_simp;with_reducible rfl)
 (try simp only[Act.put,List.setIfInBounds_toArray,List.set_cons_zero,List.set_cons_succ])
 refine wpAnyH_take (i:=13) (oi:=({dst:=some 38,op:=Op.move (Operand.tmp 1),type:=22,pos:= "size.go:21",after:=#[],guard:=none}:Oper)) (v:=?_) rfl (by kernel_rfl) (by kernel_rfl) (by kernel_rfl) (fun _ _ _ h=>h) (Or.inl ⟨by rfl,?_⟩) (by with_reducible assumption) ?_
 rotate_left
 ·intro w hSw
  (try dsimp only at hSw)
  first|(go_simp;done)|(go_simp;with_reducible rfl)
 (try simp only[Act.put,List.setIfInBounds_toArray,List.set_cons_zero,List.set_cons_succ])
 refine wpAnyH_take (i:=14) (oi:=({dst:=some 39,op:=Op.move (Operand.tmp 6),type:=3,pos:= "size.go:21",after:=#[],guard:=none}:Oper)) (v:=?_) rfl (by kernel_rfl) (by kernel_rfl) (by kernel_rfl) (fun _ _ _ h=>h) (Or.inl ⟨by rfl,?_⟩) (by with_reducible assumption) ?_
 rotate_left
 ·intro w hSw
  (try dsimp only at hSw)
  first|(go_simp;done)|(go_simp;with_reducible rfl)
 (try simp only[Act.put,List.setIfInBounds_toArray,List.set_cons_zero,List.set_cons_succ])
 refine wpAnyH_take (i:=15) (oi:=({dst:=some 40,op:=Op.indexAddr 22 (Operand.tmp 38) (Operand.tmp 39),type:=0,pos:= "size.go:21",after:=#[{on:=13,ground:=Ground.data},{on:=14,ground:=Ground.data}],guard:=none}:Oper)) (v:=?_) rfl (by kernel_rfl) (by kernel_rfl) (by kernel_rfl) (fun _ _ _ h=>h) (Or.inl ⟨by rfl,?_⟩) (by with_reducible assumption) ?_
 rotate_left
 ·intro w hSw
  (try dsimp only at hSw)
  first|(go_simp;done)|(go_simp;with_reducible rfl)
 (try simp only[Act.put,List.setIfInBounds_toArray,List.set_cons_zero,List.set_cons_succ])
 refine wpAnyH_take (i:=16) (oi:=({dst:=some 41,op:=Op.load 52 (Operand.tmp 40),type:=52,pos:= "size.go:21",after:=#[{on:=15,ground:=Ground.data}],guard:=none}:Oper)) (v:=?_) rfl (by kernel_rfl) (by kernel_rfl) (by kernel_rfl) (fun _ _ _ h=>h) (Or.inl ⟨by rfl,?_⟩) (by with_reducible assumption) ?_
 rotate_left
 ·intro w hSw
  (try dsimp only at hSw)
  first|(go_simp;done)|(go_simp;with_reducible rfl)
 (try simp only[Act.put,List.setIfInBounds_toArray,List.set_cons_zero,List.set_cons_succ])
 refine wpAnyH_ready (rs:=[17]) (by kernel_rfl) (by simp) ?_
 refine AllReadyH.cons (o:=({dst:=some 42,op:=Op.call {callee:=Callee.value (Operand.func 69),args:=#[Operand.tmp 36,Operand.tmp 37,Operand.tmp 41],argTypes:=#[22,22,52]},type:=52,pos:= "size.go:21",after:=#[{on:=11,ground:=Ground.data},{on:=12,ground:=Ground.data},{on:=16,ground:=Ground.data}],guard:=none}:Oper)) rfl (fun K hK=>?_) AllReadyH.nil
 go_simp
 with_reducible refine(PT.out _ cA cB).mono ?_
 rintro r wc1 ⟨cc,zz,rfl,hcc,hM,hO,hG⟩
 refine hK.out _ _ ⟨farT hG.out hnb hHeld.1,hHeld.2.trans hG.out⟩ (fun hH2=>?_)
 clear hK K
 (try simp only[Act.put,List.setIfInBounds_toArray,List.set_cons_zero,List.set_cons_succ])
 refine wpAnyH_take (i:=18) (oi:=({dst:=some 43,op:=Op.indexAddr 22 (Operand.tmp 25) (Operand.tmp 29),type:=0,pos:= "size.go:21",after:=#[{on:=0,ground:=Ground.data},{on:=4,ground:=Ground.data},{on:=0,ground:=Ground.phase},{on:=1,ground:=Ground.phase},{on:=2,ground:=Ground.phase},{on:=3,ground:=Ground.phase},{on:=4,ground:=Ground.phase},{on:=5,ground:=Ground.phase},{on:=6,ground:=Ground.phase},{on:=7,ground:=Ground.phase},{on:=8,ground:=Ground.phase},{on:=9,ground:=Ground.phase},{on:=10,ground:=Ground.phase},{on:=11,ground:=Ground.phase},{on:=12,ground:=Ground.phase},{on:=13,ground:=Ground.phase},{on:=14,ground:=Ground.phase},{on:=15,ground:=Ground.phase},{on:=16,ground:=Ground.phase},{on:=17,ground:=Ground.phase}],guard:=none}:Oper)) (v:=?_) rfl (by kernel_rfl) (by kernel_rfl) (by kernel_rfl) (fun _ _ _ h=>h) (Or.inl ⟨by rfl,?_⟩) (by with_reducible assumption) ?_
 rotate_left
 ·intro w hSw
  (try dsimp only at hSw)
  first|(go_simp;done)|(go_simp;with_reducible rfl)
 (try simp only[Act.put,List.setIfInBounds_toArray,List.set_cons_zero,List.set_cons_succ])
 refine wpAnyH_ready (rs:=[19]) (by kernel_rfl) (by simp) ?_
 refine AllReadyH.cons (o:=({dst:=none,op:=Op.store 52 (Operand.tmp 43) (Operand.tmp 42),type:=0,pos:= "size.go:21",after:=#[{on:=18,ground:=Ground.data},{on:=17,ground:=Ground.data},{on:=17,ground:=Ground.chain},{on:=0,ground:=Ground.phase},{on:=1,ground:=Ground.phase},{on:=2,ground:=Ground.phase},{on:=3,ground:=Ground.phase},{on:=4,ground:=Ground.phase},{on:=5,ground:=Ground.phase},{on:=6,ground:=Ground.phase},{on:=7,ground:=Ground.phase},{on:=8,ground:=Ground.phase},{on:=9,ground:=Ground.phase},{on:=10,ground:=Ground.phase},{on:=11,ground:=Ground.phase},{on:=12,ground:=Ground.phase},{on:=13,ground:=Ground.phase},{on:=14,ground:=Ground.phase},{on:=15,ground:=Ground.phase},{on:=16,ground:=Ground.phase},{on:=17,ground:=Ground.phase}],guard:=none}:Oper)) rfl (fun K hK=>?_) AllReadyH.nil
 have x0':=hO.out.cell Q i8
 have y0':=hO.out.fz Q
 go_simp
 refine hK.out _ _ ⟨far1T hnb hH2.1 _,hH2.2.setCell rfl _⟩ (fun hS3=>?_)
 clear hK K x0' y0'
 (try simp only[Act.put,List.setIfInBounds_toArray,List.set_cons_zero,List.set_cons_succ])
 refine wpAnyH_done (by kernel_rfl) ?_ _
 exact⟨_,_,_,_,_,_,_,_,_,_,_,_,_,_,_,_,_,_,_,cc,zz,rfl,hcc,hM,hO.out.set Q cc,hS3.2⟩
end Go.Proofs.Ytmdakhpdofepeaa
