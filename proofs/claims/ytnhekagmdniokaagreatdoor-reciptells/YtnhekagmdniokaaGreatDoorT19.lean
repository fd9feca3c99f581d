import Derived.Test.YtnhekagmdniokaaGreatDoorT04
import Derived.Test.YtnhekagmdniokaaGreatDoorT15
import Derived.Test.YtnhekagmdniokaaGreatDoorT18
namespace Go.Proofs.YtnhekagmdniokaaGreatDoor
open Go.RowKit
set_option linter.unusedVariables false
set_option linter.unusedSimpArgs false
set_option maxRecDepth 8000 in
set_option maxHeartbeats 4000000 in
theorem putV (g N C k L cp:Nat) (ad2:Option Addr) (n2 c2:Nat) (ys zs0:List Nat) (w:World) (ry:Row w ad2 n2 c2 ys) (hne:0<n2->∀b,ad2=some b->b.block≠g) (hy:∀x∈ys,x<18446744073709551616) (h0:∀z∈zs0,z<18446744073709551616)
  (hkL:k+L=N) (hNm:N<=4398046511104) (hn2:n2<=L) (hcp:L<=cp) (hcp2:cp<=9223372036854775807) (how:OU w g N C zs0) (hroom:nv 18446744073709551616 zs0+18446744073709551616 ^ k*nv 18446744073709551616 ys<18446744073709551616 ^ N) :
  Calls Tryz.prog 104 #[.slice (some ⟨g,k,none⟩) L cp,.slice ad2 n2 c2] w fun e w'=>e = .returned (.tuple #[])/\∃zs:List Nat,Hid (∀z∈zs,z<18446744073709551616)/\Hid (nv 18446744073709551616 zs=nv 18446744073709551616 zs0+18446744073709551616 ^ k*nv 18446744073709551616 ys)/\Hid (OU w' g N C zs)/\Hid (Gt g w w'):=by
 have RY:Hid (∀w',Gt g w w'->Row w' ad2 n2 c2 ys):=fun w' k=>ry.gt k hne
 have HNE:Hid (0<n2->∀b,ad2=some b->b.block≠g):=hne
 have HY:Hid (∀x∈ys,x<18446744073709551616):=hy
 have H0:Hid (∀x∈zs0,x<18446744073709551616):=h0
 have HO:Hid (OU w g N C zs0):=how
 have HRM:Hid (nv 18446744073709551616 zs0+18446744073709551616 ^ k*nv 18446744073709551616 ys<18446744073709551616 ^ N):=hroom
 have hl2:=ry.le
 have hm3:=ry.max
 have hlen:ys.length=n2:=ry.len
 clear ry hy h0 hne how hroom
 go_enter Tryz.func104,Tryz.ntmps104
 go_wp2
 go_loopw [4,9] (fun cr i wr=>∃(j c:Nat) (zs:List Nat),j<=n2/\c<=1/\i = .int .i64 (j:Int)/\cr = .int .u64 (c:Int)/\Hid (OU wr g N C zs)/\Hid (PutAt ys zs zs0 k j c N)/\Hid (Gt g w wr)) (fun _ i _=>n2-(intOf i).toNat)
 case atStart=>exact⟨0,0,zs0,by omega,by omega,rfl,rfl,HO,PutAt.start HO.out.len H0.out,Gt.refl _ _⟩
 case round =>
  obtain⟨j,c,zs,hj,hc,rfl,rfl,hown,hA,hg⟩:=hrel
  by_cases hlt:(j:Int)<(n2:Int)
  ·obtain⟨pb,ob,hpe,hpb,hpc⟩:=(RY.out wr hg.out).cells (by omega)
   have hcell:=hpc j (by omega)
   have hnb:pb≠g:=HNE.out (by omega) _ hpe
   subst hpe
   obtain⟨o,ho⟩:∃o,zs.getD (k+j) 0=o:=⟨_,rfl⟩
   obtain⟨y,hyd⟩:∃y,ys.getD j 0=y:=⟨_,rfl⟩
   rw[hyd] at hcell
   have by0:y<18446744073709551616:=hyd ▸ getD_lt (by omega) HY.out j
   have bo0:o<18446744073709551616:=ho ▸ getD_lt (by omega) hA.out.lt (k+j)
   have A0:=fun w=>add64N o y c hc w
   have NX0:=hA.out.next (o:=o) (y:=y) (by omega) ho.symm hyd.symm
   obtain⟨r,hr⟩:∃r,(o+y+c) % 18446744073709551616=r:=⟨_,rfl⟩
   obtain⟨b,hb⟩:∃b,(o+y+c) / 18446744073709551616=b:=⟨_,rfl⟩
   rw[hr,hb] at A0 NX0
   have hb1:b<=1:=by omega
   have hrW:r<18446744073709551616:=by omega
   have HR:Hid (∀t2 t3 t6 t7 t8 t9 t10 t11 t12 t13 t14 t15 t16 t17 t18 t19 t20 t21 t22 t23 t24 t25 t26 t27 t28 t29 t30 t31 t32 t33 t34 t35 t36 t37 t38 t39 t40 t41 t42 t43 t44 t45 t46:Value,_):=fun t2 t3 t6 t7 t8 t9 t10 t11 t12 t13 t14 t15 t16 t17 t18 t19 t20 t21 t22 t23 t24 t25 t26 t27 t28 t29 t30 t31 t32 t33 t34 t35 t36 t37 t38 t39 t40 t41 t42 t43 t44 t45 t46=>reg1044 t2 t3 t6 t7 t8 t9 t10 t11 t12 t13 t14 t15 t16 t17 t18 t19 t20 t21 t22 t23 t24 t25 t26 t27 t28 t29 t30 t31 t32 t33 t34 t35 t36 t37 t38 t39 t40 t41 t42 t43 t44 t45 t46 pb ob g k j L cp n2 c2 N C c o y r b zs wr A0 hown.out ho hcell hlt (by omega) (by omega) hnb
   have NX:Hid (PutAt ys (zs.set (k+j) r) zs0 k (j+1) b N):=NX0
   clear NX0 A0 hcell hpc hpb ho hyd hr hb
   go_wp2
   refine Code.wp_mono ?_ (HR.out _ _ _ _ _ _ _ _ _ _ _ _ _ _ _ _ _ _ _ _ _ _ _ _ _ _ _ _ _ _ _ _ _ _ _ _ _ _ _ _ _ _ _)
   intro e a1 w9 hR
   cases e <;> first|(exact False.elim hR)|skip
   obtain⟨u12,u13,u14,u15,u16,u17,u18,u19,u20,u21,u22,u23,u24,u25,u26,u27,rfl,O9,X9⟩:=hR
   have O9':Hid (OU w9 g N C (zs.set (k+j) r)):=O9
   have X9':Hid (Gt g w w9):=hg.out.trans X9
   clear O9 X9 HR
   go_wp2
   go_roundw
   case rel=>exact⟨j+1,b,_,by omega,hb1,by go_num,rfl,O9',NX,X9'⟩
   case measure=>simp only[intOf];omega
  ·obtain rfl:j=n2:=by omega
   have hAll:Hid (∀q,j<=q->ys.take q=ys):=fun q hq=>List.take_of_length_le (by omega)
   have hOut:Hid (∀q,j<=q->ys.getD q 0=0):=fun q hq=>getD_out (by omega)
   clear hlt
   go_wp2
   go_loopw [4,6] (fun cr i wr=>∃(q c:Nat) (zs:List Nat),j<=q/\q<=L/\c<=1/\i = .int .i64 (q:Int)/\cr = .int .u64 (c:Int)/\Hid (OU wr g N C zs)/\Hid (PutAt ys zs zs0 k q c N)/\Hid (Gt g w wr)) (fun _ i _=>L-(intOf i).toNat)
   case atStart=>exact⟨j,c,zs,Nat.le_refl _,by omega,hc,rfl,rfl,hown,hA,hg⟩
   case round =>
    clear hA hown hg hc
    obtain⟨q,c,zs,hq1,hq,hc,rfl,rfl,hown,hA,hg⟩:=hrel
    by_cases hc0:c=0
    ·subst hc0
     have hv:=hA.out.val
     have VAL:Hid (nv 18446744073709551616 zs=nv 18446744073709551616 zs0+18446744073709551616 ^ k*nv 18446744073709551616 ys):=by
      show _=_
      rw[hAll.out q hq1,Nat.mul_zero,Nat.add_zero] at hv
      exact hv
     have HL:=hide hA.out.lt
     clear hv
     go_wp2
     exact bodyPost_end (v:=.tuple #[]) (by simp[results,Tryz.results104,go_sem]) rfl ⟨rfl,zs,HL,VAL,hown,hg⟩
    ·have hqL:q<L:=by
      refine Nat.lt_of_not_le fun hle=>?_
      have hv:=hA.out.val
      rw[hAll.out q hq1,show k+q=N by omega,show c=1 by omega,Nat.mul_one] at hv
      have:=HRM.out
      omega
     have hc9:(0:Int)<(c:Int):=by omega
     have hc8:0<c:=by omega
     have hqi:(q:Int)<(L:Int):=by omega
     obtain⟨o,ho⟩:∃o,zs.getD (k+q) 0=o:=⟨_,rfl⟩
     have hcell:=hown.out.cell (k+q) (by omega)
     have hfz:=hown.out.fz (k+q)
     have OS:=hown.out.set (k+q)
     rw[ho] at hcell
     have bo0:o<18446744073709551616:=ho ▸ getD_lt (by omega) hA.out.lt (k+q)
     have A0:=fun w=>add64N o 0 c hc w
     have NX0:=hA.out.next (o:=o) (y:=0) (by omega) ho.symm (hOut.out q hq1).symm
     obtain⟨r,hr⟩:∃r,(o+0+c) % 18446744073709551616=r:=⟨_,rfl⟩
     obtain⟨b,hb⟩:∃b,(o+0+c) / 18446744073709551616=b:=⟨_,rfl⟩
     rw[hr,hb] at A0 NX0
     have hb1:b<=1:=by omega
     have hrW:r<18446744073709551616:=by omega
     have A1:Hid (∀w,(callFunc 131 #[.int .u64 (o:Int),.int .u64 0,.int .u64 (c:Int)]).run Tryz.prog w = .ok (.value (.tuple #[.int .u64 (r:Int),.int .u64 (b:Int)])) w):=A0
     have NX:Hid (PutAt ys (zs.set (k+q) r) zs0 k (q+1) b N):=NX0
     have OS':Hid (OU (wr.setCell ⟨g,k+q,none⟩ (.int .u64 (r:Int))) g N C (zs.set (k+q) r)):=OS r
     clear NX0 A0 ho hr hb OS hc0
     go_wp2_with (simp only[A1.out])
     go_roundw
     case rel=>exact⟨q+1,b,_,by omega,by omega,hb1,by go_num,rfl,OS',NX,hg.out.setCell rfl _⟩
     case measure=>simp only[intOf];omega
def Kp (w:World) (pf:Nat):Prop:=w.heap[pf]? = some (.cells #[.int .i64 0] 28)
theorem Kp.gr {w w':World} {pf:Nat} (h:Kp w pf) (g:Gr w w'):Kp w' pf:=keepO g h
theorem Kp.gt {w w':World} {pf g:Nat} (h:Kp w pf) (k:Gt g w w') (hne:pf≠g):Kp w' pf:=(k.block pf (lt_of_get2 h) hne).trans h
theorem modify_sameV {α:Type} (a:Array α) (i:Nat) (f:α->α) (h:∀x,a[i]? = some x->f x=x):a.modify i f=a:=by
 apply Array.ext'
 rw[Array.toList_modify]
 apply List.ext_getElem?
 intro j
 rw[List.getElem?_modify]
 by_cases hj:i=j
 ·subst hj
  cases hx:a.toList[i]? with
  | none=>rfl
  | some x =>
   show some (if i=i then f x else x)=some x
   rw[if_pos rfl,h x (by rw[<-Array.getElem?_toList];exact hx)]
 ·simp[hj]
theorem Kp.same {w:World} {pf:Nat} (h:Kp w pf):w.setCell ⟨pf,0,none⟩ (.int .i64 0)=w:=by
 unfold World.setCell
 unfold Kp at h
 rw[modify_sameV _ _ _ (fun x hx=>by rw[h] at hx;cases hx;rfl)]
theorem Kp.lt {w:World} {pf:Nat} (h:Kp w pf):pf<w.heap.size:=lt_of_get2 h
set_option maxHeartbeats 2000000 in
theorem keepT (s:Bool) (ad:Option Addr) (n c pf:Nat) (w:World) (kf:Kp w pf) :
  Calls Tryz.prog 95 #[.agg #[.bool s,.slice ad n c],.int .i64 0,.pointer (some ⟨pf,0,none⟩)] w fun e w'=>e = .returned (.agg #[.bool s,.slice ad n c])/\Gr w w':=by
 have B2:=blk2 w (.cells #[.bool s,.slice ad n c] 24) (.cells #[.bool false,.slice none 0 0] 24)
 have G2:Gr w ((w.alloc (.cells #[.bool s,.slice ad n c] 24)).alloc (.cells #[.bool false,.slice none 0 0] 24)):=((Gr.refl w).alloc _).alloc _
 have K2:=kf.gr G2
 have hlt:=kf.lt
 have x0:=(bx2 B2.1).1
 have x1:=(bx2 B2.1).2
 obtain⟨z0,z1,z2,z3⟩:=Out2.of B2.2
 have y0:=(bx1 K2).1
 have y1:=(bx1 K2).2
 have HS:=K2.same
 go_enter Tryz.func95,Tryz.ntmps95
 clear B2
 generalize hW:((w.alloc (.cells #[.bool s,.slice ad n c] 24)).alloc (.cells #[.bool false,.slice none 0 0] 24))=W2 at *
 have hG:Hid (Gr w ((W2.setCell ⟨w.heap.size+1,0,none⟩ (.bool s)).setCell ⟨w.heap.size+1,1,none⟩ (.slice ad n c))):=(G2.setCell (p:=⟨w.heap.size+1,0,none⟩) (by show _<=w.heap.size+1;omega) _).setCell (p:=⟨w.heap.size+1,1,none⟩) (by show _<=w.heap.size+1;omega) _
 go_wp2
 refine bodyPost_ret (v:=.agg #[.bool s,.slice ad n c]) ?_ rfl ⟨rfl,hG.out⟩
 simp[results,Tryz.results95,go_sem,z0,z1]
set_option maxHeartbeats 2000000 in
theorem tellT (s:Bool) (ad:Option Addr) (n c pf:Nat) (w:World) (kf:Kp w pf) :
  Calls Tryz.prog 96 #[.agg #[.bool s,.slice ad n c],.pointer (some ⟨pf,0,none⟩)] w fun e w'=>e = .returned (.tuple #[.agg #[.bool s,.slice ad n c],.int .i64 0])/\Gr w w':=by
 have B2:=blk2 w (.cells #[.bool s,.slice ad n c] 24) (.cells #[.bool false,.slice none 0 0] 24)
 have G2:Gr w ((w.alloc (.cells #[.bool s,.slice ad n c] 24)).alloc (.cells #[.bool false,.slice none 0 0] 24)):=((Gr.refl w).alloc _).alloc _
 have K2:=kf.gr G2
 have x0:=(bx2 B2.1).1
 have x1:=(bx2 B2.1).2
 obtain⟨z0,z1,z2,z3⟩:=Out2.of B2.2
 have y0:=(bx1 K2).1
 go_enter Tryz.func96,Tryz.ntmps96
 clear B2
 generalize hW:((w.alloc (.cells #[.bool s,.slice ad n c] 24)).alloc (.cells #[.bool false,.slice none 0 0] 24))=W2 at *
 have hG:Hid (Gr w ((W2.setCell ⟨w.heap.size+1,0,none⟩ (.bool s)).setCell ⟨w.heap.size+1,1,none⟩ (.slice ad n c))):=(G2.setCell (p:=⟨w.heap.size+1,0,none⟩) (by show _<=w.heap.size+1;omega) _).setCell (p:=⟨w.heap.size+1,1,none⟩) (by show _<=w.heap.size+1;omega) _
 go_wp2
 refine bodyPost_ret (v:=.tuple #[.agg #[.bool s,.slice ad n c],.int .i64 0]) ?_ rfl ⟨rfl,hG.out⟩
 simp[results,Tryz.results96,go_sem,z0,z1]
set_option maxHeartbeats 2000000 in
theorem keeperT (w:World) :
  Calls Tryz.prog 62 #[] w fun e w'=>∃pf:Nat,e = .returned (.tuple #[.func (.func 95) #[] #[.pointer (some ⟨pf,0,none⟩)],.func (.func 96) #[] #[.pointer (some ⟨pf,0,none⟩)]])/\Kp w' pf/\w.heap.size<=pf/\Gr w w':=by
 go_enter Tryz.func62,Tryz.ntmps62
 go_wp2
 go_ret2
 exact⟨w.heap.size,rfl,blk1 w _,Nat.le_refl _,(Gr.refl w).alloc _⟩
theorem nv_take_add (xs:List Nat) (i m:Nat):nv 18446744073709551616 (xs.take (i+m))=nv 18446744073709551616 (xs.take i)+18446744073709551616 ^ i*nv 18446744073709551616 ((xs.drop i).take m):=by
 by_cases h:i<=xs.length
 ·have:=nv_append 18446744073709551616 (xs.take i) ((xs.drop i).take m)
  rw[List.length_take,Nat.min_eq_left h] at this
  rw[<-this,List.take_add]
 ·rw[List.take_of_length_le (by omega),List.take_of_length_le (by omega),List.drop_eq_nil_of_le (by omega)]
  simp[nv]
def Pc (xs:List Nat) (i:Nat):Nat:=nv 18446744073709551616 ((xs.drop i).take 2048)
set_option maxHeartbeats 2000000 in
theorem pieceAtT (b o n cap i:Nat) (xs:List Nat) (w:World) (rx:Row w (some ⟨b,o,none⟩) n cap xs) (hx:∀x∈xs,x<18446744073709551616) (hi:i<n) (hn:n<=1099511627776) :
  Calls Tryz.prog 103 #[.slice (some ⟨b,o,none⟩) n cap,.int .i64 (i:Int)] w fun e w'=>∃k c,e = .returned (.agg #[.bool false,.slice (some ⟨b,o+i,none⟩) k c])/\k<=2048/\k<=n-i/\Hid (Wh w' false (some ⟨b,o+i,none⟩) k c (Pc xs i:Int))/\Gr w w':=by
 obtain⟨M,hM1,hM2⟩:∃M:Nat,M=i+min 2048 (n-i)/\M<=n:=⟨i+min 2048 (n-i),rfl,by omega⟩
 have hl:=rx.le
 have hmx:=rx.max
 have rd:=(rx.dropT i hi).take (M-i) (by omega)
 have ld:=take_lt (drop_lt hx i) (M-i)
 have hpc:nv 18446744073709551616 ((xs.drop i).take (M-i))=Pc xs i:=by
  unfold Pc
  rcases Nat.le_total 2048 (n-i) with h|h
  ·rw[show M-i=2048 by omega]
  ·rw[List.take_of_length_le (by rw[List.length_drop,rx.len];omega),List.take_of_length_le (by rw[List.length_drop,rx.len];omega)]
 have TR:Hid (∀w1,Gr w w1->Calls Tryz.prog 105 #[.slice (some ⟨b,o+i,none⟩) (M-i) (cap-i)] w1 fun e w'=>∃k,e = .returned (.slice (some ⟨b,o+i,none⟩) k (cap-i))/\k<=M-i/\Hid (Wh w false (some ⟨b,o+i,none⟩) k (cap-i) (Pc xs i:Int))/\w'=w1):=fun w1 g=>by
  refine(trimV _ _ _ _ w1 (rd.gr g)).mono ?_
  rintro e w' ⟨k,h1,h2,h3,h4,h5⟩
  refine⟨k,h1,h2,?_,h5⟩
  have:=trim_out rd ld h2 h3 h4
  rw[hpc] at this
  have hw:=wh_iv (s:=false) this (by omega) (fun _=>rfl)
  rw[iv_f] at hw
  exact hw
 have GA:Gr w (w.alloc (.cells #[.bool false,.slice none 0 0] 24)):=(Gr.refl w).alloc _
 have hmin:min ((i:Int)+2048) (n:Int)=(M:Int):=by omega
 have hb1:M<=i+2048:=by omega
 clear rd ld hpc rx hx hM1
 have q1:¬cap=i:=by omega
 have q2:i<=cap:=by omega
 have q3:i<=M:=by omega
 have q4:M<=cap:=by omega
 have q5:(M:Int)<=(cap:Int):=by omega
 have q6:(i:Int)<=(M:Int):=by omega
 go_enter Tryz.func103,Tryz.ntmps103
 go_wp2_with (go_at_call 105;(with_reducible refine(TR.out _ GA).mono ?_);rintro e w1 ⟨k,rfl,hk,HW,rfl⟩)
 refine bodyPost_ret (v:=.agg #[.bool false,.slice (some ⟨b,o+i,none⟩) k (cap-i)]) ?_ rfl ⟨k,cap-i,rfl,by omega,by omega,HW.out.gr ((Gr.refl w).alloc _),(Gr.refl w).alloc _⟩
 simp[results,Tryz.results103,go_sem]
end Go.Proofs.YtnhekagmdniokaaGreatDoor
