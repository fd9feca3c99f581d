import Derived.Test.YtnhekagmdniokaaGreatDoorT06
import Derived.Test.YtnhekagmdniokaaGreatDoorT02
namespace Go.Proofs.YtnhekagmdniokaaGreatDoor
open Go.RowKit
set_option linter.unusedVariables false
set_option linter.unusedSimpArgs false
set_option maxRecDepth 8000 in
set_option maxHeartbeats 4000000 in
theorem putT (g N C k L cp:Nat) (ad2:Option Addr) (n2 c2:Nat) (ys zs0:List Nat) (w:World) (ry:Row w ad2 n2 c2 ys) (hne:0<n2->∀b,ad2=some b->b.block≠g) (hy:∀x∈ys,x<18446744073709551616) (h0:∀z∈zs0,z<18446744073709551616)
  (hkL:k+L=N) (hNm:N<=4398046511104) (hn2:n2<=L) (hcp:L<=cp) (hcp2:cp<=9223372036854775807) (how:OU w g N C zs0) :
  Calls Tryz.prog 155 #[.slice (some ⟨g,k,none⟩) L cp,.slice ad2 n2 c2] w fun e w'=>∃(c:Nat) (zs:List Nat),e = .returned (.tuple #[])/\c<=1/\Hid (∀z∈zs,z<18446744073709551616)/\Hid (nv 18446744073709551616 zs+18446744073709551616 ^ N*c=nv 18446744073709551616 zs0+18446744073709551616 ^ k*nv 18446744073709551616 ys)/\Hid (OU w' g N C zs)/\Hid (Gt g w w'):=by
 have RY:Hid (∀w',Gt g w w'->Row w' ad2 n2 c2 ys):=fun w' k=>ry.gt k hne
 have HNE:Hid (0<n2->∀b,ad2=some b->b.block≠g):=hne
 have HY:Hid (∀x∈ys,x<18446744073709551616):=hy
 have H0:Hid (∀x∈zs0,x<18446744073709551616):=h0
 have HO:Hid (OU w g N C zs0):=how
 have hl2:=ry.le
 have hm3:=ry.max
 have hlen:ys.length=n2:=ry.len
 clear ry hy h0 hne how
 go_enter Tryz.func155,Tryz.ntmps155
 go_wp2
 go_loopw [4,10] (fun cr i wr=>∃(j c:Nat) (zs:List Nat),j<=n2/\c<=1/\i = .int .i64 (j:Int)/\cr = .int .u64 (c:Int)/\Hid (OU wr g N C zs)/\Hid (PutAt ys zs zs0 k j c N)/\Hid (Gt g w wr)) (fun _ i _=>n2-(intOf i).toNat)
 case atStart=>exact⟨0,0,zs0,by omega,by omega,rfl,rfl,HO,PutAt.start HO.out.len H0.out,Gt.refl _ _⟩
 case round =>
  obtain⟨j,c,zs,hj,hc,rfl,rfl,hown,hA,hg⟩:=hrel
  by_cases hlt:(j:Int)<(n2:Int)
  ·obtain⟨pb,ob,hpe,hpb,hpc⟩:=(RY.out wr hg.out).cells (by omega)
   have hcell:=hpc j (by omega)
   have hnb:pb≠g:=HNE.out (by omega) _ hpe
   subst hpe
   obtain⟨o,ho⟩:∃o,zs.getD (k+j) 0=o:=⟨_,rfl⟩
   obtain⟨y,hyd⟩:∃y,ys.getD j 0=y:=⟨_,rfl⟩
   rw[hyd] at hcell
   have by0:y<18446744073709551616:=hyd ▸ getD_lt (by omega) HY.out j
   have bo0:o<18446744073709551616:=ho ▸ getD_lt (by omega) hA.out.lt (k+j)
   have A0:=fun w=>add64N o y c hc w
   have NX0:=hA.out.next (o:=o) (y:=y) (by omega) ho.symm hyd.symm
   obtain⟨r,hr⟩:∃r,(o+y+c) % 18446744073709551616=r:=⟨_,rfl⟩
   obtain⟨b,hb⟩:∃b,(o+y+c) / 18446744073709551616=b:=⟨_,rfl⟩
   rw[hr,hb] at A0 NX0
   have hb1:b<=1:=by omega
   have hrW:r<18446744073709551616:=by omega
   have HR:Hid (∀t2 t3 t6 t7 t8 t9 t10 t11 t12 t13 t14 t15 t16 t17 t18 t19 t20 t21 t22 t23 t24 t25 t26 t27 t28 t29 t30 t31 t32 t33 t34 t35 t36 t37 t38 t39 t40 t41 t42 t43 t44 t45 t46 t47 t48 t49 t50 t51 t52 t53:Value,_):=fun t2 t3 t6 t7 t8 t9 t10 t11 t12 t13 t14 t15 t16 t17 t18 t19 t20 t21 t22 t23 t24 t25 t26 t27 t28 t29 t30 t31 t32 t33 t34 t35 t36 t37 t38 t39 t40 t41 t42 t43 t44 t45 t46 t47 t48 t49 t50 t51 t52 t53=>reg1084 t2 t3 t6 t7 t8 t9 t10 t11 t12 t13 t14 t15 t16 t17 t18 t19 t20 t21 t22 t23 t24 t25 t26 t27 t28 t29 t30 t31 t32 t33 t34 t35 t36 t37 t38 t39 t40 t41 t42 t43 t44 t45 t46 t47 t48 t49 t50 t51 t52 t53 pb ob g k j L cp n2 c2 N C c o y r b zs wr A0 hown.out ho hcell hlt (by omega) (by omega) hnb
   have NX:Hid (PutAt ys (zs.set (k+j) r) zs0 k (j+1) b N):=NX0
   clear NX0 A0 hcell hpc hpb ho hyd hr hb
   go_wp2
   refine Code.wp_mono ?_ (HR.out _ _ _ _ _ _ _ _ _ _ _ _ _ _ _ _ _ _ _ _ _ _ _ _ _ _ _ _ _ _ _ _ _ _ _ _ _ _ _ _ _ _ _ _ _ _ _ _ _ _)
   intro e a1 w9 hR
   cases e <;> first|(exact False.elim hR)|skip
   obtain⟨u13,u14,u15,u16,u17,u18,u19,u20,u21,u22,u23,u24,u25,u26,u27,u28,rfl,O9,X9⟩:=hR
   have O9':Hid (OU w9 g N C (zs.set (k+j) r)):=O9
   have X9':Hid (Gt g w w9):=hg.out.trans X9
   clear O9 X9 HR
   go_wp2
   go_roundw
   case rel=>exact⟨j+1,b,_,by omega,hb1,by go_num,rfl,O9',NX,X9'⟩
   case measure=>simp only[intOf];omega
  ·obtain rfl:j=n2:=by omega
   have hAll:∀q,ys.take (j+q)=ys:=fun q=>List.take_of_length_le (by omega)
   have hOut:∀q,ys.getD (j+q) 0=0:=fun q=>getD_out (by omega)
   by_cases hcj:cp=j
   ·have hLj:L=j:=by omega
    subst hLj
    subst hcj
    have hv:=hA.out.val
    have VAL:Hid (nv 18446744073709551616 zs+18446744073709551616 ^ N*c=nv 18446744073709551616 zs0+18446744073709551616 ^ k*nv 18446744073709551616 ys):=by
     show _=_
     have e1:=hAll 0
     rw[Nat.add_zero] at e1
     rw[e1,hkL] at hv
     exact hv
    have HL:=hide hA.out.lt
    clear hv hAll hOut
    go_wp2
    go_loopw [4,36] (fun cr i wr'=>∃q:Nat,q<=0/\i = .int .i64 (q:Int)/\cr = .int .u64 (c:Int)/\wr'=wr) (fun _ i _=>0)
    case atStart=>exact⟨0,by omega,rfl,rfl,rfl⟩
    case round =>
     obtain⟨q,hq,rfl,rfl,rfl⟩:=hrel
     obtain rfl:q=0:=by omega
     go_wp2
     first|exact bodyPost_end (v:=.tuple #[]) (by simp[results,Tryz.results155,go_sem]) rfl ⟨c,zs,rfl,hc,HL,VAL,hown,hg⟩|exact bodyPost_end (v:=.tuple #[]) (by simp[results,Tryz.results155,go_sem]) rfl ⟨rfl,c,hc,zs,HL,VAL,hown,hg⟩
   ·have hjL:j<=L:=hn2
    have hjc:j<=cp:=by omega
    have HB:Hid (∀q,ys.take (j+q)=ys):=hAll
    have HC:Hid (∀q,ys.getD (j+q) 0=0):=hOut
    have hA0:Hid (PutAt ys zs zs0 k (j+0) c N):=hA
    obtain⟨M,hM⟩:∃M,L-j=M:=⟨_,rfl⟩
    have hME:Hid (L-j=M):=hM
    clear hAll hOut hA hlt
    go_wp2
    go_loopw [4,36] (fun cr i wr=>∃(q c:Nat) (zs:List Nat),q<=M/\c<=1/\i = .int .i64 (q:Int)/\cr = .int .u64 (c:Int)/\Hid (OU wr g N C zs)/\Hid (PutAt ys zs zs0 k (j+q) c N)/\Hid (Gt g w wr)) (fun _ i _=>M-(intOf i).toNat)
    case atStart=>exact⟨0,c,zs,by omega,hc,rfl,rfl,hown,hA0,hg⟩
    case round =>
     clear hA0 hown hg hc
     obtain⟨q,c,zs,hq,hc,rfl,rfl,hown,hA,hg⟩:=hrel
     by_cases hlt:(q:Int)<(M:Int)
     ·by_cases hc0:c=0
      ·subst hc0
       have hv:=hA.out.val
       have VAL:Hid (nv 18446744073709551616 zs+18446744073709551616 ^ N*0=nv 18446744073709551616 zs0+18446744073709551616 ^ k*nv 18446744073709551616 ys):=by
        show _=_
        rw[HB.out q,Nat.mul_zero] at hv
        rw[Nat.mul_zero]
        exact hv
       have HL:=hide hA.out.lt
       clear hv
       go_wp2
       first|exact bodyPost_ret (v:=.tuple #[]) (by simp[results,Tryz.results155,go_sem]) rfl ⟨0,zs,rfl,by omega,HL,VAL,hown,hg⟩|exact bodyPost_ret (v:=.tuple #[]) (by simp[results,Tryz.results155,go_sem]) rfl ⟨rfl,0,by omega,zs,HL,VAL,hown,hg⟩
      ·have hc9:((c:Int)==0)=false:=by simp;omega
       have hc8:¬(c:Int)=0:=by omega
       obtain⟨o,ho⟩:∃o,zs.getD (k+(j+q)) 0=o:=⟨_,rfl⟩
       have hcell:=hown.out.cell (k+(j+q)) (by omega)
       have hfz:=hown.out.fz (k+(j+q))
       have OS:=hown.out.set (k+(j+q))
       rw[ho] at hcell
       have bo0:o<18446744073709551616:=ho ▸ getD_lt (by omega) hA.out.lt (k+(j+q))
       have A0:=fun w=>add64N o 0 c hc w
       have NX0:=hA.out.next (o:=o) (y:=0) (by omega) ho.symm (HC.out q).symm
       obtain⟨r,hr⟩:∃r,(o+0+c) % 18446744073709551616=r:=⟨_,rfl⟩
       obtain⟨b,hb⟩:∃b,(o+0+c) / 18446744073709551616=b:=⟨_,rfl⟩
       rw[hr,hb] at A0 NX0
       have hb1:b<=1:=by omega
       have hrW:r<18446744073709551616:=by omega
       have A1:Hid (∀w,(callFunc 131 #[.int .u64 (o:Int),.int .u64 0,.int .u64 (c:Int)]).run Tryz.prog w = .ok (.value (.tuple #[.int .u64 (r:Int),.int .u64 (b:Int)])) w):=A0
       have NX:Hid (PutAt ys (zs.set (k+(j+q)) r) zs0 k (j+(q+1)) b N):=NX0
       have OS':Hid (OU (wr.setCell ⟨g,k+(j+q),none⟩ (.int .u64 (r:Int))) g N C (zs.set (k+(j+q)) r)):=OS r
       rw[<-Nat.add_assoc] at hcell hfz
       clear NX0 A0 ho hr hb OS
       go_wp2_with (simp only[A1.out])
       go_roundw
       case rel=>exact⟨q+1,b,_,by omega,hb1,by go_num,rfl,(by rw[Nat.add_assoc];exact OS'),NX,hg.out.setCell rfl _⟩
       case measure=>simp only[intOf];omega
     ·obtain rfl:q=M:=by omega
      have hv:=hA.out.val
      have VAL:Hid (nv 18446744073709551616 zs+18446744073709551616 ^ N*c=nv 18446744073709551616 zs0+18446744073709551616 ^ k*nv 18446744073709551616 ys):=by
       show _=_
       rw[HB.out q,show k+(j+q)=N by have:=hME.out;omega] at hv
       exact hv
      have HL:=hide hA.out.lt
      clear hv
      go_wp2
      first|exact bodyPost_end (v:=.tuple #[]) (by simp[results,Tryz.results155,go_sem]) rfl ⟨c,zs,rfl,hc,HL,VAL,hown,hg⟩|exact bodyPost_end (v:=.tuple #[]) (by simp[results,Tryz.results155,go_sem]) rfl ⟨rfl,c,hc,zs,HL,VAL,hown,hg⟩
set_option maxRecDepth 8000 in
set_option maxHeartbeats 4000000 in
theorem takeOffT (g N C k L cp:Nat) (ad2:Option Addr) (n2 c2:Nat) (ys zs0:List Nat) (w:World) (ry:Row w ad2 n2 c2 ys) (hne:0<n2->∀b,ad2=some b->b.block≠g) (hy:∀x∈ys,x<18446744073709551616) (h0:∀z∈zs0,z<18446744073709551616)
  (hkL:k+L=N) (hNm:N<=4398046511104) (hn2:n2<=L) (hcp:L<=cp) (hcp2:cp<=9223372036854775807) (how:OU w g N C zs0) :
  Calls Tryz.prog 159 #[.slice (some ⟨g,k,none⟩) L cp,.slice ad2 n2 c2] w fun e w'=>∃(c:Nat) (zs:List Nat),e = .returned (.int .u64 (c:Int))/\c<=1/\Hid (∀z∈zs,z<18446744073709551616)/\Hid (nv 18446744073709551616 zs+18446744073709551616 ^ k*nv 18446744073709551616 ys=nv 18446744073709551616 zs0+18446744073709551616 ^ N*c)/\Hid (OU w' g N C zs)/\Hid (Gt g w w'):=by
 have RY:Hid (∀w',Gt g w w'->Row w' ad2 n2 c2 ys):=fun w' k=>ry.gt k hne
 have HNE:Hid (0<n2->∀b,ad2=some b->b.block≠g):=hne
 have HY:Hid (∀x∈ys,x<18446744073709551616):=hy
 have H0:Hid (∀x∈zs0,x<18446744073709551616):=h0
 have HO:Hid (OU w g N C zs0):=how
 have hl2:=ry.le
 have hm3:=ry.max
 have hlen:ys.length=n2:=ry.len
 clear ry hy h0 hne how
 go_enter Tryz.func159,Tryz.ntmps159
 go_wp2
 go_loopw [5,11] (fun cr i wr=>∃(j c:Nat) (zs:List Nat),j<=n2/\c<=1/\i = .int .i64 (j:Int)/\cr = .int .u64 (c:Int)/\Hid (OU wr g N C zs)/\Hid (TakAt ys zs zs0 k j 1 c N)/\Hid (Gt g w wr)) (fun _ i _=>n2-(intOf i).toNat)
 case atStart=>exact⟨0,0,zs0,by omega,by omega,rfl,rfl,HO,TakAt.start HO.out.len H0.out,Gt.refl _ _⟩
 case round =>
  obtain⟨j,c,zs,hj,hc,rfl,rfl,hown,hA,hg⟩:=hrel
  by_cases hlt:(j:Int)<(n2:Int)
  ·obtain⟨pb,ob,hpe,hpb,hpc⟩:=(RY.out wr hg.out).cells (by omega)
   have hcell:=hpc j (by omega)
   have hnb:pb≠g:=HNE.out (by omega) _ hpe
   subst hpe
   obtain⟨o,ho⟩:∃o,zs.getD (k+j) 0=o:=⟨_,rfl⟩
   obtain⟨y,hyd⟩:∃y,ys.getD j 0=y:=⟨_,rfl⟩
   rw[hyd] at hcell
   have by0:y<18446744073709551616:=hyd ▸ getD_lt (by omega) HY.out j
   have bo0:o<18446744073709551616:=ho ▸ getD_lt (by omega) hA.out.lt (k+j)
   have A0:=fun w=>sub64N o y c hc w
   obtain⟨r,hr⟩:∃r,(o+18446744073709551616-y-c) % 18446744073709551616=r:=⟨_,rfl⟩
   obtain⟨b,hb⟩:∃b,(if o<y+c then 1 else 0)=b:=⟨_,rfl⟩
   rw[hr,hb] at A0
   have hb1:b<=1:=by rw[<-hb];split <;> omega
   have hrW:r<18446744073709551616:=by omega
   have NX0:=hA.out.next (o:=o) (y:=y) (lo:=(y+c) % 18446744073709551616) (hi:=(y+c) / 18446744073709551616) (new:=r) (bo:=b-(y+c) / 18446744073709551616) (by omega) ho.symm hyd.symm (by
    by_cases h9:o<y+c
    ·rw[if_pos h9] at hb;omega
    ·rw[if_neg h9] at hb;omega) (by omega) hrW
   rw[show(y+c) / 18446744073709551616+(b-(y+c) / 18446744073709551616)=b by
    by_cases h9:o<y+c
    ·rw[if_pos h9] at hb;omega
    ·rw[if_neg h9] at hb;omega] at NX0
   have HR:Hid (∀t2 t3 t4 t7 t8 t9 t10 t11 t12 t13 t14 t15 t16 t17 t18 t19 t20 t21 t22 t23 t24 t25 t26 t27 t28 t29 t30 t31 t32 t33 t34 t35 t36 t37 t38 t39 t40 t41 t42 t43 t44 t45 t46 t47 t48 t49 t50 t51 t52 t53 t54 t55:Value,_):=fun t2 t3 t4 t7 t8 t9 t10 t11 t12 t13 t14 t15 t16 t17 t18 t19 t20 t21 t22 t23 t24 t25 t26 t27 t28 t29 t30 t31 t32 t33 t34 t35 t36 t37 t38 t39 t40 t41 t42 t43 t44 t45 t46 t47 t48 t49 t50 t51 t52 t53 t54 t55=>reg1515 t2 t3 t4 t7 t8 t9 t10 t11 t12 t13 t14 t15 t16 t17 t18 t19 t20 t21 t22 t23 t24 t25 t26 t27 t28 t29 t30 t31 t32 t33 t34 t35 t36 t37 t38 t39 t40 t41 t42 t43 t44 t45 t46 t47 t48 t49 t50 t51 t52 t53 t54 t55 pb ob g k j L cp n2 c2 N C c o y r b zs wr A0 hown.out ho hcell hlt (by omega) (by omega) hnb
   have NX:Hid (TakAt ys (zs.set (k+j) r) zs0 k (j+1) 1 b N):=NX0
   clear NX0 A0 hcell hpc hpb ho hyd hr hb
   go_wp2
   refine Code.wp_mono ?_ (HR.out _ _ _ _ _ _ _ _ _ _ _ _ _ _ _ _ _ _ _ _ _ _ _ _ _ _ _ _ _ _ _ _ _ _ _ _ _ _ _ _ _ _ _ _ _ _ _ _ _ _ _ _)
   intro e a1 w9 hR
   cases e <;> first|(exact False.elim hR)|skip
   obtain⟨u14,u15,u16,u17,u18,u19,u20,u21,u22,u23,u24,u25,u26,u27,u28,u29,rfl,O9,X9⟩:=hR
   have O9':Hid (OU w9 g N C (zs.set (k+j) r)):=O9
   have X9':Hid (Gt g w w9):=hg.out.trans X9
   clear O9 X9 HR
   go_wp2
   go_roundw
   case rel=>exact⟨j+1,b,_,by omega,hb1,by go_num,rfl,O9',NX,X9'⟩
   case measure=>simp only[intOf];omega
  ·obtain rfl:j=n2:=by omega
   have hAll:∀q,ys.take (j+q)=ys:=fun q=>List.take_of_length_le (by omega)
   have hOut:∀q,ys.getD (j+q) 0=0:=fun q=>getD_out (by omega)
   by_cases hcj:cp=j
   ·have hLj:L=j:=by omega
    subst hLj
    subst hcj
    have hv:=hA.out.val
    have VAL:Hid (nv 18446744073709551616 zs+18446744073709551616 ^ k*nv 18446744073709551616 ys=nv 18446744073709551616 zs0+18446744073709551616 ^ N*c):=by
     show _=_
     have e1:=hAll 0
     rw[Nat.add_zero] at e1
     rw[e1,Nat.one_mul,hkL] at hv
     exact hv
    have HL:=hide hA.out.lt
    clear hv hAll hOut
    go_wp2
    go_loopw [5,37] (fun cr i wr'=>∃q:Nat,q<=0/\i = .int .i64 (q:Int)/\cr = .int .u64 (c:Int)/\wr'=wr) (fun _ i _=>0)
    case atStart=>exact⟨0,by omega,rfl,rfl,rfl⟩
    case round =>
     obtain⟨q,hq,rfl,rfl,rfl⟩:=hrel
     obtain rfl:q=0:=by omega
     go_wp2
     go_ret
     first|exact⟨c,zs,rfl,hc,HL,VAL,hown,hg⟩|exact⟨c,rfl,hc,zs,HL,VAL,hown,hg⟩
   ·have hjL:j<=L:=hn2
    have hjc:j<=cp:=by omega
    have HB:Hid (∀q,ys.take (j+q)=ys):=hAll
    have HC:Hid (∀q,ys.getD (j+q) 0=0):=hOut
    have hA0:Hid (TakAt ys zs zs0 k (j+0) 1 c N):=hA
    obtain⟨M,hM⟩:∃M,L-j=M:=⟨_,rfl⟩
    have hME:Hid (L-j=M):=hM
    clear hAll hOut hA hlt
    go_wp2
    go_loopw [5,37] (fun cr i wr=>∃(q c:Nat) (zs:List Nat),q<=M/\c<=1/\i = .int .i64 (q:Int)/\cr = .int .u64 (c:Int)/\Hid (OU wr g N C zs)/\Hid (TakAt ys zs zs0 k (j+q) 1 c N)/\Hid (Gt g w wr)) (fun _ i _=>M-(intOf i).toNat)
    case atStart=>exact⟨0,c,zs,by omega,hc,rfl,rfl,hown,hA0,hg⟩
    case round =>
     clear hA0 hown hg hc
     obtain⟨q,c,zs,hq,hc,rfl,rfl,hown,hA,hg⟩:=hrel
     by_cases hlt:(q:Int)<(M:Int)
     ·by_cases hc0:c=0
      ·subst hc0
       have hv:=hA.out.val
       have VAL:Hid (nv 18446744073709551616 zs+18446744073709551616 ^ k*nv 18446744073709551616 ys=nv 18446744073709551616 zs0+18446744073709551616 ^ N*0):=by
        show _=_
        rw[HB.out q,Nat.one_mul,Nat.mul_zero] at hv
        rw[Nat.mul_zero]
        exact hv
       have HL:=hide hA.out.lt
       clear hv
       go_wp2
       go_ret
       first|exact⟨0,zs,rfl,by omega,HL,VAL,hown,hg⟩|exact⟨0,rfl,by omega,zs,HL,VAL,hown,hg⟩
      ·have hc9:((c:Int)==0)=false:=by simp;omega
       have hc8:¬(c:Int)=0:=by omega
       obtain⟨o,ho⟩:∃o,zs.getD (k+(j+q)) 0=o:=⟨_,rfl⟩
       have hcell:=hown.out.cell (k+(j+q)) (by omega)
       have hfz:=hown.out.fz (k+(j+q))
       have OS:=hown.out.set (k+(j+q))
       rw[ho] at hcell
       have bo0:o<18446744073709551616:=ho ▸ getD_lt (by omega) hA.out.lt (k+(j+q))
       have A0:=fun w=>sub64N o 0 c hc w
       obtain⟨r,hr⟩:∃r,(o+18446744073709551616-0-c) % 18446744073709551616=r:=⟨_,rfl⟩
       obtain⟨b,hb⟩:∃b,(if o<0+c then 1 else 0)=b:=⟨_,rfl⟩
       rw[hr,hb] at A0
       have hb1:b<=1:=by rw[<-hb];split <;> omega
       have hrW:r<18446744073709551616:=by omega
       have NX0:=hA.out.next (o:=o) (y:=0) (lo:=(0+c) % 18446744073709551616) (hi:=(0+c) / 18446744073709551616) (new:=r) (bo:=b-(0+c) / 18446744073709551616) (by omega) ho.symm (HC.out q).symm (by
        by_cases h9:o<0+c
        ·rw[if_pos h9] at hb;omega
        ·rw[if_neg h9] at hb;omega) (by omega) hrW
       rw[show(0+c) / 18446744073709551616+(b-(0+c) / 18446744073709551616)=b by
        by_cases h9:o<0+c
        ·rw[if_pos h9] at hb;omega
        ·rw[if_neg h9] at hb;omega] at NX0
       have A1:Hid (∀w,(callFunc 141 #[.int .u64 (o:Int),.int .u64 0,.int .u64 (c:Int)]).run Tryz.prog w = .ok (.value (.tuple #[.int .u64 (r:Int),.int .u64 (b:Int)])) w):=A0
       have NX:Hid (TakAt ys (zs.set (k+(j+q)) r) zs0 k (j+(q+1)) 1 b N):=NX0
       have OS':Hid (OU (wr.setCell ⟨g,k+(j+q),none⟩ (.int .u64 (r:Int))) g N C (zs.set (k+(j+q)) r)):=OS r
       rw[<-Nat.add_assoc] at hcell hfz
       clear NX0 A0 ho hr hb OS
       go_wp2_with (simp only[A1.out])
       go_roundw
       case rel=>exact⟨q+1,b,_,by omega,hb1,by go_num,rfl,(by rw[Nat.add_assoc];exact OS'),NX,hg.out.setCell rfl _⟩
       case measure=>simp only[intOf];omega
     ·obtain rfl:q=M:=by omega
      have hv:=hA.out.val
      have VAL:Hid (nv 18446744073709551616 zs+18446744073709551616 ^ k*nv 18446744073709551616 ys=nv 18446744073709551616 zs0+18446744073709551616 ^ N*c):=by
       show _=_
       rw[HB.out q,Nat.one_mul,show k+(j+q)=N by have:=hME.out;omega] at hv
       exact hv
      have HL:=hide hA.out.lt
      clear hv
      go_wp2
      go_ret
      first|exact⟨c,zs,rfl,hc,HL,VAL,hown,hg⟩|exact⟨c,rfl,hc,zs,HL,VAL,hown,hg⟩
end Go.Proofs.YtnhekagmdniokaaGreatDoor
namespace Go.Proofs.YtnhekagmdniokaaGreatDoor
open Go.RowKit
set_option linter.unusedVariables false
theorem dig_take {Z N:Nat} {zs:List Nat} (h:∀i,i<N->zs.getD i 0=Z / 18446744073709551616 ^ i % 18446744073709551616):∀j,j<=N->nv 18446744073709551616 (zs.take j)=Z % 18446744073709551616 ^ j:=by
 intro j
 induction j with
 | zero=>intro _;simp[nv,Nat.mod_one]
 | succ j ih =>
  intro hj
  rw[nv_take_succ,ih (by omega),h j (by omega),Nat.pow_succ,Nat.mod_mul]
theorem dig_nv {Z N:Nat} {zs:List Nat} (hl:zs.length=N) (h:∀i,i<N->zs.getD i 0=Z / 18446744073709551616 ^ i % 18446744073709551616) (hZ:Z<18446744073709551616 ^ N):nv 18446744073709551616 zs=Z:=by
 have:=dig_take h N (Nat.le_refl _)
 rw[nv_take_all _ _ _ (by omega),Nat.mod_eq_of_lt hZ] at this
 exact this
theorem Dg.digit {x:Nat} {xs:List Nat} (h:Dg 18446744073709551616 x xs) (j:Nat):xs.getD j 0=x / 18446744073709551616 ^ j % 18446744073709551616:=by
 by_cases hj:j<xs.length
 ·have h1:=nv_split 18446744073709551616 xs j hj
  have h2:=nv_lt 18446744073709551616 (xs.take j) (fun y hy=>h.2.1 y (List.mem_of_mem_take hy))
  rw[List.length_take,Nat.min_eq_left (by omega)] at h2
  have h3:=getD_lt (by omega) h.2.1 j
  rw[h.1] at h1
  rw[h1,Nat.add_mul_div_left _ _ (Nat.pow_pos (by omega)),Nat.div_eq_of_lt h2,Nat.zero_add,Nat.add_mul_mod_self_left,Nat.mod_eq_of_lt h3]
 ·rw[getD_out (by omega),Nat.div_eq_of_lt]
  exact Nat.lt_of_lt_of_le h.upper (Nat.pow_le_pow_right (by omega) (by omega))
theorem sh_digit {Q r:Nat} (hr:r<64):Q / 2 ^ (64-r) % 18446744073709551616=Q / 18446744073709551616 % 18446744073709551616*2 ^ r % 18446744073709551616+Q % 18446744073709551616 / 2 ^ (64-r):=by
 have e:(18446744073709551616:Nat)=2 ^ (64-r)*2 ^ r:=by rw[<-Nat.pow_add,show 64-r+r=64 by omega]
 have h0:Q % 18446744073709551616<18446744073709551616:=Nat.mod_lt _ (by omega)
 have h1:Q % 18446744073709551616+18446744073709551616*(Q / 18446744073709551616)=Q:=Nat.mod_add_div _ _
 have h2:Q / 18446744073709551616 % 18446744073709551616+18446744073709551616*(Q / 18446744073709551616 / 18446744073709551616)=Q / 18446744073709551616:=Nat.mod_add_div _ _
 have h3:Q / 18446744073709551616 % 18446744073709551616<18446744073709551616:=Nat.mod_lt _ (by omega)
 generalize Q / 18446744073709551616 / 18446744073709551616=t at *
 generalize Q / 18446744073709551616 % 18446744073709551616=q1 at *
 generalize Q % 18446744073709551616=q0 at *
 have hA:=shl_mod hr h3
 have hB:=shr_lt hr h0
 have hp:=Nat.two_pow_pos (64-r)
 have key:Q / 2 ^ (64-r)=q0 / 2 ^ (64-r)+2 ^ r*(q1+18446744073709551616*t):=by
  rw[<-h1,<-h2]
  generalize q1+18446744073709551616*t=u
  conv=>lhs;rw[show q0+18446744073709551616*u=q0+2 ^ (64-r)*(2 ^ r*u) by rw[<-Nat.mul_assoc,<-e]]
  rw[Nat.add_mul_div_left _ _ hp]
 rw[key,Nat.mul_add,<-Nat.add_assoc,Nat.mul_left_comm,Nat.add_mul_mod_self_left,hA]
 generalize q0 / 2 ^ (64-r)=a at *
 have h4:2 ^ r*q1=q1 % 2 ^ (64-r)*2 ^ r+18446744073709551616*(q1 / 2 ^ (64-r)):=by
  rw[<-hA,Nat.mul_comm (2 ^ r),shl_parts hr h3]
 rw[h4,<-Nat.add_assoc,Nat.add_mul_mod_self_left,Nat.add_comm a]
 refine Nat.mod_eq_of_lt ?_
 have h5:q1 % 2 ^ (64-r)+1<=2 ^ (64-r):=Nat.mod_lt _ hp
 have h6:=Nat.mul_le_mul_right (2 ^ r) h5
 rw[<-e,Nat.add_mul,Nat.one_mul] at h6
 omega
def xi (x:Nat) (j:Int):Nat:=if j<0 then 0 else x / 18446744073709551616 ^ j.toNat % 18446744073709551616
theorem xi_lt (x:Nat) (j:Int):xi x j<18446744073709551616:=by
 unfold xi
 split
 ·omega
 ·exact Nat.mod_lt _ (by omega)
def shN (x:Nat) (b:Int):Nat:=if 0<=b then x*2 ^ b.toNat else x / 2 ^ (-b).toNat
theorem xi_up {x M:Nat} {j:Int} (h:0<=j+M):xi x j=x*18446744073709551616 ^ M / 18446744073709551616 ^ (j+M).toNat % 18446744073709551616:=by
 have hp:=Nat.pow_pos (n:=M) (show 0<18446744073709551616 by omega)
 unfold xi
 by_cases hj:j<0
 ·rw[if_pos hj]
  have e:18446744073709551616 ^ M=18446744073709551616 ^ (-j).toNat*18446744073709551616 ^ (j+M).toNat:=by rw[<-Nat.pow_add,show(-j).toNat+(j+M).toNat=M by omega]
  rw[e,<-Nat.mul_assoc,Nat.mul_div_cancel _ (Nat.pow_pos (by omega)),show(-j).toNat=((-j).toNat-1)+1 by omega,Nat.pow_succ,<-Nat.mul_assoc,Nat.mul_mod_left]
 ·rw[if_neg hj]
  rw[show(j+M).toNat=j.toNat+M by omega,Nat.pow_add,Nat.mul_div_mul_right _ _ hp]
theorem shN_up {x M r:Nat} {L:Int} (hr:r<64) (h:0<=(M:Int)-L):shN x (64*L+r)=x*18446744073709551616 ^ M*2 ^ r / 18446744073709551616 ^ ((M:Int)-L).toNat:=by
 have hp:=Nat.pow_pos (n:=M) (show 0<18446744073709551616 by omega)
 unfold shN
 by_cases hL:0<=L
 ·rw[if_pos (by omega)]
  have e:18446744073709551616 ^ M=18446744073709551616 ^ L.toNat*18446744073709551616 ^ ((M:Int)-L).toNat:=by rw[<-Nat.pow_add,show L.toNat+((M:Int)-L).toNat=M by omega]
  have e2:x*(18446744073709551616 ^ L.toNat*18446744073709551616 ^ ((M:Int)-L).toNat)*2 ^ r=x*(18446744073709551616 ^ L.toNat*2 ^ r)*18446744073709551616 ^ ((M:Int)-L).toNat:=by ac_rfl
  rw[e,e2,Nat.mul_div_cancel _ (Nat.pow_pos (by omega)),pow64,<-Nat.pow_add,show 64*L.toNat+r=(64*L+r).toNat by omega]
 ·rw[if_neg (by omega),show((M:Int)-L).toNat=(-L).toNat+M by omega,Nat.pow_add,Nat.mul_right_comm,Nat.mul_div_mul_right _ _ hp,pow64,show 64*(-L).toNat=(-(64*L+(r:Int))).toNat+r by omega,Nat.pow_add,Nat.mul_div_mul_right _ _ (Nat.two_pow_pos r)]
theorem sh_at {x r i:Nat} {L:Int} (hr:r<64):shN x (64*L+r) / 18446744073709551616 ^ i % 18446744073709551616=xi x ((i:Int)-L)*2 ^ r % 18446744073709551616+xi x ((i:Int)-L-1) / 2 ^ (64-r):=by
 rw[shN_up (M:=L.natAbs+1) hr (by omega),xi_up (M:=L.natAbs+1) (by omega),xi_up (M:=L.natAbs+1) (by omega),Nat.div_div_eq_div_mul,<-Nat.pow_add]
 generalize x*18446744073709551616 ^ (L.natAbs+1)=X
 obtain⟨E,hE⟩:∃E:Nat,(((L.natAbs+1:Nat):Int)-L).toNat+i=E+1:=⟨(((L.natAbs+1:Nat):Int)-L).toNat+i-1,by omega⟩
 rw[hE,show((i:Int)-L+((L.natAbs+1:Nat):Int)).toNat=E+1 by omega,show((i:Int)-L-1+((L.natAbs+1:Nat):Int)).toNat=E by omega]
 have e:(18446744073709551616:Nat)=2 ^ (64-r)*2 ^ r:=by rw[<-Nat.pow_add,show 64-r+r=64 by omega]
 have h1:X*2 ^ r / 18446744073709551616 ^ (E+1)=X / 18446744073709551616 ^ E / 2 ^ (64-r):=by
  rw[Nat.div_div_eq_div_mul,Nat.pow_succ]
  conv=>lhs;rw[show 18446744073709551616 ^ E*18446744073709551616=18446744073709551616 ^ E*2 ^ (64-r)*2 ^ r by rw[Nat.mul_assoc,<-e]]
  rw[Nat.mul_div_mul_right _ _ (Nat.two_pow_pos r)]
 rw[h1,Nat.pow_succ,<-Nat.div_div_eq_div_mul]
 exact sh_digit hr
theorem shN_lt {x:Nat} {b:Int} (N:Nat) (hN:(bl x:Int)+b<=64*N):shN x b<18446744073709551616 ^ N:=by
 have h:=bl_lt x
 rw[pow64]
 unfold shN
 by_cases hb:0<=b
 ·rw[if_pos hb]
  refine Nat.lt_of_lt_of_le (Nat.mul_lt_mul_of_pos_right h (Nat.two_pow_pos _)) ?_
  rw[<-Nat.pow_add]
  exact Nat.pow_le_pow_right (by omega) (by omega)
 ·rw[if_neg hb]
  refine Nat.div_lt_of_lt_mul (Nat.lt_of_lt_of_le h ?_)
  rw[<-Nat.pow_add]
  exact Nat.pow_le_pow_right (by omega) (by omega)
def shI (X:Int) (b:Int):Int:=if 0<=b then X*2 ^ b.toNat else X / 2 ^ (-b).toNat
def iv (s:Bool) (x:Nat):Int:=if s then -(x:Int) else (x:Int)
theorem iv_abs (s:Bool) (x:Nat):(iv s x).natAbs=x:=by unfold iv;cases s <;> simp
theorem iv_f (x:Nat):iv false x=x:=rfl
theorem iv_t (x:Nat):iv true x = -(x:Int):=rfl
theorem shI_f (x:Nat) (b:Int):shI (iv false x) b=(shN x b:Int):=by
 unfold shI shN iv
 by_cases h:0<=b
 ·simp[h]
 ·simp[h]
def lostS (x:Nat) (b:Int):Bool:=decide (b<0/\x % 2 ^ (-b).toNat≠0)
theorem shI_t (x:Nat) (b:Int):shI (iv true x) b = -((shN x b+(if lostS x b then 1 else 0):Nat):Int):=by
 unfold shI shN iv lostS
 by_cases h:0<=b
 ·rw[if_pos h,if_pos h,decide_eq_false (by omega)]
  simp[Int.neg_mul]
 ·rw[if_neg h,if_neg h]
  have hp:=Nat.two_pow_pos (-b).toNat
  have h1:x % 2 ^ (-b).toNat+2 ^ (-b).toNat*(x / 2 ^ (-b).toNat)=x:=Nat.mod_add_div _ _
  have h2:x % 2 ^ (-b).toNat<2 ^ (-b).toNat:=Nat.mod_lt _ hp
  have e:(2:Int) ^ (-b).toNat=((2 ^ (-b).toNat:Nat):Int):=by simp
  rw[e]
  generalize 2 ^ (-b).toNat=P at *
  generalize x / P=q at *
  generalize hm:x % P=m at *
  by_cases h0:m=0
  ·rw[decide_eq_false (by omega)]
   simp only[if_true,Bool.false_eq_true,if_false,Nat.add_zero]
   rw[<-h1,h0]
   rw[Nat.zero_add,Int.natCast_mul,Int.neg_mul_eq_mul_neg]
   exact Int.mul_ediv_cancel_left _ (by omega)
  ·rw[decide_eq_true (by omega)]
   simp only[if_true]
   have e1 : -(x:Int)=((P-m:Nat):Int)+(P:Int)*(-(q:Int)-1):=by
    have:(P:Int)*(-(q:Int)-1) = - ((P*q:Nat):Int)-P:=by rw[Int.mul_sub,Int.mul_neg,Int.natCast_mul,Int.mul_one]
    omega
   rw[e1,Int.add_mul_ediv_left _ _ (by omega),Int.ediv_eq_zero_of_lt (by omega) (by omega)]
   omega
theorem low_lost {x t q:Nat} {b:Int} (h:x=2 ^ t*(2*q+1)):lostS x b=decide ((t:Int) < -b):=by
 unfold lostS
 refine decide_eq_decide.mpr ?_
 by_cases hb:b<0
 ·obtain⟨k,hk⟩:∃k:Nat,-b=(k:Int):=⟨(-b).toNat,by omega⟩
  rw[hk,Int.toNat_natCast]
  constructor
  ·rintro ⟨_,h1⟩
   refine Int.ofNat_lt.2 (Nat.lt_of_not_le fun hle=>h1 ?_)
   rw[h,show t=k+(t-k) by omega,Nat.pow_add,Nat.mul_assoc,Nat.mul_mod_right]
  ·intro h1
   refine⟨hb,fun h0=>?_⟩
   have h2:t<k:=by omega
   have h3:2 ^ (t+1) ∣ 2 ^ k:=Nat.pow_dvd_pow 2 (by omega)
   have h4:2 ^ (t+1) ∣ x:=Nat.dvd_trans h3 (Nat.dvd_of_mod_eq_zero h0)
   rw[h,Nat.pow_succ] at h4
   have h5:=Nat.dvd_of_mul_dvd_mul_left (Nat.two_pow_pos t) h4
   omega
 ·constructor
  ·rintro ⟨h1,_⟩;exact absurd h1 hb
  ·intro h1;omega
theorem shN_deep {x k:Nat} (hx:x<2 ^ k) {b:Int} (hb:b <= -(k:Int)):shN x b=0:=by
 unfold shN
 by_cases h0:0<=b
 ·have hk:k=0:=by omega
  subst hk
  have:x=0:=by simp at hx;omega
  subst this
  rw[if_pos h0];simp
 ·rw[if_neg h0]
  exact Nat.div_eq_of_lt (Nat.lt_of_lt_of_le hx (Nat.pow_le_pow_right (by omega) (by omega)))
theorem lost_deep {x k:Nat} (hx:x<2 ^ k) (h0:0<x) {b:Int} (hb:b <= -(k:Int)) (hb0:b<0):lostS x b=true:=by
 unfold lostS
 refine decide_eq_true ⟨hb0,?_⟩
 rw[Nat.mod_eq_of_lt (Nat.lt_of_lt_of_le hx (Nat.pow_le_pow_right (by omega) (by omega)))]
 omega
theorem shI_far {s:Bool} {x k:Nat} (hx:x<2 ^ k) (h0:0<x) (hk:0<k) (b:Int):shI (iv s x) (max b (-(k:Int)))=shI (iv s x) b:=by
 by_cases hb : -(k:Int)<=b
 ·rw[show max b (-(k:Int))=b by omega]
 ·rw[show max b (-(k:Int)) = -(k:Int) by omega]
  cases s
  ·rw[shI_f,shI_f,shN_deep hx (by omega),shN_deep hx (by omega)]
  ·rw[shI_t,shI_t,shN_deep hx (by omega),shN_deep hx (by omega),lost_deep hx h0 (by omega) (by omega),lost_deep hx h0 (by omega) (by omega)]
theorem shI_zero (b:Int):shI 0 b=0:=by unfold shI;split <;> simp
end Go.Proofs.YtnhekagmdniokaaGreatDoor
