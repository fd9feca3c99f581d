import Derived.Test.YtmdakhpdofepeaaU11
import Derived.Test.YtmdakhpdofepeaaU06
import Derived.Test.YtmdakhpdofepeaaU04
import Derived.Laws.AppendOwnNone
namespace Go.Proofs.Ytmdakhpdofepeaa
open Go.RowKit
set_option linter.unusedVariables false
set_option linter.unusedSimpArgs false
set_option maxRecDepth 8000 in
set_option maxHeartbeats 4000000 in
theorem takeOffT (g N C k L cp:Nat) (ad2:Option Addr) (n2 c2:Nat) (ys zs0:List Nat) (w:World) (ry:Row w ad2 n2 c2 ys) (hne:0<n2->∀b,ad2=some b->b.block≠g) (hy:∀x∈ys,x<18446744073709551616) (h0:∀z∈zs0,z<18446744073709551616)
  (hkL:k+L=N) (hNm:N<=4398046511104) (hn2:n2<=L) (hcp:L<=cp) (hcp2:cp<=9223372036854775807) (how:OU w g N C zs0) :
  Calls Try.prog 87 #[.slice (some ⟨g,k,none⟩) L cp,.slice ad2 n2 c2] w fun e w'=>∃(c:Nat) (zs:List Nat),e = .returned (.int .u64 (c:Int))/\c<=1/\Hid (∀z∈zs,z<18446744073709551616)/\Hid (nv 18446744073709551616 zs+18446744073709551616 ^ k*nv 18446744073709551616 ys=nv 18446744073709551616 zs0+18446744073709551616 ^ N*c)/\Hid (OU w' g N C zs)/\Hid (Gt g w w'):=by
 have RY:Hid (∀w',Gt g w w'->Row w' ad2 n2 c2 ys):=fun w' k=>ry.gt k hne
 have HNE:Hid (0<n2->∀b,ad2=some b->b.block≠g):=hne
 have HY:Hid (∀x∈ys,x<18446744073709551616):=hy
 have H0:Hid (∀x∈zs0,x<18446744073709551616):=h0
 have HO:Hid (OU w g N C zs0):=how
 have hl2:=ry.le
 have hm3:=ry.max
 have hlen:ys.length=n2:=ry.len
 clear ry hy h0 hne how
 go_enter Try.func87,Try.ntmps87
 go_wp2
 go_loopw [5,11] (fun cr i wr=>∃(j c:Nat) (zs:List Nat),j<=n2/\c<=1/\i = .int .i64 (j:Int)/\cr = .int .u64 (c:Int)/\Hid (OU wr g N C zs)/\Hid (TakAt ys zs zs0 k j 1 c N)/\Hid (Gt g w wr)) (fun _ i _=>n2-(intOf i).toNat)
 case atStart=>exact⟨0,0,zs0,by omega,by omega,rfl,rfl,HO,TakAt.start HO.out.len H0.out,Gt.refl _ _⟩
 case round =>
  obtain⟨j,c,zs,hj,hc,rfl,rfl,hown,hA,hg⟩:=hrel
  by_cases hlt:(j:Int)<(n2:Int)
  ·obtain⟨pb,ob,hpe,hpb,hpc⟩:=(RY.out wr hg.out).cells (by omega)
   have hcell:=hpc j (by omega)
   have hnb:pb≠g:=HNE.out (by omega) _ hpe
   subst hpe
   obtain⟨o,ho⟩:∃o,zs.getD (k+j) 0=o:=⟨_,rfl⟩
   obtain⟨y,hyd⟩:∃y,ys.getD j 0=y:=⟨_,rfl⟩
   rw[hyd] at hcell
   have by0:y<18446744073709551616:=hyd ▸ getD_lt (by omega) HY.out j
   have bo0:o<18446744073709551616:=ho ▸ getD_lt (by omega) hA.out.lt (k+j)
   have A0:=fun w=>sub64N o y c hc w
   obtain⟨r,hr⟩:∃r,(o+18446744073709551616-y-c) % 18446744073709551616=r:=⟨_,rfl⟩
   obtain⟨b,hb⟩:∃b,(if o<y+c then 1 else 0)=b:=⟨_,rfl⟩
   rw[hr,hb] at A0
   have hb1:b<=1:=by rw[<-hb];split <;> omega
   have hrW:r<18446744073709551616:=by omega
   have NX0:=hA.out.next (o:=o) (y:=y) (lo:=(y+c) % 18446744073709551616) (hi:=(y+c) / 18446744073709551616) (new:=r) (bo:=b-(y+c) / 18446744073709551616) (by omega) ho.symm hyd.symm (by
    by_cases h9:o<y+c
    ·rw[if_pos h9] at hb;omega
    ·rw[if_neg h9] at hb;omega) (by omega) hrW
   rw[show(y+c) / 18446744073709551616+(b-(y+c) / 18446744073709551616)=b by
    by_cases h9:o<y+c
    ·rw[if_pos h9] at hb;omega
    ·rw[if_neg h9] at hb;omega] at NX0
   have HR:Hid (∀t2 t3 t4 t7 t8 t9 t10 t11 t12 t13 t14 t15 t16 t17 t18 t19 t20 t21 t22 t23 t24 t25 t26 t27 t28 t29 t30 t31 t32 t33 t34 t35 t36 t37 t38 t39 t40 t41 t42 t43 t44 t45 t46 t47 t48 t49 t50 t51 t52 t53 t54 t55:Value,_):=fun t2 t3 t4 t7 t8 t9 t10 t11 t12 t13 t14 t15 t16 t17 t18 t19 t20 t21 t22 t23 t24 t25 t26 t27 t28 t29 t30 t31 t32 t33 t34 t35 t36 t37 t38 t39 t40 t41 t42 t43 t44 t45 t46 t47 t48 t49 t50 t51 t52 t53 t54 t55=>reg1515 t2 t3 t4 t7 t8 t9 t10 t11 t12 t13 t14 t15 t16 t17 t18 t19 t20 t21 t22 t23 t24 t25 t26 t27 t28 t29 t30 t31 t32 t33 t34 t35 t36 t37 t38 t39 t40 t41 t42 t43 t44 t45 t46 t47 t48 t49 t50 t51 t52 t53 t54 t55 pb ob g k j L cp n2 c2 N C c o y r b zs wr A0 hown.out ho hcell hlt (by omega) (by omega) hnb
   have NX:Hid (TakAt ys (zs.set (k+j) r) zs0 k (j+1) 1 b N):=NX0
   clear NX0 A0 hcell hpc hpb ho hyd hr hb
   go_wp2
   refine Code.wp_mono ?_ (HR.out _ _ _ _ _ _ _ _ _ _ _ _ _ _ _ _ _ _ _ _ _ _ _ _ _ _ _ _ _ _ _ _ _ _ _ _ _ _ _ _ _ _ _ _ _ _ _ _ _ _ _ _)
   intro e a1 w9 hR
   cases e <;> first|(exact False.elim hR)|skip
   obtain⟨u14,u15,u16,u17,u18,u19,u20,u21,u22,u23,u24,u25,u26,u27,u28,u29,rfl,O9,X9⟩:=hR
   have O9':Hid (OU w9 g N C (zs.set (k+j) r)):=O9
   have X9':Hid (Gt g w w9):=hg.out.trans X9
   clear O9 X9 HR
   go_wp2
   go_roundw
   case rel=>exact⟨j+1,b,_,by omega,hb1,by go_num,rfl,O9',NX,X9'⟩
   case measure=>simp only[intOf];omega
  ·obtain rfl:j=n2:=by omega
   have hAll:∀q,ys.take (j+q)=ys:=fun q=>List.take_of_length_le (by omega)
   have hOut:∀q,ys.getD (j+q) 0=0:=fun q=>getD_out (by omega)
   by_cases hcj:cp=j
   ·have hLj:L=j:=by omega
    subst hLj
    subst hcj
    have hv:=hA.out.val
    have VAL:Hid (nv 18446744073709551616 zs+18446744073709551616 ^ k*nv 18446744073709551616 ys=nv 18446744073709551616 zs0+18446744073709551616 ^ N*c):=by
     show _=_
     have e1:=hAll 0
     rw[Nat.add_zero] at e1
     rw[e1,Nat.one_mul,hkL] at hv
     exact hv
    have HL:=hide hA.out.lt
    clear hv hAll hOut
    go_wp2
    go_loopw [5,37] (fun cr i wr'=>∃q:Nat,q<=0/\i = .int .i64 (q:Int)/\cr = .int .u64 (c:Int)/\wr'=wr) (fun _ i _=>0)
    case atStart=>exact⟨0,by omega,rfl,rfl,rfl⟩
    case round =>
     obtain⟨q,hq,rfl,rfl,rfl⟩:=hrel
     obtain rfl:q=0:=by omega
     go_wp2
     go_ret
     first|exact⟨c,zs,rfl,hc,HL,VAL,hown,hg⟩|exact⟨c,rfl,hc,zs,HL,VAL,hown,hg⟩
   ·have hjL:j<=L:=hn2
    have hjc:j<=cp:=by omega
    have HB:Hid (∀q,ys.take (j+q)=ys):=hAll
    have HC:Hid (∀q,ys.getD (j+q) 0=0):=hOut
    have hA0:Hid (TakAt ys zs zs0 k (j+0) 1 c N):=hA
    obtain⟨M,hM⟩:∃M,L-j=M:=⟨_,rfl⟩
    have hME:Hid (L-j=M):=hM
    clear hAll hOut hA hlt
    go_wp2
    go_loopw [5,37] (fun cr i wr=>∃(q c:Nat) (zs:List Nat),q<=M/\c<=1/\i = .int .i64 (q:Int)/\cr = .int .u64 (c:Int)/\Hid (OU wr g N C zs)/\Hid (TakAt ys zs zs0 k (j+q) 1 c N)/\Hid (Gt g w wr)) (fun _ i _=>M-(intOf i).toNat)
    case atStart=>exact⟨0,c,zs,by omega,hc,rfl,rfl,hown,hA0,hg⟩
    case round =>
     clear hA0 hown hg hc
     obtain⟨q,c,zs,hq,hc,rfl,rfl,hown,hA,hg⟩:=hrel
     by_cases hlt:(q:Int)<(M:Int)
     ·by_cases hc0:c=0
      ·subst hc0
       have hv:=hA.out.val
       have VAL:Hid (nv 18446744073709551616 zs+18446744073709551616 ^ k*nv 18446744073709551616 ys=nv 18446744073709551616 zs0+18446744073709551616 ^ N*0):=by
        show _=_
        rw[HB.out q,Nat.one_mul,Nat.mul_zero] at hv
        rw[Nat.mul_zero]
        exact hv
       have HL:=hide hA.out.lt
       clear hv
       go_wp2
       go_ret
       first|exact⟨0,zs,rfl,by omega,HL,VAL,hown,hg⟩|exact⟨0,rfl,by omega,zs,HL,VAL,hown,hg⟩
      ·have hc9:((c:Int)==0)=false:=by simp;omega
       have hc8:¬(c:Int)=0:=by omega
       obtain⟨o,ho⟩:∃o,zs.getD (k+(j+q)) 0=o:=⟨_,rfl⟩
       have hcell:=hown.out.cell (k+(j+q)) (by omega)
       have hfz:=hown.out.fz (k+(j+q))
       have OS:=hown.out.set (k+(j+q))
       rw[ho] at hcell
       have bo0:o<18446744073709551616:=ho ▸ getD_lt (by omega) hA.out.lt (k+(j+q))
       have A0:=fun w=>sub64N o 0 c hc w
       obtain⟨r,hr⟩:∃r,(o+18446744073709551616-0-c) % 18446744073709551616=r:=⟨_,rfl⟩
       obtain⟨b,hb⟩:∃b,(if o<0+c then 1 else 0)=b:=⟨_,rfl⟩
       rw[hr,hb] at A0
       have hb1:b<=1:=by rw[<-hb];split <;> omega
       have hrW:r<18446744073709551616:=by omega
       have NX0:=hA.out.next (o:=o) (y:=0) (lo:=(0+c) % 18446744073709551616) (hi:=(0+c) / 18446744073709551616) (new:=r) (bo:=b-(0+c) / 18446744073709551616) (by omega) ho.symm (HC.out q).symm (by
        by_cases h9:o<0+c
        ·rw[if_pos h9] at hb;omega
        ·rw[if_neg h9] at hb;omega) (by omega) hrW
       rw[show(0+c) / 18446744073709551616+(b-(0+c) / 18446744073709551616)=b by
        by_cases h9:o<0+c
        ·rw[if_pos h9] at hb;omega
        ·rw[if_neg h9] at hb;omega] at NX0
       have A1:Hid (∀w,(callFunc 74 #[.int .u64 (o:Int),.int .u64 0,.int .u64 (c:Int)]).run Try.prog w = .ok (.value (.tuple #[.int .u64 (r:Int),.int .u64 (b:Int)])) w):=A0
       have NX:Hid (TakAt ys (zs.set (k+(j+q)) r) zs0 k (j+(q+1)) 1 b N):=NX0
       have OS':Hid (OU (wr.setCell ⟨g,k+(j+q),none⟩ (.int .u64 (r:Int))) g N C (zs.set (k+(j+q)) r)):=OS r
       rw[<-Nat.add_assoc] at hcell hfz
       clear NX0 A0 ho hr hb OS
       go_wp2_with (simp only[A1.out])
       go_roundw
       case rel=>exact⟨q+1,b,_,by omega,hb1,by go_num,rfl,(by rw[Nat.add_assoc];exact OS'),NX,hg.out.setCell rfl _⟩
       case measure=>simp only[intOf];omega
     ·obtain rfl:q=M:=by omega
      have hv:=hA.out.val
      have VAL:Hid (nv 18446744073709551616 zs+18446744073709551616 ^ k*nv 18446744073709551616 ys=nv 18446744073709551616 zs0+18446744073709551616 ^ N*c):=by
       show _=_
       rw[HB.out q,Nat.one_mul,show k+(j+q)=N by have:=hME.out;omega] at hv
       exact hv
      have HL:=hide hA.out.lt
      clear hv
      go_wp2
      go_ret
      first|exact⟨c,zs,rfl,hc,HL,VAL,hown,hg⟩|exact⟨c,rfl,hc,zs,HL,VAL,hown,hg⟩
theorem OU.of_owns {w:World} {B n:Nat} {v:Value} {xs:List Nat} (h:w.ownsRow B 52 1 v n (u64s xs)) (hn:0<n):∃g C,v = .slice (some ⟨g,0,none⟩) n C/\B<=g/\n<=C/\C<=9223372036854775807/\OU w g n C xs:=by
 rcases h.2 with ⟨_,h0⟩|⟨g,cap,cur,e1,hb,hgg,h1,h2,h3⟩
 ·omega
 ·exact⟨g,cap,e1,hb,h1,by unfold maxLen at h2;omega,h.1,Or.inr ⟨g,cap,cur,rfl,Nat.le_refl _,hgg,h1,h2,h3⟩⟩
theorem OU.row {w:World} {g n C:Nat} {xs:List Nat} (h:OU w g n C xs):Row w (some ⟨g,0,none⟩) n C xs:=by
 have hl:=h.len
 have hlt:=(World.ownsRow.lt h g rfl).2
 rcases h.2 with ⟨e,_⟩|⟨g',cap,cur,e1,hb,hgg,h1,h2,h3⟩
 ·cases e
 ·simp only[Value.slice.injEq,Option.some.injEq,Addr.mk.injEq,and_true,true_and] at e1
  obtain⟨rfl,rfl⟩:=e1
  refine⟨hl,h1,by unfold maxLen at h2;omega,(fun e=>by cases e),fun _=>⟨g,0,rfl,hlt,fun j hj=>?_⟩⟩
  rw[Nat.zero_add]
  exact h.cell j hj
theorem OU.gr {w w':World} {g N C:Nat} {zs:List Nat} (h:OU w g N C zs) (k:Gr w w'):OU w' g N C zs:=k.owns h
set_option maxHeartbeats 2000000 in
theorem turnAboutT (g N C cp:Nat) (zs0:List Nat) (w:World) (h0:∀z∈zs0,z<18446744073709551616) (hNm:N<=4398046511104) (how:OU w g N C zs0) :
  Calls Try.prog 89 #[.slice (some ⟨g,0,none⟩) N cp] w fun e w'=>e = .returned (.tuple #[])/\∃(b:Nat) (zs:List Nat),b<=1/\Hid (∀z∈zs,z<18446744073709551616)/\Hid (nv 18446744073709551616 zs+nv 18446744073709551616 zs0=18446744073709551616 ^ N*b)/\Hid (OU w' g N C zs)/\Hid (Gt g w w'):=by
 have H0:Hid (∀x∈zs0,x<18446744073709551616):=h0
 have HO:Hid (OU w g N C zs0):=how
 have hlen:=how.len
 clear h0 how
 go_enter Try.func89,Try.ntmps89
 go_wp2
 go_loopw [2,6] (fun cr i wr=>∃(j c:Nat) (zs:List Nat),j<=N/\c<=1/\i = .int .i64 (j:Int)/\cr = .int .u64 (c:Int)/\Hid (OU wr g N C zs)/\Hid (TakAt zs0 zs zs0 0 j 2 c N)/\Hid (Gt g w wr)) (fun _ i _=>N-(intOf i).toNat)
 case atStart=>exact⟨0,0,zs0,by omega,by omega,rfl,rfl,HO,TakAt.start HO.out.len H0.out,Gt.refl _ _⟩
 case round =>
  obtain⟨j,c,zs,hj,hc,rfl,rfl,hown,hA,hg⟩:=hrel
  by_cases hlt:(j:Int)<(N:Int)
  ·obtain⟨o,ho⟩:∃o,zs.getD (0+j) 0=o:=⟨_,rfl⟩
   have hy:o=zs0.getD j 0:=by rw[<-ho,hA.out.rest (0+j) (by omega),Nat.zero_add]
   have hcell:=hown.out.cell j (by omega)
   have hfz:=hown.out.fz j
   have OS:=hown.out.set j
   have ho2:=ho
   rw[Nat.zero_add] at ho2
   rw[ho2] at hcell
   have bo0:o<18446744073709551616:=ho2 ▸ getD_lt (by omega) hA.out.lt j
   have A0:=fun w=>sub64N 0 o c hc w
   obtain⟨r,hr⟩:∃r,(0+18446744073709551616-o-c) % 18446744073709551616=r:=⟨_,rfl⟩
   obtain⟨b,hb⟩:∃b,(if 0<o+c then 1 else 0)=b:=⟨_,rfl⟩
   rw[hr,hb] at A0
   have hb1:b<=1:=by rw[<-hb];split <;> omega
   have hrW:r<18446744073709551616:=by omega
   have key:r+o+c=18446744073709551616*b:=by
    by_cases h9:0<o+c
    ·rw[if_pos h9] at hb;omega
    ·rw[if_neg h9] at hb;omega
   have NX0:=hA.out.next (o:=o) (y:=o) (lo:=(2*o+c) % 18446744073709551616) (hi:=(2*o+c) / 18446744073709551616) (new:=r) (bo:=b-(2*o+c) / 18446744073709551616) (by omega) ho.symm hy (by omega) (by omega) hrW
   rw[show(2*o+c) / 18446744073709551616+(b-(2*o+c) / 18446744073709551616)=b by omega,Nat.zero_add] at NX0
   have A1:Hid (∀w,(callFunc 74 #[.int .u64 0,.int .u64 (o:Int),.int .u64 (c:Int)]).run Try.prog w = .ok (.value (.tuple #[.int .u64 (r:Int),.int .u64 (b:Int)])) w):=A0
   have NX:Hid (TakAt zs0 (zs.set j r) zs0 0 (j+1) 2 b N):=NX0
   have OS':Hid (OU (wr.setCell ⟨g,j,none⟩ (.int .u64 (r:Int))) g N C (zs.set j r)):=OS r
   clear NX0 A0 ho ho2 hr hb OS hy key
   go_wp2_with (simp only[A1.out])
   go_roundw
   case rel=>exact⟨j+1,b,_,by omega,hb1,by go_num,rfl,OS',NX,hg.out.setCell rfl _⟩
   case measure=>simp only[intOf];omega
  ·obtain rfl:j=N:=by omega
   have hv:=hA.out.val
   have VAL:Hid (nv 18446744073709551616 zs+nv 18446744073709551616 zs0=18446744073709551616 ^ j*c):=by
    show _=_
    rw[List.take_of_length_le (by omega),Nat.zero_add,Nat.pow_zero,Nat.one_mul] at hv
    omega
   have HL:=hide hA.out.lt
   clear hv
   go_wp2
   first|exact bodyPost_end (v:=.tuple #[]) (by simp[results,Try.results89,go_sem]) rfl ⟨rfl,c,zs,hc,HL,VAL,hown,hg⟩|exact bodyPost_end (v:=.tuple #[]) (by simp[results,Try.results89,go_sem]) rfl ⟨rfl,c,hc,zs,HL,VAL,hown,hg⟩
set_option maxHeartbeats 2000000 in
theorem apartT (ad1 ad2:Option Addr) (n1 n2 c1 c2:Nat) (xs ys:List Nat) (w:World) (rx:Row w ad1 n1 c1 xs) (ry:Row w ad2 n2 c2 ys) (hx:∀x∈xs,x<18446744073709551616) (hy:∀x∈ys,x<18446744073709551616) (h1:0<n1) (b1:n1<=1099511627776) (h2:n2<=n1) :
  Calls Try.prog 85 #[.slice ad1 n1 c1,.slice ad2 n2 c2] w fun e w'=>∃g C s,e = .returned (.tuple #[.slice (some ⟨g,0,none⟩) n1 C,.bool s])/\w.heap.size<=g/\∃zs,Hid (∀z∈zs,z<18446744073709551616)/\Hid (if s then nv 18446744073709551616 zs+nv 18446744073709551616 xs=nv 18446744073709551616 ys else nv 18446744073709551616 zs+nv 18446744073709551616 ys=nv 18446744073709551616 xs)/\Hid (OU w' g n1 C zs)/\Hid (Gr w w'):=by
 have CL:=hide (cloneL ad1 n1 c1 xs w rx b1)
 have HX:Hid (∀x∈xs,x<18446744073709551616):=hx
 have HY:Hid (∀x∈ys,x<18446744073709551616):=hy
 have RY:=hide ry
 have hly:nv 18446744073709551616 ys<18446744073709551616 ^ n1:=by
  have:=nv_lt 18446744073709551616 ys hy
  rw[ry.len] at this
  exact Nat.lt_of_lt_of_le this (Nat.pow_le_pow_right (by omega) h2)
 have hlyH:=hide hly
 clear rx ry hx hy hly
 go_enter Try.func85,Try.ntmps85
 go_wp2_with (go_at_call 25;(with_reducible refine CL.out.mono ?_);rintro e w2 ⟨b,C0,rfl,OW,g2⟩)
 obtain⟨g,C,hEq,hge,hC1,hC2,hO⟩:=OU.of_owns OW.out h1
 simp only[Value.slice.injEq,true_and] at hEq
 obtain⟨rfl,rfl⟩:=hEq
 clear OW CL
 have TK:=hide (takeOffT g n1 C0 0 n1 C0 ad2 n2 c2 ys xs w2 (RY.out.gr g2) (fun hp b hb=>by
  obtain⟨pa,oa,hae,hab,_⟩:=RY.out.cells hp
  rw[hb] at hae
  injection hae with hae
  rw[hae]
  show pa≠g
  omega) HY.out HX.out (by omega) (by omega) h2 hC1 hC2 hO)
 refine TK.out.mono ?_
 rintro e w3 ⟨c,zs,rfl,hc,hL,hV,hO3,hG3⟩
 have G3:Hid (Gr w w3):=Gt.gr g2 hG3.out hge
 clear TK hO
 by_cases hc0:c=0
 ·subst hc0
  have VAL:Hid (if false then nv 18446744073709551616 zs+nv 18446744073709551616 xs=nv 18446744073709551616 ys else nv 18446744073709551616 zs+nv 18446744073709551616 ys=nv 18446744073709551616 xs):=by
   show ite _ _ _
   rw[if_neg (by simp)]
   have:=hV.out
   rw[Nat.pow_zero,Nat.one_mul,Nat.mul_zero,Nat.add_zero] at this
   exact this
  go_wp2
  go_ret2
  first|exact⟨g,C0,false,rfl,hge,zs,hL,VAL,hO3,G3⟩|exact⟨g,C0,rfl,hge,zs,hL,VAL,hO3,G3⟩
 ·have hc9:((c:Int)==0)=false:=by simp;omega
  have hc8:¬(c:Int)=0:=by omega
  have TA:=hide (turnAboutT g n1 C0 C0 zs w3 hL.out (by omega) hO3.out)
  go_wp2_with (go_at_call 89;(with_reducible refine TA.out.mono ?_);rintro e w4 ⟨rfl,b,zs2,hb,hL2,hV2,hO4,hG4⟩)
  have VAL:Hid (if true then nv 18446744073709551616 zs2+nv 18446744073709551616 xs=nv 18446744073709551616 ys else nv 18446744073709551616 zs2+nv 18446744073709551616 ys=nv 18446744073709551616 xs):=by
   show ite _ _ _
   rw[if_pos rfl]
   have e1:=hV.out
   have e2:=hV2.out
   have e3:=hlyH.out
   have hc1:c=1:=by omega
   rw[Nat.pow_zero,Nat.one_mul,hc1,Nat.mul_one] at e1
   rcases (show b=0\/b=1 by omega) with rfl|rfl
   ·rw[Nat.mul_zero] at e2;omega
   ·rw[Nat.mul_one] at e2;omega
  have G4:Hid (Gr w w4):=Gt.gr G3.out hG4.out hge
  go_ret2
  first|exact⟨g,C0,true,rfl,hge,zs2,hL2,VAL,hO4,G4⟩|exact⟨g,C0,rfl,hge,zs2,hL2,VAL,hO4,G4⟩
theorem zeroCells_one (z:Value) (m:Nat) (hz:z.cells=#[z]):Builtin.zeroCells z.cells m=(List.replicate m z).toArray:=by
 rw[hz]
 apply Array.ext'
 apply List.ext_getElem?
 intro j
 by_cases hj:j<m
 ·simp[Builtin.zeroCells,hj,Nat.mod_one]
 ·simp[Builtin.zeroCells,hj]
theorem run_appendZ {P:Program} (w:World) (base:Nat) (t u ty e:TypeId) (i:TypeInfo) (z:Value) (ht:P.underlying t=some (.slice e)) (hu:P.underlying u=some (.int .i64)) (hi:P.info? e=some i) (hz:i.zero=some z)
  (hsize:i.size=1) (hby:i.bytes=8) (hzc:z.cells=#[z]) (h1:z.oneCell'=true)
  (v:Value) (n:Nat) (xs:List Value) (hown:w.ownsRow base e 1 v n xs) (m:Nat) (hm:n+m<=4398046511104) (hbase:base<=w.heap.size) :
  ∃v' w',(Builtin.append_ #[t,u] ty #[v,.int .i64 (m:Int)]).run P w = .ok v' w'/\w'.ownsRow base e 1 v' (n+m) (xs++List.replicate m z)/\w.grownBy w' v.ownBlock/\(v'.ownBlock=v.ownBlock\/v'.ownBlock=some w.heap.size):=by
 have hwr:IntKind.i64.wrap (m:Int)=(m:Int):=by rw[IntKind.wrap_i64];omega
 have hneg:¬(m:Int)<0:=by omega
 have hw0:IntKind.i64.wrap 0=0:=rfl
 have hbig:¬(281474976710656<(m:Int)*8):=by omega
 have hxl:xs.length=n:=by have:=hown.1;omega
 have hlen:(xs++List.replicate m z).length=(n+m)*1:=by simp[hxl]
 have grown:∀(old:Nat),old<n+m->∀(row:Option Nat),
   (w.drew.alloc (.cells ((xs++List.replicate m z).toArray++Builtin.zeroCells z.cells (grownCap w (n+m) old e-(n+m))) e)).ownsRow base e 1
    (.slice (some ⟨w.heap.size,0,none⟩) (n+m) (grownCap w (n+m) old e)) (n+m) (xs++List.replicate m z) /\
   w.grownBy (w.drew.alloc (.cells ((xs++List.replicate m z).toArray++Builtin.zeroCells z.cells (grownCap w (n+m) old e-(n+m))) e)) row:=by
  intro old ho row
  have hge:=grownCap_ge w (n+m) old e
  have hcm:grownCap w (n+m) old e<=maxLen:=grownCap_le_maxLen w (n+m) old e (by unfold maxLen;omega)
  refine⟨⟨hlen,.inr ⟨w.heap.size,_,_,rfl,hbase,heap_alloc_new w.drew _,hge,hcm,?_,?_⟩⟩,⟨rfl,rfl,rfl,by simp,fun k hk _=>by show((w.drew).alloc _).heap[k]? = _;exact heap_alloc_old w.drew _ hk⟩⟩
  ·rw[zeroCells_one z _ hzc]
   simp[hxl]
   omega
  ·simp only[Array.toList_append]
   rw[<-hlen]
   exact List.take_left
 have h63:¬(9223372036854775807<((n:Int)+(m:Int))):=by omega
 rcases hown.2 with ⟨rfl,rfl⟩|⟨g,cap,cur,rfl,hbg,hg,hnc,hcm,hcs,htake⟩
 ·have hx:xs=[]:=List.eq_nil_of_length_eq_zero hxl
  subst hx
  by_cases hm0:m=0
  ·subst hm0
   refine⟨.slice none 0 0,w,?_,World.ownsRow_nil w base e 1,⟨rfl,rfl,rfl,Nat.le_refl _,fun _ _ _=>rfl⟩,Or.inl rfl⟩
   simp[Builtin.append_,run_underlying ht,run_underlying hu,sizeOf,typeInfo,hi,hwr,hw0,hneg,hby,asInt,asIntOf]
  ·have h48:¬(281474976710656<Builtin.nextslicecap m 0*8):=by rw[nextslicecap_zero (by omega)];omega
   have hgr:=grown 0 (by omega) (Value.ownBlock (.slice none 0 0))
   refine⟨_,_,?_,hgr.1,hgr.2,Or.inr rfl⟩
   have h63':¬(9223372036854775807<(m:Int)):=by omega
   simp[Builtin.append_,run_underlying ht,run_underlying hu,sizeOf,typeInfo,zeroValue,hi,hz,hwr,hneg,hby,hbig,hsize,hm0,h63',h48,asInt,asIntOf,Question.forced,run_firstCells_none,newRow,grownCap,zeroCells_one z _ hzc]
 ·by_cases hroom:n+m<=cap
  ·have hfit:n*i.size+(List.replicate m z).length<=cur.size:=by rw[hsize,hcs];simp;omega
   have hst:=run_storeCells_at P g n e (List.replicate m z) 0 cur w hg (by rw[hcs];simp;omega) (fun u hu=>by rw[(List.mem_replicate.1 hu).2];exact h1)
   simp only[Nat.add_zero] at hst
   refine⟨.slice (some ⟨g,0,none⟩) (n+m) cap,w.setRow g (cur.toList.take n++List.replicate m z++cur.toList.drop (n+(List.replicate m z).length)).toArray,?_,⟨hlen,.inr ⟨g,cap,_,rfl,hbg,setRow_heap w g cur _ e _ hg,hroom,hcm,?_,?_⟩⟩,⟨rfl,rfl,rfl,by simp,fun k _ hk=>setRow_other w g k _ (fun e=>hk (by simp[Value.ownBlock,e]))⟩,Or.inl rfl⟩
   ·by_cases hm0:m=0
    ·subst hm0
     simp[Builtin.append_,run_underlying ht,run_underlying hu,sizeOf,typeInfo,zeroValue,hi,hz,hwr,hneg,hby,hbig,hsize,hroom,hw0,asInt,asIntOf,Addr.add_lit]
     rw[show Sem.run P (storeCells ⟨g,n,none⟩ []) w=Result.ok () (w.setRow g cur) by simpa using hst]
     simp
     intro hh
     omega
    ·simp[Builtin.append_,run_underlying ht,run_underlying hu,sizeOf,typeInfo,zeroValue,hi,hz,hwr,hneg,hby,hbig,hsize,hroom,hm0,asInt,asIntOf,Addr.add_lit,zeroCells_one z _ hzc,hst]
   ·simp only[List.size_toArray,List.length_append,List.length_take,List.length_drop,Array.length_toList,List.length_replicate]
    omega
   ·have e1:cur.toList.take n=xs:=by simpa using htake
    rw[e1,<-hlen]
    exact List.take_left
  ·have holds:∀j u,xs[j]? = some u->w.cell? ((⟨g,0,none⟩:Addr).add j)=some u:=hown.cells (g:=g) rfl
   have hm0:m≠0:=by omega
   have h48:¬(281474976710656<Builtin.nextslicecap (n+m) cap*8):=by
    have:=growslice_fits (need:=n+m) (old:=cap) (bytes:=8) (by omega) (by omega)
    omega
   have hfo:=run_firstCells_some (P:=P) w.drew 1 n ⟨g,0,none⟩ n cap xs (by omega) (by simpa using holds)
   have hgr:=grown cap (by omega) (Value.ownBlock (.slice (some ⟨g,0,none⟩) n cap))
   refine⟨_,_,?_,hgr.1,hgr.2,Or.inr rfl⟩
   simp[Builtin.append_,run_underlying ht,run_underlying hu,sizeOf,typeInfo,zeroValue,hi,hz,hwr,hneg,hby,hbig,hsize,hm0,hroom,h63,h48,asInt,asIntOf,Question.forced,hfo,newRow,grownCap,zeroCells_one z _ hzc]
   congr 2
   apply Array.ext'
   simp[List.append_assoc,List.replicate_append_replicate]
theorem u64s_zeros (m:Nat):u64s (List.replicate m 0)=List.replicate m (Value.int .u64 0):=by simp[u64s]
theorem wpList_zerosU {w:World} {ops:Array Oper} {rest:List Oper} {o:Oper} {a:Act} {Q:Exit->Act->World->Prop} (hgd:o.guard=none) (s x:Operand)
  (ho:o.op = .call {callee:=.builtin .append,args:=#[s,x],argTypes:=#[22,3]}) {base:Nat} {v:Value} {n m:Nat} {xs:List Nat} (hown:w.ownsRow base 52 1 v n (u64s xs)) {M:Int}
  (hs:a.eval s=v) (hx:a.eval x = .int .i64 M) (hM:M=(m:Int)) (hn:n+m<=4398046511104) (hb:base<=w.heap.size)
  (h:∀v' w',w'.ownsRow base 52 1 v' (n+m) (u64s (xs++List.replicate m 0))->w.grownBy w' v.ownBlock->(v'.ownBlock=v.ownBlock\/v'.ownBlock=some w.heap.size)->wpList Try.prog ops Q rest (a.put o.dst v') w') :
  wpList Try.prog ops Q (o :: rest) a w:=by
 subst hM
 obtain⟨i0,hi,hz0,hz1,hz2⟩:=info_parts Try.info52
 obtain⟨v',w',hr,h2,h3,h4⟩:=run_appendZ (P:=Try.prog) w base 22 3 o.type 52 i0 (.int .u64 0) Try.underlying22 Try.underlying3 hi hz0 hz1 hz2 rfl rfl v n (u64s xs) hown m hn hb
 refine wpList_plain hgd fun _ hK=>?_
 unfold Oper.wp execOp
 simp only[ho,resolve,invoke,builtin,Sem.run_bind,Sem.run_pure,Result.andThen_ok,List.map_toArray,List.map_cons,List.map_nil,hs,hx,hr]
 refine hK _ _ (h v' w' ?_ h3 h4)
 rw[u64s_append,u64s_zeros]
 exact h2
set_option maxHeartbeats 2000000 in
theorem growT (n:Nat) (w:World) (hn:0<n) (hm:n<=4398046511104) :
  Calls Try.prog 90 #[.slice none 0 0,.int .i64 (n:Int)] w fun e w'=>∃g C,e = .returned (.slice (some ⟨g,0,none⟩) 0 C)/\w.heap.size<=g/\n<=C/\Hid (OU w' g 0 C [])/\Hid (Gr w w'):=by
 have h1:¬(n:Int)<0:=by omega
 have h2:(0:Int)<(n:Int):=by omega
 go_enter Try.func90,Try.ntmps90
 go_wp2_with (at_builtin;refine wpList_zerosU rfl _ _ rfl (World.ownsRow_nil w w.heap.size 52 1) (n:=0) (m:=n) (xs:=[]) rfl rfl rfl (by omega) (Nat.le_refl _) ?_)
 intro v' w' hown hgr hbl
 obtain⟨g,C,rfl,hge,hC1,hC2,hO⟩:=OU.of_owns hown (by omega)
 have G:Hid (Gr w w'):=(Gr.refl w).grown hgr (fun k h=>by cases h)
 have O0:Hid (OU w' g 0 C []):=by
  show OU _ _ _ _ _
  rcases hO.2 with ⟨e,_⟩|⟨g',cap,cur,e1,hb,hgg,q1,q2,q3,_⟩
  ·cases e
  ·simp only[Value.slice.injEq,Option.some.injEq,Addr.mk.injEq,and_true,true_and] at e1
   obtain⟨rfl,rfl⟩:=e1
   exact⟨rfl,Or.inr ⟨g,C,cur,rfl,Nat.le_refl _,hgg,by omega,q2,q3,by simp[u64s]⟩⟩
 clear hown hgr hbl hO
 go_wp2
 go_ret
 exact⟨g,C,rfl,hge,by omega,O0,G⟩
theorem owns_lowT {w:World} {B g N C:Nat} {zs:List Nat} (h:OU w g N C zs) (hB:B<=g):w.ownsRow B 52 1 (.slice (some ⟨g,0,none⟩) N C) N (u64s zs):=by
 refine⟨h.1,?_⟩
 rcases h.2 with hn|⟨g',cap,cur,e1,hb,rest⟩
 ·exact .inl hn
 ·refine .inr ⟨g',cap,cur,e1,?_,rest⟩
  simp only[Value.slice.injEq,Option.some.injEq,Addr.mk.injEq] at e1
  have:=e1.1.1
  omega
theorem row_news {w:World} {a:Addr} {n cap:Nat} {xs:List Nat} (rx:Row w (some a) n cap xs):∀j u,(u64s xs)[j]? = some u->w.cell? (a.add j)=some u:=by
 intro j u hj
 have hl:=rx.len
 by_cases hp:0<n
 ·obtain⟨b,off,e,hb,hc⟩:=rx.cells hp
  injection e with e
  subst e
  have:=cells_u64 hc n (Nat.le_refl _) hl j u (by rw[List.take_of_length_le (by omega)];exact hj)
  rw[Addr.add_lit];exact this
 ·have:xs=[]:=List.eq_nil_of_length_eq_zero (by omega)
  subst this
  simp[u64s] at hj
theorem wpList_catU {w:World} {ops:Array Oper} {rest:List Oper} {o:Oper} {a:Act} {Q:Exit->Act->World->Prop} (hgd:o.guard=none) (s x:Operand)
  (ho:o.op = .call {callee:=.builtin .append,args:=#[s,x],argTypes:=#[22,22]}) {base:Nat} {v:Value} {n m cap:Nat} {ad:Addr} {xs ys:List Nat} (hown:w.ownsRow base 52 1 v n (u64s xs))
  (A:Row w (some ad) m cap ys) (hs:a.eval s=v) (hx:a.eval x = .slice (some ad) m cap) (hn:n+m<=4398046511104) (hb:base<=w.heap.size)
  (h:∀v' w',w'.ownsRow base 52 1 v' (n+m) (u64s (xs++ys))->w.grownBy w' v.ownBlock->wpList Try.prog ops Q rest (a.put o.dst v') w') :
  wpList Try.prog ops Q (o :: rest) a w:=by
 obtain⟨i0,hi,hz0,hz1,hz2⟩:=info_parts Try.info52
 refine wpList_append_own _ hgd s x 22 ho base 52 i0 (.int .u64 0) 1 8 Try.underlying22 hi hz0 hz1 hz2 rfl (by decide) v n (u64s xs) hs hown ad m cap (u64s ys) hx (by rw[u64s_length,A.len];omega) (row_news A) (one_u64 _) (by unfold maxLen;omega) (by omega) hb ?_
 intro v' w' hown' hgr _
 refine h v' w' ?_ hgr
 rw[u64s_append]
 exact hown'
set_option maxRecDepth 4000 in
set_option maxHeartbeats 4000000 in
theorem concatT (B:Nat) (a1 a2:Addr) (n1 n2 c1 c2:Nat) (xs ys:List Nat) (w:World) (hB:B<w.heap.size) (k0:w.cell? ⟨B,0,none⟩=some (.slice (some a1) n1 c1)) (k1:w.cell? ⟨B,1,none⟩=some (.slice (some a2) n2 c2)) (rx:Row w (some a1) n1 c1 xs) (ry:Row w (some a2) n2 c2 ys) (h0:0<n1) (b1:n1<=1099511627776) (b2:n2<=1099511627776) :
  Calls Try.prog 86 #[.slice (some ⟨B,0,none⟩) 2 2] w fun e w'=>∃g C,e = .returned (.slice (some ⟨g,0,none⟩) (n1+n2) C)/\w.heap.size<=g/\n1+n2<=C/\C<=9223372036854775807/\Hid (OU w' g (n1+n2) C (xs++ys))/\Hid (Gr w w'):=by
 have RX:=hide rx
 have RY:=hide ry
 have l1:=rx.le
 have l2:=ry.le
 clear rx ry
 have GR:Hid (∀w1,Calls Try.prog 90 #[.slice none 0 0,.int .i64 ((n1:Int)+(n2:Int))] w1 fun e w'=>∃g C,e = .returned (.slice (some ⟨g,0,none⟩) 0 C)/\w1.heap.size<=g/\n1+n2<=C/\Hid (OU w' g 0 C [])/\Hid (Gr w1 w')):=fun w1=>by
  have:=growT (n1+n2) w1 (by omega) (by omega)
  rw[show((n1+n2:Nat):Int)=(n1:Int)+(n2:Int) by omega] at this
  exact this
 go_enter Try.func86,Try.ntmps86
 go_wp2
 go_loop [3,11] (fun s i=>(i = .int .i64 0/\s = .int .i64 0)\/(i = .int .i64 1/\s = .int .i64 (n1:Int))\/(i = .int .i64 2/\s = .int .i64 ((n1:Int)+(n2:Int)))) (fun _ i=>2-(intOf i).toNat)
 case atStart=>exact Or.inl ⟨rfl,rfl⟩
 case round =>
  rcases hrel with ⟨rfl,rfl⟩|⟨rfl,rfl⟩|⟨rfl,rfl⟩
  ·go_wp2
   go_round
   case rel=>exact Or.inr (Or.inl ⟨by go_num,by go_num⟩)
   case measure=>simp[intOf]
  ·go_wp2
   go_round
   case rel=>exact Or.inr (Or.inr ⟨by go_num,by go_num⟩)
   case measure=>simp[intOf]
  ·go_wp2_with (go_at_call 90;(with_reducible refine(GR.out _).mono ?_);rintro e w2 ⟨g,C,rfl,hge,hC,O2,g2⟩)
   have K0:Hid _:=k0
   have K1:Hid _:=k1
   clear k0 k1
   go_loopw [6,27] (fun v i wr=>∃zs:List Nat,∃n k:Nat,i = .int .i64 (k:Int)/\((k=0/\zs=[]/\n=0)\/(k=1/\zs=xs/\n=n1)\/(k=2/\zs=xs++ys/\n=n1+n2))/\Hid (wr.ownsRow w.heap.size 52 1 v n (u64s zs))/\Hid (Gr w wr)) (fun _ i _=>2-(intOf i).toNat)
   case atStart=>exact⟨[],0,0,rfl,Or.inl ⟨rfl,rfl,rfl⟩,owns_lowT O2.out hge,g2⟩
   case round =>
    obtain⟨zs,n,k,rfl,hk,hown,hg⟩:=hrel
    have q0:=keepG hg.out K0.out
    have q1:=keepG hg.out K1.out
    have hsz:=hg.out.size
    rcases hk with ⟨rfl,rfl,rfl⟩|⟨rfl,rfl,rfl⟩|⟨rfl,rfl,rfl⟩
    ·go_wp2_with (at_builtin;refine wpList_catU rfl _ _ rfl hown.out (RX.out.gr hg.out) rfl rfl (by omega) (by omega) ?_)
     intro v' w' hown' hgr
     have HO:=hide hown'
     have HG:Hid (Gr w w'):=hg.out.grown hgr (fun k h=>(hown.out.lt k h).1)
     clear hown' hgr
     go_wp2
     go_roundw
     case rel=>exact⟨xs,n1,1,by go_num,Or.inr (Or.inl ⟨rfl,rfl,rfl⟩),(by have:=HO.out;first|exact this|(rw[Nat.zero_add,List.nil_append] at this;exact this)),HG⟩
     case measure=>simp[intOf]
    ·go_wp2_with (at_builtin;refine wpList_catU rfl _ _ rfl hown.out (RY.out.gr hg.out) rfl rfl (by omega) (by omega) ?_)
     intro v' w' hown' hgr
     have HO:=hide hown'
     have HG:Hid (Gr w w'):=hg.out.grown hgr (fun k h=>(hown.out.lt k h).1)
     clear hown' hgr
     go_wp2
     go_roundw
     case rel=>exact⟨_,_,2,by go_num,Or.inr (Or.inr ⟨rfl,rfl,rfl⟩),HO,HG⟩
     case measure=>simp[intOf]
    ·obtain⟨g9,C9,rfl,hge9,hC9,hC99,hO9⟩:=OU.of_owns hown.out (by omega)
     have HO9:=hide hO9
     clear hO9 hown
     go_wp2
     go_ret
     exact⟨g9,C9,rfl,hge9,hC9,hC99,HO9,hg⟩
end Go.Proofs.Ytmdakhpdofepeaa
