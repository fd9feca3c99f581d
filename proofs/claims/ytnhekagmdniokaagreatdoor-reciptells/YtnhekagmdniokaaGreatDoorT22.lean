import Derived.Test.YtnhekagmdniokaaGreatDoorT21
import Derived.RangeFuncBox
import Derived.RangeFuncNested
import Derived.RangeFuncBound
import Derived.RangeFuncCalls
import Derived.RangeFuncLeaves
import Derived.RangeFuncFrom
import Derived.Shelf.Abstract
import Derived.Shelf.RegionOpen
import Derived.WalkKit
import Derived.OwnWalkIn
import Derived.TacticsInMore
import Derived.LoopNIn
import Derived.LoopIn
namespace Go.Proofs.YtnhekagmdniokaaGreatDoor
open Go.RowKit
set_option linter.unusedVariables false
set_option linter.unusedSimpArgs false
theorem row1V (W:World):Row (W.alloc (.cells #[.int .u64 1] 63)) (some ⟨W.heap.size,0,none⟩) 1 1 [1]:=row1 W 1
theorem sh_nat (x wi:Nat):(x:Int) / 2 ^ wi=((x / 2 ^ wi:Nat):Int):=by
 rw[Int.natCast_ediv,Int.natCast_pow];rfl
theorem or_zero (y:Nat) (hy:y<18446744073709551616):bits .or .u64 ((0:Nat):Int) (y:Int)=(y:Int):=by
 rw[bits_or_u64_nat _ _ (by omega) hy,Nat.zero_or]
theorem shl_wrap (x wi:Nat):IntKind.u64.wrap ((x:Int)*2 ^ (64-wi))=((x*2 ^ (64-wi) % 18446744073709551616:Nat):Int):=by
 rw[IntKind.wrap_u64]
 have:(x:Int)*2 ^ (64-wi)=((x*2 ^ (64-wi):Nat):Int):=by push_cast;rfl
 rw[this]
 omega
def offB (lb db:Bool) (k:Nat):Bool:=if k=0 then lb else (lb || db)
set_option maxRecDepth 8000 in
set_option maxHeartbeats 8000000 in
theorem overA (b o n cap Q wi by':Nat) (xs:List Nat) (w:World) (rx:Row w (some ⟨b,o,none⟩) n cap xs) (hx:∀x∈xs,x<18446744073709551616) (hn:n<=1099511620000) (hb:by'=64*Q+wi) (hw:wi<64) (hQ:Q<n) :
  Calls Tryz.prog 70 #[.slice (some ⟨b,o,none⟩) n cap,.int .i64 (by':Int)] w fun e w'=>∃ad' n' c',e = .returned (.slice ad' n' c')/\n'<=n+1/\Hid (Lim w' ad' n' c' 18446744073709551616 ((nv 18446744073709551616 xs+(2 ^ by'-1)) / 2 ^ by'))/\Hid (Fresh w.heap.size w' ad' n' c')/\Gr w w':=by
 have hl:=rx.le
 have hm:=rx.max
 have lx:=rx.len
 have e1:(by':Int) / 64=(Q:Int):=by omega
 have e2:(by':Int) % 64=(wi:Int):=by omega
 have e3:(by':Int).tdiv 64=(Q:Int):=by rw[Int.tdiv_eq_ediv_of_nonneg (by omega)];exact e1
 have e4:(by':Int).tmod 64=(wi:Int):=by rw[Int.tmod_eq_emod_of_nonneg (by omega)];exact e2
 have e5:min (Q:Int) (n:Int)=(Q:Int):=by omega
 have q1:Q<=cap:=by omega
 have q2:¬cap=Q:=by omega
 have q3:(Q:Int)<=(cap:Int):=by omega
 have q4:Q<=n:=by omega
 have q5:(Q:Int)<=(n:Int):=by omega
 have RL:=hide (rx.take Q (by omega))
 have RH:=hide (rx.dropT Q hQ)
 have LL:=hide (take_lt hx Q)
 have LH:=hide (drop_lt hx Q)
 have VP:=hide (nv_parts xs Q (by omega))
 have lh:(xs.drop Q).length=n-Q:=by rw[List.length_drop,lx]
 have BL:Hid (nv 18446744073709551616 (xs.take Q)<18446744073709551616 ^ Q):=by
  have:=nv_lt 18446744073709551616 _ LL.out
  rw[List.length_take,Nat.min_eq_left (by omega)] at this
  exact this
 have HB:=hide hb
 clear rx hx hb
 generalize hls:xs.take Q=ls at *
 generalize hhs:xs.drop Q=hs at *
 obtain⟨M,hM⟩:∃M,n-Q=M:=⟨_,rfl⟩
 rw[hM] at RH lh
 have BH:Hid (nv 18446744073709551616 hs<18446744073709551616 ^ M):=by
  have:=nv_lt 18446744073709551616 hs LH.out
  rw[lh] at this
  exact this
 have hMp:0<M:=by omega
 have hMb:M<=n:=by omega
 clear hls hhs
 have CN:Hid (∀w1,Gr w w1->Calls Tryz.prog 107 #[.slice (some ⟨b,o,none⟩) Q cap,.func (.func 108) #[] #[]] w1 fun e w'=>e = .returned (.bool (decide (nv 18446744073709551616 ls≠0)))/\w'=w1):=fun w1 g=>containsZ _ _ _ _ w1 (RL.out.gr g) (by omega)
 obtain⟨lb,hlb⟩:∃lb,decide (nv 18446744073709551616 ls≠0)=lb:=⟨_,rfl⟩
 rw[hlb] at CN
 have HLB:=hide hlb
 clear hlb
 go_enter Tryz.func70,Tryz.ntmps70
 go_wp2
 go_quiet (fail)
 have GQ:Hid (Gr w (w.drewN nq)):=(Gr.refl w).drewN nq
 generalize w.drewN nq=wq at *
 go_wp2_with (first|(go_at_call 107;(with_reducible refine(CN.out _ (GQ.out.trans hg2)).mono ?_);rintro r w2 ⟨rfl,rfl⟩)|(at_make;refine wpList_made rfl _ _ rfl (M+1) _ rfl rfl (by omega) (by omega) ?_;intro w2 hown0 hg2))
 have O2:Hid (OU w2 wq.heap.size (M+1) (M+1) (List.replicate (M+1) 0)):=hown0
 have G2:Hid (Gr wq w2):=hg2
 have hws:=GQ.out.size
 clear hg2 hown0 CN
 obtain⟨g,hgdef⟩:∃g,wq.heap.size=g:=⟨_,rfl⟩
 obtain⟨N,hN⟩:∃N,M+1=N:=⟨_,rfl⟩
 rw[hgdef] at hws
 rw[hgdef,hN] at O2
 rw[hgdef,hN]
 have NEH:=hide (row_ne (RH.out.gr GQ.out) (Nat.le_of_eq hgdef))
 have RH2:Hid (∀w',Gt g w2 w'->Row w' (some ⟨b,o+Q,none⟩) M (cap-Q) hs):=fun w' k=>((RH.out.gr GQ.out).gr G2.out).gt k NEH.out
 obtain⟨db,hdb⟩:∃db,decide (hs.getD 0 0 % 2 ^ wi≠0)=db:=⟨_,rfl⟩
 have HDB:=hide hdb
 have hg2l:=ou_lt O2.out
 clear hdb
 go_loopw [10,35] (fun tf ti wr=>∃(k:Nat) (zs:List Nat),k<=M/\ti = .int .i64 (k:Int)/\tf = .bool (offB lb db k)/\Hid (OU wr g N N zs)/\Hid (OvAt hs zs k wi N)/\Hid (Gt g w2 wr)) (fun _ ti _=>M-(intOf ti).toNat)
 case atStart=>exact⟨0,_,by omega,rfl,rfl,O2,OvAt.start hs wi N,Gt.refl _ _⟩
 case round =>
  obtain⟨k,zs,hk,rfl,rfl,hown,hA,hg⟩:=hrel
  by_cases hlt:(k:Int)<(M:Int)
  ·obtain⟨pb,ob,hpe,hpb,hpc⟩:=(RH2.out wr hg.out).cells (by omega)
   simp only[Option.some.injEq,Addr.mk.injEq,and_true] at hpe
   obtain⟨rfl,rfl⟩:=hpe
   have hcell:=hpc k (by omega)
   obtain⟨x,hxe⟩:∃x,hs.getD k 0=x:=⟨_,rfl⟩
   rw[hxe] at hcell
   have bx0:x<18446744073709551616:=hxe ▸ getD_lt (by omega) LH.out k
   obtain⟨y,hy⟩:∃y,x / 2 ^ wi=y:=⟨_,rfl⟩
   have hyW:y<18446744073709551616:=by rw[<-hy];exact Nat.lt_of_le_of_lt (Nat.div_le_self _ _) bx0
   have SH:=sh_nat x wi
   rw[hy] at SH
   have OR:=or_zero y hyW
   have HR:Hid (∀t0 t1 t2 t3 t4 t5 t7 t8 t10 t13 t14 t15 t16 t17 t18 t19 t20 t21 t22 t23 t24 t25 t26 t27 t28 t29 t30 t31 t32 t33 t34 t35 t36 t37 t38 t39 t40 t41 t42 t43 t44 t45 t46 t47 t48 t49 t50 t51 t52 t53 t54 t55 t56 t57 t58 t59 t60 t61 t62 t63 t64 t65 t66 t67 t68 t69 t70 t71 t72 t73 t74:Value,_):=fun t0 t1 t2 t3 t4 t5 t7 t8 t10 t13 t14 t15 t16 t17 t18 t19 t20 t21 t22 t23 t24 t25 t26 t27 t28 t29 t30 t31 t32 t33 t34 t35 t36 t37 t38 t39 t40 t41 t42 t43 t44 t45 t46 t47 t48 t49 t50 t51 t52 t53 t54 t55 t56 t57 t58 t59 t60 t61 t62 t63 t64 t65 t66 t67 t68 t69 t70 t71 t72 t73 t74=>reg708 t0 t1 t2 t3 t4 t5 t7 t8 t10 t13 t14 t15 t16 t17 t18 t19 t20 t21 t22 t23 t24 t25 t26 t27 t28 t29 t30 t31 t32 t33 t34 t35 t36 t37 t38 t39 t40 t41 t42 t43 t44 t45 t46 t47 t48 t49 t50 t51 t52 t53 t54 t55 t56 t57 t58 t59 t60 t61 t62 t63 t64 t65 t66 t67 t68 t69 t70 t71 t72 t73 t74 g N k wi x 0 y y zs wr hown.out (hA.out.rest k (Nat.le_refl _)) (by omega) (by omega) hw SH OR
   have HXE:=hide hxe
   have HY:=hide hy
   clear hpc hpb SH OR hxe hy
   go_wp2
   refine Code.wp_mono ?_ (HR.out _ _ _ _ _ _ _ _ _ _ _ _ _ _ _ _ _ _ _ _ _ _ _ _ _ _ _ _ _ _ _ _ _ _ _ _ _ _ _ _ _ _ _ _ _ _ _ _ _ _ _ _ _ _ _ _ _ _ _ _ _ _ _ _ _ _ _ _ _ _ _)
   intro e a1 w9 hR
   cases e <;> first|(exact False.elim hR)|skip
   obtain⟨u40,u41,u42,u43,u44,u45,u46,u47,u48,rfl,O9,X9⟩:=hR
   have O9':Hid (OU w9 g N N (zs.set k y)):=O9
   have X9':Hid (Gt g w2 w9):=hg.out.trans X9
   clear O9 X9 HR hown hg hcell
   have hmin:min (64-wi) 64=64-wi:=by omega
   have SW:=shl_wrap x wi
   obtain⟨dn,hdn⟩:∃dn,x*2 ^ (64-wi) % 18446744073709551616=dn:=⟨_,rfl⟩
   rw[hdn] at SW
   have hw63:(wi:Int)<=64:=by omega
   by_cases hk0:k=0
   ·subst hk0
    have NX:=hide (hA.out.first hw LH.out (by omega) (by omega))
    rw[HXE.out,HY.out] at NX
    have hdz:dn=0 ↔ db=false:=by
     rw[<-hdn,down_val hw,<-HDB.out,HXE.out]
     constructor
     ·intro h
      rcases Nat.mul_eq_zero.1 h with h|h
      ·simp[h]
      ·exact absurd h (Nat.ne_of_gt (Nat.two_pow_pos _))
     ·intro h
      have:x % 2 ^ wi=0:=by simpa using h
      rw[this,Nat.zero_mul]
    clear hA HDB hdn
    rw[show offB lb db 0=lb from rfl]
    cases lb with
    | true =>
     go_wp2
     go_roundw
     case rel=>exact⟨1,_,by omega,by go_num,rfl,O9',NX,X9'⟩
     case measure=>simp only[intOf];omega
    | false =>
     cases db with
     | true =>
      have hd1:dn≠0:=fun h=>by have:=hdz.1 h;cases this
      have IS:=hide (isSetN dn hd1)
      clear hdz hd1
      go_wp2_with (go_at_call 108;(with_reducible refine(IS.out _).mono ?_);rintro r wz ⟨rfl,rfl⟩)
      go_roundw
      case rel=>exact⟨1,_,by omega,by go_num,rfl,O9',NX,X9'⟩
      case measure=>simp only[intOf];omega
     | false =>
      have hd1:dn=0:=hdz.2 rfl
      subst hd1
      clear hdz
      go_wp2_with (go_at_call 108;(with_reducible refine(isSetZ _).mono ?_);rintro r wz ⟨rfl,rfl⟩)
      go_roundw
      case rel=>exact⟨1,_,by omega,by go_num,rfl,O9',NX,X9'⟩
      case measure=>simp only[intOf];omega
   ·obtain⟨i,rfl⟩:∃i,k=i+1:=⟨k-1,by omega⟩
    have NX:=hA.out.next hw (by omega) LH.out (by omega) (by omega)
    rw[HXE.out,HY.out,hdn,show i+1-1=i from rfl] at NX
    obtain⟨p,hp⟩:∃p,zs.getD i 0=p:=⟨_,rfl⟩
    rw[hp] at NX
    have hcl:=O9'.out.cell i (by omega)
    have hfz:=O9'.out.fz i
    rw[getD_set _ _ _ _ (by rw[hA.out.len];omega),if_neg (by omega),hp] at hcl
    have bp:p<18446744073709551616:=hp ▸ getD_lt (by omega) hA.out.lt i
    have bd:dn<18446744073709551616:=by rw[<-hdn];exact Nat.mod_lt _ (by omega)
    have OR:bits .or .u64 (p:Int) (dn:Int)=((p ||| dn:Nat):Int):=bits_or_u64_nat _ _ bp bd
    obtain⟨z,hz⟩:∃z,(p ||| dn)=z:=⟨_,rfl⟩
    rw[hz] at NX OR
    have NX2:=hide NX.2
    have OS:Hid (OU (w9.setCell ⟨g,i,none⟩ (.int .u64 (z:Int))) g N N ((zs.set (i+1) y).set i z)):=O9'.out.set i z
    have X9'':Hid (Gt g w2 (w9.setCell ⟨g,i,none⟩ (.int .u64 (z:Int)))):=X9'.out.setCell rfl _
    have hi1:(0:Int)<(i:Int)+1:=by omega
    have hi2:(i:Int)<(N:Int):=by omega
    have hi3:(i:Int)+1-1=(i:Int):=by omega
    clear hA HDB hdn hp hz NX hk0
    rw[show offB lb db (i+1)=(lb || db) from rfl]
    go_wp2
    go_roundw
    case rel=>exact⟨i+1+1,_,by omega,by go_num,rfl,OS,NX2,X9''⟩
    case measure=>simp only[intOf];omega
  ·obtain rfl:k=M:=by omega
   have GF:Hid (Gr w wr):=Gt.gr (GQ.out.trans G2.out) hg.out hws
   have hv:=hA.out.val
   rw[if_neg (by omega),List.take_of_length_le (by omega)] at hv
   have hl0:hs.getD 0 0 % 2 ^ wi<2 ^ wi:=Nat.mod_lt _ (Nat.two_pow_pos _)
   have CE:=ceil_val (P:=2 ^ by') VP.out hv.symm hl0 BL.out (by rw[HB.out,Nat.pow_add,pow64])
   have hof:offB lb db k=true ↔ ¬(nv 18446744073709551616 ls=0/\hs.getD 0 0 % 2 ^ wi=0):=by
    unfold offB
    rw[if_neg (by omega),<-HLB.out,<-HDB.out]
    simp
    omega
   have hF:nv 18446744073709551616 zs<18446744073709551616 ^ k:=by
    refine Nat.lt_of_le_of_lt ?_ BH.out
    rw[<-hv]
    exact Nat.le_trans (Nat.le_mul_of_pos_right _ (Nat.two_pow_pos _)) (Nat.le_add_right _ _)
   obtain⟨F,hFe⟩:∃F,nv 18446744073709551616 zs=F:=⟨_,rfl⟩
   obtain⟨R,hRe⟩:∃R,(nv 18446744073709551616 xs+(2 ^ by'-1)) / 2 ^ by'=R:=⟨_,rfl⟩
   rw[hFe] at CE hF
   rw[hRe] at CE
   have HRE:=hide hRe
   have HFE:=hide hFe
   have hlz:=hide hA.out.lt
   clear hv hl0 hRe hFe hA
   by_cases hoff:offB lb db k=true
   ·rw[if_neg (hof.1 hoff)] at CE
    have CE':=hide CE
    have hroom:F+1<18446744073709551616 ^ N:=by
     have:18446744073709551616 ^ N=18446744073709551616 ^ k*18446744073709551616:=by rw[<-hN,Nat.pow_succ]
     have h1:1<=18446744073709551616 ^ k:=Nat.one_le_pow _ _ (by omega)
     omega
    have RM:=hide hroom
    have hgw:=ou_lt hown.out
    have GA:Gr wr (wr.alloc (.cells #[.int .u64 1] 63)):=(Gr.refl wr).alloc _
    have PV:=hide (putV g N N 0 N N (some ⟨wr.heap.size,0,none⟩) 1 1 [1] zs (wr.alloc (.cells #[.int .u64 1] 63)) (row1V wr) (fun _ b hb=>by injection hb with hb;rw[<-hb];show wr.heap.size≠g;omega) (by simp) hlz.out (by omega) (by omega) (by omega) (Nat.le_refl _) (by omega) (hown.out.gr GA) (by rw[HFE.out,Nat.pow_zero,Nat.one_mul,show nv 18446744073709551616 [1]=1 by simp[nv]];exact RM.out))
    have GF2:=hide (GF.out.trans GA)
    clear CE hroom hof hF
    rw[hoff]
    go_wp2_with (go_at_call 104;(with_reducible refine PV.out.mono ?_);rintro r w9 ⟨rfl,zs9,M9,E9,O9,T9⟩)
    have E9':nv 18446744073709551616 zs9=R:=by rw[E9.out,HFE.out,Nat.pow_zero,Nat.one_mul,show nv 18446744073709551616 [1]=1 by simp[nv],CE'.out]
    have GF3:Hid (Gr w w9):=Gt.gr GF2.out T9.out hws
    have TR:=hide (trimVO (v:=R) (B:=g) O9.out M9.out E9' (Gr.refl w9))
    clear PV E9'
    go_wp2_with (go_at_call 105;(with_reducible refine TR.out.mono ?_);rintro r wz ⟨k9,rfl,hk9,L9,F9,rfl⟩)
    go_ret
    exact⟨_,_,_,rfl,by omega,(by rw[HRE.out];exact L9),F9.low hws,GF3.out⟩
   ·have hof0:offB lb db k=false:=by simpa using hoff
    have hall:nv 18446744073709551616 ls=0/\hs.getD 0 0 % 2 ^ wi=0:=by
     refine Classical.byContradiction fun h=>hoff (hof.2 h)
    rw[if_pos hall] at CE
    have CE':=hide CE
    have E9':nv 18446744073709551616 zs=R:=by rw[HFE.out,CE];omega
    have TR:=hide (trimVO (v:=R) (B:=g) hown.out hlz.out E9' (Gr.refl wr))
    clear CE hof hF hoff hall E9'
    rw[hof0]
    go_wp2_with (go_at_call 105;(with_reducible refine TR.out.mono ?_);rintro r wz ⟨k9,rfl,hk9,L9,F9,rfl⟩)
    go_ret
    exact⟨_,_,_,rfl,by omega,(by rw[HRE.out];exact L9),F9.low hws,GF.out⟩
set_option maxRecDepth 8000 in
set_option maxHeartbeats 8000000 in
theorem overB3 (a:Addr) (n cap Q wi by':Nat) (xs:List Nat) (w:World) (rx:Row w (some a) n cap xs) (hx:∀x∈xs,x<18446744073709551616) (hn:n<=1099511620000) (hc:n<cap) (hb:by'=64*Q+wi) (hw:wi<64) (hQ:n<=Q) (hQb:Q<=1099511620000) :
  Calls Tryz.prog 70 #[.slice (some a) n cap,.int .i64 (by':Int)] w fun e w'=>∃ad' n' c',e = .returned (.slice ad' n' c')/\n'<=n+1/\Hid (Lim w' ad' n' c' 18446744073709551616 ((nv 18446744073709551616 xs+(2 ^ by'-1)) / 2 ^ by'))/\Hid (Fresh w.heap.size w' ad' n' c')/\Gr w w':=by
 have hl:=rx.le
 have hm:=rx.max
 have lx:=rx.len
 have e1:(by':Int) / 64=(Q:Int):=by omega
 have e2:(by':Int) % 64=(wi:Int):=by omega
 have e3:(by':Int).tdiv 64=(Q:Int):=by rw[Int.tdiv_eq_ediv_of_nonneg (by omega)];exact e1
 have e4:(by':Int).tmod 64=(wi:Int):=by rw[Int.tmod_eq_emod_of_nonneg (by omega)];exact e2
 have e5:min (Q:Int) (n:Int)=(n:Int):=by omega
 have q1:n<=cap:=by omega
 have q3:(n:Int)<=(cap:Int):=by omega
 have q2:¬cap=n:=by omega
 have BL:Hid (nv 18446744073709551616 xs<2 ^ by'):=by
  have h1:=nv_lt 18446744073709551616 xs hx
  rw[lx,pow64] at h1
  exact Nat.lt_of_lt_of_le h1 (Nat.pow_le_pow_right (by omega) (by omega))
 have hce:(nv 18446744073709551616 xs+(2 ^ by'-1)) / 2 ^ by'=if nv 18446744073709551616 xs=0 then 0 else 1:=by
  have hP:=Nat.two_pow_pos by'
  have h1:=BL.out
  generalize 2 ^ by'=P at *
  split
  ·rename_i h
   rw[h]
   exact Nat.div_eq_of_lt (by omega)
  ·refine Nat.div_eq_of_lt_le ?_ ?_ <;> omega
 have HCE:=hide hce
 have RX:=hide rx
 clear rx hx hb hce
 have CN:Hid (∀w1,Gr w w1->Calls Tryz.prog 107 #[.slice (some a) n cap,.func (.func 108) #[] #[]] w1 fun e w'=>e = .returned (.bool (decide (nv 18446744073709551616 xs≠0)))/\w'=w1):=fun w1 g=>containsZ _ _ _ _ w1 (RX.out.gr g) (by omega)
 obtain⟨lb,hlb⟩:∃lb,decide (nv 18446744073709551616 xs≠0)=lb:=⟨_,rfl⟩
 rw[hlb] at CN
 have HLB:=hide hlb
 clear hlb
 go_enter Tryz.func70,Tryz.ntmps70
 go_wp2
 go_quiet (fail)
 have GQ:Hid (Gr w (w.drewN nq)):=(Gr.refl w).drewN nq
 generalize w.drewN nq=wq at *
 go_wp2_with (first|(go_at_call 107;(with_reducible refine(CN.out _ (GQ.out.trans hg2)).mono ?_);rintro r w2 ⟨rfl,rfl⟩)|(at_make;refine wpList_made rfl _ _ rfl 1 _ rfl rfl (by omega) (by omega) ?_;intro w2 hown0 hg2))
 have O2:Hid (OU w2 wq.heap.size 1 1 (List.replicate 1 0)):=hown0
 have G2:Hid (Gr wq w2):=hg2
 have hws:=GQ.out.size
 clear hg2 hown0 CN
 obtain⟨g,hgdef⟩:∃g,wq.heap.size=g:=⟨_,rfl⟩
 rw[hgdef] at hws
 rw[hgdef] at O2
 rw[hgdef]
 go_loopw [10,35] (fun tf ti wr=>ti = .int .i64 0/\tf = .bool lb/\wr=w2) (fun _ ti _=>0)
 case atStart=>exact⟨rfl,rfl,rfl⟩
 case round =>
  obtain⟨rfl,rfl,rfl⟩:=hrel
  have GF:Hid (Gr w wr):=GQ.out.trans G2.out
  cases lb with
  | true =>
   have h0:nv 18446744073709551616 xs≠0:=by have:=HLB.out;simpa using this
   have hR:=HCE.out
   rw[if_neg h0] at hR
   replace HCE:=hide hR
   have hgw:=ou_lt O2.out
   have GA:Gr wr (wr.alloc (.cells #[.int .u64 1] 63)):=(Gr.refl wr).alloc _
   have PV:=hide (putV g 1 1 0 1 1 (some ⟨wr.heap.size,0,none⟩) 1 1 [1] (List.replicate 1 0) (wr.alloc (.cells #[.int .u64 1] 63)) (row1V wr) (fun _ b hb=>by injection hb with hb;rw[<-hb];show wr.heap.size≠g;omega) (by simp) (by simp) (by omega) (by omega) (by omega) (Nat.le_refl _) (by omega) (O2.out.gr GA) (by simp[nv]))
   have GF2:=hide (GF.out.trans GA)
   clear hR h0
   go_wp2_with (go_at_call 104;(with_reducible refine PV.out.mono ?_);rintro r w9 ⟨rfl,zs9,M9,E9,O9,T9⟩)
   have E9':nv 18446744073709551616 zs9=1:=by rw[E9.out];simp[nv]
   have GF3:Hid (Gr w w9):=Gt.gr GF2.out T9.out hws
   have TR:=hide (trimVO (v:=1) (B:=g) O9.out M9.out E9' (Gr.refl w9))
   clear PV E9'
   go_wp2_with (go_at_call 105;(with_reducible refine TR.out.mono ?_);rintro r wz ⟨k9,rfl,hk9,L9,F9,rfl⟩)
   go_ret
   exact⟨_,_,_,rfl,by omega,(by rw[HCE.out];exact L9),F9.low hws,GF3.out⟩
  | false =>
   have h0:nv 18446744073709551616 xs=0:=by have:=HLB.out;simpa using this
   have hR:=HCE.out
   rw[if_pos h0] at hR
   replace HCE:=hide hR
   have TR:=hide (trimVO (v:=0) (B:=g) O2.out (by simp) (by simp[nv]) (Gr.refl wr))
   clear hR h0
   go_wp2_with (go_at_call 105;(with_reducible refine TR.out.mono ?_);rintro r wz ⟨k9,rfl,hk9,L9,F9,rfl⟩)
   go_ret
   exact⟨_,_,_,rfl,by omega,(by rw[HCE.out];exact L9),F9.low hws,GF.out⟩
set_option maxRecDepth 8000 in
set_option maxHeartbeats 8000000 in
theorem overB2 (a:Addr) (n Q wi by':Nat) (xs:List Nat) (w:World) (rx:Row w (some a) n n xs) (hx:∀x∈xs,x<18446744073709551616) (hn:n<=1099511620000) (hb:by'=64*Q+wi) (hw:wi<64) (hQ:n<=Q) (hQb:Q<=1099511620000) :
  Calls Tryz.prog 70 #[.slice (some a) n n,.int .i64 (by':Int)] w fun e w'=>∃ad' n' c',e = .returned (.slice ad' n' c')/\n'<=n+1/\Hid (Lim w' ad' n' c' 18446744073709551616 ((nv 18446744073709551616 xs+(2 ^ by'-1)) / 2 ^ by'))/\Hid (Fresh w.heap.size w' ad' n' c')/\Gr w w':=by
 have hl:=rx.le
 have hm:=rx.max
 have lx:=rx.len
 have e1:(by':Int) / 64=(Q:Int):=by omega
 have e2:(by':Int) % 64=(wi:Int):=by omega
 have e3:(by':Int).tdiv 64=(Q:Int):=by rw[Int.tdiv_eq_ediv_of_nonneg (by omega)];exact e1
 have e4:(by':Int).tmod 64=(wi:Int):=by rw[Int.tmod_eq_emod_of_nonneg (by omega)];exact e2
 have e5:min (Q:Int) (n:Int)=(n:Int):=by omega
 have BL:Hid (nv 18446744073709551616 xs<2 ^ by'):=by
  have h1:=nv_lt 18446744073709551616 xs hx
  rw[lx,pow64] at h1
  exact Nat.lt_of_lt_of_le h1 (Nat.pow_le_pow_right (by omega) (by omega))
 have hce:(nv 18446744073709551616 xs+(2 ^ by'-1)) / 2 ^ by'=if nv 18446744073709551616 xs=0 then 0 else 1:=by
  have hP:=Nat.two_pow_pos by'
  have h1:=BL.out
  generalize 2 ^ by'=P at *
  split
  ·rename_i h
   rw[h]
   exact Nat.div_eq_of_lt (by omega)
  ·refine Nat.div_eq_of_lt_le ?_ ?_ <;> omega
 have HCE:=hide hce
 have RX:=hide rx
 clear rx hx hb hce
 have CN:Hid (∀w1,Gr w w1->Calls Tryz.prog 107 #[.slice (some a) n n,.func (.func 108) #[] #[]] w1 fun e w'=>e = .returned (.bool (decide (nv 18446744073709551616 xs≠0)))/\w'=w1):=fun w1 g=>containsZ _ _ _ _ w1 (RX.out.gr g) (by omega)
 obtain⟨lb,hlb⟩:∃lb,decide (nv 18446744073709551616 xs≠0)=lb:=⟨_,rfl⟩
 rw[hlb] at CN
 have HLB:=hide hlb
 clear hlb
 go_enter Tryz.func70,Tryz.ntmps70
 go_wp2
 go_quiet (fail)
 have GQ:Hid (Gr w (w.drewN nq)):=(Gr.refl w).drewN nq
 generalize w.drewN nq=wq at *
 go_wp2_with (first|(go_at_call 107;(with_reducible refine(CN.out _ (GQ.out.trans hg2)).mono ?_);rintro r w2 ⟨rfl,rfl⟩)|(at_make;refine wpList_made rfl _ _ rfl 1 _ rfl rfl (by omega) (by omega) ?_;intro w2 hown0 hg2))
 have O2:Hid (OU w2 wq.heap.size 1 1 (List.replicate 1 0)):=hown0
 have G2:Hid (Gr wq w2):=hg2
 have hws:=GQ.out.size
 clear hg2 hown0 CN
 obtain⟨g,hgdef⟩:∃g,wq.heap.size=g:=⟨_,rfl⟩
 rw[hgdef] at hws
 rw[hgdef] at O2
 rw[hgdef]
 go_loopw [10,35] (fun tf ti wr=>ti = .int .i64 0/\tf = .bool lb/\wr=w2) (fun _ ti _=>0)
 case atStart=>exact⟨rfl,rfl,rfl⟩
 case round =>
  obtain⟨rfl,rfl,rfl⟩:=hrel
  have GF:Hid (Gr w wr):=GQ.out.trans G2.out
  cases lb with
  | true =>
   have h0:nv 18446744073709551616 xs≠0:=by have:=HLB.out;simpa using this
   have hR:=HCE.out
   rw[if_neg h0] at hR
   replace HCE:=hide hR
   have hgw:=ou_lt O2.out
   have GA:Gr wr (wr.alloc (.cells #[.int .u64 1] 63)):=(Gr.refl wr).alloc _
   have PV:=hide (putV g 1 1 0 1 1 (some ⟨wr.heap.size,0,none⟩) 1 1 [1] (List.replicate 1 0) (wr.alloc (.cells #[.int .u64 1] 63)) (row1V wr) (fun _ b hb=>by injection hb with hb;rw[<-hb];show wr.heap.size≠g;omega) (by simp) (by simp) (by omega) (by omega) (by omega) (Nat.le_refl _) (by omega) (O2.out.gr GA) (by simp[nv]))
   have GF2:=hide (GF.out.trans GA)
   clear hR h0
   go_wp2_with (go_at_call 104;(with_reducible refine PV.out.mono ?_);rintro r w9 ⟨rfl,zs9,M9,E9,O9,T9⟩)
   have E9':nv 18446744073709551616 zs9=1:=by rw[E9.out];simp[nv]
   have GF3:Hid (Gr w w9):=Gt.gr GF2.out T9.out hws
   have TR:=hide (trimVO (v:=1) (B:=g) O9.out M9.out E9' (Gr.refl w9))
   clear PV E9'
   go_wp2_with (go_at_call 105;(with_reducible refine TR.out.mono ?_);rintro r wz ⟨k9,rfl,hk9,L9,F9,rfl⟩)
   go_ret
   exact⟨_,_,_,rfl,by omega,(by rw[HCE.out];exact L9),F9.low hws,GF3.out⟩
  | false =>
   have h0:nv 18446744073709551616 xs=0:=by have:=HLB.out;simpa using this
   have hR:=HCE.out
   rw[if_pos h0] at hR
   replace HCE:=hide hR
   have TR:=hide (trimVO (v:=0) (B:=g) O2.out (by simp) (by simp[nv]) (Gr.refl wr))
   clear hR h0
   go_wp2_with (go_at_call 105;(with_reducible refine TR.out.mono ?_);rintro r wz ⟨k9,rfl,hk9,L9,F9,rfl⟩)
   go_ret
   exact⟨_,_,_,rfl,by omega,(by rw[HCE.out];exact L9),F9.low hws,GF.out⟩
set_option maxRecDepth 8000 in
set_option maxHeartbeats 8000000 in
theorem overB1 (Q wi by':Nat) (xs:List Nat) (w:World) (rx:Row w (none) 0 0 xs) (hx:∀x∈xs,x<18446744073709551616) (hb:by'=64*Q+wi) (hw:wi<64) (hQ:0<=Q) (hQb:Q<=1099511620000) :
  Calls Tryz.prog 70 #[.slice (none) 0 0,.int .i64 (by':Int)] w fun e w'=>∃ad' n' c',e = .returned (.slice ad' n' c')/\n'<=0+1/\Hid (Lim w' ad' n' c' 18446744073709551616 ((nv 18446744073709551616 xs+(2 ^ by'-1)) / 2 ^ by'))/\Hid (Fresh w.heap.size w' ad' n' c')/\Gr w w':=by
 have hl:=rx.le
 have hm:=rx.max
 have lx:=rx.len
 have e1:(by':Int) / 64=(Q:Int):=by omega
 have e2:(by':Int) % 64=(wi:Int):=by omega
 have e3:(by':Int).tdiv 64=(Q:Int):=by rw[Int.tdiv_eq_ediv_of_nonneg (by omega)];exact e1
 have e4:(by':Int).tmod 64=(wi:Int):=by rw[Int.tmod_eq_emod_of_nonneg (by omega)];exact e2
 have e5:min (Q:Int) 0=0:=by omega
 have BL:Hid (nv 18446744073709551616 xs<2 ^ by'):=by
  have h1:=nv_lt 18446744073709551616 xs hx
  rw[lx,pow64] at h1
  exact Nat.lt_of_lt_of_le h1 (Nat.pow_le_pow_right (by omega) (by omega))
 have hce:(nv 18446744073709551616 xs+(2 ^ by'-1)) / 2 ^ by'=if nv 18446744073709551616 xs=0 then 0 else 1:=by
  have hP:=Nat.two_pow_pos by'
  have h1:=BL.out
  generalize 2 ^ by'=P at *
  split
  ·rename_i h
   rw[h]
   exact Nat.div_eq_of_lt (by omega)
  ·refine Nat.div_eq_of_lt_le ?_ ?_ <;> omega
 have HCE:=hide hce
 have RX:=hide rx
 clear rx hx hb hce
 have CN:Hid (∀w1,Gr w w1->Calls Tryz.prog 107 #[.slice (none) 0 0,.func (.func 108) #[] #[]] w1 fun e w'=>e = .returned (.bool (decide (nv 18446744073709551616 xs≠0)))/\w'=w1):=fun w1 g=>containsZ _ _ _ _ w1 (RX.out.gr g) (by omega)
 obtain⟨lb,hlb⟩:∃lb,decide (nv 18446744073709551616 xs≠0)=lb:=⟨_,rfl⟩
 rw[hlb] at CN
 have HLB:=hide hlb
 clear hlb
 go_enter Tryz.func70,Tryz.ntmps70
 go_wp2
 go_quiet (fail)
 have GQ:Hid (Gr w (w.drewN nq)):=(Gr.refl w).drewN nq
 generalize w.drewN nq=wq at *
 go_wp2_with (first|(go_at_call 107;(with_reducible refine(CN.out _ (GQ.out.trans hg2)).mono ?_);rintro r w2 ⟨rfl,rfl⟩)|(at_make;refine wpList_made rfl _ _ rfl 1 _ rfl rfl (by omega) (by omega) ?_;intro w2 hown0 hg2))
 have O2:Hid (OU w2 wq.heap.size 1 1 (List.replicate 1 0)):=hown0
 have G2:Hid (Gr wq w2):=hg2
 have hws:=GQ.out.size
 clear hg2 hown0 CN
 obtain⟨g,hgdef⟩:∃g,wq.heap.size=g:=⟨_,rfl⟩
 rw[hgdef] at hws
 rw[hgdef] at O2
 rw[hgdef]
 go_loopw [10,35] (fun tf ti wr=>ti = .int .i64 0/\tf = .bool lb/\wr=w2) (fun _ ti _=>0)
 case atStart=>exact⟨rfl,rfl,rfl⟩
 case round =>
  obtain⟨rfl,rfl,rfl⟩:=hrel
  have GF:Hid (Gr w wr):=GQ.out.trans G2.out
  cases lb with
  | true =>
   have h0:nv 18446744073709551616 xs≠0:=by have:=HLB.out;simpa using this
   have hR:=HCE.out
   rw[if_neg h0] at hR
   replace HCE:=hide hR
   have hgw:=ou_lt O2.out
   have GA:Gr wr (wr.alloc (.cells #[.int .u64 1] 63)):=(Gr.refl wr).alloc _
   have PV:=hide (putV g 1 1 0 1 1 (some ⟨wr.heap.size,0,none⟩) 1 1 [1] (List.replicate 1 0) (wr.alloc (.cells #[.int .u64 1] 63)) (row1V wr) (fun _ b hb=>by injection hb with hb;rw[<-hb];show wr.heap.size≠g;omega) (by simp) (by simp) (by omega) (by omega) (by omega) (Nat.le_refl _) (by omega) (O2.out.gr GA) (by simp[nv]))
   have GF2:=hide (GF.out.trans GA)
   clear hR h0
   go_wp2_with (go_at_call 104;(with_reducible refine PV.out.mono ?_);rintro r w9 ⟨rfl,zs9,M9,E9,O9,T9⟩)
   have E9':nv 18446744073709551616 zs9=1:=by rw[E9.out];simp[nv]
   have GF3:Hid (Gr w w9):=Gt.gr GF2.out T9.out hws
   have TR:=hide (trimVO (v:=1) (B:=g) O9.out M9.out E9' (Gr.refl w9))
   clear PV E9'
   go_wp2_with (go_at_call 105;(with_reducible refine TR.out.mono ?_);rintro r wz ⟨k9,rfl,hk9,L9,F9,rfl⟩)
   go_ret
   exact⟨_,_,_,rfl,by omega,(by rw[HCE.out];exact L9),F9.low hws,GF3.out⟩
  | false =>
   have h0:nv 18446744073709551616 xs=0:=by have:=HLB.out;simpa using this
   have hR:=HCE.out
   rw[if_pos h0] at hR
   replace HCE:=hide hR
   have TR:=hide (trimVO (v:=0) (B:=g) O2.out (by simp) (by simp[nv]) (Gr.refl wr))
   clear hR h0
   go_wp2_with (go_at_call 105;(with_reducible refine TR.out.mono ?_);rintro r wz ⟨k9,rfl,hk9,L9,F9,rfl⟩)
   go_ret
   exact⟨_,_,_,rfl,by omega,(by rw[HCE.out];exact L9),F9.low hws,GF.out⟩
theorem overV (ad:Option Addr) (n cap by':Nat) (x:Nat) (w:World) (hx:Lim w ad n cap 18446744073709551616 x) (hn:n<=1099511620000) (hb:by'<=1099511620000) :
  Calls Tryz.prog 70 #[.slice ad n cap,.int .i64 (by':Int)] w fun e w'=>∃ad' n' c',e = .returned (.slice ad' n' c')/\n'<=n+1/\Hid (Lim w' ad' n' c' 18446744073709551616 ((x+(2 ^ by'-1)) / 2 ^ by'))/\Hid (Fresh w.heap.size w' ad' n' c')/\Gr w w':=by
 obtain⟨xs,rx,dx⟩:=hx
 have hl:=rx.le
 have e:by'=64*(by' / 64)+by' % 64:=by omega
 rw[<-dx.1]
 by_cases hQ:by' / 64<n
 ·obtain⟨b,o,rfl,_,_⟩:=rx.cells (by omega)
  exact overA b o n cap _ _ by' xs w rx dx.2.1 hn e (by omega) hQ
 ·cases ad with
  | none =>
   have hc:=rx.nil rfl
   obtain rfl:n=0:=by omega
   subst hc
   exact overB1 _ _ by' xs w rx dx.2.1 e (by omega) (by omega) (by omega)
  | some a =>
   by_cases hc:cap=n
   ·subst hc
    exact overB2 a _ _ _ by' xs w rx dx.2.1 hn e (by omega) (by omega) (by omega)
   ·exact overB3 a _ _ _ _ by' xs w rx dx.2.1 hn (by omega) e (by omega) (by omega) (by omega)
end Go.Proofs.YtnhekagmdniokaaGreatDoor
namespace Go.Proofs.YtnhekagmdniokaaGreatDoor
open Go.RowKit Go.Shelf
set_option linter.unusedVariables false
set_option linter.unusedSimpArgs false
attribute [local go_sem] Oper.semAt_some
abbrev Pl (len:Nat):={j:Nat // j<len}
def dnl (len k:Nat):List Nat:=(List.range k).map fun t=>len-1-t
theorem dnl_succ (len k:Nat):dnl len (k+1)=dnl len k++[len-1-k]:=by simp[dnl,List.range_succ]
set_option maxRecDepth 100000 in
set_option maxHeartbeats 2000000 in
theorem back1 (f:Nat->Nat) (n l Bs n₀ len cap:Nat) (ad:Option Addr) (hreach:len<=1099511627776) (hBs0:Bs<n₀) (J Jx:List (Pl len)->World->Prop)
  (hY:∀pre (x:Pl len) W,J pre W->pre.length<len->YieldAt Fence.wide (n-1) Tryz.prog l #[.int .i64 (x.1:Int),.int .u64 (f x.1:Int)] W fun e W' =>
   (e = .returned (.bool true)/\J (pre++[x]) W'/\Below n₀ W W')\/(e = .returned (.bool false)/\Jx (pre++[x]) W'))
  (W:World) (hBs:W.cell? ⟨Bs,0,none⟩=some (.slice ad len cap)) (hc:0<len->∃b off,ad=some ⟨b,off,none⟩/\b<n₀/\∀j,j<len->W.cell? ⟨b,off+j,none⟩=some (.int .u64 (f j:Int))) (h0:J [] W) :
  CallsIn Fence.wide n Tryz.prog 145 #[.func (.yield l) #[] #[],.pointer (some ⟨Bs,0,none⟩)] W fun e W'=>(∃v,e = .returned v) /\
   ((∃ys:List (Pl len),ys.map Subtype.val=dnl len len/\J ys W')\/(∃pre:List (Pl len),(∃k,k<=len/\pre.map Subtype.val=dnl len k)/\Jx pre W')):=by
 refine callsIn_of_wp Tryz.func145 rfl trivial ?_ rfl
 simp only[Tryz.ntmps145,List.size_toArray,List.length_cons,List.length_nil,Nat.reduceAdd,Nat.reduceSub,Array.replicate_succ,Array.replicate_zero,List.push_toArray,List.append_toArray,List.nil_append,List.cons_append]
 gi_wp2
 gi_loopw [3] (fun i wr=>∃(k:Nat) (pre:List (Pl len)),k<=len/\i = .int .i64 ((len:Int)-1-(k:Int))/\pre.map Subtype.val=dnl len k/\J pre wr/\Below n₀ W wr)
  (fun i _=>((intOf i)+1).toNat)
 case atStart=>exact⟨0,[],Nat.zero_le _,by simp,rfl,h0,Below.refl _ _⟩
 case round =>
  obtain⟨k,pre,hk,rfl,hpre,hJs,hnx⟩:=hrel
  have hBs':=(hnx.cell (p:=⟨Bs,0,none⟩) hBs0).trans hBs
  by_cases hlt:k<len
  ·obtain⟨b,off,rfl,hb,hcc⟩:=hc (by omega)
   have hcx:wr.cell? ⟨b,off+(len-1-k),none⟩=some (.int .u64 (f (len-1-k):Int)):=(hnx.cell (p:=⟨b,off+(len-1-k),none⟩) hb).trans (hcc _ (by omega))
   have hpl:pre.length=k:=by have:=congrArg List.length hpre;simpa [dnl] using this
   obtain⟨j,hj⟩:∃j,j=len-1-k:=⟨_,rfl⟩
   have hji:(len:Int)-1-(k:Int)=(j:Int):=by omega
   have hjl:j<len:=by omega
   have hji2:(j:Int)<(len:Int):=by omega
   rw[<-hj] at hcx
   rw[hji]
   have HJ:=hide hj
   have HJI:=hide hji
   clear hj hji
   obtain⟨fn,tmps,assign,body,hy,hR⟩:=hY pre ⟨j,hjl⟩ wr hJs (by omega)
   dsimp only at hy
   gi_wp2
   refine⟨(fun h=>by cases h),hR.mono ?_⟩
   rintro e W3 (⟨rfl,hJ3,hk3⟩|⟨rfl,hJx3⟩)
   ·gi_wp2
    go_roundw
    case rel=>exact⟨k+1,pre++[⟨j,hjl⟩],by omega,(by have:=HJI.out;first|rfl|(congr 1;omega)),by rw[dnl_succ,List.map_append,hpre,<-HJ.out];rfl,hJ3,hnx.trans hk3⟩
    case measure=>simp only[intOf];have:=HJI.out;omega
   ·gi_wp2
    refine bodyPost_ret (results_none rfl _ _ _) rfl ?_
    exact⟨⟨_,rfl⟩,.inr ⟨_,⟨k+1,by omega,by rw[dnl_succ,List.map_append,hpre,<-HJ.out];rfl⟩,hJx3⟩⟩
  ·obtain rfl:k=len:=by omega
   have hneg:¬(0:Int)<=(k:Int)-1-(k:Int):=by omega
   gi_wp2
   go_end0
   exact⟨⟨_,rfl⟩,.inl ⟨pre,hpre,hJs⟩⟩
set_option maxHeartbeats 1000000 in
theorem backIn (n:Nat) (a:Option Addr) (len cap:Nat) (w:World) :
  CallsIn Fence.wide n Tryz.prog 134 #[.slice a len cap] w fun e w'=>e = .returned (.func (.func 145) #[] #[.pointer (some ⟨w.heap.size,0,none⟩)])/\w'=w.alloc (.cells #[.slice a len cap] 22):=by
 refine callsIn_of_wp Tryz.func134 rfl trivial ?_ rfl
 simp only[Tryz.ntmps134,List.size_toArray,List.length_cons,List.length_nil,Nat.reduceAdd,Nat.reduceSub,Array.replicate_succ,Array.replicate_zero,List.push_toArray,List.append_toArray,List.nil_append,List.cons_append]
 gi_wp2
 go_ret
 exact⟨rfl,rfl⟩
theorem backStops (f:Nat->Nat) (n Bs n₀ len cap:Nat) (ad:Option Addr) (hreach:len<=1099511627776) (hBs0:Bs<n₀) (w:World) (hn₀:n₀<=w.heap.size)
  (hcB:w.cell? ⟨Bs,0,none⟩=some (.slice ad len cap)) (hc:0<len->∃b off,ad=some ⟨b,off,none⟩/\b<n₀/\∀j,j<len->w.cell? ⟨b,off+j,none⟩=some (.int .u64 (f j:Int))) :
  SeqStopsK Fence.wide n Tryz.prog 145 #[.pointer (some ⟨Bs,0,none⟩)] (fun x:Pl len=>#[Value.int .i64 (x.1:Int),Value.int .u64 (f x.1:Int)]) (Below n₀) (fun ys=>ys.map Subtype.val=dnl len len) (fun pre=>∃k,k<=len/\pre.map Subtype.val=dnl len k) len w:=fun l J Jx W hW _ _ hY h0=>by
 have hb:=hW.mono hn₀
 refine back1 f n l Bs n₀ len cap ad hreach hBs0 J Jx hY W ((hb.cell (p:=⟨Bs,0,none⟩) hBs0).trans hcB) (fun hp=>?_) h0
 obtain⟨b,off,h1,h2,h3⟩:=hc hp
 exact⟨b,off,h1,h2,fun j hj=>(hb.cell (p:=⟨b,off+j,none⟩) h2).trans (h3 j hj)⟩
end Go.Proofs.YtnhekagmdniokaaGreatDoor
