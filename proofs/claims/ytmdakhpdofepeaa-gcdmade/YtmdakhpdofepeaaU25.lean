import Derived.Test.YtmdakhpdofepeaaU23
import Derived.Test.YtmdakhpdofepeaaU24
import Derived.Deep.RegionWith
import Derived.Deep.Cut
namespace Go.Proofs.Ytmdakhpdofepeaa
open Go.RowKit
set_option linter.unusedVariables false
set_option linter.unusedSimpArgs false
structure Hds (X Y T u a b:Nat):Prop where
 la:a<18446744073709551616
 le:b<=a
 lo:∃U W xl yl,0<U/\X*U=a*W+xl/\Y*U=b*W+yl/\xl<W/\yl<W
theorem hds_of {X Y n1 u:Nat} {xs ys:List Nat} (dx:Dg 18446744073709551616 X xs) (dy:Dg 18446744073709551616 Y ys) (l1:xs.length=n1+1) (hle:Y<=X) (hu:u=64-bl (xs.getD n1 0)) :
  u<64/\ys.length<=n1+1/\Hds X Y n1 u (shW xs n1 u) (shW ys n1 u):=by
 have ht:=dx.2.2 n1 l1
 have bt:=getD_lt (by omega) dx.2.1 n1
 have hb:=bl_posW (y:=xs.getD n1 0) (by omega)
 have hu64:u<64:=by omega
 obtain⟨m1,m2⟩:=norm_lt bt (by omega)
 rw[<-hu] at m1 m2
 have e64:(18446744073709551616:Nat)=2 ^ bl (xs.getD n1 0)*2 ^ u:=by rw[<-Nat.pow_add,show bl (xs.getD n1 0)+u=64 by have:=bl_le_of_lt (k:=64) bt;omega]
 have m3:(xs.getD n1 0+1)*2 ^ u<=18446744073709551616:=by
  rw[e64]
  exact Nat.mul_le_mul_right _ (bl_lt (xs.getD n1 0))
 have hX:X*2 ^ u<18446744073709551616 ^ (n1+1):=by
  have h1:=nv_take_succ 18446744073709551616 xs n1
  rw[List.take_of_length_le (by omega),dx.1] at h1
  have h2:=nv_lt 18446744073709551616 (xs.take n1) (fun x hx=>dx.2.1 x (List.mem_of_mem_take hx))
  rw[List.length_take,Nat.min_eq_left (by omega)] at h2
  have h3:X+1<=18446744073709551616 ^ n1*(xs.getD n1 0+1):=by rw[Nat.mul_add,Nat.mul_one];omega
  have h4:=Nat.mul_le_mul_right (2 ^ u) h3
  rw[Nat.mul_assoc] at h4
  have h5:=Nat.mul_le_mul_left (18446744073709551616 ^ n1) m3
  rw[Nat.add_mul,Nat.one_mul] at h4
  rw[Nat.pow_succ]
  have:=Nat.two_pow_pos u
  omega
 have hY:Y*2 ^ u<18446744073709551616 ^ (n1+1):=Nat.lt_of_le_of_lt (Nat.mul_le_mul_right _ hle) hX
 have l2:ys.length<=n1+1:=by
  refine Nat.le_of_not_lt fun h=>?_
  have h1:=dy.lower (k:=ys.length-1) (by omega)
  have h2:=dx.upper
  rw[l1] at h2
  have h3:18446744073709551616 ^ (n1+1)<=18446744073709551616 ^ (ys.length-1):=Nat.pow_le_pow_right (by omega) (by omega)
  omega
 have e1:=headN (xs:=xs) (p:=n1) (u:=u) dx.2.1 (by omega) hu64 (by rw[dx.1];exact hX)
 have e2:=headN (xs:=ys) (p:=n1) (u:=u) dy.2.1 l2 hu64 (by rw[dy.1];exact hY)
 rw[dx.1] at e1
 rw[dy.1] at e2
 have hW:0<18446744073709551616 ^ n1:=Nat.pow_pos (by omega)
 refine⟨hu64,l2,?_,?_,2 ^ u,18446744073709551616 ^ n1,X*2 ^ u % 18446744073709551616 ^ n1,Y*2 ^ u % 18446744073709551616 ^ n1,Nat.two_pow_pos u,?_,?_,Nat.mod_lt _ hW,Nat.mod_lt _ hW⟩
 ·rw[e1]
  refine(Nat.div_lt_iff_lt_mul hW).2 ?_
  rw[Nat.pow_succ,Nat.mul_comm (18446744073709551616 ^ n1)] at hX
  exact hX
 ·rw[e1,e2]
  exact Nat.div_le_div_right (Nat.mul_le_mul_right _ hle)
 ·rw[e1,Nat.mul_comm (X*2 ^ u / _)];exact(Nat.div_add_mod _ _).symm
 ·rw[e2,Nat.mul_comm (Y*2 ^ u / _)];exact(Nat.div_add_mod _ _).symm
theorem fs_bd {X Y r a b s c d:Nat} (h:Gd.Fs X Y r a b s c d) (hX:X<18446744073709551616):r<18446744073709551616/\s<18446744073709551616:=by
 have h1:=h.idX
 have h2:=h.det
 have h3:=h.le
 have hd:1<=d:=by
  rcases Nat.eq_zero_or_pos d with rfl|h9
  ·omega
  ·exact h9
 have:=Nat.le_mul_of_pos_right r hd
 exact⟨by omega,by omega⟩
def FsR (X Y r a b s c d:Nat):Prop:=Gd.Fs X Y r a b s c d/\(b=0\/Gd.Sr X Y r a b s c d)
set_option maxRecDepth 4000 in
set_option maxHeartbeats 4000000 in
theorem foreseenG (ad1 ad2:Option Addr) (n1 n2 c1 c2:Nat) (X Y:Int) (w:World) (hx:Wh w false ad1 n1 c1 X) (hy:Wh w false ad2 n2 c2 Y) (hY:0<Y) :
  Calls Try.prog 39 #[.agg #[.bool false,.slice ad1 n1 c1],.agg #[.bool false,.slice ad2 n2 c2]] w fun e w'=>∃r a b s c d:Nat,e = .returned (.agg #[.int .u64 (r:Int),.int .u64 (a:Int),.int .u64 (b:Int),.int .u64 (s:Int),.int .u64 (c:Int),.int .u64 (d:Int)])/\(b=0\/Gd.Lp X Y a b c d)/\b<18446744073709551616/\Gr w w':=by
 have CM:=hide (fun w1 (g:Gr w w1)=>cmpL false false ad1 ad2 n1 n2 c1 c2 X Y w1 (hx.gr g) (hy.gr g))
 have hX0:0<=X:=by have:=hx.val;rw[iv_f] at this;omega
 have G0:=((((Gr.refl w).alloc (.cells #[.bool false,.slice ad1 n1 c1] 24)).alloc (.cells #[.bool false,.slice ad2 n2 c2] 24)).alloc (.cells #[.int .u64 0,.int .u64 0,.int .u64 0,.int .u64 0,.int .u64 0,.int .u64 0] 66)).alloc (.cells #[.int .u64 0,.int .u64 1,.int .u64 0,.int .u64 0,.int .u64 0,.int .u64 1] 66)
 obtain⟨B1,B2,B3,B4⟩:=blk4G w (.cells #[.bool false,.slice ad1 n1 c1] 24) (.cells #[.bool false,.slice ad2 n2 c2] 24) (.cells #[.int .u64 0,.int .u64 0,.int .u64 0,.int .u64 0,.int .u64 0,.int .u64 0] 66) (.cells #[.int .u64 0,.int .u64 1,.int .u64 0,.int .u64 0,.int .u64 0,.int .u64 1] 66)
 by_cases hlt:X<Y
 ·have hs:sg (X-Y)<0:=by unfold sg;rw[if_pos (by omega)];decide
  generalize sg (X-Y)=z at *
  have HB:=hide (And.intro B3 B4)
  have HG:=hide G0
  clear B1 B2 B3 B4 G0
  go_enter Try.func39,Try.ntmps39
  go_wp2_with (go_at_call 24;(with_reducible refine(CM.out _ HG.out).mono ?_);rintro r w1 ⟨rfl,g1⟩;have H3:=keepO g1 HB.out.1;have H4:=keepO g1 HB.out.2;obtain⟨x0,x1,x2,x3,x4,x5⟩:=bx6G H4;obtain⟨y0,y1,y2,y3,y4,y5⟩:=bx6G H3;obtain⟨z0,z1,z2,z3,z4,z5⟩:=fz6G H3)
  have H9:=set6G H3 (.int .u64 0) (.int .u64 1) (.int .u64 0) (.int .u64 0) (.int .u64 0) (.int .u64 1)
  obtain⟨e0,e1,e2,e3,e4,e5⟩:=bx6G H9
  have hz:w.heap.size<=w.heap.size+1+1:=by omega
  refine bodyPost_ret (v:=.agg #[.int .u64 0,.int .u64 1,.int .u64 0,.int .u64 0,.int .u64 0,.int .u64 1]) ?_ rfl ⟨0,1,0,0,0,1,rfl,Or.inl rfl,by omega,((((((HG.out.trans g1).setCell (p:=⟨w.heap.size+1+1,0,none⟩) hz _).setCell (p:=⟨w.heap.size+1+1,1,none⟩) hz _).setCell (p:=⟨w.heap.size+1+1,2,none⟩) hz _).setCell (p:=⟨w.heap.size+1+1,3,none⟩) hz _).setCell (p:=⟨w.heap.size+1+1,4,none⟩) hz _).setCell (p:=⟨w.heap.size+1+1,5,none⟩) hz _⟩
  simp[results,Try.results39,go_sem,e0,e1,e2,e3,e4,e5]
 ·have hs:¬sg (X-Y)<0:=by unfold sg;rw[if_neg (by omega)];split <;> decide
  generalize sg (X-Y)=z at *
  obtain⟨xs,rx,dx⟩:=hx.lim
  obtain⟨ys,ry,dy⟩:=hy.lim
  have hn1:0<n1:=by have:=hx.n0;omega
  obtain⟨T,rfl⟩:∃T,n1=T+1:=⟨n1-1,by omega⟩
  have hT:=hx.le
  have hT2:=hy.le
  obtain⟨u,hu⟩:∃u,u=64-bl (xs.getD T 0):=⟨_,rfl⟩
  obtain⟨hu64,hyl,HD⟩:=hds_of dx dy rx.len (by omega:Y.natAbs<=X.natAbs) hu
  have bt:=getD_lt (by omega) dx.2.1 T
  have H1:=hide (fun (w1:World) (g:Gr w w1)=>headG ad1 (T+1) c1 T u xs w1 (rx.gr g) dx.2.1 (by omega) (by omega) hu64)
  have H2:=hide (fun (w1:World) (g:Gr w w1)=>headG ad2 n2 c2 T u ys w1 (ry.gr g) dy.2.1 (by omega) (by omega) hu64)
  obtain⟨b,off,rfl,hb,hc⟩:=rx.cells (by omega)
  have CT:=hide (fun (w1:World) (g:Gr w w1)=>keepG g (hc T (by omega)))
  have hm:=rx.max
  have hl:=rx.le
  have hmax2:=ry.max
  generalize xs.getD T 0=v at *
  have LZ:Hid (∀w1,Calls Try.prog 57 #[.int .u64 (v:Int)] w1 fun e w'=>e = .returned (.int .i64 (u:Int))/\w'=w1):=fun w1=>by
   refine(Try.bits_LeadingZeros64 v w1 (by omega) (by omega)).mono ?_
   rintro e w' ⟨rfl,rfl⟩
   refine⟨?_,rfl⟩
   rw[Int.toNat_natCast,bitLen_bl (by omega),hu]
   congr 2
   have:=bl64 bt
   omega
  generalize shW xs T u=p at *
  generalize shW ys T u=q at *
  have hq:=HD.le
  have hp:=HD.la
  have HB:=hide (And.intro B1 (And.intro B2 (And.intro B3 B4)))
  have HG:=hide G0
  clear B1 B2 B3 B4 G0 hc dx dy rx ry hx hy hu bt hyl
  have CMP:=hide CM.out
  clear CM
  have tok1:True:=trivial
  go_enter Try.func39,Try.ntmps39
  go_wp2_with (first|(go_at_call 24;(with_reducible refine(CMP.out _ HG.out).mono ?_);rintro r w1 ⟨rfl,g1⟩;have H3:=keepO g1 HB.out.2.2.1;have H4:=keepO g1 HB.out.2.2.2;have K1:=keepO g1 HB.out.1;have K2:=keepO g1 HB.out.2.1;obtain⟨x0,x1,x2,x3,x4,x5⟩:=bx6G H4;obtain⟨z0,z1,z2,z3,z4,z5⟩:=fz6G H4;obtain⟨k0,k1⟩:=bx2 K1;obtain⟨k2,k3⟩:=bx2 K2;have G1:=HG.out.trans g1;have ct:=CT.out _ G1)|(go_at_call 57;(with_reducible refine(LZ.out _).mono ?_);rintro e w' ⟨rfl,rfl⟩))
  have HH:=hide (And.intro H3 (And.intro H4 G1))
  clear HG HB K1 K2 ct g1
  go_cut [] from 36 (fun wx=>Hid (wx.heap[w.heap.size+1+1+1]? = some (.cells #[.int .u64 (p:Int),.int .u64 1,.int .u64 0,.int .u64 (q:Int),.int .u64 0,.int .u64 1] 66))/\Hid (wx.heap[w.heap.size+1+1]? = some (.cells #[.int .u64 0,.int .u64 0,.int .u64 0,.int .u64 0,.int .u64 0,.int .u64 0] 66))/\Hid (Gr w wx))
  case first =>
   go_region_with (first|(go_at_call 58;(with_reducible refine(H1.out _ (by first|exact HH.out.2.2|exact HH.out.2.2.drew|exact HH.out.2.2.drewN _)).mono ?_);rintro e w' ⟨rfl,rfl⟩)|(go_at_call 58;(with_reducible refine(H2.out _ (by first|exact HH.out.2.2|exact HH.out.2.2.drew|exact HH.out.2.2.drewN _)).mono ?_);rintro e w' ⟨rfl,rfl⟩))
   all_goals
    go_wp2_with fail
    go_meet
    case rel =>
     refine⟨?_,?_,?_⟩
     ·show _=_
      exact(setG (setG HH.out.2.1 (i:=0) _) (i:=3) _)
     ·show _=_
      exact heap_farW (heap_farW HH.out.1 (by omega)) (by omega)
     ·show Gr _ _
      exact(((HH.out.2.2.setCell (p:=⟨w.heap.size+1+1+1,0,none⟩) (by show w.heap.size<=w.heap.size+1+1+1;omega) _).setCell (p:=⟨w.heap.size+1+1+1,3,none⟩) (by show w.heap.size<=w.heap.size+1+1+1;omega) _)).drew
  case rest =>
   obtain⟨H4',H3',G1'⟩:=hcut
   have NB:w.heap.size+1+1+1≠w.heap.size+1+1:=by omega
   have SB:w.heap.size<=w.heap.size+1+1:=by omega
   have SB3:w.heap.size<=w.heap.size+1+1+1:=by omega
   clear HH H3 H4 z0 z1 z2 z3 z4 z5 k0 k1 k2 k3 G1 H1 H2 LZ CT tok1 CMP x0 x1 x2 x3 x4 x5
   generalize w.heap.size+1+1+1=br at *
   generalize w.heap.size+1+1=bo at *
   go_wp2
   go_loopw [10] (fun _ wr=>∃r a b s c d:Nat,Hid (wr.heap[br]? = some (.cells #[.int .u64 (r:Int),.int .u64 (a:Int),.int .u64 (b:Int),.int .u64 (s:Int),.int .u64 (c:Int),.int .u64 (d:Int)] 66))/\Hid (wr.heap[bo]? = some (.cells #[.int .u64 0,.int .u64 0,.int .u64 0,.int .u64 0,.int .u64 0,.int .u64 0] 66))/\Hid (Gr w wr)/\Hid (FsR p q r a b s c d)) (fun _ wr=>natAt wr br 3)
   case atStart=>exact⟨p,1,0,q,0,1,H4',H3',G1',Gd.Fs.start hq,Or.inl rfl⟩
   case round =>
    obtain⟨r,a,b,s,c,d,HR,HO,GW,HF⟩:=hrel
    obtain⟨F,FS⟩:=HF.out
    have LPF:Hid (b=0\/Gd.Lp X Y a b c d):=by
     rcases FS with h|h
     ·exact Or.inl h
     ·obtain⟨U,W,xl,yl,hU,q1,q2,q3,q4⟩:=HD.lo
      have:=h.lp hp (by omega) hU q1 q2 q3 q4
      rw[show((X.natAbs:Nat):Int)=X by omega,show((Y.natAbs:Nat):Int)=Y by omega] at this
      exact Or.inr this
    have LB:Hid (b<18446744073709551616):=by
     show _<_
     rcases FS with h|h
     ·omega
     ·have:=(h.small hp (by omega)).2.1;omega
    obtain⟨hr,hs1⟩:=fs_bd F hp
    clear FS HF
    obtain⟨x0,x1,x2,x3,x4,x5⟩:=bx6G HR.out
    obtain⟨y0,y1,y2,y3,y4,y5⟩:=bx6G HO.out
    obtain⟨z0,z1,z2,z3,z4,z5⟩:=fz6G HO.out
    obtain⟨f0,f1,f2,f3,f4,f5⟩:=fz6G HR.out
    have HM:=hide (natAt_of x3)
    by_cases hs0:s=0
    ·subst hs0
     go_wp2
     have H9:=set6G HO.out (.int .u64 (r:Int)) (.int .u64 (a:Int)) (.int .u64 (b:Int)) (.int .u64 0) (.int .u64 (c:Int)) (.int .u64 (d:Int))
     obtain⟨e0,e1,e2,e3,e4,e5⟩:=bx6G H9
     refine bodyPost_ret (v:=.agg #[.int .u64 (r:Int),.int .u64 (a:Int),.int .u64 (b:Int),.int .u64 0,.int .u64 (c:Int),.int .u64 (d:Int)]) ?_ rfl ⟨r,a,b,0,c,d,rfl,LPF.out,LB.out,((((((GW.out).setCell (p:=⟨bo,0,none⟩) SB _).setCell (p:=⟨bo,1,none⟩) SB _).setCell (p:=⟨bo,2,none⟩) SB _).setCell (p:=⟨bo,3,none⟩) SB _).setCell (p:=⟨bo,4,none⟩) SB _).setCell (p:=⟨bo,5,none⟩) SB _⟩
     simp[results,Try.results39,go_sem,e0,e1,e2,e3,e4,e5]
    ·have hsi:(0:Int)<(s:Int):=by omega
     have N1:=F.next (by omega)
     obtain⟨bp,bo1⟩:=Gd.fo_bd N1 (by omega)
     have F1:=hide (fun w1=>followingG r a b s c d w1 (by omega) hr hs1 (by omega) (by omega))
     generalize a+r / s*c=o at *
     generalize b+r / s*d=p1 at *
     generalize r % s=s1 at *
     have ls:=N1.lt
     have HR1:=HR.out
     have HO1:=HO.out
     have G1:=GW.out
     clear HR HO GW f0 f1 f2 f3 f4 f5
     have tok1:True:=trivial
     by_cases hs10:s1=0
     ·subst hs10
      go_wp2_with (go_at_call 59;have _t:=tok1;(with_reducible refine(F1.out _).mono ?_);rintro e w2 ⟨rfl,g2⟩;clear tok1 x0 x1 x2 x3 x4 x5 y0 y1 y2 y3 y4 y5 z0 z1 z2 z3 z4 z5;have gx2:=(Gr.refl w2).alloc (.cells #[.int .u64 (0:Int),.int .u64 (o:Int),.int .u64 (p1:Int)] 65);have HR2:=keepO gx2 (keepO g2 HR1);have HO2:=keepO gx2 (keepO g2 HO1);have G2:=(G1.trans g2).trans gx2;have HN2:=blk1 w2 (.cells #[.int .u64 (0:Int),.int .u64 (o:Int),.int .u64 (p1:Int)] 65);obtain⟨x0,x1,x2,x3,x4,x5⟩:=bx6G HR2;obtain⟨y0,y1,y2,y3,y4,y5⟩:=bx6G HO2;obtain⟨z0,z1,z2,z3,z4,z5⟩:=fz6G HO2)
      have H9:=set6G HO2 (.int .u64 (r:Int)) (.int .u64 (a:Int)) (.int .u64 (b:Int)) (.int .u64 (s:Int)) (.int .u64 (c:Int)) (.int .u64 (d:Int))
      obtain⟨e0,e1,e2,e3,e4,e5⟩:=bx6G H9
      refine bodyPost_ret (v:=.agg #[.int .u64 (r:Int),.int .u64 (a:Int),.int .u64 (b:Int),.int .u64 (s:Int),.int .u64 (c:Int),.int .u64 (d:Int)]) ?_ rfl ⟨r,a,b,s,c,d,rfl,LPF.out,LB.out,((((((G2).setCell (p:=⟨bo,0,none⟩) SB _).setCell (p:=⟨bo,1,none⟩) SB _).setCell (p:=⟨bo,2,none⟩) SB _).setCell (p:=⟨bo,3,none⟩) SB _).setCell (p:=⟨bo,4,none⟩) SB _).setCell (p:=⟨bo,5,none⟩) SB _⟩
      simp[results,Try.results39,go_sem,e0,e1,e2,e3,e4,e5]
     ·have hz1:((s1:Int)==0)=false:=by simp;omega
      have N2:=Gd.Fo.next F N1 (by omega)
      obtain⟨bp2,bo2⟩:=Gd.fp_bd N2 (by omega)
      have hs2:=N2.lt
      have KS:=fun h1=>Gd.fp_sum N2 h1 (by have:=N2.ge;have:=N1.gc;omega)
      have SR:=fun k1 k2=>Gd.sr_of N1 N2 k1 k2
      have F2:=hide (fun w1=>followingG s c d s1 o p1 w1 (by omega) (by omega) (by omega) (by omega) (by omega))
      generalize c+s / s1*o=o2 at *
      generalize d+s / s1*p1=p2 at *
      generalize s % s1=s2 at *
      have IS:=hide (fun w1=>isSureG s1 o p1 s2 o2 p2 w1 hs2 (fun h1=>by have:=KS h1;omega) (by omega))
      clear KS N1 N2 F
      have tok2:True:=trivial
      go_wp2_with (go_at_call 59;have _t:=tok1;(with_reducible refine(F1.out _).mono ?_);rintro e w2 ⟨rfl,g2⟩;clear tok1 x0 x1 x2 x3 x4 x5 y0 y1 y2 y3 y4 y5 z0 z1 z2 z3 z4 z5;have gx2:=(Gr.refl w2).alloc (.cells #[.int .u64 (s1:Int),.int .u64 (o:Int),.int .u64 (p1:Int)] 65);have HR2:=keepO gx2 (keepO g2 HR1);have HO2:=keepO gx2 (keepO g2 HO1);have G2:=(G1.trans g2).trans gx2;have HN2:=blk1 w2 (.cells #[.int .u64 (s1:Int),.int .u64 (o:Int),.int .u64 (p1:Int)] 65);obtain⟨n20,n21,n22⟩:=bx3G HN2;obtain⟨x0,x1,x2,x3,x4,x5⟩:=bx6G HR2;obtain⟨y0,y1,y2,y3,y4,y5⟩:=bx6G HO2;obtain⟨z0,z1,z2,z3,z4,z5⟩:=fz6G HO2;obtain⟨q0,q1,q2,q3,q4,q5⟩:=fz6G HR2)
      generalize w2.alloc (.cells #[.int .u64 (s1:Int),.int .u64 (o:Int),.int .u64 (p1:Int)] 65)=w2a at *
      have lbn:br<w2.heap.size:=lt_of_get2 (keepO g2 HR1)
      generalize w2.heap.size=bn at *
      go_wp2_with (go_at_call 59;have _t:=tok2;(with_reducible refine(F2.out _).mono ?_);rintro e w3 ⟨rfl,g3⟩;clear tok2 x0 x1 x2 x3 x4 x5 y0 y1 y2 y3 y4 y5 z0 z1 z2 z3 z4 z5 q0 q1 q2 q3 q4 q5 n20 n21 n22;have gx3:=(Gr.refl w3).alloc (.cells #[.int .u64 (s2:Int),.int .u64 (o2:Int),.int .u64 (p2:Int)] 65);have HR3:=keepO gx3 (keepO g3 HR2);have HO3:=keepO gx3 (keepO g3 HO2);have G3:=(G2.trans g3).trans gx3;have HN3:=blk1 w3 (.cells #[.int .u64 (s2:Int),.int .u64 (o2:Int),.int .u64 (p2:Int)] 65);have HN2:=keepO gx3 (keepO g3 HN2);obtain⟨n20,n21,n22⟩:=bx3G HN2;obtain⟨n30,n31,n32⟩:=bx3G HN3;obtain⟨x0,x1,x2,x3,x4,x5⟩:=bx6G HR3;obtain⟨y0,y1,y2,y3,y4,y5⟩:=bx6G HO3;obtain⟨z0,z1,z2,z3,z4,z5⟩:=fz6G HO3;obtain⟨q0,q1,q2,q3,q4,q5⟩:=fz6G HR3)
      generalize w3.alloc (.cells #[.int .u64 (s2:Int),.int .u64 (o2:Int),.int .u64 (p2:Int)] 65)=w3a at *
      have lbm:br<w3.heap.size:=lt_of_get2 (keepO g3 HR2)
      have nbn1:br≠bn:=by omega
      have nbn2:bn≠br:=by omega
      generalize w3.heap.size=bm at *
      have nbm1:br≠bm:=by omega
      have nbm2:bm≠br:=by omega
      have SR':=hide SR
      clear SR
      by_cases hk:o2<=s2/\p1+p2<=s1-s2
      ·have hkd:=decide_eq_true hk
       rw[hkd] at IS
       have SS:=hide (SR'.out hk.1 hk.2)
       clear hk hkd SR'
       go_wp2_with (go_at_call 60;(with_reducible refine(IS.out _).mono ?_);rintro e w4 ⟨rfl,g4⟩;clear x0 x1 x2 x3 x4 x5 y0 y1 y2 y3 y4 y5 z0 z1 z2 z3 z4 z5 q0 q1 q2 q3 q4 q5 n20 n21 n22 n30 n31 n32;have HR4:=keepO g4 HR3;have HO4:=keepO g4 HO3;have G4:=G3.trans g4;have HN2:=keepO g4 HN2;have HN3:=keepO g4 HN3;obtain⟨n20,n21,n22⟩:=bx3G HN2;obtain⟨n30,n31,n32⟩:=bx3G HN3;obtain⟨x0,x1,x2,x3,x4,x5⟩:=bx6G HR4;obtain⟨y0,y1,y2,y3,y4,y5⟩:=bx6G HO4;obtain⟨z0,z1,z2,z3,z4,z5⟩:=fz6G HO4;obtain⟨q0,q1,q2,q3,q4,q5⟩:=fz6G HR4)
       go_region
       have HW:=hide (drewH (set6G HR4 (.int .u64 (s1:Int)) (.int .u64 (o:Int)) (.int .u64 (p1:Int)) (.int .u64 (s2:Int)) (.int .u64 (o2:Int)) (.int .u64 (p2:Int))))
       have HOW:=hide (drewH (heap_farW (i:=5) (v:=.int .u64 (p2:Int)) (heap_farW (i:=4) (v:=.int .u64 (o2:Int)) (heap_farW (i:=3) (v:=.int .u64 (s2:Int)) (heap_farW (i:=2) (v:=.int .u64 (p1:Int)) (heap_farW (i:=1) (v:=.int .u64 (o:Int)) (heap_farW (i:=0) (v:=.int .u64 (s1:Int)) HO4 (Ne.symm NB)) (Ne.symm NB)) (Ne.symm NB)) (Ne.symm NB)) (Ne.symm NB)) (Ne.symm NB)))
       have GWW:=hide (Gr.drew (((((((G4).setCell (p:=⟨br,0,none⟩) SB3 (.int .u64 (s1:Int))).setCell (p:=⟨br,1,none⟩) SB3 (.int .u64 (o:Int))).setCell (p:=⟨br,2,none⟩) SB3 (.int .u64 (p1:Int))).setCell (p:=⟨br,3,none⟩) SB3 (.int .u64 (s2:Int))).setCell (p:=⟨br,4,none⟩) SB3 (.int .u64 (o2:Int))).setCell (p:=⟨br,5,none⟩) SB3 (.int .u64 (p2:Int))))
       clear x0 x1 x2 x3 x4 x5 y0 y1 y2 y3 y4 y5 z0 z1 z2 z3 z4 z5 q0 q1 q2 q3 q4 q5 n20 n21 n22 n30 n31 n32
       go_wp2
       go_roundw
       case rel=>exact⟨s1,o,p1,s2,o2,p2,HW,HOW,GWW,SS.out.fs,Or.inr SS.out⟩
       case measure =>
        rw[HM.out]
        rw[natAt_of (bx6G HW.out).2.2.2.1]
        omega
      ·have hkd:=decide_eq_false hk
       rw[hkd] at IS
       clear hk hkd SR'
       go_wp2_with (go_at_call 60;(with_reducible refine(IS.out _).mono ?_);rintro e w4 ⟨rfl,g4⟩;clear x0 x1 x2 x3 x4 x5 y0 y1 y2 y3 y4 y5 z0 z1 z2 z3 z4 z5 q0 q1 q2 q3 q4 q5 n20 n21 n22 n30 n31 n32;have HR4:=keepO g4 HR3;have HO4:=keepO g4 HO3;have G4:=G3.trans g4;have HN2:=keepO g4 HN2;have HN3:=keepO g4 HN3;obtain⟨n20,n21,n22⟩:=bx3G HN2;obtain⟨n30,n31,n32⟩:=bx3G HN3;obtain⟨x0,x1,x2,x3,x4,x5⟩:=bx6G HR4;obtain⟨y0,y1,y2,y3,y4,y5⟩:=bx6G HO4;obtain⟨z0,z1,z2,z3,z4,z5⟩:=fz6G HO4;obtain⟨q0,q1,q2,q3,q4,q5⟩:=fz6G HR4)
       have H9:=set6G HO4 (.int .u64 (r:Int)) (.int .u64 (a:Int)) (.int .u64 (b:Int)) (.int .u64 (s:Int)) (.int .u64 (c:Int)) (.int .u64 (d:Int))
       obtain⟨e0,e1,e2,e3,e4,e5⟩:=bx6G H9
       refine bodyPost_ret (v:=.agg #[.int .u64 (r:Int),.int .u64 (a:Int),.int .u64 (b:Int),.int .u64 (s:Int),.int .u64 (c:Int),.int .u64 (d:Int)]) ?_ rfl ⟨r,a,b,s,c,d,rfl,LPF.out,LB.out,((((((G4).setCell (p:=⟨bo,0,none⟩) SB _).setCell (p:=⟨bo,1,none⟩) SB _).setCell (p:=⟨bo,2,none⟩) SB _).setCell (p:=⟨bo,3,none⟩) SB _).setCell (p:=⟨bo,4,none⟩) SB _).setCell (p:=⟨bo,5,none⟩) SB _⟩
       simp[results,Try.results39,go_sem,e0,e1,e2,e3,e4,e5]
def pbox (V:Nat->Sl) (t:Bool):Array Value:=#[.bool false,.slice (V 0).ad (V 0).n (V 0).c,.bool false,.slice (V 1).ad (V 1).n (V 1).c,.bool false,.slice (V 2).ad (V 2).n (V 2).c,.bool false,.slice (V 3).ad (V 3).n (V 3).c,.bool false,.slice (V 4).ad (V 4).n (V 4).c,.bool false,.slice (V 5).ad (V 5).n (V 5).c,.bool t]
structure PS (w:World) (p:Nat) (V:Nat->Sl) (Z:Nat->Int) (t:Bool):Prop where
 box:w.heap[p]? = some (.cells (pbox V t) 47)
 nm:∀i,i<6->Nm w (V i) (Z i)
 ap:∀i j,i<6->j<6->i≠j->Ap (V i) (V j)
def Bks (V:Nat->Sl) (k:Nat):Prop:=∃i,i<6/\(V i).bk=some k
def upd {A:Type} (f:Nat->A) (i j:Nat) (x y:A) (k:Nat):A:=if k=i then x else if k=j then y else f k
theorem PS.bk_ne {w:World} {p:Nat} {V:Nat->Sl} {Z:Nat->Int} {t:Bool} (h:PS w p V Z t) {i:Nat} (hi:i<6):(V i).bk≠some p:=(h.nm i hi).ne h.box (by decide)
theorem PS.bks_lt {w:World} {p:Nat} {V:Nat->Sl} {Z:Nat->Int} {t:Bool} (h:PS w p V Z t) {k:Nat} (hk:Bks V k):k<w.heap.size:=by
 obtain⟨i,hi,e⟩:=hk
 exact(h.nm i hi).lt e
theorem PS.gr {w w':World} {p:Nat} {V:Nat->Sl} {Z:Nat->Int} {t:Bool} (h:PS w p V Z t) (g:Gr w w'):PS w' p V Z t:=⟨keepO g h.box,fun i hi=>(h.nm i hi).gr g,h.ap⟩
theorem PS.upd2 {w w':World} {p i j:Nat} {V:Nat->Sl} {Z:Nat->Int} {t:Bool} (h:PS w p V Z t) (hi:i<6) (hj:j<6) (hij:i≠j) {x y:Sl} {X Y:Int} (hb:w'.heap[p]? = some (.cells (pbox (upd V i j x y) t) 47)) (hx:Nm w' x X) (hy:Nm w' y Y) (hxy:Ap x y)
  (g:Gk (fun k=>k=p\/(V i).bk=some k\/(V j).bk=some k) w w') (bx:∀k,x.bk=some k->(V i).bk=some k\/w.heap.size<=k) (byy:∀k,y.bk=some k->(V j).bk=some k\/w.heap.size<=k) :
  PS w' p (upd V i j x y) (upd Z i j X Y) t/\Gk (fun k=>k=p\/Bks V k) w w'/\(∀k,Bks (upd V i j x y) k->Bks V k\/w.heap.size<=k):=by
 have old:∀k,k<6->k≠i->k≠j->Nm w' (V k) (Z k):=fun k hk h1 h2=>(h.nm k hk).gk g (fun b e q=>by
  rcases q with q|q|q
  ·exact h.bk_ne hk (by rw[e,q])
  ·exact h.ap k i hk hi h1 b e q
  ·exact h.ap k j hk hj h2 b e q)
 have ax:∀k,k<6->k≠i->Ap (V k) x:=fun k hk h1 b e q=>by
  rcases bx b q with r|r
  ·exact h.ap k i hk hi h1 b e r
  ·have:=(h.nm k hk).lt e;omega
 have ay:∀k,k<6->k≠j->Ap (V k) y:=fun k hk h1 b e q=>by
  rcases byy b q with r|r
  ·exact h.ap k j hk hj h1 b e r
  ·have:=(h.nm k hk).lt e;omega
 refine⟨⟨hb,fun k hk=>?_,fun k l hk hl hkl=>?_⟩,g.mono (fun k q _=>?_),fun k q=>?_⟩
 ·unfold upd
  by_cases h1:k=i
  ·rw[if_pos h1,if_pos h1];exact hx
  ·rw[if_neg h1,if_neg h1]
   by_cases h2:k=j
   ·rw[if_pos h2,if_pos h2];exact hy
   ·rw[if_neg h2,if_neg h2];exact old k hk h1 h2
 ·unfold upd
  by_cases k1:k=i
  ·rw[if_pos k1]
   by_cases l1:l=i
   ·omega
   ·rw[if_neg l1]
    by_cases l2:l=j
    ·rw[if_pos l2];exact hxy
    ·rw[if_neg l2];exact(ax l hl l1).symm
  ·rw[if_neg k1]
   by_cases k2:k=j
   ·rw[if_pos k2]
    by_cases l1:l=i
    ·rw[if_pos l1];exact hxy.symm
    ·rw[if_neg l1,if_neg (by omega)];exact(ay l hl (by omega)).symm
   ·rw[if_neg k2]
    by_cases l1:l=i
    ·rw[if_pos l1];exact ax k hk k1
    ·rw[if_neg l1]
     by_cases l2:l=j
     ·rw[if_pos l2];exact ay k hk k2
     ·rw[if_neg l2];exact h.ap k l hk hl hkl
 ·rcases q with q|q|q
  ·exact Or.inl q
  ·exact Or.inr ⟨i,hi,q⟩
  ·exact Or.inr ⟨j,hj,q⟩
 ·obtain⟨m,hm,e⟩:=q
  unfold upd at e
  by_cases h1:m=i
  ·rw[if_pos h1] at e
   rcases bx k e with r|r
   ·exact Or.inl ⟨i,hi,r⟩
   ·exact Or.inr r
  ·rw[if_neg h1] at e
   by_cases h2:m=j
   ·rw[if_pos h2] at e
    rcases byy k e with r|r
    ·exact Or.inl ⟨j,hj,r⟩
    ·exact Or.inr r
   ·rw[if_neg h2] at e
    exact Or.inl ⟨m,hm,e⟩
theorem mixP (T:Bool) (p i j:Nat) (V:Nat->Sl) (Z:Nat->Int) (t:Bool) (a b c d:Nat) (X Y:Int) (w:World) (h:PS w p V Z t) (hi:i<6) (hj:j<6) (hij:i≠j)
  (ci:(pbox V t)[2*i+1]? = some (.slice (V i).ad (V i).n (V i).c)) (cj:(pbox V t)[2*j+1]? = some (.slice (V j).ad (V j).n (V j).c)) (hb:∀x y:Sl,((pbox V t).setIfInBounds (2*i+1) (.slice x.ad x.n x.c)).setIfInBounds (2*j+1) (.slice y.ad y.n y.c)=pbox (upd V i j x y) t)
  (la:a<4294967296) (lb:b<4294967296) (lc:c<4294967296) (ld:d<4294967296)
  (eX:X=if T then a*Z i-b*Z j else a*Z i+b*Z j) (eY:Y=if T then d*Z j-c*Z i else c*Z i+d*Z j) (pX:0<=X) (pY:0<=Y) (fX:X.natAbs<TopN) (fY:Y.natAbs<TopN) :
  Calls Try.prog 61 #[.pointer (some ⟨p,2*i,none⟩),.pointer (some ⟨p,2*j,none⟩),.agg #[.int .u64 (a:Int),.int .u64 (b:Int),.int .u64 (c:Int),.int .u64 (d:Int)],.int .u64 (tV T)] w fun e w'=>e = .returned (.tuple #[])/\∃x y,Hid (PS w' p (upd V i j x y) (upd Z i j X Y) t)/\Hid (Gk (fun k=>k=p\/Bks V k) w w')/\Hid (∀k,Bks (upd V i j x y) k->Bks V k\/w.heap.size<=k):=by
 refine(mixG T p (2*i) (2*j) (pbox V t) 47 (V i) (V j) (Z i) (Z j) X Y a b c d w h.box (by decide) ci cj (by omega) (h.nm i hi) (h.nm j hj) (h.ap i j hi hj hij) la lb lc ld eX eY pX pY fX fY).mono ?_
 rintro e w' ⟨rfl,x,y,k1,k2,k3,k4,k5,k6,k7⟩
 obtain⟨q1,q2,q3⟩:=h.upd2 hi hj hij (x:=x) (y:=y) (by rw[k1.out,hb]) k2.out k3.out k4.out k5.out k6.out k7.out
 exact⟨rfl,x,y,q1,q2,q3⟩
structure LeapF (Z:Nat->Int) (a b c d:Nat):Prop where
 la:a<4294967296
 lb:b<4294967296
 lc:c<4294967296
 ld:d<4294967296
 p0:0<=a*Z 0-b*Z 3
 p3:0<=d*Z 3-c*Z 0
 p1:0<=a*Z 1+b*Z 4
 p4:0<=c*Z 1+d*Z 4
 p2:0<=a*Z 2+b*Z 5
 p5:0<=c*Z 2+d*Z 5
 f0:(a*Z 0-b*Z 3).natAbs<TopN
 f3:(d*Z 3-c*Z 0).natAbs<TopN
 f1:(a*Z 1+b*Z 4).natAbs<TopN
 f4:(c*Z 1+d*Z 4).natAbs<TopN
 f2:(a*Z 2+b*Z 5).natAbs<TopN
 f5:(c*Z 2+d*Z 5).natAbs<TopN
def leapZ (Z:Nat->Int) (a b c d:Nat):Nat->Int:=
 upd (upd (upd Z 0 3 (a*Z 0-b*Z 3) (d*Z 3-c*Z 0)) 1 4 (a*Z 1+b*Z 4) (c*Z 1+d*Z 4)) 2 5 (a*Z 2+b*Z 5) (c*Z 2+d*Z 5)
set_option maxRecDepth 4000 in
set_option maxHeartbeats 4000000 in
theorem leapG (p:Nat) (V:Nat->Sl) (Z:Nat->Int) (t:Bool) (r a b s c d:Nat) (w:World) (h:PS w p V Z t) (F:LeapF Z a b c d) :
  Calls Try.prog 40 #[.pointer (some ⟨p,0,none⟩),.agg #[.int .u64 (r:Int),.int .u64 (a:Int),.int .u64 (b:Int),.int .u64 (s:Int),.int .u64 (c:Int),.int .u64 (d:Int)]] w fun e w'=>e = .returned (.tuple #[])/\∃V',Hid (PS w' p V' (leapZ Z a b c d) t)/\Hid (Gk (fun k=>k=p\/Bks V k) w w')/\Hid (∀k,Bks V' k->Bks V k\/w.heap.size<=k):=by
 obtain⟨w2,hw2⟩:∃w2,w2=(w.alloc (.cells #[.int .u64 (r:Int),.int .u64 (a:Int),.int .u64 (b:Int),.int .u64 (s:Int),.int .u64 (c:Int),.int .u64 (d:Int)] 66)).alloc (.cells #[.int .u64 (a:Int),.int .u64 (b:Int),.int .u64 (c:Int),.int .u64 (d:Int)] 82):=⟨_,rfl⟩
 have G2:Gr w w2:=hw2 ▸ ((Gr.refl w).alloc _).alloc _
 have H2:w2.heap[w.heap.size+1]? = some (.cells #[.int .u64 (a:Int),.int .u64 (b:Int),.int .u64 (c:Int),.int .u64 (d:Int)] 82):=hw2 ▸ (blk2 w _ _).2
 have hp:=lt_of_get2 h.box
 have NP:w.heap.size+1≠p:=by omega
 have M0:Hid (∀w1,Gr w w1->Calls Try.prog 61 #[.pointer (some ⟨p,0,none⟩),.pointer (some ⟨p,6,none⟩),.agg #[.int .u64 (a:Int),.int .u64 (b:Int),.int .u64 (c:Int),.int .u64 (d:Int)],.int .u64 18446744073709551615] w1 fun e w'=>e = .returned (.tuple #[])/\∃x y,Hid (PS w' p (upd V 0 3 x y) (upd Z 0 3 (a*Z 0-b*Z 3) (d*Z 3-c*Z 0)) t)/\Hid (Gk (fun k=>k=p\/Bks V k) w1 w')/\Hid (∀k,Bks (upd V 0 3 x y) k->Bks V k\/w1.heap.size<=k)):=fun w1 g=>mixP true p 0 3 V Z t a b c d _ _ w1 (h.gr g) (by omega) (by omega) (by omega) rfl rfl (fun _ _=>rfl) F.la F.lb F.lc F.ld (if_pos rfl).symm (if_pos rfl).symm F.p0 F.p3 F.f0 F.f3
 have M1:Hid (∀(V1:Nat->Sl) w1,PS w1 p V1 (upd Z 0 3 (a*Z 0-b*Z 3) (d*Z 3-c*Z 0)) t->Calls Try.prog 61 #[.pointer (some ⟨p,2,none⟩),.pointer (some ⟨p,8,none⟩),.agg #[.int .u64 (a:Int),.int .u64 (b:Int),.int .u64 (c:Int),.int .u64 (d:Int)],.int .u64 0] w1 fun e w'=>e = .returned (.tuple #[])/\∃x y,Hid (PS w' p (upd V1 1 4 x y) (upd (upd Z 0 3 (a*Z 0-b*Z 3) (d*Z 3-c*Z 0)) 1 4 (a*Z 1+b*Z 4) (c*Z 1+d*Z 4)) t)/\Hid (Gk (fun k=>k=p\/Bks V1 k) w1 w')/\Hid (∀k,Bks (upd V1 1 4 x y) k->Bks V1 k\/w1.heap.size<=k)):=fun V1 w1 g=>mixP false p 1 4 V1 _ t a b c d _ _ w1 g (by omega) (by omega) (by omega) rfl rfl (fun _ _=>rfl) F.la F.lb F.lc F.ld (if_neg (by simp)).symm (if_neg (by simp)).symm F.p1 F.p4 F.f1 F.f4
 have M2:Hid (∀(V1:Nat->Sl) w1,PS w1 p V1 (upd (upd Z 0 3 (a*Z 0-b*Z 3) (d*Z 3-c*Z 0)) 1 4 (a*Z 1+b*Z 4) (c*Z 1+d*Z 4)) t->Calls Try.prog 61 #[.pointer (some ⟨p,4,none⟩),.pointer (some ⟨p,10,none⟩),.agg #[.int .u64 (a:Int),.int .u64 (b:Int),.int .u64 (c:Int),.int .u64 (d:Int)],.int .u64 0] w1 fun e w'=>e = .returned (.tuple #[])/\∃x y,Hid (PS w' p (upd V1 2 5 x y) (upd (upd (upd Z 0 3 (a*Z 0-b*Z 3) (d*Z 3-c*Z 0)) 1 4 (a*Z 1+b*Z 4) (c*Z 1+d*Z 4)) 2 5 (a*Z 2+b*Z 5) (c*Z 2+d*Z 5)) t)/\Hid (Gk (fun k=>k=p\/Bks V1 k) w1 w')/\Hid (∀k,Bks (upd V1 2 5 x y) k->Bks V1 k\/w1.heap.size<=k)):=fun V1 w1 g=>mixP false p 2 5 V1 _ t a b c d _ _ w1 g (by omega) (by omega) (by omega) rfl rfl (fun _ _=>rfl) F.la F.lb F.lc F.ld (if_neg (by simp)).symm (if_neg (by simp)).symm F.p2 F.p5 F.f2 F.f5
 have HB:=hide (fun k (hk:Bks V k)=>(h.bks_lt hk))
 have HH:=hide h
 have FF:=hide F
 clear h F
 have HW:=hide hw2
 have HG2:=hide G2
 have HH2:=hide H2
 clear hw2 G2 H2
 go_enter Try.func40,Try.ntmps40
 go_wp2
 rw[<-HW.out]
 obtain⟨b0,b1,b2,b3⟩:=bx4G HH2.out
 go_cut [] from 13 (fun wx=>∃V',Hid (PS wx p V' (upd Z 0 3 (a*Z 0-b*Z 3) (d*Z 3-c*Z 0)) t)/\Hid (Gk (fun k=>k=p\/Bks V k) w wx)/\Hid (∀k,Bks V' k->Bks V k\/w2.heap.size<=k)/\Hid (wx.heap[w.heap.size+1]? = some (.cells #[.int .u64 (a:Int),.int .u64 (b:Int),.int .u64 (c:Int),.int .u64 (d:Int)] 82))/\Hid (w2.heap.size<=wx.heap.size))
 case first =>
  go_region_with (go_at_call 61;(with_reducible refine(M0.out _ (by first|exact HG2.out|exact HG2.out.drew|exact HG2.out.drewN _)).mono ?_);rintro e w3 ⟨rfl,x,y,q1,q2,q3⟩)
  all_goals
   go_wp2_with fail
   go_meet
   case rel=>exact⟨_,q1,(Gk.of_gr (S:=fun k=>k=p\/Bks V k) HG2.out.drew).trans q2.out (fun k h _=>h),fun k h=>q3.out k h,q2.out.heap HH2.out (fun h=>by
    rcases h with h|h
    ·exact NP h
    ·have:=HB.out _ h;omega),q2.out.size⟩
 case rest =>
  obtain⟨V1,PS1,GK1,BK1,HB1,GS1⟩:=hcut
  have HZ:Hid (w.heap.size+1<w2.heap.size):=lt_of_get2 HH2.out
  obtain⟨b0,b1,b2,b3⟩:=bx4G HB1.out
  clear M0
  go_wp2
  refine wp_loop_rounds 3 ?_
  rw[rounds_succ]
  go_wp2
  go_region_with (go_at_call 61;(with_reducible refine(M1.out V1 _ (PS1.out.gr (by first|exact Gr.refl _|exact(Gr.refl _).drew|exact(Gr.refl _).drewN _))).mono ?_);rintro e w4 ⟨rfl,x2,y2,PS2,gk2,bk2⟩)
  have GK2:Hid (Gk (fun k=>k=p\/Bks V k) w w4):=(GK1.out.gr ((Gr.refl _).drew)).trans gk2.out (fun k h hk=>by
   rcases h with h|h
   ·exact Or.inl h
   ·rcases BK1.out k h with q|q
    ·exact Or.inr q
    ·have:=HG2.out.size;omega)
  have HB2:Hid (w4.heap[w.heap.size+1]? = some (.cells #[.int .u64 (a:Int),.int .u64 (b:Int),.int .u64 (c:Int),.int .u64 (d:Int)] 82)):=gk2.out.heap (drewH HB1.out) (fun h=>by
   rcases h with h|h
   ·exact NP h
   ·rcases BK1.out _ h with q|q
    ·have:=HB.out _ q;omega
    ·have:=HZ.out;omega)
  have BK2:Hid (∀k,Bks _ k->Bks V k\/w2.heap.size<=k):=fun k h=>by
   rcases bk2.out k h with q|q
   ·exact BK1.out k q
   ·exact Or.inr (Nat.le_trans GS1.out q)
  have GS2:Hid (w2.heap.size<=w4.heap.size):=Nat.le_trans GS1.out gk2.out.size
  clear gk2 bk2 b0 b1 b2 b3
  obtain⟨b0,b1,b2,b3⟩:=bx4G HB2.out
  go_wp2
  rw[rounds_succ]
  go_wp2
  go_region_with (go_at_call 61;(with_reducible refine(M2.out _ _ (PS2.out.gr (by first|exact Gr.refl _|exact(Gr.refl _).drew|exact(Gr.refl _).drewN _))).mono ?_);rintro e w5 ⟨rfl,x3,y3,PS3,gk3,bk3⟩)
  have GK3:Hid (Gk (fun k=>k=p\/Bks V k) w w5):=(GK2.out.gr ((Gr.refl _).drew)).trans gk3.out (fun k h hk=>by
   rcases h with h|h
   ·exact Or.inl h
   ·rcases BK2.out k h with q|q
    ·exact Or.inr q
    ·have:=HG2.out.size;omega)
  have HB3:Hid (w5.heap[w.heap.size+1]? = some (.cells #[.int .u64 (a:Int),.int .u64 (b:Int),.int .u64 (c:Int),.int .u64 (d:Int)] 82)):=gk3.out.heap (drewH HB2.out) (fun h=>by
   rcases h with h|h
   ·exact NP h
   ·rcases BK2.out _ h with q|q
    ·have:=HB.out _ q;omega
    ·have:=HZ.out;omega)
  have BK3:Hid (∀k,Bks _ k->Bks V k\/w2.heap.size<=k):=fun k h=>by
   rcases bk3.out k h with q|q
   ·exact BK2.out k q
   ·exact Or.inr (Nat.le_trans GS2.out q)
  have GS3:Hid (w2.heap.size<=w5.heap.size):=Nat.le_trans GS2.out gk3.out.size
  clear gk3 bk3 b0 b1 b2 b3
  obtain⟨b0,b1,b2,b3⟩:=bx4G HB3.out
  go_wp2
  rw[rounds_succ]
  go_wp2
  exact bodyPost_end (v:=.tuple #[]) (by simp[results,Try.results40,go_sem]) rfl ⟨rfl,_,PS3,GK3,fun k h=>by
   rcases BK3.out k h with q|q
   ·exact Or.inl q
   ·exact Or.inr (Nat.le_trans HG2.out.size q)⟩
end Go.Proofs.Ytmdakhpdofepeaa
