import Derived.Test.YtapnglidnblmcaaGreatQ02
import Derived.Test.YtapnglidnblmcaaGreatQ35
import Derived.Test.YtapnglidnblmcaaGreatQ34
import Derived.Test.YtapnglidnblmcaaGreatQ29
import Derived.RangeFuncBox
import Derived.RangeFuncNested
import Derived.RangeFuncBound
import Derived.RangeFuncCalls
import Derived.RangeFuncLeaves
import Derived.RangeFuncFrom
import Derived.Shelf.Abstract
import Derived.Shelf.RegionOpen
import Derived.WalkKit
import Derived.OwnWalkIn
import Derived.TacticsInMore
import Derived.LoopNIn
import Derived.LoopIn
namespace Go.Proofs.YtapnglidnblmcaaGreat
open Go.RowKit
set_option linter.unusedVariables false
theorem down_val {x w:Nat} (hw:w<64):x*2 ^ (64-w) % 18446744073709551616=(x % 2 ^ w)*2 ^ (64-w):=by
 have e:18446744073709551616=2 ^ w*2 ^ (64-w):=by rw[<-Nat.pow_add,show w+(64-w)=64 by omega]
 rw[e,Nat.mul_mod_mul_right]
structure OvAt (hs zs:List Nat) (i w N:Nat):Prop where
 len:zs.length=N
 lt:∀z∈zs,z<18446744073709551616
 val:nv 18446744073709551616 zs*2 ^ w+(if i=0 then 0 else hs.getD 0 0 % 2 ^ w)=nv 18446744073709551616 (hs.take i)
 rest:∀j,i<=j->zs.getD j 0=0
 top:0<i->zs.getD (i-1) 0=hs.getD (i-1) 0 / 2 ^ w
theorem OvAt.start (hs:List Nat) (w N:Nat):OvAt hs (List.replicate N 0) 0 w N:=by
 refine⟨by simp,fun z hz=>by rw[(List.mem_replicate.1 hz).2];omega,by simp[nv_zeros,nv],fun j _=>?_,fun h=>absurd h (by omega)⟩
 by_cases hj:j<N
 ·rw[List.getD_eq_getElem?_getD,List.getElem?_replicate,if_pos hj];rfl
 ·rw[List.getD_eq_getElem?_getD,List.getElem?_replicate,if_neg hj];rfl
theorem div_w {x w:Nat} (hx:x<18446744073709551616) (hw:w<64):x / 2 ^ w<2 ^ (64-w):=by
 refine Nat.div_lt_of_lt_mul ?_
 rw[<-Nat.pow_add,show w+(64-w)=64 by omega];exact hx
theorem OvAt.first {hs zs:List Nat} {w N:Nat} (h:OvAt hs zs 0 w N) (hw:w<64) (hx:∀x∈hs,x<18446744073709551616) (h0:0<hs.length) (hN:0<N):OvAt hs (zs.set 0 (hs.getD 0 0 / 2 ^ w)) 1 w N:=by
 have bx:hs.getD 0 0<18446744073709551616:=getD_lt (by omega) hx 0
 have hq:hs.getD 0 0 / 2 ^ w<18446744073709551616:=Nat.lt_of_le_of_lt (Nat.div_le_self _ _) bx
 have hl:=h.len
 refine⟨by simp[h.len],set_lt h.lt hq,?_,fun j hj=>?_,fun _=>?_⟩
 ·have e1:=nv_set 18446744073709551616 zs 0 (hs.getD 0 0 / 2 ^ w) (by omega)
  have e0:=h.val
  rw[if_pos rfl,List.take_zero,nv_nil] at e0
  have e2:nv 18446744073709551616 zs=0:=by
   rcases Nat.mul_eq_zero.1 (show nv 18446744073709551616 zs*2 ^ w=0 by omega) with h|h
   ·exact h
   ·exact absurd h (Nat.ne_of_gt (Nat.two_pow_pos _))
  rw[h.rest 0 (by omega),e2,Nat.mul_zero,Nat.add_zero,Nat.zero_add,Nat.pow_zero,Nat.one_mul] at e1
  rw[e1,if_neg (by omega),nv_take_succ,List.take_zero,nv_nil,Nat.pow_zero,Nat.one_mul,Nat.zero_add,Nat.mul_comm]
  exact Nat.div_add_mod _ _
 ·rw[getD_set _ _ _ _ (by omega),if_neg (by omega)];exact h.rest j (by omega)
 ·rw[getD_set _ _ _ _ (by omega),if_pos rfl]
theorem OvAt.next {hs zs:List Nat} {i w N:Nat} (h:OvAt hs zs i w N) (hw:w<64) (hi:0<i) (hx:∀x∈hs,x<18446744073709551616) (hil:i<hs.length) (hN:i<N) :
  (zs.getD (i-1) 0 ||| hs.getD i 0*2 ^ (64-w) % 18446744073709551616)<18446744073709551616/\OvAt hs ((zs.set i (hs.getD i 0 / 2 ^ w)).set (i-1) (zs.getD (i-1) 0 ||| hs.getD i 0*2 ^ (64-w) % 18446744073709551616)) (i+1) w N:=by
 have bx:hs.getD i 0<18446744073709551616:=getD_lt (by omega) hx i
 have by':hs.getD (i-1) 0<18446744073709551616:=getD_lt (by omega) hx (i-1)
 have hl:=h.len
 have hT:=h.top hi
 obtain⟨x,hxe⟩:∃x,hs.getD i 0=x:=⟨_,rfl⟩
 rw[hxe] at bx ⊢
 have hq:x / 2 ^ w<18446744073709551616:=Nat.lt_of_le_of_lt (Nat.div_le_self _ _) bx
 have hp:zs.getD (i-1) 0<2 ^ (64-w):=by rw[hT];exact div_w by' hw
 have eor:(zs.getD (i-1) 0 ||| x*2 ^ (64-w) % 18446744073709551616)=zs.getD (i-1) 0+(x % 2 ^ w)*2 ^ (64-w):=by
  rw[down_val hw,or_add hp]
 rw[eor]
 have hm:x % 2 ^ w<2 ^ w:=Nat.mod_lt _ (Nat.two_pow_pos _)
 have e64:18446744073709551616=2 ^ w*2 ^ (64-w):=by rw[<-Nat.pow_add,show w+(64-w)=64 by omega]
 have hs1:zs.getD (i-1) 0+(x % 2 ^ w)*2 ^ (64-w)<18446744073709551616:=by
  have k:(x % 2 ^ w+1)*2 ^ (64-w)<=2 ^ w*2 ^ (64-w):=Nat.mul_le_mul_right _ hm
  rw[<-e64,Nat.add_mul,Nat.one_mul] at k
  omega
 refine⟨hs1,⟨by simp[h.len],set_lt (set_lt h.lt hq) hs1,?_,fun j hj=>?_,fun _=>?_⟩⟩
 ·have e1:=nv_set 18446744073709551616 zs i (x / 2 ^ w) (by omega)
  rw[h.rest i (by omega),Nat.mul_zero,Nat.add_zero] at e1
  have e2:=nv_set 18446744073709551616 (zs.set i (x / 2 ^ w)) (i-1) (zs.getD (i-1) 0+(x % 2 ^ w)*2 ^ (64-w)) (by simp;omega)
  rw[getD_set _ _ _ _ (by omega),if_neg (by omega),e1] at e2
  have e0:=h.val
  rw[if_neg (by omega)] at e0
  rw[if_neg (by omega),nv_take_succ,hxe,<-e0]
  generalize nv 18446744073709551616 ((zs.set i (x / 2 ^ w)).set (i-1) (zs.getD (i-1) 0+(x % 2 ^ w)*2 ^ (64-w)))=Z at *
  generalize nv 18446744073709551616 zs=Y at *
  generalize hs.getD 0 0 % 2 ^ w=l0 at *
  have e3:18446744073709551616 ^ i=18446744073709551616 ^ (i-1)*18446744073709551616:=by
   rw[<-Nat.pow_succ];congr 1;omega
  generalize 18446744073709551616 ^ (i-1)=B at *
  have e4:Z=Y+18446744073709551616 ^ i*(x / 2 ^ w)+B*((x % 2 ^ w)*2 ^ (64-w)):=by
   rw[Nat.mul_add] at e2
   omega
  have e5:B*((x % 2 ^ w)*2 ^ (64-w))*2 ^ w=18446744073709551616 ^ i*(x % 2 ^ w):=by
   rw[e3,Nat.mul_assoc,Nat.mul_assoc,Nat.mul_comm (2 ^ (64-w)) (2 ^ w),<-e64,Nat.mul_assoc,Nat.mul_comm (x % 2 ^ w)]
  have e6:18446744073709551616 ^ i*(x / 2 ^ w)*2 ^ w+18446744073709551616 ^ i*(x % 2 ^ w)=18446744073709551616 ^ i*x:=by
   rw[Nat.mul_assoc,<-Nat.mul_add,Nat.mul_comm (x / 2 ^ w),Nat.div_add_mod]
  rw[e4,Nat.add_mul,Nat.add_mul,e5]
  omega
 ·rw[getD_set _ _ _ _ (by simp;omega),if_neg (by omega),getD_set _ _ _ _ (by omega),if_neg (by omega)];exact h.rest j (by omega)
 ·rw[getD_set _ _ _ _ (by simp;omega),if_neg (by omega),show i+1-1=i by omega,getD_set _ _ _ _ (by omega),if_pos rfl,hxe]
end Go.Proofs.YtapnglidnblmcaaGreat
namespace Go.Proofs.YtapnglidnblmcaaGreat
open Go.RowKit
set_option linter.unusedVariables false
set_option linter.unusedSimpArgs false
end Go.Proofs.YtapnglidnblmcaaGreat
namespace Go.Proofs.YtapnglidnblmcaaGreat
open Go.RowKit Go.Shelf
set_option linter.unusedVariables false
set_option linter.unusedSimpArgs false
attribute [local go_sem] Oper.semAt_some
abbrev Pl (len:Nat):={j:Nat // j<len}
attribute [local go_sem] Oper.semAt_some
end Go.Proofs.YtapnglidnblmcaaGreat
namespace Go.Proofs.YtapnglidnblmcaaGreat
open Go.RowKit
set_option linter.unusedVariables false
set_option linter.unusedSimpArgs false
structure Bx2 (w:World) (p:Nat) (s:Bool) (ad1:Option Addr) (n1 c1:Nat):Prop where
 a:w.heap[p]? = some (.cells #[.bool s,.slice ad1 n1 c1] 24)
 ob:w.heap[p+1]? = some (.cells #[.bool false,.slice none 0 0] 24)
theorem Bx2.mk' (w:World) (s:Bool) (ad1:Option Addr) (n1 c1:Nat):Bx2 ((w.alloc (.cells #[.bool s,.slice ad1 n1 c1] 24)).alloc (.cells #[.bool false,.slice none 0 0] 24)) w.heap.size s ad1 n1 c1:=⟨(blk2 w _ _).1,(blk2 w _ _).2⟩
theorem Bx2.gr {w w':World} {p:Nat} {s:Bool} {ad1:Option Addr} {n1 c1:Nat} (h:Bx2 w p s ad1 n1 c1) (g:Gr w w'):Bx2 w' p s ad1 n1 c1:=⟨keepO g h.a,keepO g h.ob⟩
theorem Bx2.a0 {w:World} {p:Nat} {s:Bool} {ad1:Option Addr} {n1 c1:Nat} (h:Bx2 w p s ad1 n1 c1):w.cell? ⟨p,0,none⟩=some (.bool s):=(bx2 h.a).1
theorem Bx2.a1 {w:World} {p:Nat} {s:Bool} {ad1:Option Addr} {n1 c1:Nat} (h:Bx2 w p s ad1 n1 c1):w.cell? ⟨p,1,none⟩=some (.slice ad1 n1 c1):=(bx2 h.a).2
theorem Bx2.o {w:World} {p:Nat} {s:Bool} {ad1:Option Addr} {n1 c1:Nat} (h:Bx2 w p s ad1 n1 c1):Out2 w (p+1):=Out2.of h.ob
theorem heap_far {w:World} {q k i:Nat} {v:Value} {o:Obj} (h:w.heap[k]? = some o) (hk:k≠q):(w.setCell ⟨q,i,none⟩ v).heap[k]? = some o:=(Below.heap_setCell _ _ _ _ (by omega)).trans h
theorem Bx2.far {w:World} {p q:Nat} {s:Bool} {ad1:Option Addr} {n1 c1:Nat} (h:Bx2 w p s ad1 n1 c1) {i0 i1:Value} (hq:p+1<q):Bx2 ((w.setCell ⟨q,0,none⟩ i0).setCell ⟨q,1,none⟩ i1) p s ad1 n1 c1:=
 ⟨heap_far (heap_far h.a (by omega)) (by omega),heap_far (heap_far h.ob (by omega)) (by omega)⟩
end Go.Proofs.YtapnglidnblmcaaGreat
namespace Go.Proofs.YtapnglidnblmcaaGreat
open Go.RowKit
set_option linter.unusedVariables false
def Nz (w:World) (s:Bool) (ad:Option Addr) (n cap:Nat) (e:Int) (X:Int) (M:Nat):Prop:=∃m:Nat,Lim w ad n cap 18446744073709551616 m/\0<=e/\e<=(M:Int)/\sv 0 s m e=X/\X.natAbs<2 ^ M
theorem Nz.gr {w w':World} {s:Bool} {ad:Option Addr} {n cap:Nat} {e:Int} {X:Int} {M:Nat} (h:Nz w s ad n cap e X M) (g:Gr w w'):Nz w' s ad n cap e X M:=by
 obtain⟨m,h1,h2⟩:=h
 exact⟨m,h1.gr g,h2⟩
theorem Nz.to {w:World} {s:Bool} {ad:Option Addr} {n cap:Nat} {e:Int} {X Y:Int} {M N:Nat} (h:Nz w s ad n cap e X M) (hXY:X=Y) (hMN:M<=N):Nz w s ad n cap e Y N:=by
 obtain⟨m,h1,h2,h3,h4,h5⟩:=h
 subst hXY
 exact⟨m,h1,h2,by omega,h4,Nat.lt_of_lt_of_le h5 (Nat.pow_le_pow_right (by omega) hMN)⟩
theorem add_lt_pow {X Y:Int} {M N:Nat} (hx:X.natAbs<2 ^ M) (hy:Y.natAbs<2 ^ N):(X+Y).natAbs<2 ^ (M+N+1)/\(X-Y).natAbs<2 ^ (M+N+1):=by
 have h1:2 ^ M<=2 ^ (M+N):=Nat.pow_le_pow_right (by omega) (by omega)
 have h2:2 ^ N<=2 ^ (M+N):=Nat.pow_le_pow_right (by omega) (by omega)
 rw[Nat.pow_succ]
 generalize 2 ^ (M+N)=p at *
 generalize 2 ^ M=q at *
 generalize 2 ^ N=r at *
 omega
end Go.Proofs.YtapnglidnblmcaaGreat
namespace Go.Proofs.YtapnglidnblmcaaGreat
open Go.RowKit
set_option linter.unusedVariables false
set_option linter.unusedSimpArgs false
theorem put3_blockD {w:World} {b:Nat} {c0 c1 c2:Value} {T:TypeId} {fr:Nat × Nat} (h:w.heap[b]? = some (.cells #[c0,c1,c2] T fr)) (v0 v1 v2:Value):(((w.setCell ⟨b,0,none⟩ v0).setCell ⟨b,1,none⟩ v1).setCell ⟨b,2,none⟩ v2).heap[b]? = some (.cells #[v0,v1,v2] T fr):=by
 rw[put1_at (put1_at (put1_at h v0) v1) v2]
 rfl
theorem Nz.setD {w:World} {s:Bool} {ad:Option Addr} {n cap B:Nat} {e:Int} {X:Int} {M:Nat} {u0:Bool} {u1:Option Addr} {u2 u3:Nat} {u4:Int} {T:TypeId} (h:Nz w s ad n cap e X M) (hb:w.heap[B]? = some (.cells #[.bool u0,.slice u1 u2 u3,.int .i64 u4] T)) (v0 v1 v2:Value):Nz (((w.setCell ⟨B,0,none⟩ v0).setCell ⟨B,1,none⟩ v1).setCell ⟨B,2,none⟩ v2) s ad n cap e X M:=by
 obtain⟨m,h1,h2⟩:=h
 exact⟨m,h1.set3 (h1.apart hb) _ _ _,h2⟩
theorem Wh.setD {w:World} {s:Bool} {ad:Option Addr} {n cap B:Nat} {X:Int} {u0:Bool} {u1:Option Addr} {u2 u3:Nat} {u4:Int} {T:TypeId} (h:Wh w s ad n cap X) (hb:w.heap[B]? = some (.cells #[.bool u0,.slice u1 u2 u3,.int .i64 u4] T)) (v0 v1 v2:Value):Wh (((w.setCell ⟨B,0,none⟩ v0).setCell ⟨B,1,none⟩ v1).setCell ⟨B,2,none⟩ v2) s ad n cap X:=
 ⟨h.lim.set3 (h.lim.apart hb) _ _ _,h.le,h.zero,h.val⟩
theorem bx3D {w:World} {B:Nat} {v0 v1 v2:Value} {T:TypeId} (h:w.heap[B]? = some (.cells #[v0,v1,v2] T)):w.cell? ⟨B,0,none⟩=some v0/\w.cell? ⟨B,1,none⟩=some v1/\w.cell? ⟨B,2,none⟩=some v2:=⟨by simp[World.cell?,h],by simp[World.cell?,h],by simp[World.cell?,h]⟩
theorem out3D {w:World} {B:Nat} {v0 v1 v2:Value} {T:TypeId} (h:w.heap[B]? = some (.cells #[v0,v1,v2] T)):w.frozen? ⟨B,0,none⟩=false/\w.frozen? ⟨B,1,none⟩=false/\w.frozen? ⟨B,2,none⟩=false:=⟨by simp[World.frozen?,h],by simp[World.frozen?,h],by simp[World.frozen?,h]⟩
theorem digitV (n:Nat) (h:n<36) (w:World):Calls Tryz.prog 61 #[.int .i64 (n:Int)] w fun r w'=>r = .returned (.int .u8 (Bs.dg n:Int))/\w'=w:=by
 have k1:∀d:Fin 36,d.val<10->IntKind.u8.wrap (48+(d.val:Int))=((Bs.dg d.val:Nat):Int):=by decide +kernel
 have k2:∀d:Fin 36,¬d.val<10->IntKind.u8.wrap (97+(d.val:Int)-10)=((Bs.dg d.val:Nat):Int):=by decide +kernel
 have h1:=k1 ⟨n,h⟩
 have h2:=k2 ⟨n,h⟩
 simp only at h1 h2
 clear k1 k2
 generalize Bs.dg n=x at *
 by_cases hn:n<10
 ·have i1:(n:Int)<10:=by omega
  have e1:=h1 hn
  clear h1 h2
  go_enter Tryz.func61,Tryz.ntmps61
  go_wp2
  go_ret
  exact⟨rfl,rfl⟩
 ·have i1:¬(n:Int)<10:=by omega
  have e1:=h2 hn
  clear h1 h2
  go_enter Tryz.func61,Tryz.ntmps61
  go_wp2
  go_ret
  exact⟨rfl,rfl⟩
def wth (b u:Nat):Int:=if Bs.dgv u<b then (Bs.dgv u:Int) else -1
theorem wth_hit {b u j:Nat} (h36:b<=36) (hj:j<b) (h:Bs.dg j=u):wth b u=(j:Int):=by
 unfold wth
 rw[<-h,Bs.dgv_dg (by omega),if_pos hj]
theorem wth_miss {b u:Nat} (h36:b<=36) (h:∀k,k<b->Bs.dg k≠u):wth b u = -1:=by
 unfold wth
 refine if_neg fun hlt=>h _ hlt (Bs.dg_dgv (by omega))
theorem worthV (u b:Nat) (hu:u<256) (h36:b<=36) (w:World):Calls Tryz.prog 38 #[.int .u8 (u:Int),.int .i64 (b:Int)] w fun r w'=>r = .returned (.int .i64 (wth b u))/\w'=w:=by
 have DG:Hid (∀n:Nat,n<36->∀w1,Calls Tryz.prog 61 #[.int .i64 (n:Int)] w1 fun r w'=>r = .returned (.int .u8 (Bs.dg n:Int))/\w'=w1):=fun n h w1=>digitV n h w1
 go_enter Tryz.func38,Tryz.ntmps38
 go_wp2
 go_loopw [5] (fun i wr=>∃j:Nat,j<=b/\i = .int .i64 (j:Int)/\Hid (∀k,k<j->Bs.dg k≠u)/\wr=w) (fun i _=>b-(intOf i).toNat)
 case atStart=>exact⟨0,by omega,rfl,fun k hk=>absurd hk (by omega),rfl⟩
 case round =>
  obtain⟨j,hj,rfl,HN,rfl⟩:=hrel
  by_cases hc:j<b
  ·have i1:(j:Int)<(b:Int):=by omega
   have DJ:=hide (DG.out j (by omega))
   obtain⟨x,hx⟩:∃x,Bs.dg j=x:=⟨_,rfl⟩
   rw[hx] at DJ
   by_cases he:x=u
   ·have hw:=hide (wth_hit h36 hc (hx.trans he))
    subst he
    clear hx
    go_wp2_with (go_at_call 61;(with_reducible refine(DJ.out _).mono ?_);rintro r w1 ⟨rfl,rfl⟩)
    go_ret
    exact⟨by rw[hw.out];rfl,rfl⟩
   ·have i2:¬(x:Int)=(u:Int):=by omega
    have HN2:Hid (∀k,k<j+1->Bs.dg k≠u):=fun k hk=>by
     by_cases hkj:k=j
     ·rw[hkj,hx];exact he
     ·exact HN.out k (by omega)
    clear hx he
    go_wp2_with (go_at_call 61;(with_reducible refine(DJ.out _).mono ?_);rintro r w1 ⟨rfl,rfl⟩)
    go_roundw
    case rel=>exact⟨j+1,by omega,by go_num,HN2,(by first|trivial|rfl)⟩
    case measure=>simp only[intOf];omega
  ·have hjb:j=b:=by omega
   subst hjb
   have hw:=hide (wth_miss h36 HN.out)
   have i1:¬(j:Int)<(j:Int):=by omega
   go_wp2
   go_ret
   exact⟨by rw[hw.out];rfl,rfl⟩
theorem nB_tl (s:ByteArray):nB (tlB s)=(Lib.trimPrefix s.data.toList [45]).map fun x=>x.toNat:=by unfold nB tlB;rfl
theorem short_top {b X L:Nat} (h36:b<=36) (hL:L<=3000) (h:X<b ^ L):X<2 ^ (6*L)/\X<TopN:=by
 have h1:b ^ L<=(2 ^ 6) ^ L:=Nat.pow_le_pow_left (by omega) _
 rw[<-Nat.pow_mul] at h1
 have h2:X<2 ^ (6*L):=by omega
 exact⟨h2,topN_bl.1 (Nat.le_trans (bl_le_of_lt h2) (by omega))⟩
def wrg (s:ByteArray) (m:Nat):Int:=if m=(tlB s).size/\0<(tlB s).size then -1 else ((s.size-(tlB s).size+m:Nat):Int)
theorem wrg_at {s:ByteArray} {m p:Nat} (h:m<(tlB s).size) (hp:s.size-(tlB s).size+m=p):wrg s m=(p:Int):=by
 unfold wrg
 rw[if_neg (by omega),hp]
theorem nB_drop (s:ByteArray):nB (tlB s)=(nB s).drop (if ngB s then 1 else 0):=by
 rw[nB_tl]
 unfold nB ngB Lib.trimPrefix
 cases Lib.hasPrefix s.data.toList [45] <;> simp
theorem ng_first {s:ByteArray} (h:0<s.size):ngB s=((nB s).getD 0 0==45):=by
 unfold ngB nB
 have hl:s.data.toList.length=s.size:=by rw[Array.length_toList];rfl
 match hs:s.data.toList,(show 0<s.data.toList.length by omega) with
 | x :: l,_ =>
  rw[hp_cons]
  simp only[List.map_cons,List.getD_cons_zero]
  by_cases hx:x=45
  ·subst hx;rfl
  ·have:¬x.toNat=45:=fun e=>hx (UInt8.toNat_inj.1 e)
   rw[show(x==45)=false from beq_eq_false_iff_ne.2 hx,show(x.toNat==45)=false from beq_eq_false_iff_ne.2 this]
theorem getD_dropW (l:List Nat) (f j:Nat):(l.drop f).getD j 0=l.getD (f+j) 0:=by
 rw[List.getD_eq_getElem?_getD,List.getD_eq_getElem?_getD,List.getElem?_drop]
theorem dgv_nought {u:Nat} (h:Bs.dgv u=0):u=48:=by
 have:=Bs.dg_dgv (u:=u) (by omega)
 rw[h] at this
 exact this.symm
theorem nB_lt (s:ByteArray) (j:Nat):(nB s).getD j 0<256:=by
 rw[List.getD_eq_getElem?_getD]
 unfold nB
 rw[List.getElem?_map]
 cases s.data.toList[j]? with
 | none=>simp
 | some x=>exact x.toNat_lt
set_option maxRecDepth 4000 in
set_option maxHeartbeats 4000000 in
theorem wrongC1 (s : ByteArray) (b m : Nat) (w : World) (h2 : 2 ≤ b) (h36 : b ≤ 36) (hs : s.size ≤ 1048576) (h0 : 0 < s.size) (hn : ngB s = true) (hm : Bs.Pl b (ngB s) (nB (tlB s)) m) :
    Calls Tryz.prog 36 #[.string s, .int .i64 (b : Int)] w fun r w' => r = .returned (.int .i64 (wrg s m)) ∧ w' = w := by
  have hd := nB_drop s
  rw [hn] at hd hm
  obtain ⟨us, hus⟩ : ∃ us, nB (tlB s) = us := ⟨_, rfl⟩
  have hlen := nB_len (tlB s)
  rw [hus] at hd hm hlen
  have hlen2 : us.length = s.size - 1 := by
    rw [hd, List.length_drop, nB_len]
    rfl
  have hat : ∀ j, us.getD j 0 = (nB s).getD (1 + j) 0 := fun j => by rw [hd]; exact getD_dropW _ _ _
  have hfst := ng_first h0
  rw [hn] at hfst
  have hb0 : ∀ h : 0 < s.size, (s[0]'h).toNat = (nB s).getD 0 0 := fun h => nB_at s 0 h
  obtain ⟨v0, hv0⟩ : ∃ v0, (nB s).getD 0 0 = v0 := ⟨_, rfl⟩
  rw [hv0] at hfst hb0
  have hfst2 : v0 = 45 := by simpa using hfst.symm
  have hv9 : True := by first | trivial | omega
  have hv8 : True := by first | trivial | exact beq_eq_false_iff_ne.2 hv9
  have i0 : (0 : Int) < (s.size : Int) := by omega
  have HAT := hide hat
  have HM := hide hm
  have HW : Hid (∀ p, m < (tlB s).size → 1 + m = p → wrg s m = (p : Int)) := fun p h1 h2 => wrg_at h1 (by omega)
  have HE1 : Hid ((tlB s).size = 0 → wrg s m = (s.size : Int)) := fun h => by
    have := hm.le
    unfold wrg
    rw [if_neg (by omega), show s.size - (tlB s).size + m = s.size by omega]
  have HE2 : Hid (m = (tlB s).size → 0 < (tlB s).size → wrg s m = -1) := fun h1 h2 => by
    unfold wrg
    exact if_pos ⟨h1, h2⟩
  obtain ⟨T, hT⟩ : ∃ T, (tlB s).size = T := ⟨_, rfl⟩
  rw [hT] at HW HE1 HE2 hlen
  have hTs : T + 1 ≤ s.size := by omega
  have hTs2 : s.size ≤ T + 1 := by omega
  have hlen3 : us.length ≤ T := by omega
  have hlen4 : T ≤ us.length := by omega
  have hv0u : True := by first | trivial | (rw [hat]; exact hv0)
  subst hfst2
  clear hd hat hm hus hlen hfst hv0 hT hn hlen2
  go_enter Tryz.func36, Tryz.ntmps36
  go_wp2
  clear hb0 hv9 hv8 hv0u
  go_loopw [6] (fun i wr => ∃ j : Nat, j ≤ T ∧ i = .int .i64 ((1 + j : Nat) : Int) ∧ Hid (∀ k, k < j → Bs.Gd b true us k) ∧ wr = w) (fun i _ => s.size + 1 - (intOf i).toNat)
  case atStart => exact ⟨0, by omega, rfl, fun k hk => absurd hk (by omega), rfl⟩
  case round =>
    obtain ⟨j, hj, rfl, HG, rfl⟩ := hrel
    by_cases hc : j < T
    · have HU : ∀ h : 1 + j < s.size, (s[1 + j]'h).toNat = us.getD j 0 := fun h => by rw [nB_at, HAT.out]
      have hu256 : us.getD j 0 < 256 := by rw [HAT.out]; exact nB_lt _ _
      obtain ⟨u, hu⟩ : ∃ u, us.getD j 0 = u := ⟨_, rfl⟩
      rw [hu] at HU hu256
      have WT := hide (fun w1 => worthV u b hu256 h36 w1)
      obtain ⟨p, hp⟩ : ∃ p, 1 + j = p := ⟨_, rfl⟩
      have HU2 : ∀ h : p < s.size, (s[p]'h).toNat = u := by subst hp; exact HU
      rw [hp]
      have i1 : (p : Int) < (s.size : Int) := by omega
      have HPL : Hid (¬ Bs.Gd b true us j → wrg s m = (p : Int)) := fun hng => by
        have e := HM.out.one (n := j) ⟨by omega, HG.out, fun _ => hng⟩
        exact HW.out p (by omega) (by omega)
      clear HU
      by_cases hgb : Bs.dgv u < b
      · obtain ⟨d, hd⟩ : ∃ d, Bs.dgv u = d := ⟨_, rfl⟩
        rw [show wth b u = (d : Int) by unfold wth; rw [if_pos hgb, hd]] at WT
        by_cases hj0 : j = 0
        · subst hj0
          obtain rfl : p = 1 := by omega
          have NX : Hid (0 < d → ∀ k, k < 0 + 1 → Bs.Gd b true us k) := fun hd0 k hk => by
            obtain rfl : k = 0 := by omega
            exact ⟨by rw [hu]; exact hgb, fun _ => .inl (by rw [hu, hd]; exact hd0), fun h => absurd h (by omega)⟩
          have HB : Hid (d = 0 → ¬ Bs.Gd b true us 0) := fun e hg => by
            rcases hg.2.1 rfl with h | h; · rw [hu, hd] at h; omega
            · cases h
          by_cases hd0 : d = 0
          · have i3 : (d : Int) = 0 := by omega
            have hr := hide (HPL.out (HB.out hd0))
            clear HPL HB
            go_wp2_with (go_at_call 38; (with_reducible refine (WT.out _).mono ?_); rintro r w1 ⟨rfl, rfl⟩)
            go_ret
            exact ⟨by rw [hr.out]; rfl, rfl⟩
          · have i3 : ¬ (d : Int) = 0 := by omega
            clear HPL HB
            go_wp2_with (go_at_call 38; (with_reducible refine (WT.out _).mono ?_); rintro r w1 ⟨rfl, rfl⟩)
            go_roundw
            case rel => exact ⟨0 + 1, by omega, by go_num, NX.out (by omega), (by first | trivial | rfl)⟩
            case measure => simp only [intOf]; omega
        · by_cases hj1 : j = 1
          · subst hj1
            obtain rfl : p = 2 := by omega
            have HF : ∀ h : 1 < s.size, (s[1]'h).toNat = us.getD 0 0 := fun h => by rw [nB_at, HAT.out]
            obtain ⟨x, hx⟩ : ∃ x, us.getD 0 0 = x := ⟨_, rfl⟩
            rw [hx] at HF
            have i5 : (1 : Int) < (s.size : Int) := by omega
            by_cases hx0 : x = 48
            · have hr := hide (HPL.out fun hg => by
                have h3 := hg.2.2 (by omega)
                rw [hx, hx0] at h3
                exact absurd h3 (by decide))
              have i4 : (x : Int) = 48 := by omega
              clear HPL
              go_wp2_with (go_at_call 38; (with_reducible refine (WT.out _).mono ?_); rintro r w1 ⟨rfl, rfl⟩)
              go_ret
              exact ⟨by rw [hr.out]; rfl, rfl⟩
            · have i4 : ¬ (x : Int) = 48 := by omega
              have NX : Hid (∀ k, k < 1 + 1 → Bs.Gd b true us k) := fun k hk => by
                by_cases hk1 : k = 1
                · subst hk1
                  refine ⟨by rw [hu]; exact hgb, fun h => absurd h (by omega), fun _ => ?_⟩
                  rw [hx]
                  exact Nat.pos_of_ne_zero fun h => hx0 (dgv_nought h)
                · exact HG.out k (by omega)
              clear HPL
              go_wp2_with (go_at_call 38; (with_reducible refine (WT.out _).mono ?_); rintro r w1 ⟨rfl, rfl⟩)
              go_roundw
              case rel => exact ⟨1 + 1, by omega, by go_num, NX.out, (by first | trivial | rfl)⟩
              case measure => simp only [intOf]; omega
          · have i4 : ¬ (p : Int) = 1 := by omega
            have i5 : ¬ (p : Int) = 2 := by omega
            have NX : Hid (∀ k, k < j + 1 → Bs.Gd b true us k) := fun k hk => by
              by_cases hk1 : k = j
              · subst hk1
                have h1 := (HG.out 1 (by omega)).2.2 (by omega)
                exact ⟨by rw [hu]; exact hgb, fun h => absurd h (by omega), fun _ => h1⟩
              · exact HG.out k (by omega)
            clear HPL
            go_wp2_with (go_at_call 38; (with_reducible refine (WT.out _).mono ?_); rintro r w1 ⟨rfl, rfl⟩)
            go_roundw
            case rel => exact ⟨j + 1, by omega, by subst hp; go_num, NX.out, (by first | trivial | rfl)⟩
            case measure => simp only [intOf]; omega
      · have hr := hide (HPL.out fun hg => hgb (by have := hg.1; rwa [hu] at this))
        rw [show wth b u = -1 by unfold wth; rw [if_neg hgb]] at WT
        clear HPL
        go_wp2_with (go_at_call 38; (with_reducible refine (WT.out _).mono ?_); rintro r w1 ⟨rfl, rfl⟩)
        go_ret
        exact ⟨by rw [hr.out]; rfl, rfl⟩
    · have hjT : j = T := by omega
      subst hjT
      have e := hide (HM.out.one (n := j) ⟨by omega, HG.out, fun h => by omega⟩)
      have i1 : ¬ ((1 + j : Nat) : Int) < (s.size : Int) := by omega
      by_cases hT0 : j = 0
      · have hr := hide (HE1.out hT0)
        have i2 : (s.size : Int) = 1 := by omega
        go_wp2
        go_ret
        exact ⟨by rw [hr.out]; first | rfl | (rw [i2]; rfl), rfl⟩
      · have hr := hide (HE2.out e.out (by omega))
        have i2 : ¬ (1 : Int) = (s.size : Int) := by omega
        go_wp2
        go_ret
        exact ⟨by rw [hr.out]; rfl, rfl⟩
set_option maxRecDepth 4000 in
set_option maxHeartbeats 4000000 in
theorem wrongC0 (s:ByteArray) (b m:Nat) (w:World) (h2:2<=b) (h36:b<=36) (hs:s.size<=1048576) (h0:0<s.size) (hn:ngB s=false) (hm:Bs.Pl b (ngB s) (nB (tlB s)) m) :
  Calls Tryz.prog 36 #[.string s,.int .i64 (b:Int)] w fun r w'=>r = .returned (.int .i64 (wrg s m))/\w'=w:=by
 have hd:=nB_drop s
 rw[hn] at hd hm
 obtain⟨us,hus⟩:∃us,nB (tlB s)=us:=⟨_,rfl⟩
 have hlen:=nB_len (tlB s)
 rw[hus] at hd hm hlen
 have hlen2:us.length=s.size-0:=by
  rw[hd,List.length_drop,nB_len]
  rfl
 have hat:∀j,us.getD j 0=(nB s).getD (0+j) 0:=fun j=>by rw[hd];exact getD_dropW _ _ _
 have hfst:=ng_first h0
 rw[hn] at hfst
 have hb0:∀h:0<s.size,(s[0]'h).toNat=(nB s).getD 0 0:=fun h=>nB_at s 0 h
 obtain⟨v0,hv0⟩:∃v0,(nB s).getD 0 0=v0:=⟨_,rfl⟩
 rw[hv0] at hfst hb0
 have hfst2:¬v0=45:=by simpa using hfst.symm
 have hv9:¬(v0:Int)=45:=by first|trivial|omega
 have hv8:((v0:Int)==45)=false:=by first|trivial|exact beq_eq_false_iff_ne.2 hv9
 have i0:(0:Int)<(s.size:Int):=by omega
 have HAT:=hide hat
 have HM:=hide hm
 have HW:Hid (∀p,m<(tlB s).size->0+m=p->wrg s m=(p:Int)):=fun p h1 h2=>wrg_at h1 (by omega)
 have HE1:Hid ((tlB s).size=0->wrg s m=(s.size:Int)):=fun h=>by
  have:=hm.le
  unfold wrg
  rw[if_neg (by omega),show s.size-(tlB s).size+m=s.size by omega]
 have HE2:Hid (m=(tlB s).size->0<(tlB s).size->wrg s m = -1):=fun h1 h2=>by
  unfold wrg
  exact if_pos ⟨h1,h2⟩
 obtain⟨T,hT⟩:∃T,(tlB s).size=T:=⟨_,rfl⟩
 rw[hT] at HW HE1 HE2 hlen
 have hTs:T+0<=s.size:=by omega
 have hTs2:s.size<=T+0:=by omega
 have hlen3:us.length<=T:=by omega
 have hlen4:T<=us.length:=by omega
 have hv0u:us.getD 0 0=v0:=by first|trivial|(rw[hat];exact hv0)
 skip
 clear hd hat hm hus hlen hfst hv0 hfst2 hT hn hlen2
 go_enter Tryz.func36,Tryz.ntmps36
 go_wp2
 clear hb0 hv9 hv8 hv0u
 go_loopw [6] (fun i wr=>∃j:Nat,j<=T/\i = .int .i64 ((0+j:Nat):Int)/\Hid (∀k,k<j->Bs.Gd b false us k)/\wr=w) (fun i _=>s.size+1-(intOf i).toNat)
 case atStart=>exact⟨0,by omega,rfl,fun k hk=>absurd hk (by omega),rfl⟩
 case round =>
  obtain⟨j,hj,rfl,HG,rfl⟩:=hrel
  by_cases hc:j<T
  ·have HU:∀h:0+j<s.size,(s[0+j]'h).toNat=us.getD j 0:=fun h=>by rw[nB_at,HAT.out]
   have hu256:us.getD j 0<256:=by rw[HAT.out];exact nB_lt _ _
   obtain⟨u,hu⟩:∃u,us.getD j 0=u:=⟨_,rfl⟩
   rw[hu] at HU hu256
   have WT:=hide (fun w1=>worthV u b hu256 h36 w1)
   obtain⟨p,hp⟩:∃p,0+j=p:=⟨_,rfl⟩
   have HU2:∀h:p<s.size,(s[p]'h).toNat=u:=by subst hp;exact HU
   rw[hp]
   have i1:(p:Int)<(s.size:Int):=by omega
   have HPL:Hid (¬Bs.Gd b false us j->wrg s m=(p:Int)):=fun hng=>by
    have e:=HM.out.one (n:=j) ⟨by omega,HG.out,fun _=>hng⟩
    exact HW.out p (by omega) (by omega)
   clear HU
   by_cases hgb:Bs.dgv u<b
   ·obtain⟨d,hd⟩:∃d,Bs.dgv u=d:=⟨_,rfl⟩
    rw[show wth b u=(d:Int) by unfold wth;rw[if_pos hgb,hd]] at WT
    by_cases hj0:j=0
    ·subst hj0
     obtain rfl:p=0:=by omega
     have NX:Hid (∀k,k<0+1->Bs.Gd b false us k):=fun k hk=>by
      obtain rfl:k=0:=by omega
      exact⟨by rw[hu];exact hgb,fun _=>.inr rfl,fun h=>absurd h (by omega)⟩
     have HB:Hid (False->¬Bs.Gd b false us 0):=fun e hg=>by
      exact e
     by_cases hd0:d=0
     ·have i3:(d:Int)=0:=by omega
      skip
      clear HPL HB
      go_wp2_with (go_at_call 38;(with_reducible refine(WT.out _).mono ?_);rintro r w1 ⟨rfl,rfl⟩)
      go_roundw
      case rel=>exact⟨0+1,by omega,by go_num,NX.out,(by first|trivial|rfl)⟩
      case measure=>simp only[intOf];omega
     ·have i3:¬(d:Int)=0:=by omega
      clear HPL HB
      go_wp2_with (go_at_call 38;(with_reducible refine(WT.out _).mono ?_);rintro r w1 ⟨rfl,rfl⟩)
      go_roundw
      case rel=>exact⟨0+1,by omega,by go_num,NX.out ,(by first|trivial|rfl)⟩
      case measure=>simp only[intOf];omega
    ·by_cases hj1:j=1
     ·subst hj1
      obtain rfl:p=1:=by omega
      have HF:∀h:0<s.size,(s[0]'h).toNat=us.getD 0 0:=fun h=>by rw[nB_at,HAT.out]
      obtain⟨x,hx⟩:∃x,us.getD 0 0=x:=⟨_,rfl⟩
      rw[hx] at HF
      have i5:(0:Int)<(s.size:Int):=by omega
      by_cases hx0:x=48
      ·have hr:=hide (HPL.out fun hg=>by
        have h3:=hg.2.2 (by omega)
        rw[hx,hx0] at h3
        exact absurd h3 (by decide))
       have i4:(x:Int)=48:=by omega
       clear HPL
       go_wp2_with (go_at_call 38;(with_reducible refine(WT.out _).mono ?_);rintro r w1 ⟨rfl,rfl⟩)
       go_ret
       exact⟨by rw[hr.out];rfl,rfl⟩
      ·have i4:¬(x:Int)=48:=by omega
       have NX:Hid (∀k,k<1+1->Bs.Gd b false us k):=fun k hk=>by
        by_cases hk1:k=1
        ·subst hk1
         refine⟨by rw[hu];exact hgb,fun h=>absurd h (by omega),fun _=>?_⟩
         rw[hx]
         exact Nat.pos_of_ne_zero fun h=>hx0 (dgv_nought h)
        ·exact HG.out k (by omega)
       clear HPL
       go_wp2_with (go_at_call 38;(with_reducible refine(WT.out _).mono ?_);rintro r w1 ⟨rfl,rfl⟩)
       go_roundw
       case rel=>exact⟨1+1,by omega,by go_num,NX.out,(by first|trivial|rfl)⟩
       case measure=>simp only[intOf];omega
     ·have i4:¬(p:Int)=0:=by omega
      have i5:¬(p:Int)=1:=by omega
      have NX:Hid (∀k,k<j+1->Bs.Gd b false us k):=fun k hk=>by
       by_cases hk1:k=j
       ·subst hk1
        have h1:=(HG.out 1 (by omega)).2.2 (by omega)
        exact⟨by rw[hu];exact hgb,fun h=>absurd h (by omega),fun _=>h1⟩
       ·exact HG.out k (by omega)
      clear HPL
      go_wp2_with (go_at_call 38;(with_reducible refine(WT.out _).mono ?_);rintro r w1 ⟨rfl,rfl⟩)
      go_roundw
      case rel=>exact⟨j+1,by omega,by subst hp;go_num,NX.out,(by first|trivial|rfl)⟩
      case measure=>simp only[intOf];omega
   ·have hr:=hide (HPL.out fun hg=>hgb (by have:=hg.1;rwa [hu] at this))
    rw[show wth b u = -1 by unfold wth;rw[if_neg hgb]] at WT
    clear HPL
    go_wp2_with (go_at_call 38;(with_reducible refine(WT.out _).mono ?_);rintro r w1 ⟨rfl,rfl⟩)
    go_ret
    exact⟨by rw[hr.out];rfl,rfl⟩
  ·have hjT:j=T:=by omega
   subst hjT
   have e:=hide (HM.out.one (n:=j) ⟨by omega,HG.out,fun h=>by omega⟩)
   have i1:¬((0+j:Nat):Int)<(s.size:Int):=by omega
   by_cases hT0:j=0
   ·have hr:=hide (HE1.out hT0)
    have i2:(s.size:Int)=0:=by omega
    go_wp2
    go_ret
    exact⟨by rw[hr.out];first|rfl|(rw[i2];rfl),rfl⟩
   ·have hr:=hide (HE2.out e.out (by omega))
    have i2:¬(0:Int)=(s.size:Int):=by omega
    go_wp2
    go_ret
    exact⟨by rw[hr.out];rfl,rfl⟩
theorem wrongE (s:ByteArray) (b:Nat) (w:World) (h0:s.size=0) :
  Calls Tryz.prog 36 #[.string s,.int .i64 (b:Int)] w fun r w'=>r = .returned (.int .i64 0)/\w'=w:=by
 have i0:(s.size:Int)=0:=by omega
 go_enter Tryz.func36,Tryz.ntmps36
 go_wp2
 go_loopw [6] (fun i wr=>i = .int .i64 0/\wr=w) (fun i _=>0)
 case atStart=>exact⟨rfl,rfl⟩
 case round =>
  obtain⟨rfl,rfl⟩:=hrel
  go_wp2
  go_ret
  exact⟨rfl,rfl⟩
theorem wrongV (s:ByteArray) (b m:Nat) (w:World) (h2:2<=b) (h36:b<=36) (hs:s.size<=1048576) (hm:Bs.Pl b (ngB s) (nB (tlB s)) m) :
  Calls Tryz.prog 36 #[.string s,.int .i64 (b:Int)] w fun r w'=>r = .returned (.int .i64 (wrg s m))/\w'=w:=by
 rcases Nat.eq_zero_or_pos s.size with h0|h0
 ·have h1:=tl_size s
  have h3:=hm.le
  rw[nB_len] at h3
  have e:wrg s m=0:=by
   unfold wrg
   rw[if_neg (by omega),show s.size-(tlB s).size+m=0 by omega]
   rfl
  rw[e]
  exact wrongE s b w h0
 ·cases hn:ngB s with
  | true=>exact wrongC1 s b m w h2 h36 hs h0 hn hm
  | false=>exact wrongC0 s b m w h2 h36 hs h0 hn hm
end Go.Proofs.YtapnglidnblmcaaGreat
