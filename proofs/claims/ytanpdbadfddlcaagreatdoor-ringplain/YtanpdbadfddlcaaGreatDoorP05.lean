import Derived.Test.YtanpdbadfddlcaaGreatDoorP04
import Derived.Deep.RegionHeld3
import Derived.BigRegion
namespace Go.Proofs.YtanpdbadfddlcaaGreatDoor
open Go.RowKit
set_option linter.unusedVariables false
structure TimAt (xs zs:List Nat) (k n2 Y N:Nat):Prop where
 len:zs.length=N
 lt:∀x∈zs,x<18446744073709551616
 val:nv 18446744073709551616 zs=nv 18446744073709551616 (xs.take k)*Y
 zero:∀j,k+n2<=j->zs.getD j 0=0
theorem TimAt.start {xs:List Nat} {n2 Y N:Nat}:TimAt xs (List.replicate N 0) 0 n2 Y N:=
 ⟨by simp,(fun x hx=>by rw[List.mem_replicate] at hx;omega),by simp[nv,nv_zeros],(fun j _=>by rw[List.getD_eq_getElem?_getD,List.getElem?_replicate];split <;> rfl)⟩
theorem TimAt.next {xs ys zs zs0:List Nat} {k n2 Y N x c:Nat} (h:TimAt xs zs0 k n2 Y N) (m:MulAt ys zs zs0 k n2 x c N) (hk:k+n2<N) (dy:Dg 18446744073709551616 Y ys) (hn:ys.length=n2) (hx:x=xs.getD k 0) (hc:c<18446744073709551616) :
  TimAt xs (zs.set (k+n2) c) (k+1) n2 Y N:=by
 have hl:=m.len
 refine⟨by rw[List.length_set];exact hl,set_lt m.lt hc,?_,?_⟩
 ·have h1:=nv_set 18446744073709551616 zs (k+n2) c (by omega)
  rw[m.rest _ (Nat.le_refl _),h.zero _ (Nat.le_refl _),Nat.mul_zero,Nat.add_zero,m.val,h.val,nv_take_all _ ys _ (by omega),dy.1] at h1
  rw[h1,nv_take_succ,Nat.add_mul,<-hx,Nat.mul_assoc]
 ·intro j hj
  rw[getD_set _ _ _ _ (by omega),if_neg (by omega),m.rest j (by omega)]
  exact h.zero j (by omega)
set_option maxHeartbeats 1600000 in
theorem times32 (ad1 ad2:Option Addr) (n1 n2 c1 c2 x y:Nat) (w:World) (hx:Lim w ad1 n1 c1 18446744073709551616 x) (hy:Lim w ad2 n2 c2 18446744073709551616 y) (b1:n1<=1099511627776) (b2:n2<=1099511627776) :
  Calls Tryz.prog 181 #[.slice ad1 n1 c1,.slice ad2 n2 c2] w fun e w'=>∃ad' n' cap',e = .returned (.slice ad' n' cap')/\n'<=n1+n2/\Lim w' ad' n' cap' 18446744073709551616 (x*y)/\Gr w w':=by
 obtain⟨xs,rx,dx⟩:=hx
 obtain⟨ys,ry,dy⟩:=hy
 have RX:Hid (Row w ad1 n1 c1 xs):=rx
 have RY:Hid (Row w ad2 n2 c2 ys):=ry
 have DX:Hid (Dg 18446744073709551616 x xs):=dx
 have DY:Hid (Dg 18446744073709551616 y ys):=dy
 have hl1:=rx.le
 have hl2:=ry.le
 clear rx ry dx dy
 go_enter Tryz.func181,Tryz.ntmps181
 go_wp2_with (at_make;refine wpList_made rfl _ _ rfl (n1+n2) _ rfl rfl ?_ ?_ ?_;rotate_right;intro w2 hown0 hg2)
 case' refine_1=>omega
 case' refine_2=>omega
 have G2:Hid (Gr w w2):=hg2
 clear hg2
 go_loopw [16] (fun i wr=>∃(k:Nat) (zs:List Nat),k<=n1/\i = .int .i64 (k:Int)/\wr.ownsRow w.heap.size 34 1 (.slice (some ⟨w.heap.size,0,none⟩) (n1+n2) (n1+n2)) (n1+n2) (u64s zs)/\Hid (TimAt xs zs k n2 y (n1+n2))/\Hid (Gr w wr)) (fun i _=>n1-(intOf i).toNat)
 case atStart=>exact⟨0,List.replicate (n1+n2) 0,by omega,rfl,hown0,TimAt.start,G2⟩
 case round =>
  obtain⟨k,zs,hk,rfl,hown,hA,hg⟩:=hrel
  by_cases hlt:k<n1
  ·obtain⟨p1,o1,rfl,hp1,hc1⟩:=RX.out.lt (by omega)
   have hcell1:=hc1 wr hg.out k (by omega)
   obtain⟨xk,hxk⟩:∃xk,xk=xs.getD k 0:=⟨_,rfl⟩
   rw[<-hxk] at hcell1
   have bxk:xk<18446744073709551616:=hxk ▸ getD_lt (by omega) DX.out.2.1 k
   have HX:Hid (xk=xs.getD k 0):=hxk
   clear hxk hc1
   have AT:Hid (∀cp,n2<=cp->Calls Tryz.prog 190 #[.slice (some ⟨w.heap.size,k,none⟩) n2 cp,.slice ad2 n2 c2,.int .u64 (xk:Int)] wr fun e w'=>∃(c:Nat) (zs':List Nat),e = .returned (.int .u64 (c:Int))/\c<18446744073709551616/\MulAt ys zs' zs k n2 xk c (n1+n2)/\w'.ownsRow w.heap.size 34 1 (.slice (some ⟨w.heap.size,0,none⟩) (n1+n2) (n1+n2)) (n1+n2) (u64s zs')/\Gr w w'):=fun cp hcp=>addTimes56 w.heap.size (n1+n2) k cp xk ad2 n2 c2 ys zs w wr RY.out DY.out.2.1 bxk hA.out.lt (by omega) (by omega) hcp hg.out (Nat.le_refl _) hown
   have i1:(k:Int)<(n1:Int):=by omega
   have i2:(k:Int)+(n2:Int)<(n1:Int)+(n2:Int):=by omega
   have i3:k+n2<=n1+n2:=by omega
   go_wp2_with (go_at_call 190;refine(AT.out _ ?_).mono ?_;rotate_right;rintro e w3 ⟨c,zs',rfl,hc,hM,hown1,hg3⟩;have hcell:=owns_cell hown1 (k+n2) (by omega);have hfz:=hown1.frozenAt (k+n2))
   ·go_roundw
    case rel=>exact⟨k+1,_,by omega,by go_num,owns_set hown1 (k+n2) c,hA.out.next hM (by omega) DY.out RY.out.len HX.out hc,hg3.setCell (Nat.le_refl _) _⟩
    case measure=>simp only[intOf];omega
   ·omega
  ·have hk2:k=n1:=by omega
   subst hk2
   have HT:=trimOwn hown hA.out.lt (v:=x*y) (by rw[hA.out.val,nv_take_all _ xs _ (by rw[RX.out.len];exact Nat.le_refl _),DX.out.1])
   have HT':Hid (Calls Tryz.prog 175 #[.slice (some ⟨w.heap.size,0,none⟩) (k+n2) (k+n2)] wr fun e w'=>∃i,e = .returned (.slice (some ⟨w.heap.size,0,none⟩) i (k+n2))/\i<=k+n2/\Lim w' (some ⟨w.heap.size,0,none⟩) i (k+n2) 18446744073709551616 (x*y)/\w'=wr):=HT
   clear HT hown
   go_wp2_with (go_at_call 175;with_reducible refine HT'.out.mono ?_;rintro e w' ⟨i,rfl,hi,hl,rfl⟩)
   go_ret
   exact⟨_,_,_,rfl,hi,hl,hg.out⟩
theorem rightExp36 (e:Int) (w:World):Calls Tryz.prog 162 #[.int .i64 e] w fun r w'=>r = .returned (.bool (decide (-1048576<=e/\e<=1048576)))/\w'=w:=by
 by_cases h1 : -1048576<=e
 ·by_cases h2:e<=1048576
  ·rw[show decide (-1048576<=e/\e<=1048576)=true by simp[h1,h2]]
   go_enter Tryz.func162,Tryz.ntmps162
   go_wp2
   go_ret
   exact⟨rfl,rfl⟩
  ·rw[show decide (-1048576<=e/\e<=1048576)=false by simp[h2]]
   go_enter Tryz.func162,Tryz.ntmps162
   go_wp2
   go_ret
   exact⟨rfl,rfl⟩
 ·rw[show decide (-1048576<=e/\e<=1048576)=false by simp[h1]]
  go_enter Tryz.func162,Tryz.ntmps162
  go_wp2
  go_ret
  exact⟨rfl,rfl⟩
def RightD (s:Bool) (xs:List Nat) (e:Int):Prop:=
 (xs.length=0/\s=false/\e=0)\/(0<xs.length/\xs.length<=4096/\xs.getD (xs.length-1) 0≠0/\xs.getD 0 0 % 2=1/\-1048576<=e/\e<=1048576)
instance (s:Bool) (xs:List Nat) (e:Int):Decidable (RightD s xs e):=by unfold RightD;infer_instance
def rightB (s:Bool) (xs:List Nat) (e:Int):Bool:=decide (RightD s xs e)
theorem rightB_t {s:Bool} {xs:List Nat} {e:Int} (h:RightD s xs e):rightB s xs e=true:=by simp[rightB,h]
theorem rightB_f {s:Bool} {xs:List Nat} {e:Int} (h:¬RightD s xs e):rightB s xs e=false:=by simp[rightB,h]
theorem and_one {v:Nat} (h:v<18446744073709551616):bits .and .u64 (v:Int) 1=((v % 2:Nat):Int):=by
 have:=bits_and_u64_nat v 1 h (by omega)
 rw[Nat.and_one_is_mod] at this
 exact this
theorem gr_box {w:World} (o:Obj):Gr w (w.alloc o):=(Gr.refl w).alloc o
set_option maxHeartbeats 1600000 in
theorem right26 (s:Bool) (ad:Option Addr) (n cap:Nat) (e:Int) (xs:List Nat) (w:World) (rx:Row w ad n cap xs) (hx:∀x∈xs,x<18446744073709551616) :
  Calls Tryz.prog 152 #[.agg #[.bool s,.slice ad n cap,.int .i64 e]] w fun r w'=>r = .returned (.bool (rightB s xs e))/\Gr w w':=by
 have hl:=rx.le
 have hm:=rx.max
 have hlen:=rx.len
 by_cases hn:n=0
 ·clear rx hx
  subst hn
  cases s
  ·by_cases he:e=0
   ·subst he
    rw[rightB_t (Or.inl ⟨hlen,rfl,rfl⟩)]
    go_enter Tryz.func152,Tryz.ntmps152
    go_wp2
    go_ret
    exact⟨rfl,gr_box _⟩
   ·have he':(e==0)=false:=by simp[he]
    rw[rightB_f (by rintro (⟨_,_,h⟩|⟨h,_⟩) <;> omega)]
    go_enter Tryz.func152,Tryz.ntmps152
    go_wp2
    go_ret
    exact⟨rfl,gr_box _⟩
  ·rw[rightB_f (by rintro (⟨_,h,_⟩|⟨h,_⟩);exact absurd h (by simp);omega)]
   go_enter Tryz.func152,Tryz.ntmps152
   go_wp2
   go_ret
   exact⟨rfl,gr_box _⟩
 ·obtain⟨p,o,rfl,hp,hc⟩:=rx.cells (by omega)
  have hcl:=hc (n-1) (by omega)
  have hc0:=hc 0 (by omega)
  have b0:=getD_lt (by omega) hx 0
  have AND:=and_one b0
  have H:Hid (RightD s xs e ↔ (n<=4096/\xs.getD (n-1) 0≠0/\xs.getD 0 0 % 2=1/\(-1048576<=e/\e<=1048576))):=by
   show _ ↔ _
   unfold RightD
   rw[hlen]
   omega
  clear rx hx hc hlen
  rw[Nat.add_zero] at hc0
  generalize xs.getD (n-1) 0=vl at *
  generalize xs.getD 0 0=v0 at *
  by_cases h1:n<=4096
  ·have h1':(n:Int)<=4096:=by omega
   by_cases h2:vl=0
   ·subst h2
    rw[rightB_f (by rw[H.out];omega)]
    go_enter Tryz.func152,Tryz.ntmps152
    go_wp2
    go_ret
    exact⟨rfl,gr_box _⟩
   ·have h2':((vl:Int) != 0)=true:=by simp;omega
    by_cases h3:v0 % 2=1
    ·rw[h3] at AND
     have R:Hid (decide (-1048576<=e/\e<=1048576)=rightB s xs e):=by
      show _=_
      unfold rightB
      exact decide_eq_decide.mpr (by rw[H.out];omega)
     generalize rightB s xs e=rb at *
     have HE:Hid (∀w1,Calls Tryz.prog 162 #[.int .i64 e] w1 fun r w'=>r = .returned (.bool rb)/\w'=w1):=fun w1=>by
      rw[<-R.out];exact rightExp36 e w1
     clear R
     go_enter Tryz.func152,Tryz.ntmps152
     go_wp2_with (go_at_call 162;with_reducible refine(HE.out _).mono ?_;rintro e w' ⟨rfl,rfl⟩)
     go_ret
     exact⟨rfl,gr_box _⟩
    ·have h3':v0 % 2=0:=by omega
     rw[h3'] at AND
     rw[rightB_f (by rw[H.out];omega)]
     go_enter Tryz.func152,Tryz.ntmps152
     go_wp2
     go_ret
     exact⟨rfl,gr_box _⟩
  ·have h1':¬(n:Int)<=4096:=by omega
   rw[rightB_f (by rw[H.out];omega)]
   go_enter Tryz.func152,Tryz.ntmps152
   go_wp2
   go_ret
   exact⟨rfl,gr_box _⟩
theorem Gr.keep {wo wn:World} (g:Gr wo wn) {b o:Nat} {v:Value} (h:wo.cell? ⟨b,o,none⟩=some v):wn.cell? ⟨b,o,none⟩=some v:=
 (g.cell (p:=⟨b,o,none⟩) (lt_of_cell' h)).trans h
theorem Gr.keepF {wo wn:World} (g:Gr wo wn) {b o:Nat} (hb:b<wo.heap.size) (h:wo.frozen? ⟨b,o,none⟩=false):wn.frozen? ⟨b,o,none⟩=false:=
 (g.frozen (p:=⟨b,o,none⟩) hb).trans h
theorem keep2 {W wo wn:World} {b1 o1 b2 o2:Nat} {v1 v2:Value} (g:Gr wo wn) (h:wo.cell? ⟨b1,o1,none⟩=some v1/\wo.cell? ⟨b2,o2,none⟩=some v2/\Gr W wo):wn.cell? ⟨b1,o1,none⟩=some v1/\wn.cell? ⟨b2,o2,none⟩=some v2/\Gr W wn:=
 ⟨g.keep h.1,g.keep h.2.1,h.2.2.trans g⟩
theorem keepA {W wo:World} {o:Obj} {b1 o1 b2 o2:Nat} {v1 v2:Value} (h:wo.cell? ⟨b1,o1,none⟩=some v1/\wo.cell? ⟨b2,o2,none⟩=some v2/\Gr W wo):(wo.alloc o).cell? ⟨b1,o1,none⟩=some v1/\(wo.alloc o).cell? ⟨b2,o2,none⟩=some v2/\Gr W (wo.alloc o):=
 keep2 ((Gr.refl wo).alloc o) h
theorem set3_far {wo:World} {B2 b o:Nat} {v0 v1 v2 v:Value} (hb:B2≠b) (h:wo.cell? ⟨b,o,none⟩=some v):(((wo.setCell ⟨B2,0,none⟩ v0).setCell ⟨B2,1,none⟩ v1).setCell ⟨B2,2,none⟩ v2).cell? ⟨b,o,none⟩=some v:=by
 have ne:∀i,(⟨B2,i,none⟩:Addr)≠⟨b,o,none⟩:=fun i e=>hb (by injection e)
 rw[World.cell?_setCell_other _ _ _ _ (ne 2),World.cell?_setCell_other _ _ _ _ (ne 1),World.cell?_setCell_other _ _ _ _ (ne 0)]
 exact h
theorem set3_at {wo:World} {b:Nat} {v0 v1 v2 a0 a1 a2:Value} (h0:wo.cell? ⟨b,0,none⟩=some a0) (h1:wo.cell? ⟨b,1,none⟩=some a1) (h2:wo.cell? ⟨b,2,none⟩=some a2) :
  (((wo.setCell ⟨b,0,none⟩ v0).setCell ⟨b,1,none⟩ v1).setCell ⟨b,2,none⟩ v2).cell? ⟨b,0,none⟩=some v0/\(((wo.setCell ⟨b,0,none⟩ v0).setCell ⟨b,1,none⟩ v1).setCell ⟨b,2,none⟩ v2).cell? ⟨b,1,none⟩=some v1/\(((wo.setCell ⟨b,0,none⟩ v0).setCell ⟨b,1,none⟩ v1).setCell ⟨b,2,none⟩ v2).cell? ⟨b,2,none⟩=some v2:=by
 have ne:∀i j:Nat,i≠j->(⟨b,i,none⟩:Addr)≠⟨b,j,none⟩:=fun i j hij e=>hij (by injection e)
 refine⟨?_,?_,?_⟩
 ·rw[World.cell?_setCell_other _ _ _ _ (ne 2 0 (by omega)),World.cell?_setCell_other _ _ _ _ (ne 1 0 (by omega))]
  exact World.cell?_setCell_same _ _ _ h0
 ·rw[World.cell?_setCell_other _ _ _ _ (ne 2 1 (by omega))]
  refine World.cell?_setCell_same _ _ _ (u:=a1) ?_
  rw[World.cell?_setCell_other _ _ _ _ (ne 0 1 (by omega))]
  exact h1
 ·refine World.cell?_setCell_same _ _ _ (u:=a2) ?_
  rw[World.cell?_setCell_other _ _ _ _ (ne 1 2 (by omega)),World.cell?_setCell_other _ _ _ _ (ne 0 2 (by omega))]
  exact h2
theorem keepSt {W wo:World} {B2 b o1 o2:Nat} {v0 v1 v2 u1 u2:Value} (hb:b≠B2) (hle:W.heap.size<=B2) (h:wo.cell? ⟨b,o1,none⟩=some u1/\wo.cell? ⟨b,o2,none⟩=some u2/\Gr W wo) :
  (((wo.setCell ⟨B2,0,none⟩ v0).setCell ⟨B2,1,none⟩ v1).setCell ⟨B2,2,none⟩ v2).cell? ⟨b,o1,none⟩=some u1/\(((wo.setCell ⟨B2,0,none⟩ v0).setCell ⟨B2,1,none⟩ v1).setCell ⟨B2,2,none⟩ v2).cell? ⟨b,o2,none⟩=some u2/\Gr W (((wo.setCell ⟨B2,0,none⟩ v0).setCell ⟨B2,1,none⟩ v1).setCell ⟨B2,2,none⟩ v2):=
 ⟨set3_far (Ne.symm hb) h.1,set3_far (Ne.symm hb) h.2.1,((h.2.2.setCell hle _).setCell hle _).setCell hle _⟩
theorem Lim.apart {w:World} {ad:Option Addr} {n cap B x:Nat} (h:Lim w ad n cap B x) {B2:Nat} {p:Bool} {s0:Option Addr} {l0 c0:Nat} {i0:Int} {T:TypeId} {fr:Nat × Nat} (hb:w.heap[B2]? = some (.cells #[.bool p,.slice s0 l0 c0,.int .i64 i0] T fr)):0<n->∀a,ad=some a->a.block≠B2:=by
 obtain⟨xs,h1,h2⟩:=h
 intro hp a ha he
 obtain⟨b,off,hab,_,hc⟩:=h1.cells hp
 rw[ha] at hab
 injection hab with hab
 have h0:=hc 0 hp
 rw[hab] at he
 have he:b=B2:=he
 subst he
 simp only[World.cell?,hb] at h0
 match off,h0 with
 | 0,h0=>simp at h0
 | 1,h0=>simp at h0
 | 2,h0=>simp at h0
 | k+3,h0=>simp at h0
theorem Lim.set3 {w:World} {ad:Option Addr} {n cap B x:Nat} (h:Lim w ad n cap B x) {B2:Nat} (hb:0<n->∀a,ad=some a->a.block≠B2) (v0 v1 v2:Value):Lim (((w.setCell ⟨B2,0,none⟩ v0).setCell ⟨B2,1,none⟩ v1).setCell ⟨B2,2,none⟩ v2) ad n cap B x:=by
 obtain⟨xs,h1,h2⟩:=h
 refine⟨xs,⟨h1.len,h1.le,h1.max,h1.nil,fun hp=>?_⟩,h2⟩
 obtain⟨b,off,hab,hlt,hc⟩:=h1.cells hp
 refine⟨b,off,hab,by simpa [World.setCell] using hlt,fun j hj=>?_⟩
 exact set3_far (fun e=>hb hp _ hab e.symm) (hc j hj)
theorem lt_of_heap {w:World} {k:Nat} {o:Obj} (h:w.heap[k]? = some o):k<w.heap.size:=by
 refine Nat.lt_of_not_le fun hle=>?_
 rw[Array.getElem?_eq_none hle] at h
 cases h
def zeroD:Value:=.agg #[.bool false,.slice none 0 0,.int .i64 0]
def L4096:Nat:=4096
theorem L4096_eq:L4096=4096:=rfl
def Fits (m:Nat) (p:Int):Prop:=m<18446744073709551616 ^ L4096/\-1048576<=p/\p<=1048576
def Settled (w':World) (r:Ending) (s:Bool) (x:Nat) (e:Int):Prop:=
 (x=0/\r = .returned (.tuple #[zeroD,.int .i64 0])) \/
 (∃(t q:Nat) (ad:Option Addr) (n cap:Nat),x=2 ^ t*(2*q+1)/\Fits (2*q+1) (e+(t:Int))/\r = .returned (.tuple #[.agg #[.bool s,.slice ad n cap,.int .i64 (e+(t:Int))],.int .i64 0])/\Lim w' ad n cap 18446744073709551616 (2*q+1)/\n<=4096) \/
 (∃t q:Nat,x=2 ^ t*(2*q+1)/\¬Fits (2*q+1) (e+(t:Int))/\r = .returned (.tuple #[zeroD,.int .i64 3]))
theorem odd_digit {m:Nat} {ys:List Nat} (h:Dg 18446744073709551616 m ys) (hp:0<ys.length):ys.getD 0 0 % 2=m % 2:=by
 have:=nv_split 18446744073709551616 ys 0 hp
 rw[h.1] at this
 simp[nv] at this
 rw[this,List.getD_eq_getElem?_getD]
 omega
theorem right_iff {s:Bool} {q:Nat} {ys:List Nat} {p:Int} (h:Dg 18446744073709551616 (2*q+1) ys):RightD s ys p ↔ Fits (2*q+1) p:=by
 have hp:0<ys.length:=Nat.pos_of_ne_zero fun e=>by
  have:=(h.zero_iff (by omega)).1 e
  omega
 have hod:=odd_digit h hp
 have hup:=h.upper
 have htop:=h.2.2 (ys.length-1) (by omega)
 have hlo:=h.lower (k:=ys.length-1) (by omega)
 unfold RightD Fits
 constructor
 ·rintro (⟨h0,_⟩|⟨_,h1,_,_,h2,h3⟩)
  ·omega
  ·exact⟨Nat.lt_of_lt_of_le hup (Nat.pow_le_pow_right (by omega) (by rw[L4096_eq];exact h1)),h2,h3⟩
 ·rintro ⟨h1,h2,h3⟩
  refine Or.inr ⟨hp,?_,htop,by omega,h2,h3⟩
  refine Nat.le_of_not_lt fun hlt=>?_
  have:18446744073709551616 ^ L4096<=18446744073709551616 ^ (ys.length-1):=Nat.pow_le_pow_right (by omega) (by rw[L4096_eq];omega)
  omega
structure LimF (B:Nat) (w:World) (ad:Option Addr) (n cap x:Nat):Prop where
 lim:Lim w ad n cap 18446744073709551616 x
 fresh:Fresh B w ad n cap
 pos:0<n
theorem LimF.gr {B:Nat} {w w':World} {ad:Option Addr} {n cap x:Nat} (h:LimF B w ad n cap x) (g:Gr w w'):LimF B w' ad n cap x:=⟨h.lim.gr g,h.fresh.gr g,h.pos⟩
theorem LimF.apart {B0:Nat} {w:World} {ad:Option Addr} {n cap x:Nat} (h:LimF B0 w ad n cap x) {B2:Nat} {p:Bool} {s0:Option Addr} {l0 c0:Nat} {i0:Int} {T:TypeId} {fr:Nat × Nat} (hb:w.heap[B2]? = some (.cells #[.bool p,.slice s0 l0 c0,.int .i64 i0] T fr)):0<n->∀a,ad=some a->a.block≠B2:=h.lim.apart hb
theorem LimF.set3 {B0:Nat} {w:World} {ad:Option Addr} {n cap x:Nat} (h:LimF B0 w ad n cap x) {B2:Nat} (hb:0<n->∀a,ad=some a->a.block≠B2) (v0 v1 v2:Value):LimF B0 (((w.setCell ⟨B2,0,none⟩ v0).setCell ⟨B2,1,none⟩ v1).setCell ⟨B2,2,none⟩ v2) ad n cap x:=
 ⟨h.lim.set3 hb v0 v1 v2,h.fresh.set3 (hb h.pos) v0 v1 v2,h.pos⟩
theorem LimF.of {B:Nat} {w:World} {ad:Option Addr} {n cap q:Nat} (h:Lim w ad n cap 18446744073709551616 (2*q+1)) (f:Fresh B w ad n cap):LimF B w ad n cap (2*q+1):=by
 refine⟨h,f,?_⟩
 obtain⟨xs,r,d⟩:=h
 refine Nat.pos_of_ne_zero fun e=>?_
 have:=(d.zero_iff (by omega)).1 (by rw[r.len,e])
 omega
structure SettledN (B:Nat) (w':World) (r:Ending) (s:Bool) (x:Nat) (e:Int):Prop where
 told:Settled w' r s x e
 new:NewR B w' r
theorem SettledN.low {B B':Nat} {w:World} {r:Ending} {s:Bool} {x:Nat} {e:Int} (h:SettledN B w r s x e) (hb:B'<=B):SettledN B' w r s x e:=⟨h.told,h.new.low hb⟩
set_option maxHeartbeats 1600000 in
theorem settle35n (s:Bool) (ad:Option Addr) (n cap x:Nat) (e:Int) (xs:List Nat) (w:World) (rx:Row w ad n cap xs) (hx:∀x∈xs,x<18446744073709551616) (hv:nv 18446744073709551616 xs=x) (hn:n<=1099511627776) (hT:TabAt 2 Lib.deBruijn64tab w) (e1 : -1000000000000<=e) (e2:e<=1000000000000) :
  Calls Tryz.prog 166 #[.agg #[.bool s,.slice ad n cap,.int .i64 e]] w fun r w'=>SettledN w.heap.size w' r s x e/\Gr w w':=by
 have HTR:Hid (∀w1,Gr w w1->Calls Tryz.prog 175 #[.slice ad n cap] w1 fun e w'=>∃k,e = .returned (.slice ad k cap)/\k<=n/\Hid (Lim w ad k cap 18446744073709551616 x)/\w'=w1):=by
  intro w1 g
  refine(trim57 _ _ _ xs w1 (rx.gr g)).mono ?_
  rintro r w' ⟨j,rfl,hj,hz,ht,rfl⟩
  refine⟨j,rfl,hj,?_,rfl⟩
  have:=trim_out rx hx hj hz ht
  rw[hv] at this
  exact this
 have HT:Hid (TabAt 2 Lib.deBruijn64tab w):=hT
 clear rx hx hv hT
 by_cases hx0:x=0
 ·subst hx0
  go_enter Tryz.func166,Tryz.ntmps166
  go_wp2_with (go_at_call 175;(with_reducible refine(HTR.out _ (((Gr.refl w).alloc _).alloc _)).mono ?_);rintro r w1 ⟨k,rfl,hk,hl,rfl⟩;obtain rfl:k=0:=(by obtain⟨ys,ry,dy⟩:=hl.out;have:=(dy.zero_iff (by omega)).2 rfl;rw[ry.len] at this;exact this))
  refine bodyPost_ret (v:=.tuple #[zeroD,.int .i64 0]) (by simp[results,Tryz.results166,go_sem,zeroD]) rfl ⟨⟨by unfold Settled;exact Or.inl ⟨rfl,rfl⟩,NewR.zero _ _ _⟩,?_⟩
  exact((Gr.refl w).alloc _).alloc _
 ·have H59:Hid (∀k w1,Lim w ad k cap 18446744073709551616 x->k<=n->Gr w w1->Calls Tryz.prog 176 #[.slice ad k cap] w1 fun e w'=>∃t q:Nat,e = .returned (.int .i64 (t:Int))/\Hid (x=2 ^ t*(2*q+1))/\t<64*k/\Gr w1 w'):=fun k w1 hl hk g=>(lowNoughts59 ad k cap x w1 (hl.gr g) (by omega) (by omega) (tab_gr HT.out g)).mono (by
    rintro r w' ⟨t,q,rfl,h1,h2,h3⟩
    exact⟨t,q,rfl,h1,h2,h3⟩)
  go_enter Tryz.func166,Tryz.ntmps166
  go_wp2_with (first|(go_at_call 175;(with_reducible refine(HTR.out _ (((Gr.refl w).alloc _).alloc _)).mono ?_);rintro r w1 ⟨k,rfl,hk,hl,rfl⟩;obtain⟨k,rfl⟩:∃k',k=k'+1:=(by refine⟨k-1,?_⟩;obtain⟨ys,ry,dy⟩:=hl.out;have h1:=(dy.zero_iff (by omega)).1;rw[ry.len] at h1;omega))|(go_at_call 176;refine(H59.out _ _ hl.out hk (((Gr.refl w).alloc _).alloc _)).mono ?_;rintro r w2 ⟨t,q,rfl,hq,ht,g2⟩))
  have hm:x / 2 ^ t=2*q+1:=by rw[hq.out,Nat.mul_div_cancel_left _ (Nat.two_pow_pos t)]
  have H37:Hid (∀w1,Gr w w1->Calls Tryz.prog 173 #[.slice ad (k+1) cap,.int .i64 (t:Int)] w1 fun e w'=>∃ad' n' cap',e = .returned (.slice ad' n' cap')/\n'<=k+1/\LimF w.heap.size w' ad' n' cap' (2*q+1)/\Gr w1 w'):=by
   intro w1 g
   have:=shiftDown37n ad (k+1) cap x t w1 (hl.out.gr g) (by omega) (by omega)
   rw[hm] at this
   refine this.mono ?_
   rintro e w' ⟨ad',n',cap',h1,h2,h3,h4,h5⟩
   exact⟨ad',n',cap',h1,h2,LimF.of h3 (h5.low g.size),h4⟩
  have G2:Gr w w2:=(((Gr.refl w).alloc _).alloc _).trans g2
  have k0:w2.cell? ⟨w.heap.size,0,none⟩=some (.bool s):=g2.keep (by simp)
  have k2:w2.cell? ⟨w.heap.size,2,none⟩=some (.int .i64 e):=g2.keep (by simp)
  have hS0:w2.drew.cell? ⟨w.heap.size,0,none⟩=some (.bool s)/\w2.drew.cell? ⟨w.heap.size,2,none⟩=some (.int .i64 e)/\Gr w w2.drew:=⟨k0,k2,G2.drew⟩
  clear hm
  have GA:Gr w2 (w2.alloc (.cells #[.bool false,.slice none 0 0,.int .i64 0] 130)).drew:=((Gr.refl w2).alloc _).drew
  have hlt2:w.heap.size≠w2.heap.size:=Nat.ne_of_lt (lt_of_cell' k0)
  have FA:(w2.alloc (.cells #[.bool false,.slice none 0 0,.int .i64 0] 130)).drew.cell? ⟨w2.heap.size,0,none⟩=some (.bool false)/\(w2.alloc (.cells #[.bool false,.slice none 0 0,.int .i64 0] 130)).drew.cell? ⟨w2.heap.size,1,none⟩=some (.slice none 0 0)/\(w2.alloc (.cells #[.bool false,.slice none 0 0,.int .i64 0] 130)).drew.cell? ⟨w2.heap.size,2,none⟩=some (.int .i64 0)/\(w2.alloc (.cells #[.bool false,.slice none 0 0,.int .i64 0] 130)).drew.frozen? ⟨w2.heap.size,0,none⟩=false/\(w2.alloc (.cells #[.bool false,.slice none 0 0,.int .i64 0] 130)).drew.frozen? ⟨w2.heap.size,1,none⟩=false/\(w2.alloc (.cells #[.bool false,.slice none 0 0,.int .i64 0] 130)).drew.frozen? ⟨w2.heap.size,2,none⟩=false:=⟨by simp,by simp,by simp,by simp,by simp,by simp⟩
  have FA':Hid _:=FA
  clear FA
  have KA:Hid ((w2.alloc (.cells #[.bool false,.slice none 0 0,.int .i64 0] 130)).drew.cell? ⟨w.heap.size,0,none⟩=some (.bool s)/\(w2.alloc (.cells #[.bool false,.slice none 0 0,.int .i64 0] 130)).drew.cell? ⟨w.heap.size,2,none⟩=some (.int .i64 e)/\Gr w (w2.alloc (.cells #[.bool false,.slice none 0 0,.int .i64 0] 130)).drew):=⟨GA.keep k0,GA.keep k2,G2.trans GA⟩
  have hle2:w.heap.size<=w2.heap.size:=G2.size
  have HB:Hid (w2.heap[w.heap.size+1]? = some (.cells #[.bool false,.slice none 0 0,.int .i64 0] 130)/\w.heap.size+1<w2.heap.size):=by
   have h1:w.heap.size+1<((w.alloc (.cells #[.bool s,.slice ad n cap,.int .i64 e] 130)).alloc (.cells #[.bool false,.slice none 0 0,.int .i64 0] 130)).heap.size:=by simp
   refine⟨?_,Nat.lt_of_lt_of_le h1 g2.size⟩
   rw[g2.block _ h1]
   show((w.heap.push _).push _)[w.heap.size+1]? = _
   simp only[Array.getElem?_push,Array.size_push]
   rw[if_pos trivial]
  go_region_held3 (fun w'=>w'.cell? ⟨w.heap.size,0,none⟩=some (.bool s)/\w'.cell? ⟨w.heap.size,2,none⟩=some (.int .i64 e)/\Gr w w') (first|(with_reducible assumption)|(exact KA.out)|(apply keepA;(with_reducible assumption))|(apply keepA;apply keep2;(with_reducible assumption);(with_reducible assumption))|(apply keep2;(with_reducible assumption);(with_reducible assumption))|(refine keepSt hlt2 hle2 ?_;(with_reducible assumption))) (first|(go_at_call 173;refine(H37.out _ G2.drew).mono ?_;rintro r w3 ⟨a3,m3,k3,rfl,hm3,hl3,g3⟩)|(go_at_call 173;refine(H37.out _ (G2.trans GA)).mono ?_;rintro r w3 ⟨a3,m3,k3,rfl,hm3,hl3,g3⟩;have f0:=g3.keep FA'.out.1;have f1:=g3.keep FA'.out.2.1;have f2:=g3.keep FA'.out.2.2.1;have z0:=g3.keepF (lt_of_cell' FA'.out.1) FA'.out.2.2.2.1;have z1:=g3.keepF (lt_of_cell' FA'.out.1) FA'.out.2.2.2.2.1;have z2:=g3.keepF (lt_of_cell' FA'.out.1) FA'.out.2.2.2.2.2))
  all_goals
   have hwrap:IntKind.i64.wrap (e+(t:Int))=e+(t:Int):=IntWalk.i64_in _ ⟨by omega,by omega⟩
   rw[hwrap]
   clear hwrap
  ·have HL:Hid (LimF w.heap.size (w3.alloc (.cells #[.bool s,.slice a3 m3 k3,.int .i64 (e+(t:Int))] 130)) a3 m3 k3 (2*q+1)):=hl3.gr ((Gr.refl w3).alloc _)
   have c0:(w3.alloc (.cells #[.bool s,.slice a3 m3 k3,.int .i64 (e+(t:Int))] 130)).cell? ⟨w3.heap.size,0,none⟩=some (.bool s):=by simp
   have c1:(w3.alloc (.cells #[.bool s,.slice a3 m3 k3,.int .i64 (e+(t:Int))] 130)).cell? ⟨w3.heap.size,1,none⟩=some (.slice a3 m3 k3):=by simp
   have c2:(w3.alloc (.cells #[.bool s,.slice a3 m3 k3,.int .i64 (e+(t:Int))] 130)).cell? ⟨w3.heap.size,2,none⟩=some (.int .i64 (e+(t:Int))):=by simp
   have HG:Hid (Gr w (w3.alloc (.cells #[.bool s,.slice a3 m3 k3,.int .i64 (e+(t:Int))] 130))):=(G2.drew.trans g3).alloc _
   have HW:Hid ((w3.alloc (.cells #[.bool s,.slice a3 m3 k3,.int .i64 (e+(t:Int))] 130)).heap[w.heap.size+1]? = some (.cells #[.bool false,.slice none 0 0,.int .i64 0] 130)):=by
    show _=_
    rw[((Gr.refl w3).alloc _).block _ (Nat.lt_of_lt_of_le HB.out.2 g3.size),g3.block _ HB.out.2]
    exact HB.out.1
   generalize w3.alloc (.cells #[.bool s,.slice a3 m3 k3,.int .i64 (e+(t:Int))] 130)=W at *
   generalize w3.heap.size=b6 at *
   obtain⟨ys,ry,dy⟩:=HL.out.lim
   have RI:Hid (RightD s ys (e+(t:Int)) ↔ Fits (2*q+1) (e+(t:Int))):=right_iff dy
   have R26:Hid (Calls Tryz.prog 152 #[.agg #[.bool s,.slice a3 m3 k3,.int .i64 (e+(t:Int))]] W fun r w'=>r = .returned (.bool (rightB s ys (e+(t:Int))))/\Gr W w'):=right26 s a3 m3 k3 (e+(t:Int)) ys W ry dy.2.1
   have HLEN:Hid (RightD s ys (e+(t:Int))->m3<=4096):=fun h=>by
    have:=ry.len
    rcases h with ⟨h,_⟩|⟨_,h,_⟩ <;> omega
   clear dy ry
   by_cases hR:RightD s ys (e+(t:Int))
   ·rw[rightB_t hR] at R26
    go_wp2_with (go_at_call 152;refine R26.out.mono ?_;rintro r w4 ⟨rfl,g4⟩;have d0:=g4.keep c0;have d1:=g4.keep c1;have d2:=g4.keep c2;have HW4:w4.heap[w.heap.size+1]? = some (.cells #[.bool false,.slice none 0 0,.int .i64 0] 130):=(g4.block _ (lt_of_heap HW.out)).trans HW.out;have t0:w4.cell? ⟨w.heap.size+1,0,none⟩=some (.bool false):=(by simp[World.cell?,HW4]);have t1:w4.cell? ⟨w.heap.size+1,1,none⟩=some (.slice none 0 0):=(by simp[World.cell?,HW4]);have t2:w4.cell? ⟨w.heap.size+1,2,none⟩=some (.int .i64 0):=(by simp[World.cell?,HW4]);have u0:w4.frozen? ⟨w.heap.size+1,0,none⟩=false:=(by simp[World.frozen?,HW4]);have u1:w4.frozen? ⟨w.heap.size+1,1,none⟩=false:=(by simp[World.frozen?,HW4]);have u2:w4.frozen? ⟨w.heap.size+1,2,none⟩=false:=(by simp[World.frozen?,HW4]))
    refine bodyPost_ret (v:=.tuple #[.agg #[.bool s,.slice a3 m3 k3,.int .i64 (e+(t:Int))],.int .i64 0]) ?_ rfl ⟨?_,?_⟩
    ·simp[results,Tryz.results166,go_sem,t0,t1,t2]
    ·have hLF:=(HL.out.gr g4).set3 ((HL.out.gr g4).apart HW4) (.bool s) (.slice a3 m3 k3) (.int .i64 (e+(t:Int)))
     exact⟨by unfold Settled;exact Or.inr (Or.inl ⟨t,q,a3,m3,k3,hq.out,RI.out.1 hR,rfl,hLF.lim,HLEN.out hR⟩),⟨_,_,_,_,_,_,rfl,hLF.fresh,HLEN.out hR⟩⟩
    ·exact(((HG.out.trans g4).setCell (p:=⟨w.heap.size+1,0,none⟩) (Nat.le_succ _) _).setCell (p:=⟨w.heap.size+1,1,none⟩) (Nat.le_succ _) _).setCell (p:=⟨w.heap.size+1,2,none⟩) (Nat.le_succ _) _
   ·rw[rightB_f hR] at R26
    go_wp2_with (go_at_call 152;refine R26.out.mono ?_;rintro r w4 ⟨rfl,g4⟩;have d0:=g4.keep c0;have d1:=g4.keep c1;have d2:=g4.keep c2;have HW4:w4.heap[w.heap.size+1]? = some (.cells #[.bool false,.slice none 0 0,.int .i64 0] 130):=(g4.block _ (lt_of_heap HW.out)).trans HW.out;have t0:w4.cell? ⟨w.heap.size+1,0,none⟩=some (.bool false):=(by simp[World.cell?,HW4]);have t1:w4.cell? ⟨w.heap.size+1,1,none⟩=some (.slice none 0 0):=(by simp[World.cell?,HW4]);have t2:w4.cell? ⟨w.heap.size+1,2,none⟩=some (.int .i64 0):=(by simp[World.cell?,HW4]);have u0:w4.frozen? ⟨w.heap.size+1,0,none⟩=false:=(by simp[World.frozen?,HW4]);have u1:w4.frozen? ⟨w.heap.size+1,1,none⟩=false:=(by simp[World.frozen?,HW4]);have u2:w4.frozen? ⟨w.heap.size+1,2,none⟩=false:=(by simp[World.frozen?,HW4]))
    refine bodyPost_ret (v:=.tuple #[zeroD,.int .i64 3]) ?_ rfl ⟨?_,?_⟩
    ·simp[results,Tryz.results166,go_sem,t0,t1,t2,zeroD]
    ·exact⟨by unfold Settled;exact Or.inr (Or.inr ⟨t,q,hq.out,fun h=>hR (RI.out.2 h),rfl⟩),NewR.zero _ _ _⟩
    ·exact(((HG.out.trans g4).setCell (p:=⟨w.heap.size+1,0,none⟩) (Nat.le_succ _) _).setCell (p:=⟨w.heap.size+1,1,none⟩) (Nat.le_succ _) _).setCell (p:=⟨w.heap.size+1,2,none⟩) (Nat.le_succ _) _
  ·have HA:w3.heap[w2.heap.size]? = some (.cells #[.bool false,.slice none 0 0,.int .i64 0] 130):=by
    rw[g3.block _ (lt_of_cell' FA'.out.1)]
    show(w2.heap.push _)[w2.heap.size]? = _
    simp only[Array.getElem?_push]
    rw[if_pos trivial]
   have HL:Hid (LimF w.heap.size (((w3.setCell ⟨w2.heap.size,0,none⟩ (.bool s)).setCell ⟨w2.heap.size,1,none⟩ (.slice a3 m3 k3)).setCell ⟨w2.heap.size,2,none⟩ (.int .i64 (e+(t:Int)))) a3 m3 k3 (2*q+1)):=hl3.set3 (hl3.apart HA) _ _ _
   have c0:(((w3.setCell ⟨w2.heap.size,0,none⟩ (.bool s)).setCell ⟨w2.heap.size,1,none⟩ (.slice a3 m3 k3)).setCell ⟨w2.heap.size,2,none⟩ (.int .i64 (e+(t:Int)))).cell? ⟨w2.heap.size,0,none⟩=some (.bool s):=(set3_at f0 f1 f2).1
   have c1:(((w3.setCell ⟨w2.heap.size,0,none⟩ (.bool s)).setCell ⟨w2.heap.size,1,none⟩ (.slice a3 m3 k3)).setCell ⟨w2.heap.size,2,none⟩ (.int .i64 (e+(t:Int)))).cell? ⟨w2.heap.size,1,none⟩=some (.slice a3 m3 k3):=(set3_at f0 f1 f2).2.1
   have c2:(((w3.setCell ⟨w2.heap.size,0,none⟩ (.bool s)).setCell ⟨w2.heap.size,1,none⟩ (.slice a3 m3 k3)).setCell ⟨w2.heap.size,2,none⟩ (.int .i64 (e+(t:Int)))).cell? ⟨w2.heap.size,2,none⟩=some (.int .i64 (e+(t:Int))):=(set3_at f0 f1 f2).2.2
   have HG:Hid (Gr w (((w3.setCell ⟨w2.heap.size,0,none⟩ (.bool s)).setCell ⟨w2.heap.size,1,none⟩ (.slice a3 m3 k3)).setCell ⟨w2.heap.size,2,none⟩ (.int .i64 (e+(t:Int))))):=((((G2.trans GA).trans g3).setCell (p:=⟨w2.heap.size,0,none⟩) hle2 _).setCell (p:=⟨w2.heap.size,1,none⟩) hle2 _).setCell (p:=⟨w2.heap.size,2,none⟩) hle2 _
   have HW:Hid ((((w3.setCell ⟨w2.heap.size,0,none⟩ (.bool s)).setCell ⟨w2.heap.size,1,none⟩ (.slice a3 m3 k3)).setCell ⟨w2.heap.size,2,none⟩ (.int .i64 (e+(t:Int)))).heap[w.heap.size+1]? = some (.cells #[.bool false,.slice none 0 0,.int .i64 0] 130)):=by
    show _=_
    have hne:=Nat.ne_of_lt HB.out.2
    rw[Below.heap_setCell _ _ _ _ hne,Below.heap_setCell _ _ _ _ hne,Below.heap_setCell _ _ _ _ hne,g3.block _ (Nat.lt_of_lt_of_le HB.out.2 GA.size),GA.block _ HB.out.2]
    exact HB.out.1
   clear f0 f1 f2 z0 z1 z2
   generalize (((w3.setCell ⟨w2.heap.size,0,none⟩ (.bool s)).setCell ⟨w2.heap.size,1,none⟩ (.slice a3 m3 k3)).setCell ⟨w2.heap.size,2,none⟩ (.int .i64 (e+(t:Int))))=W at *
   generalize w2.heap.size=b6 at *
   obtain⟨ys,ry,dy⟩:=HL.out.lim
   have RI:Hid (RightD s ys (e+(t:Int)) ↔ Fits (2*q+1) (e+(t:Int))):=right_iff dy
   have R26:Hid (Calls Tryz.prog 152 #[.agg #[.bool s,.slice a3 m3 k3,.int .i64 (e+(t:Int))]] W fun r w'=>r = .returned (.bool (rightB s ys (e+(t:Int))))/\Gr W w'):=right26 s a3 m3 k3 (e+(t:Int)) ys W ry dy.2.1
   have HLEN:Hid (RightD s ys (e+(t:Int))->m3<=4096):=fun h=>by
    have:=ry.len
    rcases h with ⟨h,_⟩|⟨_,h,_⟩ <;> omega
   clear dy ry
   by_cases hR:RightD s ys (e+(t:Int))
   ·rw[rightB_t hR] at R26
    go_wp2_with (go_at_call 152;refine R26.out.mono ?_;rintro r w4 ⟨rfl,g4⟩;have d0:=g4.keep c0;have d1:=g4.keep c1;have d2:=g4.keep c2;have HW4:w4.heap[w.heap.size+1]? = some (.cells #[.bool false,.slice none 0 0,.int .i64 0] 130):=(g4.block _ (lt_of_heap HW.out)).trans HW.out;have t0:w4.cell? ⟨w.heap.size+1,0,none⟩=some (.bool false):=(by simp[World.cell?,HW4]);have t1:w4.cell? ⟨w.heap.size+1,1,none⟩=some (.slice none 0 0):=(by simp[World.cell?,HW4]);have t2:w4.cell? ⟨w.heap.size+1,2,none⟩=some (.int .i64 0):=(by simp[World.cell?,HW4]);have u0:w4.frozen? ⟨w.heap.size+1,0,none⟩=false:=(by simp[World.frozen?,HW4]);have u1:w4.frozen? ⟨w.heap.size+1,1,none⟩=false:=(by simp[World.frozen?,HW4]);have u2:w4.frozen? ⟨w.heap.size+1,2,none⟩=false:=(by simp[World.frozen?,HW4]))
    refine bodyPost_ret (v:=.tuple #[.agg #[.bool s,.slice a3 m3 k3,.int .i64 (e+(t:Int))],.int .i64 0]) ?_ rfl ⟨?_,?_⟩
    ·simp[results,Tryz.results166,go_sem,t0,t1,t2]
    ·have hLF:=(HL.out.gr g4).set3 ((HL.out.gr g4).apart HW4) (.bool s) (.slice a3 m3 k3) (.int .i64 (e+(t:Int)))
     exact⟨by unfold Settled;exact Or.inr (Or.inl ⟨t,q,a3,m3,k3,hq.out,RI.out.1 hR,rfl,hLF.lim,HLEN.out hR⟩),⟨_,_,_,_,_,_,rfl,hLF.fresh,HLEN.out hR⟩⟩
    ·exact(((HG.out.trans g4).setCell (p:=⟨w.heap.size+1,0,none⟩) (Nat.le_succ _) _).setCell (p:=⟨w.heap.size+1,1,none⟩) (Nat.le_succ _) _).setCell (p:=⟨w.heap.size+1,2,none⟩) (Nat.le_succ _) _
   ·rw[rightB_f hR] at R26
    go_wp2_with (go_at_call 152;refine R26.out.mono ?_;rintro r w4 ⟨rfl,g4⟩;have d0:=g4.keep c0;have d1:=g4.keep c1;have d2:=g4.keep c2;have HW4:w4.heap[w.heap.size+1]? = some (.cells #[.bool false,.slice none 0 0,.int .i64 0] 130):=(g4.block _ (lt_of_heap HW.out)).trans HW.out;have t0:w4.cell? ⟨w.heap.size+1,0,none⟩=some (.bool false):=(by simp[World.cell?,HW4]);have t1:w4.cell? ⟨w.heap.size+1,1,none⟩=some (.slice none 0 0):=(by simp[World.cell?,HW4]);have t2:w4.cell? ⟨w.heap.size+1,2,none⟩=some (.int .i64 0):=(by simp[World.cell?,HW4]);have u0:w4.frozen? ⟨w.heap.size+1,0,none⟩=false:=(by simp[World.frozen?,HW4]);have u1:w4.frozen? ⟨w.heap.size+1,1,none⟩=false:=(by simp[World.frozen?,HW4]);have u2:w4.frozen? ⟨w.heap.size+1,2,none⟩=false:=(by simp[World.frozen?,HW4]))
    refine bodyPost_ret (v:=.tuple #[zeroD,.int .i64 3]) ?_ rfl ⟨?_,?_⟩
    ·simp[results,Tryz.results166,go_sem,t0,t1,t2,zeroD]
    ·exact⟨by unfold Settled;exact Or.inr (Or.inr ⟨t,q,hq.out,fun h=>hR (RI.out.2 h),rfl⟩),NewR.zero _ _ _⟩
    ·exact(((HG.out.trans g4).setCell (p:=⟨w.heap.size+1,0,none⟩) (Nat.le_succ _) _).setCell (p:=⟨w.heap.size+1,1,none⟩) (Nat.le_succ _) _).setCell (p:=⟨w.heap.size+1,2,none⟩) (Nat.le_succ _) _
theorem settle35 (s:Bool) (ad:Option Addr) (n cap x:Nat) (e:Int) (xs:List Nat) (w:World) (rx:Row w ad n cap xs) (hx:∀x∈xs,x<18446744073709551616) (hv:nv 18446744073709551616 xs=x) (hn:n<=1099511627776) (hT:TabAt 2 Lib.deBruijn64tab w) (e1 : -1000000000000<=e) (e2:e<=1000000000000) :
  Calls Tryz.prog 166 #[.agg #[.bool s,.slice ad n cap,.int .i64 e]] w fun r w'=>Settled w' r s x e/\Gr w w':=
 (settle35n s ad n cap x e xs w rx hx hv hn hT e1 e2).mono (by rintro r w' ⟨h1,h2⟩;exact⟨h1.told,h2⟩)
end Go.Proofs.YtanpdbadfddlcaaGreatDoor
