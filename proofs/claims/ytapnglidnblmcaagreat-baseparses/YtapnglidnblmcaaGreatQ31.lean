import Derived.Test.YtapnglidnblmcaaGreatQ30
import Derived.Test.YtapnglidnblmcaaGreatQ01
import Derived.Deep.QuietTactic
import Derived.BigQuiet
namespace Go.Proofs.YtapnglidnblmcaaGreat
open Go.RowKit
set_option linter.unusedVariables false
theorem lim_len {w:World} {ad:Option Addr} {n cap x b:Nat} (h:Lim w ad n cap 18446744073709551616 x) (hb:bl x<=b):64*n<=b+63:=by
 obtain⟨xs,h1,h2⟩:=h
 have:=len_bl h2
 rw[h1.len] at this
 omega
theorem halvesL (ad:Option Addr) (n cap x:Nat) (w:World) (h:Lim w ad n cap 18446744073709551616 x) (hb:bl x<=68719476736) :
  Calls Tryz.prog 72 #[.slice ad n cap] w fun e w'=>∃ad' n' cap',e = .returned (.slice ad' n' cap')/\n'<=2147483650/\Lim w' ad' n' cap' 4294967296 x/\Gr w w':=by
 have hl:=lim_len h hb
 obtain⟨xs,h1,h2⟩:=h
 refine(halves74 ad n cap xs w h1 (by omega) h2.2.1).mono ?_
 rintro e w' ⟨ad',n',cap',rfl,h3,h4,h5⟩
 rw[h2.1] at h4
 exact⟨_,_,_,rfl,by omega,h4,h5⟩
theorem add_inv {xs ys zs:List Nat} {k c s:Nat} (hl:zs.length=k) (h:nv 4294967296 zs+4294967296 ^ k*c=nv 4294967296 (xs.take k)+nv 4294967296 (ys.take k)) (hs:s=xs.getD k 0+ys.getD k 0+c) :
  nv 4294967296 (zs++[s % 4294967296])+4294967296 ^ (k+1)*(s / 4294967296)=nv 4294967296 (xs.take (k+1))+nv 4294967296 (ys.take (k+1)):=by
 rw[nv_snoc,hl,nv_take_succ,nv_take_succ,Nat.pow_succ,hs]
 exact add_step h
set_option maxHeartbeats 1600000 in
set_option maxRecDepth 10000 in
theorem add59 (ad1 ad2:Option Addr) (n1 n2 c1 c2 x y:Nat) (w:World) (hx:Lim w ad1 n1 c1 18446744073709551616 x) (hy:Lim w ad2 n2 c2 18446744073709551616 y) (bx:bl x<=68719476736) (by':bl y<=68719476736) :
  Calls Tryz.prog 67 #[.slice ad1 n1 c1,.slice ad2 n2 c2] w fun e w'=>∃ad' n' cap',e = .returned (.slice ad' n' cap')/\Lim w' ad' n' cap' 18446744073709551616 (x+y)/\Gr w w':=by
 have H1:Hid (Calls Tryz.prog 72 #[.slice ad1 n1 c1] w fun e w'=>∃ad' n' cap',e = .returned (.slice ad' n' cap')/\n'<=2147483650/\Lim w' ad' n' cap' 4294967296 x/\Gr w w'):=halvesL ad1 n1 c1 x w hx bx
 have H2:Hid (∀w1,Gr w w1->Calls Tryz.prog 72 #[.slice ad2 n2 c2] w1 fun e w'=>∃ad' n' cap',e = .returned (.slice ad' n' cap')/\n'<=2147483650/\Lim w' ad' n' cap' 4294967296 y/\Gr w1 w'):=fun w1 g=>halvesL ad2 n2 c2 y w1 (hy.gr g) by'
 clear hx hy bx by'
 have tok:True:=trivial
 go_enter Tryz.func67,Tryz.ntmps67
 go_wp2_with (first|(go_at_call 72;have _t:=tok;with_reducible refine H1.out.mono ?_;rintro e w1 ⟨a1,m1,k1,rfl,hm1,hl1,g1⟩;clear tok)|(go_at_call 72;with_reducible refine(H2.out _ ‹Gr _ _›).mono ?_;rintro e w2 ⟨a2,m2,k2,rfl,hm2,hl2,g2⟩))
 obtain⟨xs,rx,dx⟩:=hl1
 obtain⟨ys,ry,dy⟩:=hl2
 have rx2:Hid (Row w2 a1 m1 k1 xs):=rx.gr g2
 have RY:Hid (Row w2 a2 m2 k2 ys):=ry
 have DX:Hid (Dg 4294967296 x xs):=dx
 have DY:Hid (Dg 4294967296 y ys):=dy
 have G:Hid (Gr w w2):=g1.trans g2
 clear rx ry dx dy g1 g2
 go_loopw [7,8,9] (fun v cr i wr=>∃(k c:Nat) (zs:List Nat),k<=max m1 m2+1/\c<=1/\(max m1 m2<k->c=0)/\i = .int .i64 (k:Int)/\cr = .int .u64 (c:Int)/\wr.ownsRow w2.heap.size 71 1 v k (u64s zs)/\Hid (zs.length=k/\(∀x∈zs,x<4294967296)/\nv 4294967296 zs+4294967296 ^ k*c=nv 4294967296 (xs.take k)+nv 4294967296 (ys.take k))/\Hid (Gr w2 wr)) (fun _ _ i _=>max m1 m2+1-(intOf i).toNat)
 case atStart=>exact⟨0,0,[],by omega,by omega,fun _=>rfl,rfl,rfl,World.ownsRow_nil _ _ _ _,⟨rfl,by simp,by simp[nv]⟩,Gr.refl _⟩
 case round =>
  obtain⟨k,c,zs,hk,hc1,hcz,rfl,rfl,hown,hzs,hg⟩:=hrel
  have hsz:=hg.out.size
  by_cases hgo:k<m1\/k<m2\/0<c
  ·obtain⟨xk,hxk⟩:∃xk,xk=xs.getD k 0:=⟨_,rfl⟩
   obtain⟨yk,hyk⟩:∃yk,yk=ys.getD k 0:=⟨_,rfl⟩
   have D1:Hid (Calls Tryz.prog 87 #[.slice a1 m1 k1,.int .i64 (k:Int)] wr fun e w'=>e = .returned (.int .u64 (xk:Int))/\w'=wr):=by
    rw[hxk];exact digit76 a1 m1 k1 xs k wr (rx2.out.gr hg.out) (by omega)
   have D2:Hid (Calls Tryz.prog 87 #[.slice a2 m2 k2,.int .i64 (k:Int)] wr fun e w'=>e = .returned (.int .u64 (yk:Int))/\w'=wr):=by
    rw[hyk];exact digit76 a2 m2 k2 ys k wr (RY.out.gr hg.out) (by omega)
   have bxk:xk<4294967296:=hxk ▸ getD_lt (by omega) DX.out.2.1 k
   have byk:yk<4294967296:=hyk ▸ getD_lt (by omega) DY.out.2.1 k
   have HS:Hid (xk+yk+c=xs.getD k 0+ys.getD k 0+c):=by show _=_;rw[hxk,hyk]
   have HZ:Hid (m1<=k->m2<=k->xk=0/\yk=0):=fun e1 e2=>⟨hxk.trans (getD_out (by rw[rx2.out.len];exact e1)),hyk.trans (getD_out (by rw[RY.out.len];exact e2))⟩
   clear hxk hyk
   rcases (show k<m1\/(¬k<m1/\k<m2)\/(¬k<m1/\¬k<m2/\0<c) by omega) with t1|⟨t1,t2⟩|⟨t1,t2,t3⟩
   all_goals
    go_wp2_with (first|(go_at_call 87;with_reducible refine D1.out.mono ?_;rintro e w' ⟨rfl,rfl⟩)|(go_at_call 87;with_reducible refine D2.out.mono ?_;rintro e w' ⟨rfl,rfl⟩)|(at_builtin;refine wpList_push rfl _ _ rfl hown ((xk+yk+c) % 4294967296) _ rfl rfl ?_ ?_ ?_ ?_;rotate_right;intro v' w' hown' hgr))
    ·go_roundw
     case rel=>exact⟨k+1,(xk+yk+c) / 4294967296,_,by omega,by omega,(fun h=>by have:=HZ.out (by omega) (by omega);omega),by go_num,by go_num,hown',⟨by simp[hzs.out.1],snoc_lt hzs.out.2.1 (by omega),add_inv hzs.out.1 hzs.out.2.2 HS.out⟩,hgr w2 hg.out (Nat.le_refl _)⟩
     case measure=>simp only[intOf];omega
    ·omega
    ·omega
    ·exact hsz
  ·obtain⟨ad',cap',rfl,hrow⟩:=Row.of_owns hown
   have hc0:c=0:=by omega
   subst hc0
   have fin:nv 4294967296 zs=x+y:=by
    have:=hzs.out.2.2
    rw[nv_take_all _ xs _ (by rw[rx2.out.len];omega),nv_take_all _ ys _ (by rw[RY.out.len];omega),DX.out.1,DY.out.1] at this
    omega
   have HT:Hid (Calls Tryz.prog 70 #[.slice ad' k cap'] wr fun e w'=>∃ad' n' cap',e = .returned (.slice ad' n' cap')/\Lim w' ad' n' cap' 18446744073709551616 (x+y)/\Gr wr w'):=by
    rw[<-fin]
    exact limbs75 ad' k cap' zs wr hrow (by omega) hzs.out.2.1
   clear hrow hown fin
   go_wp2_with (go_at_call 70;with_reducible refine HT.out.mono ?_;rintro e w' ⟨ad2,n2,cap2,rfl,hl,hgr⟩)
   go_ret
   exact⟨_,_,_,rfl,hl,(G.out.trans hg.out).trans hgr⟩
theorem sub_inv {xs ys zs:List Nat} {k b s:Nat} (hl:zs.length=k) (h:nv 4294967296 (xs.take k)+4294967296 ^ k*b=nv 4294967296 (ys.take k)+nv 4294967296 zs) (hs:s+ys.getD k 0+b=4294967296+xs.getD k 0) (hq:s / 4294967296<=1) :
  nv 4294967296 (xs.take (k+1))+4294967296 ^ (k+1)*(1-s / 4294967296)=nv 4294967296 (ys.take (k+1))+nv 4294967296 (zs++[s % 4294967296]):=by
 rw[nv_snoc,hl,nv_take_succ,nv_take_succ,Nat.pow_succ]
 exact sub_step h hs hq
theorem sub_finR {x y b:Nat} {xs ys zs:List Nat} (dx:Dg 4294967296 x xs) (dy:Dg 4294967296 y ys) (hyx:y<=x) (hl:zs.length=xs.length) (hz:∀z∈zs,z<4294967296)
  (h:nv 4294967296 (xs.take xs.length)+4294967296 ^ xs.length*b=nv 4294967296 (ys.take xs.length)+nv 4294967296 zs):nv 4294967296 zs=x-y:=by
 have h1:=dy.len_le (by omega) dx hyx
 rw[nv_take_all _ xs _ (Nat.le_refl _),nv_take_all _ ys _ h1,dx.1,dy.1] at h
 have h2:=nv_lt 4294967296 zs hz
 rw[hl] at h2
 by_cases hb:b=0
 ·subst hb;omega
 ·have h3:4294967296 ^ xs.length*1<=4294967296 ^ xs.length*b:=Nat.mul_le_mul_left _ (by omega)
  omega
set_option maxHeartbeats 1600000 in
set_option maxRecDepth 10000 in
theorem sub61 (ad1 ad2:Option Addr) (n1 n2 c1 c2 x y:Nat) (w:World) (hx:Lim w ad1 n1 c1 18446744073709551616 x) (hy:Lim w ad2 n2 c2 18446744073709551616 y) (bx:bl x<=68719476736) (hyx:y<=x) :
  Calls Tryz.prog 69 #[.slice ad1 n1 c1,.slice ad2 n2 c2] w fun e w'=>∃ad' n' cap',e = .returned (.slice ad' n' cap')/\Lim w' ad' n' cap' 18446744073709551616 (x-y)/\Gr w w':=by
 have by':bl y<=68719476736:=Nat.le_trans (bl_mono hyx) bx
 have H1:Hid (Calls Tryz.prog 72 #[.slice ad1 n1 c1] w fun e w'=>∃ad' n' cap',e = .returned (.slice ad' n' cap')/\n'<=2147483650/\Lim w' ad' n' cap' 4294967296 x/\Gr w w'):=halvesL ad1 n1 c1 x w hx bx
 have H2:Hid (∀w1,Gr w w1->Calls Tryz.prog 72 #[.slice ad2 n2 c2] w1 fun e w'=>∃ad' n' cap',e = .returned (.slice ad' n' cap')/\n'<=2147483650/\Lim w' ad' n' cap' 4294967296 y/\Gr w1 w'):=fun w1 g=>halvesL ad2 n2 c2 y w1 (hy.gr g) by'
 have HYX:Hid (y<=x):=hyx
 clear hx hy bx by' hyx
 have tok:True:=trivial
 go_enter Tryz.func69,Tryz.ntmps69
 go_wp2_with (first|(go_at_call 72;have _t:=tok;with_reducible refine H1.out.mono ?_;rintro e w1 ⟨a1,m1,k1,rfl,hm1,hl1,g1⟩;clear tok)|(go_at_call 72;with_reducible refine(H2.out _ ‹Gr _ _›).mono ?_;rintro e w2 ⟨a2,m2,k2,rfl,hm2,hl2,g2⟩))
 obtain⟨xs,rx,dx⟩:=hl1
 obtain⟨ys,ry,dy⟩:=hl2
 have rx2:Hid (Row w2 a1 m1 k1 xs):=rx.gr g2
 have RY:Hid (Row w2 a2 m2 k2 ys):=ry
 have DX:Hid (Dg 4294967296 x xs):=dx
 have DY:Hid (Dg 4294967296 y ys):=dy
 have G:Hid (Gr w w2):=g1.trans g2
 clear rx ry dx dy g1 g2
 go_loopw [7,8,9] (fun v cr i wr=>∃(k c:Nat) (zs:List Nat),k<=m1/\c<=1/\i = .int .i64 (k:Int)/\cr = .int .u64 (c:Int)/\wr.ownsRow w2.heap.size 71 1 v k (u64s zs)/\Hid (zs.length=k/\(∀x∈zs,x<4294967296)/\nv 4294967296 (xs.take k)+4294967296 ^ k*c=nv 4294967296 (ys.take k)+nv 4294967296 zs)/\Hid (Gr w2 wr)) (fun _ _ i _=>m1-(intOf i).toNat)
 case atStart=>exact⟨0,0,[],by omega,by omega,rfl,rfl,World.ownsRow_nil _ _ _ _,⟨rfl,by simp,by simp[nv]⟩,Gr.refl _⟩
 case round =>
  obtain⟨k,c,zs,hk,hc1,rfl,rfl,hown,hzs,hg⟩:=hrel
  have hsz:=hg.out.size
  by_cases hgo:k<m1
  ·obtain⟨xk,hxk⟩:∃xk,xk=xs.getD k 0:=⟨_,rfl⟩
   obtain⟨yk,hyk⟩:∃yk,yk=ys.getD k 0:=⟨_,rfl⟩
   obtain⟨b,off,rfl,hb,hc⟩:=rx2.out.lt (by omega)
   have hcell:=hc wr hg.out k hgo
   rw[<-hxk] at hcell
   have D2:Hid (∀nq,Calls Tryz.prog 87 #[.slice a2 m2 k2,.int .i64 (k:Int)] (wr.drewN nq) fun e w'=>e = .returned (.int .u64 (yk:Int))/\w'=wr.drewN nq):=by
    intro nq
    rw[hyk];exact digit76 a2 m2 k2 ys k _ (RY.out.gr ⟨hg.out.os,hg.out.output,hg.out.size,hg.out.block⟩) (by omega)
   have bxk:xk<4294967296:=hxk ▸ getD_lt (by omega) DX.out.2.1 k
   have byk:yk<4294967296:=hyk ▸ getD_lt (by omega) DY.out.2.1 k
   have HS:Hid ((4294967296+xk-yk-c)+ys.getD k 0+c=4294967296+xs.getD k 0):=by show _=_;rw[<-hxk,<-hyk];omega
   clear hxk hyk hc
   have hgo':(k:Int)<(m1:Int):=by omega
   go_wp2
   go_quiet ((go_at_call 87;exact Calls.quiet_of_same (D2.out _)))
   have hownQ:∀nq,(wr.drewN nq).ownsRow w2.heap.size 71 1 u7 k (u64s zs):=fun _=>hown
   have hgQ:Hid (∀nq,Gr w2 (wr.drewN nq)):=fun _=>⟨hg.out.os,hg.out.output,hg.out.size,hg.out.block⟩
   go_wp2_with (at_builtin;refine wpList_push rfl _ _ rfl (hownQ _) ((4294967296+xk-yk-c) % 4294967296) _ rfl rfl ?_ ?_ ?_ ?_;rotate_right;intro v' w' hown' hgr)
   ·go_roundw
    case rel=>exact⟨k+1,1-(4294967296+xk-yk-c) / 4294967296,_,by omega,by omega,by go_num,by go_num,hown',⟨by simp[hzs.out.1],snoc_lt hzs.out.2.1 (by omega),sub_inv hzs.out.1 hzs.out.2.2 HS.out (by omega)⟩,hgr w2 (hgQ.out _) (Nat.le_refl _)⟩
    case measure=>simp only[intOf];omega
   ·omega
   ·omega
   ·exact hsz
  ·obtain⟨ad',cap',rfl,hrow⟩:=Row.of_owns hown
   have hkm:k=m1:=by omega
   subst hkm
   have fin:nv 4294967296 zs=x-y:=by
    have e:=rx2.out.len
    have h1:=hzs.out.2.2
    rw[<-e] at h1
    exact sub_finR DX.out DY.out HYX.out (by rw[hzs.out.1,e]) hzs.out.2.1 h1
   have HT:Hid (Calls Tryz.prog 70 #[.slice ad' k cap'] wr fun e w'=>∃ad' n' cap',e = .returned (.slice ad' n' cap')/\Lim w' ad' n' cap' 18446744073709551616 (x-y)/\Gr wr w'):=by
    rw[<-fin]
    exact limbs75 ad' k cap' zs wr hrow (by omega) hzs.out.2.1
   clear hrow hown fin
   go_wp2_with (go_at_call 70;with_reducible refine HT.out.mono ?_;rintro e w' ⟨ad2,n2,cap2,rfl,hl,hgr⟩)
   go_ret
   exact⟨_,_,_,rfl,hl,(G.out.trans hg.out).trans hgr⟩
theorem trimQ (ad:Option Addr) (n cap x:Nat) (w:World) (h:Lim w ad n cap 18446744073709551616 x) (hb:bl x<=68719476736) :
  Calls Tryz.prog 43 #[.slice ad n cap] w fun e w'=>∃ad' n' cap',e = .returned (.slice ad' n' cap')/\n'<=1073741825/\Lim w' ad' n' cap' 18446744073709551616 x/\Gr w w':=by
 have hl:=lim_len h hb
 obtain⟨xs,h1,h2⟩:=h
 refine(trim77 ad n cap xs w h1 (by omega) h2.2.1).mono ?_
 rintro e w' ⟨ad',n',cap',rfl,h4,h5⟩
 rw[h2.1] at h4
 have hl':=lim_len h4 hb
 exact⟨_,_,_,rfl,by omega,h4,h5⟩
set_option maxRecDepth 10000 in
theorem ret_i64R {a b:Int} (h:a=b):Ending.returned (.int .i64 a) = .returned (.int .i64 b):=by rw[h]
set_option maxRecDepth 10000 in
theorem bits73z (ad:Option Addr) (n cap:Nat) (w:World) (h:Lim w ad n cap 18446744073709551616 0) :
  Calls Tryz.prog 59 #[.slice ad n cap] w fun e w'=>e = .returned (.int .i64 0)/\Gr w w':=by
 have H1:Hid (Calls Tryz.prog 43 #[.slice ad n cap] w fun e w'=>∃ad' cap',e = .returned (.slice ad' 0 cap')/\Gr w w'):=by
  refine(trimQ ad n cap 0 w h (by rw[bl_zero];omega)).mono ?_
  rintro e w' ⟨a1,m1,k1,rfl,hm1,⟨xs,rx,dx⟩,g1⟩
  have:m1=0:=by rw[<-rx.len];exact(dx.zero_iff (by omega)).2 rfl
  subst this
  exact⟨_,_,rfl,g1⟩
 clear h
 go_enter Tryz.func59,Tryz.ntmps59
 go_wp2_with (go_at_call 43;with_reducible refine H1.out.mono ?_;rintro e w1 ⟨a1,k1,rfl,g1⟩)
 go_ret
 exact⟨rfl,g1⟩
set_option maxHeartbeats 400000 in
set_option maxRecDepth 10000 in
theorem bits73p (ad:Option Addr) (n cap x:Nat) (w:World) (h:Lim w ad n cap 18446744073709551616 x) (hb:bl x<=68719476736) (hx:0<x) :
  Calls Tryz.prog 59 #[.slice ad n cap] w fun e w'=>e = .returned (.int .i64 (bl x:Int))/\Gr w w':=by
 have H1:Hid (Calls Tryz.prog 43 #[.slice ad n cap] w fun e w'=>∃b off m k1 t,e = .returned (.slice (some ⟨b,off,none⟩) (m+1) k1)/\m<=1073741824/\t<18446744073709551616/\w'.cell? ⟨b,off+m,none⟩=some (.int .u64 ((t:Nat):Int))/\Hid (bl x=64*m+bl t)/\Hid (Gr w w')):=by
  refine(trimQ ad n cap x w h hb).mono ?_
  rintro e w' ⟨a1,m1,k1,rfl,hm1,⟨xs,rx,dx⟩,g1⟩
  have hm0:m1≠0:=fun e=>by
   have:=(dx.zero_iff (by omega)).1 (by rw[rx.len];exact e)
   omega
  obtain⟨b,off,rfl,hb,hc⟩:=rx.cells (by omega)
  refine⟨b,off,m1-1,k1,xs.getD (m1-1) 0,by rw[show m1-1+1=m1 by omega],by omega,getD_lt (by omega) dx.2.1 _,hc _ (by omega),bl_top dx (by rw[rx.len];omega),g1⟩
 have HB:Hid (bl x<=68719476736):=hb
 clear h hb
 go_enter Tryz.func59,Tryz.ntmps59
 go_wp2_with (go_at_call 43;with_reducible refine H1.out.mono ?_;rintro e w1 ⟨b,off,m,k1,t,rfl,hm,ht,hcell,hbl,g1⟩)
 go_loop [4,5] (fun c tp=>∃j u:Nat,j<=68719476736/\u<18446744073709551616/\c = .int .i64 (j:Int)/\tp = .int .u64 (u:Int)/\Hid (j+bl u=bl x)) (fun _ tp=>(intOf tp).toNat)
 case atStart=>exact⟨64*m,t,by omega,by omega,by go_num,rfl,hbl.out.symm⟩
 case round =>
  obtain⟨j,u,hj,hu,rfl,rfl,hs⟩:=hrel
  by_cases hp:0<u
  ·have H2:Hid (j+1+bl (u / 2)=bl x):=by
    show _=_
    have:=hs.out
    rw[bl_pos hp] at this
    omega
   have hj1:j+1<=68719476736:=by have:=H2.out;have:=HB.out;omega
   go_wp2
   go_round
   case rel=>exact⟨j+1,u / 2,hj1,by omega,by go_num,by go_num,H2⟩
   case measure=>simp only[intOf];omega
  ·have hu0:u=0:=by omega
   subst hu0
   have H2:(j:Int)=(bl x:Int):=by
    have:=hs.out
    rw[bl_zero] at this
    omega
   have H3:Hid ((j:Int)=(bl x:Int)):=H2
   clear H2
   go_wp2
   go_ret
   exact⟨ret_i64R H3.out,g1.out⟩
set_option maxRecDepth 10000 in
theorem bits73 (ad:Option Addr) (n cap x:Nat) (w:World) (h:Lim w ad n cap 18446744073709551616 x) (hb:bl x<=68719476736) :
  Calls Tryz.prog 59 #[.slice ad n cap] w fun e w'=>e = .returned (.int .i64 (bl x:Int))/\Gr w w':=by
 by_cases hx:0<x
 ·exact bits73p ad n cap x w h hb hx
 ·have:x=0:=by omega
  subst this
  rw[bl_zero]
  exact bits73z ad n cap w h
set_option maxHeartbeats 800000 in
set_option maxRecDepth 10000 in
theorem cmp60 (ad1 ad2:Option Addr) (n1 n2 c1 c2 x y:Nat) (w:World) (hx:Lim w ad1 n1 c1 18446744073709551616 x) (hy:Lim w ad2 n2 c2 18446744073709551616 y) (bx:bl x<=68719476736) (by':bl y<=68719476736) :
  Calls Tryz.prog 68 #[.slice ad1 n1 c1,.slice ad2 n2 c2] w fun e w'=>e = .returned (.int .i64 (sg ((x:Int)-(y:Int))))/\Gr w w':=by
 have H1:Hid (Calls Tryz.prog 43 #[.slice ad1 n1 c1] w fun e w'=>∃ad' n' cap',e = .returned (.slice ad' n' cap')/\n'<=1073741825/\Lim w' ad' n' cap' 18446744073709551616 x/\Gr w w'):=trimQ ad1 n1 c1 x w hx bx
 have H2:Hid (∀w1,Gr w w1->Calls Tryz.prog 43 #[.slice ad2 n2 c2] w1 fun e w'=>∃ad' n' cap',e = .returned (.slice ad' n' cap')/\n'<=1073741825/\Lim w' ad' n' cap' 18446744073709551616 y/\Gr w1 w'):=fun w1 g=>trimQ ad2 n2 c2 y w1 (hy.gr g) by'
 clear hx hy bx by'
 have tok:True:=trivial
 go_enter Tryz.func68,Tryz.ntmps68
 go_wp2_with (first|(go_at_call 43;have _t:=tok;with_reducible refine H1.out.mono ?_;rintro e w1 ⟨a1,m1,k1,rfl,hm1,hl1,g1⟩;clear tok)|(go_at_call 43;with_reducible refine(H2.out _ ‹Gr _ _›).mono ?_;rintro e w2 ⟨a2,m2,k2,rfl,hm2,hl2,g2⟩))
 ·have hlt:m1<m2:=by assumption
  obtain⟨xs,rx,dx⟩:=hl1
  obtain⟨ys,ry,dy⟩:=hl2
  have:=dx.lt_of_len (by omega) dy (by rw[rx.len,ry.len];exact hlt)
  have e:(-1:Int)=sg ((x:Int)-(y:Int)):=(sg_neg (by omega)).symm
  go_ret
  exact⟨ret_i64R e,g1.trans g2⟩
 ·have hge:¬m1<m2:=by assumption
  have hne:((m1:Int) != (m2:Int))=true:=by assumption
  have hne':m1≠m2:=by intro h;subst h;simp at hne
  obtain⟨xs,rx,dx⟩:=hl1
  obtain⟨ys,ry,dy⟩:=hl2
  have:=dy.lt_of_len (by omega) dx (by rw[rx.len,ry.len];omega)
  have e:(1:Int)=sg ((x:Int)-(y:Int)):=(sg_pos (by omega)).symm
  go_ret
  exact⟨ret_i64R e,g1.trans g2⟩
 ·have hne:((m1:Int) != (m2:Int))=false:=by assumption
  have hm:m1=m2:=by simp at hne;omega
  clear hne
  subst hm
  obtain⟨xs,rx,dx⟩:=hl1
  obtain⟨ys,ry,dy⟩:=hl2
  have RX:Hid (Row w2 a1 m1 k1 xs):=rx.gr g2
  have RY:Hid (Row w2 a2 m1 k2 ys):=ry
  have DX:Hid (Dg 18446744073709551616 x xs):=dx
  have DY:Hid (Dg 18446744073709551616 y ys):=dy
  have G:Hid (Gr w w2):=g1.trans g2
  clear rx ry dx dy g1 g2
  go_loopw [7] (fun i wr=>∃k:Nat,k<=m1/\i = .int .i64 ((k:Int)-1)/\Hid (∀j,k<=j->j<m1->xs.getD j 0=ys.getD j 0)/\Hid (Gr w2 wr)) (fun i _=>(intOf i+1).toNat)
  case atStart=>exact⟨m1,by omega,rfl,(fun j a b=>absurd b (by omega)),Gr.refl _⟩
  case round =>
   obtain⟨k,hk,rfl,he,hg⟩:=hrel
   have hgQ:Hid (∀nq,Gr w2 (wr.drewN nq)):=fun _=>⟨hg.out.os,hg.out.output,hg.out.size,hg.out.block⟩
   by_cases hk0:k=0
   ·subst hk0
    have exy:x=y:=by
     rw[<-DX.out.1,<-DY.out.1,ext_getD (xs:=xs) (ys:=ys) (by rw[RX.out.len,RY.out.len]) (fun j hj=>he.out j (by omega) (by rw[<-RX.out.len];exact hj))]
    have e:Hid ((0:Int)=sg ((x:Int)-(y:Int))):=by
     show _=_
     rw[exy,Int.sub_self];rfl
    clear exy
    go_wp2
    go_ret
    exact⟨ret_i64R e.out,G.out.trans hg.out⟩
   ·obtain⟨b1,o1,rfl,hb1,hc1⟩:=RX.out.lt (by omega)
    obtain⟨b2,o2,rfl,hb2,hc2⟩:=RY.out.lt (by omega)
    have hcell1:=hc1 wr hg.out (k-1) (by omega)
    have hcell2:=hc2 wr hg.out (k-1) (by omega)
    obtain⟨xk,hxk⟩:∃xk,xk=xs.getD (k-1) 0:=⟨_,rfl⟩
    obtain⟨yk,hyk⟩:∃yk,yk=ys.getD (k-1) 0:=⟨_,rfl⟩
    rw[<-hxk] at hcell1
    rw[<-hyk] at hcell2
    have HX:Hid (xk=xs.getD (k-1) 0/\yk=ys.getD (k-1) 0):=⟨hxk,hyk⟩
    clear hxk hyk hc1 hc2
    have hlt:(k:Int)-1<(m1:Int):=by omega
    rcases Nat.lt_trichotomy xk yk with h|h|h
    ·have e:Hid ((-1:Int)=sg ((x:Int)-(y:Int))):=by
      show _=_
      have:=nv_cmp_top xs ys DX.out.2.1 DY.out.2.1 (by rw[RX.out.len,RY.out.len]) (k-1) (by rw[RX.out.len];omega) (fun j h1 h2=>he.out j (by omega) (by rw[<-RX.out.len];exact h2)) (by rw[<-HX.out.1,<-HX.out.2];exact h)
      rw[DX.out.1,DY.out.1] at this
      exact(sg_neg (by omega)).symm
     have h':(xk:Int)<(yk:Int):=by omega
     go_wp2
     go_quiet (fail)
     go_wp2
     go_ret
     exact⟨ret_i64R e.out,G.out.trans (by first|exact hg.out.drewN _|exact(hg.out.drewN _).drewN _)⟩
    ·subst h
     have HE:Hid (∀j,k-1<=j->j<m1->xs.getD j 0=ys.getD j 0):=fun j h1 h2=>if e:j=k-1 then by rw[e,<-HX.out.1,<-HX.out.2] else he.out j (by omega) h2
     go_wp2
     go_quiet (fail)
     go_wp2
     go_quiet (fail)
     go_wp2
     go_roundw
     case rel=>exact⟨k-1,by omega,by go_num,HE.out,by first|exact hg.out.drewN _|exact(hg.out.drewN _).drewN _⟩
     case measure=>simp only[intOf];omega
    ·have e:Hid ((1:Int)=sg ((x:Int)-(y:Int))):=by
      show _=_
      have:=nv_cmp_top ys xs DY.out.2.1 DX.out.2.1 (by rw[RX.out.len,RY.out.len]) (k-1) (by rw[RY.out.len];omega) (fun j h1 h2=>(he.out j (by omega) (by rw[<-RY.out.len];exact h2)).symm) (by rw[<-HX.out.1,<-HX.out.2];exact h)
      rw[DX.out.1,DY.out.1] at this
      exact(sg_pos (by omega)).symm
     have h':(yk:Int)<(xk:Int):=by omega
     go_wp2
     go_quiet (fail)
     go_wp2
     go_quiet (fail)
     go_wp2
     go_ret
     exact⟨ret_i64R e.out,G.out.trans (by first|exact hg.out.drewN _|exact(hg.out.drewN _).drewN _)⟩
end Go.Proofs.YtapnglidnblmcaaGreat
