import Derived.Test.YtanpdbadfddlcaaGreatDoorP13
namespace Go.Proofs.YtanpdbadfddlcaaGreatDoor
open Go.RowKit
set_option linter.unusedVariables false
theorem keepG {W wo wn:World} {p q B:Nat} {a0 a1 a2 b0 b1 b2:Value} (g:Gr wo wn) (h:(wo.cell? ⟨p,0,none⟩=some (a0)/\wo.cell? ⟨p,1,none⟩=some (a1)/\wo.cell? ⟨p,2,none⟩=some (a2)/\wo.cell? ⟨q,0,none⟩=some (b0)/\wo.cell? ⟨q,1,none⟩=some (b1)/\wo.cell? ⟨q,2,none⟩=some (b2))/\(wo.cell? ⟨B,0,none⟩=some (cellV wo B 0)/\wo.cell? ⟨B,1,none⟩=some (cellV wo B 1)/\wo.cell? ⟨B,2,none⟩=some (cellV wo B 2)/\wo.frozen? ⟨B,0,none⟩=false/\wo.frozen? ⟨B,1,none⟩=false/\wo.frozen? ⟨B,2,none⟩=false)/\Gr W wo) :
  (wn.cell? ⟨p,0,none⟩=some (a0)/\wn.cell? ⟨p,1,none⟩=some (a1)/\wn.cell? ⟨p,2,none⟩=some (a2)/\wn.cell? ⟨q,0,none⟩=some (b0)/\wn.cell? ⟨q,1,none⟩=some (b1)/\wn.cell? ⟨q,2,none⟩=some (b2))/\(wn.cell? ⟨B,0,none⟩=some (cellV wn B 0)/\wn.cell? ⟨B,1,none⟩=some (cellV wn B 1)/\wn.cell? ⟨B,2,none⟩=some (cellV wn B 2)/\wn.frozen? ⟨B,0,none⟩=false/\wn.frozen? ⟨B,1,none⟩=false/\wn.frozen? ⟨B,2,none⟩=false)/\Gr W wn:=by
 obtain⟨⟨h0,h1,h2,h3,h4,h5⟩,⟨k0,k1,k2,k3,k4,k5⟩,hg⟩:=h
 exact⟨⟨g.keep h0,g.keep h1,g.keep h2,g.keep h3,g.keep h4,g.keep h5⟩,⟨cellV_some (g.keep k0),cellV_some (g.keep k1),cellV_some (g.keep k2),g.keepF (lt_of_cell' k0) k3,g.keepF (lt_of_cell' k1) k4,g.keepF (lt_of_cell' k2) k5⟩,hg.trans g⟩
def PP:Int:=((2 ^ KN:Nat):Int)
theorem PP_pos:0<PP:=by
 unfold PP
 have:=Nat.two_pow_pos KN
 omega
theorem Gd.mul {lo k l:Nat} {U V Z:Int} (h1:Gd lo k U) (h2:Gd lo l V) (hZ:Z*PP=U*V) (hlo:lo<=50000):Gd (lo+lo) (k+l) Z:=by
 obtain⟨a,rfl,ha⟩:=h1
 obtain⟨b,rfl,hb⟩:=h2
 refine⟨a*b,?_,?_⟩
 ·refine Int.eq_of_mul_eq_mul_right (Int.ne_of_gt PP_pos) ?_
  rw[hZ]
  have e1:((2 ^ (KN-lo):Nat):Int)*((2 ^ (KN-lo):Nat):Int)=((2 ^ (KN-(lo+lo)):Nat):Int)*PP:=by
   unfold PP
   rw[<-Int.natCast_mul,<-Int.natCast_mul,<-Nat.pow_add,<-Nat.pow_add,show KN-lo+(KN-lo)=KN-(lo+lo)+KN by have:=KN_eq;omega]
  rw[Int.mul_assoc,Int.mul_assoc,<-e1]
  generalize ((2 ^ (KN-lo):Nat):Int)=p
  rw[<-Int.mul_assoc p b p,Int.mul_comm p b]
  ac_rfl
 ·rw[Int.natAbs_mul,Nat.pow_add]
  exact Nat.mul_lt_mul_of_lt_of_le ha (Nat.le_of_lt hb) (Nat.two_pow_pos l)
theorem DyAt.len {w:World} {s:Bool} {ad:Option Addr} {n cap x lo k:Nat} {e V:Int} (h:DyAt w s ad n cap e x) (hV:sv KK s x e=V) (hg:Gd lo k V) (hlo:lo<=100000):64*n<=k+63:=by
 obtain⟨xs,h1,h2⟩:=h.lim
 have h3:=len_bl h2
 rw[h1.len] at h3
 have hkk:=KK_eq
 rcases h.right with ⟨rfl,_⟩|⟨q,rfl,e1,e2⟩
 ·rw[bl_zero] at h3
  omega
 ·have h4:=gd_odd (t:=0) (s:=s) (q:=q) (e:=e) (by rw[Nat.pow_zero,Nat.one_mul];exact hV) hg (by omega) hlo
  have h5:=bl_le_of_lt h4.2.2
  omega
theorem two_blocks (w:World) (a0 a1 a2 b0 b1 b2:Value) (W0:World) (h:W0=(w.alloc (.cells #[a0,a1,a2] 130)).alloc (.cells #[b0,b1,b2] 130)) :
  (W0.cell? ⟨w.heap.size,0,none⟩=some a0/\W0.cell? ⟨w.heap.size,1,none⟩=some a1/\W0.cell? ⟨w.heap.size,2,none⟩=some a2/\W0.cell? ⟨w.heap.size+1,0,none⟩=some b0/\W0.cell? ⟨w.heap.size+1,1,none⟩=some b1/\W0.cell? ⟨w.heap.size+1,2,none⟩=some b2)/\Gr w W0:=by
 have h0:W0.heap[w.heap.size]? = some (.cells #[a0,a1,a2] 130):=by
  rw[h]
  show((w.heap.push _).push _)[w.heap.size]? = _
  simp only[Array.getElem?_push,Array.size_push]
  rw[if_neg (by omega),if_pos trivial]
 have h1:W0.heap[w.heap.size+1]? = some (.cells #[b0,b1,b2] 130):=by
  rw[h]
  show((w.heap.push _).push _)[w.heap.size+1]? = _
  simp only[Array.getElem?_push,Array.size_push]
  rw[if_pos trivial]
 exact⟨⟨by simp[World.cell?,h0],by simp[World.cell?,h0],by simp[World.cell?,h0],by simp[World.cell?,h1],by simp[World.cell?,h1],by simp[World.cell?,h1]⟩,h ▸ ((Gr.refl w).alloc _).alloc _⟩
theorem gr2 {w:World} (o1 o2:Obj):Gr w ((w.alloc o1).alloc o2):=((Gr.refl w).alloc o1).alloc o2
theorem DyV.sign {w:World} {s:Bool} {ad:Option Addr} {n cap:Nat} {e V:Int} (h:DyV w s ad n cap e V):(s=true->V<0)/\(s=false->0<=V)/\(n=0 ↔ V=0)/\(s=false->0<n->0<V):=by
 obtain⟨x,hd,rfl⟩:=h
 have hz:n=0 ↔ x=0:=by
  obtain⟨xs,h1,h2⟩:=hd.lim
  rw[<-h1.len];exact h2.zero_iff (by omega)
 rcases hd.right with ⟨rfl,rfl,rfl⟩|⟨q,rfl,_⟩
 ·rw[sv_zero]
  refine⟨fun h=>by simp at h,fun _=>by omega,by omega,fun _ h=>by omega⟩
 ·have h1:=sv_sign KK s (2*q+1) e (by omega)
  refine⟨h1.1,fun h=>by have:=h1.2 h;omega,?_,fun h _=>h1.2 h⟩
  rw[sv_eq_zero];exact hz
theorem u64_in (v:Nat) (h:v<18446744073709551616):IntKind.u64.wrap (v:Int)=(v:Int):=by
 rw[IntKind.wrap_u64,Int.emod_eq_of_lt (by omega) (by omega)]
theorem div64_0 (x y:Nat) (y0:0<y) (hx:x<18446744073709551616) (w:World) :
  Calls Tryz.prog 193 #[.int .u64 0,.int .u64 (x:Int),.int .u64 (y:Int)] w fun r w'=>r = .returned (.tuple #[.int .u64 ((x / y:Nat):Int),.int .u64 ((x % y:Nat):Int)])/\Gr w w':=by
 have h1:(((y:Nat):Int)==0)=false:=by simp;omega
 have h2:¬((y:Nat):Int)<=0:=by omega
 have E1:Hid (IntKind.u64.wrap ((x:Int) / (y:Int))=((x / y:Nat):Int)):=by
  show _=_
  rw[<-Int.natCast_ediv,u64_in _ (Nat.lt_of_le_of_lt (Nat.div_le_self _ _) hx)]
 have E2:Hid (((x:Int) % (y:Int))=((x % y:Nat):Int)):=by show _=_;rw[Int.natCast_emod]
 go_enter Tryz.func193,Tryz.ntmps193
 go_wp2
 go_quiet (fail)
 go_wp2
 rw[E1.out,E2.out]
 generalize x / y=a
 generalize x % y=b
 refine bodyPost_ret (v:=.tuple #[.int .u64 (a:Int),.int .u64 (b:Int)]) ?_ rfl ⟨rfl,?_⟩
 ·simp[results,Tryz.results193,go_sem]
 ·first|exact Gr.refl _|exact(Gr.refl _).drew|exact(Gr.refl _).drewN _
theorem lim_one {w:World} {ad:Option Addr} {n cap x:Nat} (h:Lim w ad n cap 18446744073709551616 x) (h0:0<x) (h1:x<18446744073709551616):n=1:=by
 obtain⟨xs,r,d⟩:=h
 have a:=(d.zero_iff (by omega)).1
 rw[r.len] at a
 refine Nat.le_antisymm (Nat.le_of_not_lt fun hlt=>?_) (by omega)
 have b:=d.lower (k:=n-1) (by rw[r.len];omega)
 have c:18446744073709551616 ^ 1<=18446744073709551616 ^ (n-1):=Nat.pow_le_pow_right (by omega) (by omega)
 rw[Nat.pow_one] at c
 omega
theorem limb_alloc (w:World) (v:Nat) (v0:0<v) (v1:v<18446744073709551616):Lim (w.alloc (.cells #[.int .u64 (v:Int)] 34)) (some ⟨w.heap.size,0,none⟩) 1 1 18446744073709551616 v:=by
 refine⟨[v],⟨rfl,Nat.le_refl _,by omega,(fun h=>by cases h),fun _=>⟨w.heap.size,0,rfl,by simp,fun j hj=>?_⟩⟩,by simp[nv],by simpa using v1,fun k hk=>?_⟩
 ·obtain rfl:j=0:=by omega
  have:(w.alloc (.cells #[.int .u64 (v:Int)] 34)).heap[w.heap.size]? = some (.cells #[.int .u64 (v:Int)] 34):=by
   show(w.heap.push _)[w.heap.size]? = _
   simp only[Array.getElem?_push]
   rw[if_pos trivial]
  simp only[World.cell?,this,Nat.zero_add]
  rfl
 ·obtain rfl:k=0:=by simp at hk;omega
  simp;omega
set_option maxHeartbeats 1600000 in
theorem shift42 (ad:Option Addr) (n cap x k:Nat) (w:World) (hx:Lim w ad n cap 18446744073709551616 x) (b1:n<=1099511627776) (hk:k<=68719476736) :
  Calls Tryz.prog 164 #[.slice ad n cap,.int .i64 (k:Int)] w fun e w'=>∃ad' n' cap',e = .returned (.slice ad' n' cap')/\n'<=n+k / 64+1/\Lim w' ad' n' cap' 18446744073709551616 (x*2 ^ k)/\Gr w w':=by
 have H:Hid (Calls Tryz.prog 174 #[.slice ad n cap,.int .i64 (k:Int)] w fun e w'=>∃ad' n' cap',e = .returned (.slice ad' n' cap')/\n'<=n+k / 64+1/\Lim w' ad' n' cap' 18446744073709551616 (x*2 ^ k)/\Gr w w'):=shiftUp53 ad n cap x k w hx b1 hk
 have h0:¬(k:Int)<0:=by omega
 clear hx
 go_enter Tryz.func164,Tryz.ntmps164
 go_wp2_with (go_at_call 174;(with_reducible refine H.out.mono ?_);rintro r w3 ⟨a3,n3,c3,rfl,hn3,hl3,g3⟩)
 go_ret
 exact⟨_,_,_,rfl,hn3,hl3,g3⟩
end Go.Proofs.YtanpdbadfddlcaaGreatDoor
namespace Go.Proofs.YtanpdbadfddlcaaGreatDoor
open Go.RowKit
set_option linter.unusedVariables false
open Ieee in
theorem mul_run (w:World) (x y r:Nat) (h:double.mul x y=some r):(binOp .mul 25 (.float .f64 x) (.float .f64 y)).run Tryz.prog w = .ok (.float .f64 r) w:=
 run_float_arith (P:=Tryz.prog) w .mul 25 .f64 x y r h
def nanB (x:Nat):Bool:=(FloatKind.f64.format.order x x != some .eq)
def absN (x:Nat):Nat:=(bits BinOp.andNot IntKind.u64 x 9223372036854775808).toNat
def pinfB (x:Nat):Bool:=FloatKind.f64.format.order x 9218868437227405311==some .gt
def copyN (x y:Nat):Nat:=(bits BinOp.or IntKind.u64 (bits BinOp.andNot IntKind.u64 x 9223372036854775808) (bits BinOp.and IntKind.u64 y 9223372036854775808)).toNat
theorem fbits50 (x:Nat) (w:World):(callFunc 27 #[.float .f64 x]).run Tryz.prog w = .ok (.value (.int .u64 x)) w:=by
 kernel_rfl
theorem from68 (x:Int) (w:World):(callFunc 104 #[.int .u64 x]).run Tryz.prog w = .ok (.value (.float .f64 x.toNat)) w:=by
 kernel_rfl
theorem abs47 (x:Nat) (w:World):Calls Tryz.prog 82 #[.float .f64 x] w fun e w'=>e = .returned (.float .f64 (absN x))/\w'=w:=by
 have h1:=fbits50
 have h2:=from68
 go_enter Tryz.func82,Tryz.ntmps82
 go_wp2
 go_ret
 exact⟨rfl,rfl⟩
theorem inf44 (x:Nat) (w:World):Calls Tryz.prog 71 #[.float .f64 x,.int .i64 0] w fun e w'=>e = .returned (.bool (pinfB (absN x)))/\w'=w:=by
 go_enter Tryz.func71,Tryz.ntmps71
 go_wp2_with (go_at_call 82;refine(abs47 _ _).mono ?_;rintro e w' ⟨rfl,rfl⟩)
 go_ret
 exact⟨rfl,rfl⟩
theorem copy49 (x y:Nat) (w:World):Calls Tryz.prog 103 #[.float .f64 x,.float .f64 y] w fun e w'=>e = .returned (.float .f64 (copyN x y))/\w'=w:=by
 have h1:=fbits50
 have h2:=from68
 go_enter Tryz.func103,Tryz.ntmps103
 go_wp2
 go_ret
 exact⟨rfl,rfl⟩
theorem keep4 {W wo wn:World} {p:Nat} {a0 a1 a2:Value} (g:Gr wo wn) (h:(wo.cell? ⟨p,0,none⟩=some a0/\wo.cell? ⟨p,1,none⟩=some a1/\wo.cell? ⟨p,2,none⟩=some a2)/\Gr W wo) :
  (wn.cell? ⟨p,0,none⟩=some a0/\wn.cell? ⟨p,1,none⟩=some a1/\wn.cell? ⟨p,2,none⟩=some a2)/\Gr W wn:=
 ⟨⟨g.keep h.1.1,g.keep h.1.2.1,g.keep h.1.2.2⟩,h.2.trans g⟩
end Go.Proofs.YtanpdbadfddlcaaGreatDoor
namespace Go.Proofs.YtanpdbadfddlcaaGreatDoor
open Go.RowKit
set_option linter.unusedVariables false
theorem ret_bool' {a b:Bool} (h:a=b):Ending.returned (.bool a) = .returned (.bool b):=by rw[h]
def bitB (x p:Nat):Bool:=decide (x / 2 ^ p % 2=1)
theorem bit_of {x q r:Nat} {xs:List Nat} (h:Dg 18446744073709551616 x xs) (hq:q<xs.length) (hr:r<64):x / 2 ^ (64*q+r) % 2=xs.getD q 0 / 2 ^ r % 2:=by
 have h1:=nv_split 18446744073709551616 xs q hq
 rw[h.1] at h1
 have hlt:nv 18446744073709551616 (xs.take q)<18446744073709551616 ^ q:=by
  have:=nv_lt 18446744073709551616 (xs.take q) (fun y hy=>h.2.1 y (List.mem_of_mem_take hy))
  rwa [List.length_take,Nat.min_eq_left (by omega)] at this
 have h2:x / 18446744073709551616 ^ q=xs.getD q 0+18446744073709551616*nv 18446744073709551616 (xs.drop (q+1)):=by
  rw[h1,Nat.add_mul_div_left _ _ (Nat.pow_pos (by omega)),Nat.div_eq_of_lt hlt,Nat.zero_add]
 rw[Nat.pow_add,<-Nat.div_div_eq_div_mul,<-pow64,h2]
 generalize xs.getD q 0=v
 generalize nv 18446744073709551616 (xs.drop (q+1))=T
 have e:18446744073709551616*T=2 ^ r*(2*(2 ^ (63-r)*T)):=by
  rw[two64 hr,show 64-r=63-r+1 by omega,Nat.pow_succ];ac_rfl
 rw[e,Nat.add_mul_div_left _ _ (Nat.two_pow_pos r)]
 omega
set_option maxHeartbeats 1600000 in
theorem bitAt69 (ad:Option Addr) (n cap x p:Nat) (w:World) (hx:Lim w ad n cap 18446744073709551616 x) (hn:n<=1099511627776) (hp:p<=1099511627776) :
  Calls Tryz.prog 165 #[.slice ad n cap,.int .i64 (p:Int)] w fun r w'=>r = .returned (.bool (bitB x p))/\w'=w:=by
 obtain⟨xs,rx,dx⟩:=hx
 have hle:=rx.le
 have hmax:=rx.max
 obtain⟨q,hq⟩:∃q,q=p / 64:=⟨_,rfl⟩
 obtain⟨r,hr⟩:∃r,r=p % 64:=⟨_,rfl⟩
 have hr64:r<64:=by omega
 have HN:Hid (p=64*q+r):=by show _=_;omega
 have eq:(p:Int) / 64=(q:Int):=by omega
 have er:(p:Int) % 64=(r:Int):=by omega
 clear hq hr
 by_cases hbig:n<=q
 ·have fin:Hid (bitB x p=false):=by
   show _=_
   have h1:=dx.upper
   rw[rx.len,pow64] at h1
   have:x / 2 ^ p=0:=Nat.div_eq_of_lt (Nat.lt_of_lt_of_le h1 (Nat.pow_le_pow_right (by omega) (by have:=HN.out;omega)))
   unfold bitB
   rw[this];rfl
  have hb:¬(q:Int)<(n:Int):=by omega
  rw[fin.out]
  clear rx dx
  go_enter Tryz.func165,Tryz.ntmps165
  go_wp2
  go_ret
  exact⟨rfl,rfl⟩
 ·obtain⟨p1,o1,rfl,hp1,hc1⟩:=rx.lt (by omega)
  have hcell:=hc1 w (Gr.refl w) q (by omega)
  have fin:Hid (bitB x p=decide (xs.getD q 0 / 2 ^ r % 2=1)):=by
   show _=_
   unfold bitB
   rw[HN.out,bit_of dx (by rw[rx.len];omega) hr64]
  have hb:(q:Int)<(n:Int):=by omega
  have hv:=getD_lt (by omega) dx.2.1 q
  rw[fin.out]
  clear rx dx hc1
  generalize xs.getD q 0=v at *
  go_enter Tryz.func165,Tryz.ntmps165
  go_wp2_with (simp only[er])
  go_ret
  refine⟨ret_bool' ?_,rfl⟩
  rw[show(v:Int) / 2 ^ r=((v / 2 ^ r:Nat):Int) by simp,and_one (Nat.lt_of_le_of_lt (Nat.div_le_self _ _) hv)]
  by_cases h:v / 2 ^ r % 2=1
  ·rw[h];rfl
  ·rw[show v / 2 ^ r % 2=0 by omega];rfl
set_option maxHeartbeats 1600000 in
theorem shift42n (ad:Option Addr) (n cap x b:Nat) (w:World) (hx:Lim w ad n cap 18446744073709551616 x) (b1:n<=1099511627776) (b0:0<b) (hb:b<=1099511627776) :
  Calls Tryz.prog 164 #[.slice ad n cap,.int .i64 (-(b:Int))] w fun e w'=>∃ad' n' cap',e = .returned (.slice ad' n' cap')/\n'<=n/\Lim w' ad' n' cap' 18446744073709551616 (x / 2 ^ b)/\Gr w w':=by
 have H:Hid (Calls Tryz.prog 173 #[.slice ad n cap,.int .i64 (b:Int)] w fun e w'=>∃ad' n' cap',e = .returned (.slice ad' n' cap')/\n'<=n/\Lim w' ad' n' cap' 18446744073709551616 (x / 2 ^ b)/\Gr w w'):=shiftDown37 ad n cap x b w hx b1 (by omega)
 have h0 : -(b:Int)<0:=by omega
 clear hx
 go_enter Tryz.func164,Tryz.ntmps164
 go_wp2_with (go_at_call 173;(with_reducible refine H.out.mono ?_);rintro r w3 ⟨a3,n3,c3,rfl,hn3,hl3,g3⟩)
 go_ret
 exact⟨_,_,_,rfl,hn3,hl3,g3⟩
def upB (x b:Nat):Bool:=bitB x (b-1) && (decide (1<b) || decide (x / 2 ^ b % 2=1))
theorem lim_head {w:World} {ad:Option Addr} {n cap x:Nat} (h:Lim w ad n cap 18446744073709551616 x) (h1:x<18446744073709551616):(x=0/\n=0)\/(0<x/\n=1/\∃p o,ad=some ⟨p,o,none⟩/\1<=cap/\cap<=9223372036854775807/\w.cell? ⟨p,o,none⟩=some (.int .u64 (x:Int))):=by
 by_cases h0:x=0
 ·subst h0
  obtain⟨xs,rx,dx⟩:=h
  exact Or.inl ⟨rfl,by rw[<-rx.len];exact(dx.zero_iff (by omega)).2 rfl⟩
 ·obtain rfl:n=1:=lim_one h (by omega) h1
  obtain⟨xs,rx,dx⟩:=h
  obtain⟨v,rfl⟩:∃v,xs=[v]:=by
   have:=rx.len
   match xs,this with
   | [v],_=>exact⟨v,rfl⟩
  have hv:v=x:=by have:=dx.1;simpa [nv] using this
  subst hv
  obtain⟨p1,o1,rfl,hp1,hc1⟩:=rx.cells (by omega)
  have hc0:=hc1 0 (by omega)
  exact Or.inr ⟨by omega,rfl,p1,o1,rfl,rx.le,rx.max,hc0⟩
theorem par_one {v:Nat} (h:v<18446744073709551616):(bits BinOp.and IntKind.u64 (v:Int) 1==1)=decide (v % 2=1):=by
 rw[and_one h]
 by_cases h:v % 2=1
 ·rw[h];rfl
 ·rw[show v % 2=0 by omega];rfl
set_option maxHeartbeats 3200000 in
theorem nearest48p (ad:Option Addr) (n cap x b:Nat) (w:World) (hx:Lim w ad n cap 18446744073709551616 x) (b1:n<=1099511627776) (b0:0<b) (hb:b<=1099511627776) (hv:x / 2 ^ b+1<18446744073709551616) :
  Calls Tryz.prog 154 #[.slice ad n cap,.int .i64 (b:Int)] w fun r w'=>r = .returned (.int .u64 ((x / 2 ^ b+(upB x b).toNat:Nat):Int))/\Gr w w':=by
 have H42:Hid (Calls Tryz.prog 164 #[.slice ad n cap,.int .i64 (-(b:Int))] w fun r w'=>∃ad' n' cap',r = .returned (.slice ad' n' cap')/\((x / 2 ^ b=0/\n'=0)\/(0<x / 2 ^ b/\n'=1/\∃p o,ad'=some ⟨p,o,none⟩/\1<=cap'/\cap'<=9223372036854775807/\w'.cell? ⟨p,o,none⟩=some (.int .u64 ((x / 2 ^ b:Nat):Int))))/\Gr w w'):=by
  refine Calls.mono (shift42n ad n cap x b w hx b1 b0 hb) ?_
  rintro r w' ⟨a,m,c,rfl,h2,h3,h4⟩
  exact⟨a,m,c,rfl,lim_head h3 (by omega),h4⟩
 have H69:Hid (∀w1,Gr w w1->Calls Tryz.prog 165 #[.slice ad n cap,.int .i64 ((b:Int)-1)] w1 fun r w'=>r = .returned (.bool (bitB x (b-1)))/\w'=w1):=fun w1 g=>by
  have:=bitAt69 ad n cap x (b-1) w1 (hx.gr g) b1 (by omega)
  rw[show((b-1:Nat):Int)=(b:Int)-1 by omega] at this
  exact this
 clear hx
 unfold upB
 have hpar:=par_one (v:=x / 2 ^ b) (by omega)
 generalize x / 2 ^ b=v at *
 generalize bitB x (b-1)=B at *
 have hb0:(b:Int)>0:=by omega
 have e1:((v+1:Nat):Int)=(v:Int)+1:=by omega
 have hvz:0<v\/v=0:=by omega
 cases B
 ·rw[show(v+(false && (decide (1<b) || decide (v % 2=1))).toNat)=v by simp]
  rcases hvz with hv0|rfl
  ·go_enter Tryz.func154,Tryz.ntmps154
   go_wp2_with (first|(go_at_call 164;(with_reducible refine H42.out.mono ?_);rintro r w1 ⟨a1,m1,k1,rfl,hh,g1⟩;obtain⟨rfl,p,o,rfl,hc1,hc2,hcell⟩:m1=1/\∃p o,a1=some ⟨p,o,none⟩/\1<=k1/\k1<=9223372036854775807/\w1.cell? ⟨p,o,none⟩=some (.int .u64 (v:Int)):=(by rcases hh with ⟨h,_⟩|⟨_,h⟩;omega;exact h);clear hh)|(go_at_call 165;(with_reducible refine(H69.out _ g1).mono ?_);rintro r w2 ⟨rfl,rfl⟩))
   go_ret
   exact⟨rfl,g1⟩
  ·go_enter Tryz.func154,Tryz.ntmps154
   go_wp2_with (first|(go_at_call 164;(with_reducible refine H42.out.mono ?_);rintro r w1 ⟨a1,m1,k1,rfl,hh,g1⟩;obtain rfl:m1=0:=(by rcases hh with ⟨_,h⟩|⟨h,_⟩;exact h;omega);clear hh)|(go_at_call 165;(with_reducible refine(H69.out _ g1).mono ?_);rintro r w2 ⟨rfl,rfl⟩))
   go_ret
   exact⟨rfl,g1⟩
 ·by_cases h1:1<b
  ·rw[show(v+(true && (decide (1<b) || decide (v % 2=1))).toNat)=v+1 by simp[h1]]
   have hb1:(b:Int)>1:=by omega
   rw[e1]
   rcases hvz with hv0|rfl
   ·go_enter Tryz.func154,Tryz.ntmps154
    go_wp2_with (first|(go_at_call 164;(with_reducible refine H42.out.mono ?_);rintro r w1 ⟨a1,m1,k1,rfl,hh,g1⟩;obtain⟨rfl,p,o,rfl,hc1,hc2,hcell⟩:m1=1/\∃p o,a1=some ⟨p,o,none⟩/\1<=k1/\k1<=9223372036854775807/\w1.cell? ⟨p,o,none⟩=some (.int .u64 (v:Int)):=(by rcases hh with ⟨h,_⟩|⟨_,h⟩;omega;exact h);clear hh)|(go_at_call 165;(with_reducible refine(H69.out _ g1).mono ?_);rintro r w2 ⟨rfl,rfl⟩))
    go_ret
    exact⟨rfl,g1⟩
   ·go_enter Tryz.func154,Tryz.ntmps154
    go_wp2_with (first|(go_at_call 164;(with_reducible refine H42.out.mono ?_);rintro r w1 ⟨a1,m1,k1,rfl,hh,g1⟩;obtain rfl:m1=0:=(by rcases hh with ⟨_,h⟩|⟨h,_⟩;exact h;omega);clear hh)|(go_at_call 165;(with_reducible refine(H69.out _ g1).mono ?_);rintro r w2 ⟨rfl,rfl⟩))
    go_ret
    exact⟨rfl,g1⟩
  ·have hb1:¬(b:Int)>1:=by omega
   by_cases hp:v % 2=1
   ·rw[show(v+(true && (decide (1<b) || decide (v % 2=1))).toNat)=v+1 by simp[hp]]
    rw[decide_eq_true hp] at hpar
    rw[e1]
    have hv0:0<v:=by omega
    go_enter Tryz.func154,Tryz.ntmps154
    go_wp2_with (first|(go_at_call 164;(with_reducible refine H42.out.mono ?_);rintro r w1 ⟨a1,m1,k1,rfl,hh,g1⟩;obtain⟨rfl,p,o,rfl,hc1,hc2,hcell⟩:m1=1/\∃p o,a1=some ⟨p,o,none⟩/\1<=k1/\k1<=9223372036854775807/\w1.cell? ⟨p,o,none⟩=some (.int .u64 (v:Int)):=(by rcases hh with ⟨h,_⟩|⟨_,h⟩;omega;exact h);clear hh)|(go_at_call 165;(with_reducible refine(H69.out _ g1).mono ?_);rintro r w2 ⟨rfl,rfl⟩))
    go_ret
    exact⟨rfl,g1⟩
   ·rw[show(v+(true && (decide (1<b) || decide (v % 2=1))).toNat)=v by simp[hp,h1]]
    rw[decide_eq_false hp] at hpar
    rcases hvz with hv0|rfl
    ·go_enter Tryz.func154,Tryz.ntmps154
     go_wp2_with (first|(go_at_call 164;(with_reducible refine H42.out.mono ?_);rintro r w1 ⟨a1,m1,k1,rfl,hh,g1⟩;obtain⟨rfl,p,o,rfl,hc1,hc2,hcell⟩:m1=1/\∃p o,a1=some ⟨p,o,none⟩/\1<=k1/\k1<=9223372036854775807/\w1.cell? ⟨p,o,none⟩=some (.int .u64 (v:Int)):=(by rcases hh with ⟨h,_⟩|⟨_,h⟩;omega;exact h);clear hh)|(go_at_call 165;(with_reducible refine(H69.out _ g1).mono ?_);rintro r w2 ⟨rfl,rfl⟩))
     go_ret
     exact⟨rfl,g1⟩
    ·have hz:(bits BinOp.and IntKind.u64 0 1==1)=false:=by kernel_rfl
     go_enter Tryz.func154,Tryz.ntmps154
     go_wp2_with (first|(go_at_call 164;(with_reducible refine H42.out.mono ?_);rintro r w1 ⟨a1,m1,k1,rfl,hh,g1⟩;obtain rfl:m1=0:=(by rcases hh with ⟨_,h⟩|⟨h,_⟩;exact h;omega);clear hh)|(go_at_call 165;(with_reducible refine(H69.out _ g1).mono ?_);rintro r w2 ⟨rfl,rfl⟩))
     go_ret
     exact⟨rfl,g1⟩
set_option maxHeartbeats 1600000 in
theorem nearest48z (ad:Option Addr) (n cap x k:Nat) (b:Int) (w:World) (hx:Lim w ad n cap 18446744073709551616 x) (b1:n<=1099511627776) (hb:b = -(k:Int)) (hk:k<=68719476736) (hv:x*2 ^ k<18446744073709551616) (x0:0<x) :
  Calls Tryz.prog 154 #[.slice ad n cap,.int .i64 b] w fun r w'=>r = .returned (.int .u64 ((x*2 ^ k:Nat):Int))/\Gr w w':=by
 have H42:Hid (Calls Tryz.prog 164 #[.slice ad n cap,.int .i64 (-b)] w fun r w'=>∃p o cap',r = .returned (.slice (some ⟨p,o,none⟩) 1 cap')/\1<=cap'/\cap'<=9223372036854775807/\w'.cell? ⟨p,o,none⟩=some (.int .u64 ((x*2 ^ k:Nat):Int))/\Gr w w'):=by
  rw[show -b=(k:Int) by omega]
  refine Calls.mono (shift42 ad n cap x k w hx b1 hk) ?_
  rintro r w' ⟨a,m,c,rfl,h2,h3,h4⟩
  have hp:0<x*2 ^ k:=Nat.mul_pos x0 (Nat.two_pow_pos k)
  rcases lim_head h3 hv with ⟨h,_⟩|⟨_,rfl,p,o,rfl,h5,h6,h7⟩
  ·omega
  ·exact⟨p,o,c,rfl,h5,h6,h7,h4⟩
 have hb0:¬b>0:=by omega
 have hb1 : -68719476736<=b:=by omega
 clear hx hb
 generalize x*2 ^ k=v at *
 go_enter Tryz.func154,Tryz.ntmps154
 go_wp2_with (go_at_call 164;(with_reducible refine H42.out.mono ?_);rintro r w1 ⟨p,o,c1,rfl,hc,hm,hcell,g1⟩)
 go_ret
 exact⟨rfl,g1⟩
set_option maxHeartbeats 3200000 in
theorem float22p (ad:Option Addr) (n cap x N Y:Nat) (e last:Int) (w:World) (dx:DyAt w false ad (n+1) cap e x) (x0:0<x) (hlast:max ((bl x:Int)+e-53) (-1074)=last)
  (H48:Hid (∀w1,Gr w w1->Calls Tryz.prog 154 #[.slice ad (n+1) cap,.int .i64 (last-e)] w1 fun r w'=>r = .returned (.int .u64 (N:Int))/\Gr w1 w'))
  (A46:Hid (∀w,Calls Tryz.prog 39 #[.float .f64 (floatOfInt FloatKind.f64 (N:Int)),.int .i64 last] w fun e w'=>e = .returned (.float .f64 Y)/\w'=w)) (hI:pinfB (absN Y)=false) :
  Calls Tryz.prog 144 #[.agg #[.bool false,.slice ad (n+1) cap,.int .i64 e]] w fun r w'=>r = .returned (.tuple #[.float .f64 Y,.int .i64 0])/\Gr w w':=by
 have R:=dx.r26
 have hle:=dx.le
 have e1:=dx.low
 have e2:=dx.high
 have hbl:bl x<=262144:=by
  obtain⟨xs,g1,g2⟩:=dx.lim
  have h3:=bl_len g2
  rw[g1.len] at h3
  omega
 have H40:Hid (∀w1,Gr w w1->Calls Tryz.prog 153 #[.slice ad (n+1) cap] w1 fun r w'=>r = .returned (.int .i64 (bl x:Int))/\Gr w1 w'):=fun w1 g=>bitLength40 ad (n+1) cap x w1 (dx.lim.gr g) x0 (by omega)
 have z1:((n:Int)+1==0)=false:=by simp;omega
 have l1 : -1074<=last:=by omega
 have l2:last<=2000000:=by omega
 have HL:Hid (max (IntKind.i64.wrap (IntKind.i64.wrap ((bl x:Int)+e)-53)) (-1074)=last):=by
  show _=_
  rw[IntKind.wrap_i64,IntKind.wrap_i64]
  omega
 clear dx hlast
 generalize (bl x:Int)=L at *
 have A44:=fun x w=>inf44 x w
 have A49:=fun x y w=>copy49 x y w
 go_enter Tryz.func144,Tryz.ntmps144
 go_wp2_with (first|(go_at_call 152;(with_reducible refine(R.out _ ((Gr.refl w).alloc _)).mono ?_);rintro r w1 ⟨rfl,g1⟩;have k0:w1.cell? ⟨w.heap.size,0,none⟩=some (.bool false):=g1.keep (by simp);have k1:w1.cell? ⟨w.heap.size,1,none⟩=some (.slice ad (n+1) cap):=g1.keep (by simp);have k2:w1.cell? ⟨w.heap.size,2,none⟩=some (.int .i64 e):=g1.keep (by simp);have G1:=((Gr.refl w).alloc (.cells #[.bool false,.slice ad (n+1) cap,.int .i64 e] 130)).trans g1))
 have hS0:(w1.drew.cell? ⟨w.heap.size,0,none⟩=some (.bool false)/\w1.drew.cell? ⟨w.heap.size,1,none⟩=some (.slice ad (n+1) cap)/\w1.drew.cell? ⟨w.heap.size,2,none⟩=some (.int .i64 e))/\Gr w w1.drew:=⟨⟨k0,k1,k2⟩,G1.drew⟩
 clear k0 k1 k2 g1 G1
 go_region_held3 (fun w'=>(w'.cell? ⟨w.heap.size,0,none⟩=some (.bool false)/\w'.cell? ⟨w.heap.size,1,none⟩=some (.slice ad (n+1) cap)/\w'.cell? ⟨w.heap.size,2,none⟩=some (.int .i64 e))/\Gr w w') (first|(with_reducible assumption)|(apply keep4;(with_reducible assumption);(with_reducible assumption))) (first|(go_at_call 153;(with_reducible refine(H40.out _ ?gg).mono ?_);(case gg=>exact And.right ‹_/\Gr w _›);rintro r w2 ⟨rfl,g2⟩))
 rw[HL.out]
 have hS1:=keep4 g2 hS0
 clear hS0 g2
 have k0:=hS1.1.1
 have k1:=hS1.1.2.1
 have k2:=hS1.1.2.2
 have G2:=hS1.2
 go_wp2_with (first|(go_at_call 154;(with_reducible refine(H48.out _ G2).mono ?_);rintro r w3 ⟨rfl,g3⟩;have j0:=g3.keep k0)|(go_at_call 39;(with_reducible refine(A46.out _).mono ?_);rintro r w4 ⟨rfl,rfl⟩)|(go_at_call 71;(with_reducible refine(A44 _ _).mono ?_);rintro r w4 ⟨rfl,rfl⟩)|(go_at_call 103;(with_reducible refine(A49 _ _ _).mono ?_);rintro r w4 ⟨rfl,rfl⟩))
 refine bodyPost_ret (v:=.tuple #[.float .f64 Y,.int .i64 0]) (by simp[results,Tryz.results144,go_sem]) rfl ⟨rfl,G2.trans g3⟩
set_option maxHeartbeats 3200000 in
theorem float22n (ad:Option Addr) (n cap x N Y:Nat) (e last:Int) (w:World) (dx:DyAt w true ad (n+1) cap e x) (x0:0<x) (hlast:max ((bl x:Int)+e-53) (-1074)=last)
  (H48:Hid (∀w1,Gr w w1->Calls Tryz.prog 154 #[.slice ad (n+1) cap,.int .i64 (last-e)] w1 fun r w'=>r = .returned (.int .u64 (N:Int))/\Gr w1 w'))
  (A46:Hid (∀w,Calls Tryz.prog 39 #[.float .f64 (floatOfInt FloatKind.f64 (N:Int)),.int .i64 last] w fun e w'=>e = .returned (.float .f64 Y)/\w'=w)) (hI:pinfB (absN Y)=false) :
  Calls Tryz.prog 144 #[.agg #[.bool true,.slice ad (n+1) cap,.int .i64 e]] w fun r w'=>r = .returned (.tuple #[.float .f64 (copyN Y 13830554455654793216),.int .i64 0])/\Gr w w':=by
 have R:=dx.r26
 have hle:=dx.le
 have e1:=dx.low
 have e2:=dx.high
 have hbl:bl x<=262144:=by
  obtain⟨xs,g1,g2⟩:=dx.lim
  have h3:=bl_len g2
  rw[g1.len] at h3
  omega
 have H40:Hid (∀w1,Gr w w1->Calls Tryz.prog 153 #[.slice ad (n+1) cap] w1 fun r w'=>r = .returned (.int .i64 (bl x:Int))/\Gr w1 w'):=fun w1 g=>bitLength40 ad (n+1) cap x w1 (dx.lim.gr g) x0 (by omega)
 have z1:((n:Int)+1==0)=false:=by simp;omega
 have l1 : -1074<=last:=by omega
 have l2:last<=2000000:=by omega
 have HL:Hid (max (IntKind.i64.wrap (IntKind.i64.wrap ((bl x:Int)+e)-53)) (-1074)=last):=by
  show _=_
  rw[IntKind.wrap_i64,IntKind.wrap_i64]
  omega
 clear dx hlast
 generalize (bl x:Int)=L at *
 have A44:=fun x w=>inf44 x w
 have A49:=fun x y w=>copy49 x y w
 go_enter Tryz.func144,Tryz.ntmps144
 go_wp2_with (first|(go_at_call 152;(with_reducible refine(R.out _ ((Gr.refl w).alloc _)).mono ?_);rintro r w1 ⟨rfl,g1⟩;have k0:w1.cell? ⟨w.heap.size,0,none⟩=some (.bool true):=g1.keep (by simp);have k1:w1.cell? ⟨w.heap.size,1,none⟩=some (.slice ad (n+1) cap):=g1.keep (by simp);have k2:w1.cell? ⟨w.heap.size,2,none⟩=some (.int .i64 e):=g1.keep (by simp);have G1:=((Gr.refl w).alloc (.cells #[.bool true,.slice ad (n+1) cap,.int .i64 e] 130)).trans g1))
 have hS0:(w1.drew.cell? ⟨w.heap.size,0,none⟩=some (.bool true)/\w1.drew.cell? ⟨w.heap.size,1,none⟩=some (.slice ad (n+1) cap)/\w1.drew.cell? ⟨w.heap.size,2,none⟩=some (.int .i64 e))/\Gr w w1.drew:=⟨⟨k0,k1,k2⟩,G1.drew⟩
 clear k0 k1 k2 g1 G1
 go_region_held3 (fun w'=>(w'.cell? ⟨w.heap.size,0,none⟩=some (.bool true)/\w'.cell? ⟨w.heap.size,1,none⟩=some (.slice ad (n+1) cap)/\w'.cell? ⟨w.heap.size,2,none⟩=some (.int .i64 e))/\Gr w w') (first|(with_reducible assumption)|(apply keep4;(with_reducible assumption);(with_reducible assumption))) (first|(go_at_call 153;(with_reducible refine(H40.out _ ?gg).mono ?_);(case gg=>exact And.right ‹_/\Gr w _›);rintro r w2 ⟨rfl,g2⟩))
 rw[HL.out]
 have hS1:=keep4 g2 hS0
 clear hS0 g2
 have k0:=hS1.1.1
 have k1:=hS1.1.2.1
 have k2:=hS1.1.2.2
 have G2:=hS1.2
 go_wp2_with (first|(go_at_call 154;(with_reducible refine(H48.out _ G2).mono ?_);rintro r w3 ⟨rfl,g3⟩;have j0:=g3.keep k0)|(go_at_call 39;(with_reducible refine(A46.out _).mono ?_);rintro r w4 ⟨rfl,rfl⟩)|(go_at_call 71;(with_reducible refine(A44 _ _).mono ?_);rintro r w4 ⟨rfl,rfl⟩)|(go_at_call 103;(with_reducible refine(A49 _ _ _).mono ?_);rintro r w4 ⟨rfl,rfl⟩))
 refine bodyPost_ret (v:=.tuple #[.float .f64 (copyN Y 13830554455654793216),.int .i64 0]) (by simp[results,Tryz.results144,go_sem]) rfl ⟨rfl,G2.trans g3⟩
set_option maxHeartbeats 3200000 in
theorem float22o (s:Bool) (ad:Option Addr) (n cap x N Y:Nat) (e last:Int) (w:World) (dx:DyAt w s ad (n+1) cap e x) (x0:0<x) (hlast:max ((bl x:Int)+e-53) (-1074)=last)
  (H48:Hid (∀w1,Gr w w1->Calls Tryz.prog 154 #[.slice ad (n+1) cap,.int .i64 (last-e)] w1 fun r w'=>r = .returned (.int .u64 (N:Int))/\Gr w1 w'))
  (A46:Hid (∀w,Calls Tryz.prog 39 #[.float .f64 (floatOfInt FloatKind.f64 (N:Int)),.int .i64 last] w fun e w'=>e = .returned (.float .f64 Y)/\w'=w)) (hI:pinfB (absN Y)=true) :
  Calls Tryz.prog 144 #[.agg #[.bool s,.slice ad (n+1) cap,.int .i64 e]] w fun r w'=>r = .returned (.tuple #[.float .f64 0,.int .i64 6])/\Gr w w':=by
 have R:=dx.r26
 have hle:=dx.le
 have e1:=dx.low
 have e2:=dx.high
 have hbl:bl x<=262144:=by
  obtain⟨xs,g1,g2⟩:=dx.lim
  have h3:=bl_len g2
  rw[g1.len] at h3
  omega
 have H40:Hid (∀w1,Gr w w1->Calls Tryz.prog 153 #[.slice ad (n+1) cap] w1 fun r w'=>r = .returned (.int .i64 (bl x:Int))/\Gr w1 w'):=fun w1 g=>bitLength40 ad (n+1) cap x w1 (dx.lim.gr g) x0 (by omega)
 have z1:((n:Int)+1==0)=false:=by simp;omega
 have l1 : -1074<=last:=by omega
 have l2:last<=2000000:=by omega
 have HL:Hid (max (IntKind.i64.wrap (IntKind.i64.wrap ((bl x:Int)+e)-53)) (-1074)=last):=by
  show _=_
  rw[IntKind.wrap_i64,IntKind.wrap_i64]
  omega
 clear dx hlast
 generalize (bl x:Int)=L at *
 have A44:=fun x w=>inf44 x w
 have A49:=fun x y w=>copy49 x y w
 go_enter Tryz.func144,Tryz.ntmps144
 go_wp2_with (first|(go_at_call 152;(with_reducible refine(R.out _ ((Gr.refl w).alloc _)).mono ?_);rintro r w1 ⟨rfl,g1⟩;have k0:w1.cell? ⟨w.heap.size,0,none⟩=some (.bool s):=g1.keep (by simp);have k1:w1.cell? ⟨w.heap.size,1,none⟩=some (.slice ad (n+1) cap):=g1.keep (by simp);have k2:w1.cell? ⟨w.heap.size,2,none⟩=some (.int .i64 e):=g1.keep (by simp);have G1:=((Gr.refl w).alloc (.cells #[.bool s,.slice ad (n+1) cap,.int .i64 e] 130)).trans g1))
 have hS0:(w1.drew.cell? ⟨w.heap.size,0,none⟩=some (.bool s)/\w1.drew.cell? ⟨w.heap.size,1,none⟩=some (.slice ad (n+1) cap)/\w1.drew.cell? ⟨w.heap.size,2,none⟩=some (.int .i64 e))/\Gr w w1.drew:=⟨⟨k0,k1,k2⟩,G1.drew⟩
 clear k0 k1 k2 g1 G1
 go_region_held3 (fun w'=>(w'.cell? ⟨w.heap.size,0,none⟩=some (.bool s)/\w'.cell? ⟨w.heap.size,1,none⟩=some (.slice ad (n+1) cap)/\w'.cell? ⟨w.heap.size,2,none⟩=some (.int .i64 e))/\Gr w w') (first|(with_reducible assumption)|(apply keep4;(with_reducible assumption);(with_reducible assumption))) (first|(go_at_call 153;(with_reducible refine(H40.out _ ?gg).mono ?_);(case gg=>exact And.right ‹_/\Gr w _›);rintro r w2 ⟨rfl,g2⟩))
 rw[HL.out]
 have hS1:=keep4 g2 hS0
 clear hS0 g2
 have k0:=hS1.1.1
 have k1:=hS1.1.2.1
 have k2:=hS1.1.2.2
 have G2:=hS1.2
 go_wp2_with (first|(go_at_call 154;(with_reducible refine(H48.out _ G2).mono ?_);rintro r w3 ⟨rfl,g3⟩;have j0:=g3.keep k0)|(go_at_call 39;(with_reducible refine(A46.out _).mono ?_);rintro r w4 ⟨rfl,rfl⟩)|(go_at_call 71;(with_reducible refine(A44 _ _).mono ?_);rintro r w4 ⟨rfl,rfl⟩)|(go_at_call 103;(with_reducible refine(A49 _ _ _).mono ?_);rintro r w4 ⟨rfl,rfl⟩))
 refine bodyPost_ret (v:=.tuple #[.float .f64 0,.int .i64 6]) (by simp[results,Tryz.results144,go_sem]) rfl ⟨rfl,G2.trans g3⟩
end Go.Proofs.YtanpdbadfddlcaaGreatDoor
