import Derived.Test.YtmdakhpdofepeaaU16
import Derived.Test.YtmdakhpdofepeaaU17
import Derived.Test.YtmdakhpdofepeaaU05
import Derived.Test.YtmdakhpdofepeaaU07
namespace Go.Proofs.Ytmdakhpdofepeaa
open Go.RowKit
set_option linter.unusedVariables false
set_option linter.unusedSimpArgs false
def shW (xs:List Nat) (p u:Nat):Nat:=xs.getD p 0*2 ^ u % 18446744073709551616+(if p=0 then 0 else xs.getD (p-1) 0 / 2 ^ (64-u))
theorem or_up {x y u:Nat} (hu:u<64) (hx:x<18446744073709551616) (hy:y<18446744073709551616):bits .or .u64 ((x*2 ^ u % 18446744073709551616:Nat):Int) ((y / 2 ^ (64-u):Nat):Int)=((x*2 ^ u % 18446744073709551616+y / 2 ^ (64-u):Nat):Int):=by
 have:=Nat.mod_lt (x*2 ^ u) (show 0<18446744073709551616 by omega)
 rw[shl_mod hu hx] at this ⊢
 exact or_high hu hy this
set_option maxHeartbeats 1600000 in
theorem shiftedD (ad:Option Addr) (n c p u:Nat) (xs:List Nat) (w:World) (rx:Row w ad n c xs) (hx:∀x∈xs,x<18446744073709551616) (hp:p<n) (hu:u<64) :
  Calls Try.prog 82 #[.slice ad n c,.int .i64 (p:Int),.int .i64 (u:Int)] w fun e w'=>e = .returned (.int .u64 ((shW xs p u:Nat):Int))/\w'=w:=by
 obtain⟨b,off,rfl,hb,hc⟩:=rx.cells (by omega)
 have c1:=hc p hp
 have bx:=getD_lt (by omega) hx p
 have hm:=rx.max
 have hl:=rx.le
 have hpi:(p:Int)<(n:Int):=by omega
 have e1:Hid ((((xs.getD p 0:Nat):Int)*2 ^ u % 18446744073709551616)=((xs.getD p 0*2 ^ u % 18446744073709551616:Nat):Int)):=by
  show _=_
  rw[Int.natCast_emod,Int.natCast_mul,Int.natCast_pow]
  rfl
 by_cases h0:p=0
 ·subst h0
  have hs:shW xs 0 u=xs.getD 0 0*2 ^ u % 18446744073709551616:=by unfold shW;rw[if_pos rfl,Nat.add_zero]
  rw[hs]
  clear hc rx hs
  rw[Nat.add_zero] at c1
  generalize xs.getD 0 0=x at *
  go_enter Try.func82,Try.ntmps82
  go_wp2
  go_ret
  refine⟨?_,rfl⟩
  rw[<-e1.out]
  rfl
 ·have c2:=hc (p-1) (by omega)
  have by0:=getD_lt (by omega) hx (p-1)
  have hs:shW xs p u=xs.getD p 0*2 ^ u % 18446744073709551616+xs.getD (p-1) 0 / 2 ^ (64-u):=by unfold shW;rw[if_neg h0]
  rw[hs]
  have E:=or_up hu bx by0
  clear hc rx hs
  generalize xs.getD p 0=x at *
  generalize xs.getD (p-1) 0=y at *
  have e2:(y:Int) / 2 ^ (64-u)=((y / 2 ^ (64-u):Nat):Int):=by
   rw[Int.natCast_ediv,Int.natCast_pow]
   rfl
  have E':Hid (bits .or .u64 ((x:Int)*2 ^ u % 18446744073709551616) ((y:Int) / 2 ^ (64-u))=((x*2 ^ u % 18446744073709551616+y / 2 ^ (64-u):Nat):Int)):=by
   show _=_
   rw[e1.out,e2]
   exact E
  clear E e2
  go_enter Try.func82,Try.ntmps82
  go_wp2
  go_ret
  refine⟨?_,rfl⟩
  rw[<-E'.out]
  rfl
theorem shW_lt {xs:List Nat} {p u:Nat} (hu:u<64) (hx:∀x∈xs,x<18446744073709551616):shW xs p u<18446744073709551616:=by
 have bx:=getD_lt (by omega) hx p
 have e:(18446744073709551616:Nat)=2 ^ (64-u)*2 ^ u:=by rw[<-Nat.pow_add,show 64-u+u=64 by omega]
 have h1:(xs.getD p 0 % 2 ^ (64-u)+1)*2 ^ u<=2 ^ (64-u)*2 ^ u:=Nat.mul_le_mul_right _ (Nat.mod_lt _ (Nat.two_pow_pos _))
 rw[<-e,Nat.add_mul,Nat.one_mul,<-shl_mod hu bx] at h1
 unfold shW
 split
 ·have:=Nat.two_pow_pos u;omega
 ·have:=shr_lt hu (getD_lt (by omega) hx (p-1));omega
theorem guess_num {ys ps:List Nat} {T u:Nat} (hy:∀x∈ys,x<18446744073709551616) (hp:∀x∈ps,x<18446744073709551616) (ly:ys.length=T+1) (lp:ps.length=T+2) (h0:0<ys.getD T 0) (hu:u=64-bl (ys.getD T 0)) (hU:nv 18446744073709551616 ps<nv 18446744073709551616 ys*18446744073709551616) :
  u<64/\shW ys T u=nv 18446744073709551616 ys*2 ^ u / 18446744073709551616 ^ T/\shW ps (T+1) u*18446744073709551616+shW ps T u=nv 18446744073709551616 ps*2 ^ u / 18446744073709551616 ^ T/\9223372036854775808<=shW ys T u:=by
 have bv:=getD_lt (by omega) hy T
 have hb:=bl_posW h0
 have hu64:u<64:=by omega
 obtain⟨n1,n2⟩:=norm_lt bv h0
 rw[<-hu] at n1 n2
 have a1:=shl_at rfl hy (p:=T) (u:=u) (by omega) hu64 _ rfl
 rw[List.take_of_length_le (by omega)] at a1
 have e1:shW ys T u=nv 18446744073709551616 ys*2 ^ u / 18446744073709551616 ^ T:=by
  rw[a1];unfold shW;rw[Nat.mod_eq_of_lt n1]
 have a2:=shl_at rfl hp (p:=T+1) (u:=u) (by omega) hu64 _ rfl
 rw[List.take_of_length_le (by omega),if_neg (by omega),show T+1-1=T by omega] at a2
 have a3:=shl_at rfl hp (p:=T) (u:=u) (by omega) hu64 _ rfl
 have hVW:nv 18446744073709551616 ys*2 ^ u<18446744073709551616 ^ T*18446744073709551616:=by
  have hT:0<18446744073709551616 ^ T:=Nat.pow_pos (by omega)
  have l1:=shW_lt (xs:=ys) (p:=T) hu64 hy
  rw[e1] at l1
  have:=(Nat.div_lt_iff_lt_mul hT).1 l1
  rw[Nat.mul_comm (18446744073709551616 ^ T)];exact this
 have hPW:nv 18446744073709551616 ps*2 ^ u / 18446744073709551616 ^ (T+1)<18446744073709551616:=by
  refine(Nat.div_lt_iff_lt_mul (Nat.pow_pos (by omega))).2 ?_
  have b1:nv 18446744073709551616 ps*2 ^ u<nv 18446744073709551616 ys*18446744073709551616*2 ^ u:=Nat.mul_lt_mul_of_pos_right hU (Nat.two_pow_pos u)
  rw[Nat.mul_right_comm] at b1
  rw[Nat.pow_succ]
  omega
 have n3:ps.getD (T+1) 0*2 ^ u<18446744073709551616:=by rw[a2] at hPW;exact Nat.lt_of_le_of_lt (Nat.le_add_right _ _) hPW
 have e2:shW ps (T+1) u=ps.getD (T+1) 0*2 ^ u+ps.getD T 0 / 2 ^ (64-u):=by
  unfold shW;rw[Nat.mod_eq_of_lt n3,if_neg (by omega),show T+1-1=T by omega]
 have p1:=shl_parts hu64 (getD_lt (by omega) hp T)
 have e3:nv 18446744073709551616 ps*2 ^ u / 18446744073709551616 ^ T=nv 18446744073709551616 (ps.take (T+1))*2 ^ u / 18446744073709551616 ^ T+18446744073709551616*(ps.getD (T+1) 0*2 ^ u):=by
  have c1:=nv_take_succ 18446744073709551616 ps (T+1)
  rw[List.take_of_length_le (by omega)] at c1
  rw[c1,Nat.add_mul,Nat.pow_succ]
  rw[show 18446744073709551616 ^ T*18446744073709551616*ps.getD (T+1) 0*2 ^ u=18446744073709551616 ^ T*(18446744073709551616*(ps.getD (T+1) 0*2 ^ u)) by ac_rfl,Nat.add_mul_div_left _ _ (Nat.pow_pos (by omega))]
 refine⟨hu64,e1,?_,?_⟩
 ·rw[e3,a3,e2]
  unfold shW
  omega
 ·rw[e1,a1];omega
set_option maxHeartbeats 1600000 in
theorem guessedD (adp ad:Option Addr) (cp c T:Nat) (ps ys:List Nat) (w:World) (rp:Row w adp (T+2) cp ps) (ry:Row w ad (T+1) c ys) (hy:∀x∈ys,x<18446744073709551616) (hp:∀x∈ps,x<18446744073709551616) (h0:0<ys.getD T 0) (hU:nv 18446744073709551616 ps<nv 18446744073709551616 ys*18446744073709551616) :
  Calls Try.prog 65 #[.slice adp ((T+1:Nat)+1) cp,.slice ad (T+1:Nat) c] w fun e w'=>∃g:Nat,e = .returned (.int .u64 (g:Int))/\g<18446744073709551616/\Hid (nv 18446744073709551616 ps / nv 18446744073709551616 ys<=g/\g<=nv 18446744073709551616 ps / nv 18446744073709551616 ys+2)/\Gr w w':=by
 obtain⟨u,hu⟩:∃u,u=64-bl (ys.getD T 0):=⟨_,rfl⟩
 obtain⟨hu64,e1,e2,n1⟩:=guess_num hy hp ry.len rp.len h0 hu hU
 have l1:=shW_lt (p:=T) hu64 hy
 have l2:=shW_lt (p:=T+1) hu64 hp
 have l3:=shW_lt (p:=T) hu64 hp
 have hV:0<nv 18446744073709551616 ys:=by
  have:=nv_ge 18446744073709551616 (xs:=ys) (i:=T) (by rw[ry.len];omega)
  have h2:0<18446744073709551616 ^ T*ys.getD T 0:=Nat.mul_pos (Nat.pow_pos (by omega)) h0
  omega
 have G:=fun g hg=>guess_both (W:=18446744073709551616) rfl hV hU e1 e2 n1 (g:=g) hg
 have S1:Hid (∀w1,Gr w w1->Calls Try.prog 82 #[.slice ad (T+1) c,.int .i64 (T:Int),.int .i64 (u:Int)] w1 fun e w'=>e = .returned (.int .u64 ((shW ys T u:Nat):Int))/\w'=w1):=fun w1 g=>shiftedD ad (T+1) c T u ys w1 (ry.gr g) hy (by omega) hu64
 have S2:Hid (∀w1,Gr w w1->Calls Try.prog 82 #[.slice adp (T+1+1) cp,.int .i64 ((T:Int)+1),.int .i64 (u:Int)] w1 fun e w'=>e = .returned (.int .u64 ((shW ps (T+1) u:Nat):Int))/\w'=w1):=fun w1 g=>shiftedD adp (T+2) cp (T+1) u ps w1 (rp.gr g) hp (by omega) hu64
 have S3:Hid (∀w1,Gr w w1->Calls Try.prog 82 #[.slice adp (T+1+1) cp,.int .i64 (T:Int),.int .i64 (u:Int)] w1 fun e w'=>e = .returned (.int .u64 ((shW ps T u:Nat):Int))/\w'=w1):=fun w1 g=>shiftedD adp (T+2) cp T u ps w1 (rp.gr g) hp (by omega) hu64
 obtain⟨b,off,hpe,hb,hc⟩:=ry.cells (by omega)
 have c1:=hc T (by omega)
 have bv:=getD_lt (by omega) hy T
 have hm:=ry.max
 have hl:=ry.le
 have hm2:=rp.max
 have hl2:=rp.le
 generalize nv 18446744073709551616 ps / nv 18446744073709551616 ys=q at *
 generalize shW ys T u=hd at *
 generalize shW ps (T+1) u=hi at *
 generalize shW ps T u=lo at *
 have d1:(hi*18446744073709551616+lo) / 18446744073709551616=hi:=by omega
 rw[d1] at G
 generalize ys.getD T 0=v at *
 have LZ:Hid (∀w1,Calls Try.prog 57 #[.int .u64 (v:Int)] w1 fun e w'=>e = .returned (.int .i64 (u:Int))/\w'=w1):=fun w1=>by
  refine(Try.bits_LeadingZeros64 v w1 (by omega) (by omega)).mono ?_
  rintro e w' ⟨rfl,rfl⟩
  refine⟨?_,rfl⟩
  rw[Int.toNat_natCast,bitLen_bl (by omega),hu]
  congr 2
  have:=bl64 bv
  omega
 subst hpe
 clear hc hy hp hU rp ry e1 e2 hV hu d1
 have G1:=hide G
 clear G
 by_cases hlt:hi<hd
 ·have K:=G1.out ((hi*18446744073709551616+lo) / hd) (by rw[if_pos hlt])
  have D:=hide (fun w1=>div64W hi lo hd hlt l1 l3 w1 _ _ rfl rfl)
  have bg:(hi*18446744073709551616+lo) / hd<18446744073709551616:=(Nat.div_lt_iff_lt_mul (by omega)).2 (by omega)
  have K':=hide K
  generalize (hi*18446744073709551616+lo) / hd=g at *
  generalize (hi*18446744073709551616+lo) % hd=r at *
  have i1:¬(hd:Int)<=(hi:Int):=by omega
  clear K G1
  go_enter Try.func65,Try.ntmps65
  go_wp2_with (first|(go_at_call 57;(with_reducible refine(LZ.out _).mono ?_);rintro e w' ⟨rfl,rfl⟩)|(go_at_call 82;(with_reducible refine(S1.out _ (Gr.refl _)).mono ?_);rintro e w' ⟨rfl,rfl⟩)|(go_at_call 82;(with_reducible refine(S2.out _ (Gr.refl _)).mono ?_);rintro e w' ⟨rfl,rfl⟩)|(go_at_call 82;(with_reducible refine(S3.out _ (Gr.refl _)).mono ?_);rintro e w' ⟨rfl,rfl⟩)|(go_at_call 83;(with_reducible refine(D.out _).mono ?_);rintro e w1 ⟨rfl,g1⟩))
  go_ret
  exact⟨g,rfl,bg,K',g1⟩
 ·have K':=hide (G1.out 18446744073709551615 (by rw[if_neg hlt]))
  have i1:(hd:Int)<=(hi:Int):=by omega
  clear G1
  go_enter Try.func65,Try.ntmps65
  go_wp2_with (first|(go_at_call 57;(with_reducible refine(LZ.out _).mono ?_);rintro e w' ⟨rfl,rfl⟩)|(go_at_call 82;(with_reducible refine(S1.out _ (Gr.refl _)).mono ?_);rintro e w' ⟨rfl,rfl⟩)|(go_at_call 82;(with_reducible refine(S2.out _ (Gr.refl _)).mono ?_);rintro e w' ⟨rfl,rfl⟩)|(go_at_call 82;(with_reducible refine(S3.out _ (Gr.refl _)).mono ?_);rintro e w' ⟨rfl,rfl⟩))
  go_ret
  exact⟨18446744073709551615,rfl,by omega,K',Gr.refl _⟩
theorem getD_zeros (xs:List Nat) (k j:Nat):(xs++List.replicate k 0).getD j 0=xs.getD j 0:=by
 rw[List.getD_eq_getElem?_getD,List.getD_eq_getElem?_getD]
 by_cases h:j<xs.length
 ·rw[List.getElem?_append_left h]
 ·rw[List.getElem?_append_right (by omega),List.getElem?_eq_none (l:=xs) (by omega)]
  by_cases h2:j-xs.length<k
  ·rw[List.getElem?_replicate_of_lt h2]
   rfl
  ·rw[List.getElem?_eq_none (by simp;omega)]
theorem headN {xs:List Nat} {p u:Nat} (hx:∀x∈xs,x<18446744073709551616) (hl:xs.length<=p+1) (hu:u<64) (hX:nv 18446744073709551616 xs*2 ^ u<18446744073709551616 ^ (p+1)):shW xs p u=nv 18446744073709551616 xs*2 ^ u / 18446744073709551616 ^ p:=by
 have h1:=shl_at (xs:=xs++List.replicate (p+1-xs.length) 0) (W:=18446744073709551616) (p:=p) (u:=u) rfl (by
  intro x h
  rcases List.mem_append.1 h with h|h
  ·exact hx x h
  ·rw[(List.mem_replicate.1 h).2];omega) (by simp;omega) hu _ rfl
 rw[List.take_of_length_le (by simp;omega),Gd.nv_zeros,getD_zeros,getD_zeros] at h1
 have h2:nv 18446744073709551616 xs*2 ^ u / 18446744073709551616 ^ p<18446744073709551616:=by
  refine(Nat.div_lt_iff_lt_mul (Nat.pow_pos (by omega))).2 ?_
  rw[Nat.pow_succ,Nat.mul_comm] at hX
  rw[Nat.mul_comm (18446744073709551616:Nat)]
  rw[Nat.mul_comm (2 ^ u)] at hX
  exact hX
 rw[h1] at h2 ⊢
 unfold shW
 rw[Nat.mod_eq_of_lt (by omega)]
set_option maxHeartbeats 4000000 in
theorem headG (ad:Option Addr) (n c p u:Nat) (xs:List Nat) (w:World) (rx:Row w ad n c xs) (hx:∀x∈xs,x<18446744073709551616) (hp:p<=4398046511104) (hn:n<=4398046511104) (hu:u<64) :
  Calls Try.prog 58 #[.slice ad n c,.int .i64 (p:Int),.int .i64 (u:Int)] w fun e w'=>e = .returned (.int .u64 ((shW xs p u:Nat):Int))/\w'=w:=by
 have hlx:=rx.len
 have hl:=rx.le
 have hm:=rx.max
 have hz:∀j,n<=j->xs.getD j 0=0:=fun j h=>by rw[List.getD_eq_getElem?_getD,List.getElem?_eq_none (by omega)];rfl
 have e1:∀x:Nat,(((x:Nat):Int)*2 ^ u % 18446744073709551616)=((x*2 ^ u % 18446744073709551616:Nat):Int):=fun x=>by
  rw[Int.natCast_emod,Int.natCast_mul,Int.natCast_pow]
  rfl
 have e2:∀y:Nat,(y:Int) / 2 ^ (64-u)=((y / 2 ^ (64-u):Nat):Int):=fun y=>by
  rw[Int.natCast_ediv,Int.natCast_pow]
  rfl
 by_cases hpn:p<n
 ·have hpi:(p:Int)<(n:Int):=by omega
  obtain⟨b,off,rfl,hb,hc⟩:=rx.cells (by omega)
  have c1:=hc p hpn
  have bx:=getD_lt (by omega) hx p
  by_cases h0:p=0
  ·subst h0
   have hs:shW xs 0 u=xs.getD 0 0*2 ^ u % 18446744073709551616:=by unfold shW;rw[if_pos rfl,Nat.add_zero]
   rw[hs]
   have E1:=hide (e1 (xs.getD 0 0))
   clear hc rx hs e1 e2 hz
   rw[Nat.add_zero] at c1
   generalize xs.getD 0 0=x at *
   go_enter Try.func58,Try.ntmps58
   go_wp2
   go_ret
   refine⟨?_,rfl⟩
   rw[<-E1.out]
   rfl
  ·have c2:=hc (p-1) (by omega)
   have by0:=getD_lt (by omega) hx (p-1)
   have hs:shW xs p u=xs.getD p 0*2 ^ u % 18446744073709551616+xs.getD (p-1) 0 / 2 ^ (64-u):=by unfold shW;rw[if_neg h0]
   rw[hs]
   have E:=or_up hu bx by0
   have hp0:(0:Int)<(p:Int):=by omega
   have hple:(p:Int)<=(n:Int):=by omega
   have E':Hid (bits .or .u64 ((xs.getD p 0:Int)*2 ^ u % 18446744073709551616) ((xs.getD (p-1) 0:Int) / 2 ^ (64-u))=((xs.getD p 0*2 ^ u % 18446744073709551616+xs.getD (p-1) 0 / 2 ^ (64-u):Nat):Int)):=by
    show _=_
    rw[e1,e2]
    exact E
   clear hc rx hs E e1 e2 hz
   generalize xs.getD p 0=x at *
   generalize xs.getD (p-1) 0=y at *
   go_enter Try.func58,Try.ntmps58
   go_wp2
   go_ret
   refine⟨?_,rfl⟩
   rw[<-E'.out]
   rfl
 ·have hpi:¬(p:Int)<(n:Int):=by omega
  have z0:=hz p (by omega)
  by_cases h0:0<p/\p=n
  ·obtain⟨h1,rfl⟩:=h0
   obtain⟨b,off,rfl,hb,hc⟩:=rx.cells (by omega)
   have c2:=hc (p-1) (by omega)
   have by0:=getD_lt (by omega) hx (p-1)
   have hs:shW xs p u=xs.getD (p-1) 0 / 2 ^ (64-u):=by unfold shW;rw[if_neg (by omega),z0];simp
   rw[hs]
   have hp0:(0:Int)<(p:Int):=by omega
   have hple:(p:Int)<=(p:Int):=by omega
   have E:=or_up (x:=0) hu (by omega) by0
   have E':Hid (bits .or .u64 0 ((xs.getD (p-1) 0:Int) / 2 ^ (64-u))=(xs.getD (p-1) 0:Int) / 2 ^ (64-u)):=by
    show _=_
    rw[e2]
    simpa using E
   clear hc rx hs E e1 e2 hz z0
   generalize xs.getD (p-1) 0=y at *
   go_enter Try.func58,Try.ntmps58
   go_wp2
   go_ret
   refine⟨?_,rfl⟩
   exact congrArg (fun z=>Ending.returned (Value.int .u64 z)) E'.out
  ·have hs:shW xs p u=0:=by
    unfold shW
    rw[z0]
    by_cases hp0:p=0
    ·rw[if_pos hp0];simp
    ·rw[if_neg hp0,hz (p-1) (by omega)];simp
   rw[hs]
   clear rx hs e1 e2 hz z0
   by_cases hp0:p=0
   ·subst hp0
    have hq:¬((0:Int)<((0:Nat):Int)):=by omega
    go_enter Try.func58,Try.ntmps58
    go_wp2
    go_ret
    exact⟨rfl,rfl⟩
   ·have hq:(0:Int)<(p:Int):=by omega
    have hq2:¬(p:Int)<=(n:Int):=by omega
    go_enter Try.func58,Try.ntmps58
    go_wp2
    go_ret
    exact⟨rfl,rfl⟩
set_option maxHeartbeats 2000000 in
theorem sumG (a u b v c:Nat) (w:World) (ha:a<18446744073709551616) (hb:b<18446744073709551616) (hu:u<4294967296) (hv:v<4294967296) (hc:c<8589934592) :
  Calls Try.prog 78 #[.int .u64 (a:Int),.int .u64 (u:Int),.int .u64 (b:Int),.int .u64 (v:Int),.int .u64 (c:Int)] w fun e w'=>∃lo hi:Nat,e = .returned (.tuple #[.int .u64 (lo:Int),.int .u64 (hi:Int)])/\a*u+b*v+c=lo+18446744073709551616*hi/\lo<18446744073709551616/\w'=w:=by
 have M1:=fun w=>Try.bits_Mul64 a u ha (by omega) w
 have M2:=fun w=>Try.bits_Mul64 b v hb (by omega) w
 have k1:a*u<=18446744073709551615*4294967295:=Nat.mul_le_mul (by omega) (by omega)
 have k2:b*v<=18446744073709551615*4294967295:=Nat.mul_le_mul (by omega) (by omega)
 generalize a*u=m at *
 generalize b*v=n at *
 obtain⟨hi,hhi⟩:∃hi,hi=m / 18446744073709551616:=⟨_,rfl⟩
 obtain⟨lo,hlo⟩:∃lo,lo=m % 18446744073709551616:=⟨_,rfl⟩
 obtain⟨hi2,hhi2⟩:∃hi,hi=n / 18446744073709551616:=⟨_,rfl⟩
 obtain⟨lo2,hlo2⟩:∃lo,lo=n % 18446744073709551616:=⟨_,rfl⟩
 rw[<-hhi,<-hlo] at M1
 rw[<-hhi2,<-hlo2] at M2
 have M1':Hid (∀w1,Calls Try.prog 84 #[.int .u64 (a:Int),.int .u64 (u:Int)] w1 fun e w'=>e = .returned (.tuple #[.int .u64 (hi:Int),.int .u64 (lo:Int)])/\w'=w1):=M1
 have M2':Hid (∀w1,Calls Try.prog 84 #[.int .u64 (b:Int),.int .u64 (v:Int)] w1 fun e w'=>e = .returned (.tuple #[.int .u64 (hi2:Int),.int .u64 (lo2:Int)])/\w'=w1):=M2
 have A1:=fun w=>add64N lo lo2 0 (by omega) w
 obtain⟨l1,hl1⟩:∃l1,l1=(lo+lo2+0) % 18446744073709551616:=⟨_,rfl⟩
 obtain⟨m1,hm1⟩:∃m1,m1=(lo+lo2+0) / 18446744073709551616:=⟨_,rfl⟩
 rw[<-hl1,<-hm1] at A1
 have A1':Hid (∀w,(callFunc 73 #[.int .u64 (lo:Int),.int .u64 (lo2:Int),.int .u64 0]).run Try.prog w = .ok (.value (.tuple #[.int .u64 (l1:Int),.int .u64 (m1:Int)])) w):=A1
 have A2:=fun w=>add64N l1 c 0 (by omega) w
 obtain⟨l2,hl2⟩:∃l2,l2=(l1+c+0) % 18446744073709551616:=⟨_,rfl⟩
 obtain⟨m2,hm2⟩:∃m2,m2=(l1+c+0) / 18446744073709551616:=⟨_,rfl⟩
 rw[<-hl2,<-hm2] at A2
 have A2':Hid (∀w,(callFunc 73 #[.int .u64 (l1:Int),.int .u64 (c:Int),.int .u64 0]).run Try.prog w = .ok (.value (.tuple #[.int .u64 (l2:Int),.int .u64 (m2:Int)])) w):=A2
 have KEY:Hid (m+n+c=l2+18446744073709551616*(hi+hi2+m1+m2)/\l2<18446744073709551616):=by show _/\_;omega
 have b1:hi+hi2+m1+m2<18446744073709551616:=by omega
 clear M1 M2 A1 A2 hhi hlo hhi2 hlo2 hl1 hm1 hl2 hm2 k1 k2
 go_enter Try.func78,Try.ntmps78
 have tok1:True:=trivial
 go_wp2_with (first|(simp only[A1'.out])|(simp only[A2'.out])|(go_at_call 84;have _t:=tok1;with_reducible refine(M1'.out _).mono ?_;rintro e w' ⟨rfl,rfl⟩;clear tok1)|(go_at_call 84;with_reducible refine(M2'.out _).mono ?_;rintro e w' ⟨rfl,rfl⟩))
 go_ret2
 exact⟨l2,hi+hi2+m1+m2,by go_num,KEY.out.1,KEY.out.2,rfl⟩
end Go.Proofs.Ytmdakhpdofepeaa
