import Derived.Test.YtmdakhpdofepeaaU06
import Derived.Test.YtmdakhpdofepeaaU05
namespace Go.Proofs.Ytmdakhpdofepeaa.Gd
set_option linter.unusedVariables false
def fv (f:Nat->Nat):Nat->Nat
 | 0=>0
 | i+1=>fv f i+18446744073709551616 ^ i*f i
theorem fv_nv (xs:List Nat) (i:Nat):fv (fun j=>xs.getD j 0) i=nv 18446744073709551616 (xs.take i):=by
 induction i with
 | zero=>simp[fv,nv]
 | succ i ih=>rw[fv,ih,nv_take_succ]
theorem fv_off (f:Nat->Nat) (h:∀j,f j<18446744073709551616) (i:Nat):fv (fun j=>18446744073709551615-f j) i+fv f i+1=18446744073709551616 ^ i:=by
 induction i with
 | zero=>simp[fv]
 | succ i ih =>
  have e:18446744073709551616 ^ i*(18446744073709551615-f i)+18446744073709551616 ^ i*f i+18446744073709551616 ^ i=18446744073709551616 ^ (i+1):=by
   rw[<-Nat.mul_add,Nat.pow_succ]
   have:=h i
   have e2:18446744073709551615-f i+f i=18446744073709551615:=by omega
   rw[e2]
   omega
  simp only[fv]
  omega
structure Mx (u v off:Nat) (ps qs:Nat->Nat) (rs zs:List Nat) (i up N:Nat):Prop where
 len:zs.length=N
 lt:∀z∈zs,z<18446744073709551616
 val:nv 18446744073709551616 (zs.take i)+18446744073709551616 ^ i*up=u*fv ps i+v*fv qs i+off
 rest:∀j,i<=j->zs.getD j 0=rs.getD j 0
 bd:up<8589934592
theorem Mx.start {u v off:Nat} {ps qs:Nat->Nat} {rs:List Nat} {N:Nat} (hl:rs.length=N) (h:∀z∈rs,z<18446744073709551616) (ho:off<4294967296):Mx u v off ps qs rs rs 0 off N:=
 ⟨hl,h,by simp[nv,fv],fun _ _=>rfl,by omega⟩
theorem Mx.next {u v off:Nat} {ps qs:Nat->Nat} {rs zs:List Nat} {i up N lo hi p q:Nat} (h:Mx u v off ps qs rs zs i up N) (hi':i<N) (hu:u<4294967296) (hv:v<4294967296) (hp:ps i=p) (hq:qs i=q) (bp:p<18446744073709551616) (bq:q<18446744073709551616)
  (e:p*u+q*v+up=lo+18446744073709551616*hi) (bl:lo<18446744073709551616):Mx u v off ps qs rs (zs.set i lo) (i+1) hi N:=by
 have h1:=h.val
 have hb:=h.bd
 refine⟨by rw[List.length_set];exact h.len,?_,?_,?_,?_⟩
 ·intro z hz
  rcases List.mem_or_eq_of_mem_set hz with h9|rfl
  ·exact h.lt z h9
  ·exact bl
 ·rw[nv_take_succ,List.take_set_of_le (Nat.le_refl i)]
  have e0:(zs.set i lo).getD i 0=lo:=by
   rw[List.getD_eq_getElem?_getD,List.getElem?_set_self (by rw[h.len];exact hi')]
   rfl
  rw[e0]
  simp only[fv,hp,hq,Nat.pow_succ]
  have e2:18446744073709551616 ^ i*(p*u+q*v+up)=18446744073709551616 ^ i*(lo+18446744073709551616*hi):=by rw[e]
  generalize 18446744073709551616 ^ i=P at *
  generalize nv 18446744073709551616 (zs.take i)=Z at *
  generalize fv ps i=a at *
  generalize fv qs i=b at *
  grind
 ·intro j hj
  have:=h.rest j (by omega)
  rw[<-this,List.getD_eq_getElem?_getD,List.getD_eq_getElem?_getD,List.getElem?_set_ne (by omega)]
 ·have a1:p*u<=18446744073709551615*4294967295:=Nat.mul_le_mul (by omega) (by omega)
  have a2:q*v<=18446744073709551615*4294967295:=Nat.mul_le_mul (by omega) (by omega)
  omega
theorem Mx.sum {u v:Nat} {xs ys rs zs:List Nat} {up N:Nat} (h:Mx u v 0 (fun j=>xs.getD j 0) (fun j=>ys.getD j 0) rs zs N up N) (hx:xs.length=N) (hy:ys.length=N) :
  nv 18446744073709551616 (zs++[up])=u*nv 18446744073709551616 xs+v*nv 18446744073709551616 ys:=by
 have h1:=h.val
 rw[fv_nv,fv_nv,nv_take_all _ _ _ (by rw[h.len];omega),nv_take_all _ _ _ (by omega),nv_take_all _ _ _ (by omega)] at h1
 rw[nv_snoc,h.len]
 omega
theorem Mx.gapA {u v:Nat} {xs ys rs zs:List Nat} {up N:Nat} (h:Mx u v v (fun j=>xs.getD j 0) (fun j=>18446744073709551615-ys.getD j 0) rs zs N up N) (hx:xs.length=N) (hy:ys.length=N) (ly:∀y∈ys,y<18446744073709551616)
  (hle:v*nv 18446744073709551616 ys<=u*nv 18446744073709551616 xs) :
  v<=up/\nv 18446744073709551616 (zs++[up-v])+v*nv 18446744073709551616 ys=u*nv 18446744073709551616 xs:=by
 have h1:=h.val
 have h2:=fv_off (fun j=>ys.getD j 0) (fun j=>getD_lt (by omega) ly j) N
 rw[fv_nv,nv_take_all _ _ _ (by omega)] at h2
 have hz:=nv_lt 18446744073709551616 zs h.lt
 rw[fv_nv,nv_take_all _ _ _ (by rw[h.len];omega),nv_take_all _ _ _ (by omega)] at h1
 rw[h.len] at hz
 generalize fv (fun j=>18446744073709551615-ys.getD j 0) N=F at *
 generalize nv 18446744073709551616 ys=Y at *
 generalize nv 18446744073709551616 xs=X at *
 have e2:v*(F+Y+1)=v*18446744073709551616 ^ N:=by rw[h2]
 rw[nv_snoc,h.len]
 generalize 18446744073709551616 ^ N=P at *
 generalize nv 18446744073709551616 zs=Z at *
 have e3:v*(F+Y+1)=v*F+v*Y+v:=by rw[Nat.mul_add,Nat.mul_add,Nat.mul_one]
 have hle2:v<=up:=by
  refine Nat.not_lt.1 fun hlt=>?_
  have:P*(up+1)<=P*v:=Nat.mul_le_mul_left _ hlt
  rw[Nat.mul_add,Nat.mul_one,Nat.mul_comm P v] at this
  omega
 refine⟨hle2,?_⟩
 have e4:P*up=P*(up-v)+v*P:=by rw[Nat.mul_comm v P,<-Nat.mul_add];congr 1;omega
 omega
theorem nv_zeros (xs:List Nat) (k:Nat):nv 18446744073709551616 (xs++List.replicate k 0)=nv 18446744073709551616 xs:=by
 induction k with
 | zero=>simp
 | succ k ih=>rw[List.replicate_succ',<-List.append_assoc,nv_snoc,ih,Nat.mul_zero,Nat.add_zero]
end Go.Proofs.Ytmdakhpdofepeaa.Gd
namespace Go.Proofs.Ytmdakhpdofepeaa
open Go.RowKit
set_option linter.unusedVariables false
set_option linter.unusedSimpArgs false
theorem trimG (ad:Option Addr) (n cap:Nat) (xs:List Nat) (w:World) (h:Row w ad n cap xs) :
  Calls Try.prog 79 #[.slice ad n cap] w fun e w'=>∃k,e = .returned (.slice ad k cap)/\k<=n/\(∀i,k<=i->i<n->xs.getD i 0=0)/\(k=0\/xs.getD (k-1) 0≠0)/\w'=w:=by
 have h1:=h.le
 have h2:=h.max
 have H:Hid (Row w ad n cap xs):=h
 clear h
 go_enter Try.func79,Try.ntmps79
 go_wp2
 go_loop [3] (fun t=>∃k:Nat,k<=n/\t = .int .i64 k/\Hid (∀i,k<=i->i<n->xs.getD i 0=0)) (fun t=>(intOf t).toNat)
 case atStart=>exact⟨n,Nat.le_refl _,rfl,fun i a b=>absurd b (by omega)⟩
 case round =>
  obtain⟨k,hk,rfl,hz⟩:=hrel
  by_cases hk0:k=0
  ·subst hk0
   go_wp2
   go_ret
   exact⟨0,rfl,by omega,hz.out,Or.inl rfl,rfl⟩
  ·obtain⟨b,off,rfl,hb,hc⟩:=H.out.cells (by omega)
   have hcell:=hc (k-1) (by omega)
   clear hc
   by_cases hx:xs.getD (k-1) 0=0
   ·rw[hx] at hcell
    go_wp2
    go_round
    case rel=>exact⟨k-1,by omega,by go_num,fun i a b=>if e:i=k-1 then e ▸ hx else hz.out i (by omega) b⟩
    case measure=>simp[intOf];omega
   ·have HX:Hid (xs.getD (k-1) 0≠0):=hx
    generalize hv:xs.getD (k-1) 0=v at hcell hx
    have hv0:(((v:Nat):Int)==0)=false:=by simp;omega
    clear hv hx
    go_wp2
    go_ret
    exact⟨k,rfl,hk,hz.out,Or.inr HX.out,rfl⟩
theorem trimGO {w w1:World} {B N C v:Nat} {ad:Option Addr} {zs:List Nat} (hown:w.ownsRow B 52 1 (.slice ad N C) N (u64s zs)) (hz:∀z∈zs,z<18446744073709551616) (hv:nv 18446744073709551616 zs=v) (gr:Gr w w1) :
  Calls Try.prog 79 #[.slice ad N C] w1 fun e w'=>∃j,e = .returned (.slice ad j C)/\j<=N/\Lim w ad j C 18446744073709551616 v/\Fresh B w ad j C/\w'=w1:=by
 obtain⟨ad',cap',hEq,hrow⟩:=Row.of_owns hown
 simp only[Value.slice.injEq,true_and] at hEq
 obtain⟨rfl,rfl⟩:=hEq
 refine(trimG _ _ _ zs w1 (hrow.gr gr)).mono ?_
 rintro e w' ⟨j,rfl,hj,h0,ht,rfl⟩
 refine⟨j,rfl,hj,?_,Fresh.takeG hown hj,rfl⟩
 have:=trim_out hrow hz hj h0 ht
 rw[hv] at this
 exact this
end Go.Proofs.Ytmdakhpdofepeaa
namespace Go.Proofs.Ytmdakhpdofepeaa
open Go.RowKit
set_option linter.unusedVariables false
end Go.Proofs.Ytmdakhpdofepeaa
