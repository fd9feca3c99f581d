import Derived.Test.YtfbgckgemfkioaaW14
import Derived.Test.YtfbgckgemfkioaaW01
import Derived.Laws.AppendOwnNone
import Derived.LoopTactic
import Derived.Deep.RegionLaw
import Derived.Deep.QuietTactic
import Derived.BigQuiet
import Derived.Deep.RegionHeld3
namespace Go.Proofs.Ytfbgckgemfkioaa
open Go.RowKit
set_option linter.unusedVariables false
set_option linter.unusedSimpArgs false
theorem bit_step (Q i:Nat):Q % 2 ^ (i+1)=Q % 2 ^ i+2 ^ i*(Q / 2 ^ i % 2):=by
 rw[Nat.pow_succ,Nat.mod_mul]
theorem bit_at {xs:List Nat} (hx:∀x∈xs,x<18446744073709551616) (q r:Nat) (hr:r<64):nv 18446744073709551616 xs / 2 ^ (64*q+r) % 2=xs.getD q 0 / 2 ^ r % 2:=by
 rw[nv_digit hx q,Nat.pow_add,<-pow64,<-Nat.div_div_eq_div_mul]
 generalize nv 18446744073709551616 xs / 18446744073709551616 ^ q=Q
 have e:(18446744073709551616:Nat)=2 ^ r*2 ^ (64-r):=by rw[<-Nat.pow_add,show r+(64-r)=64 by omega]
 rw[e,Nat.mod_mul_right_div_self,Nat.mod_mod_of_dvd]
 exact⟨2 ^ (63-r),by rw[show 64-r=(63-r)+1 by omega,Nat.pow_succ,Nat.mul_comm]⟩
theorem two_tab:(List.range 31).all (fun i=>decide (wrap64 (2 ^ i)=(2:Int) ^ i/\(2:Int) ^ i<=1073741824/\(1:Int)<=2 ^ i))=true:=by decide +kernel
theorem two_at {i:Nat} (h:i<31):wrap64 (2 ^ i)=(2:Int) ^ i/\(2:Int) ^ i<=1073741824/\(1:Int)<=2 ^ i:=by
 have t:=two_tab
 rw[List.all_eq_true] at t
 exact of_decide_eq_true (t i (List.mem_range.2 h))
set_option maxRecDepth 4000 in
set_option maxHeartbeats 4000000 in
theorem chunkC (ad:Option Addr) (n cap:Nat) (xs:List Nat) (w:World) (rx:Row w ad n cap xs) (hx:∀x∈xs,x<18446744073709551616) (at' b:Nat) (hat:at'<=1000000000) (hb:b<=30) :
  Calls Try.prog 29 #[.slice ad n cap,.int .i64 (at':Int),.int .i64 (b:Int)] w fun e w'=>e = .returned (.int .i64 ((nv 18446744073709551616 xs / 2 ^ at' % 2 ^ b:Nat):Int))/\w'=w:=by
 have RX:=hide rx
 have HX:Hid (∀x∈xs,x<18446744073709551616):=hx
 have hm:=rx.max
 have hl:=rx.le
 clear rx hx
 obtain⟨Q,hQ⟩:∃Q,nv 18446744073709551616 xs / 2 ^ at'=Q:=⟨_,rfl⟩
 rw[hQ]
 replace hQ:=hide hQ
 obtain⟨R,hR⟩:∃R,Q % 2 ^ b=R:=⟨_,rfl⟩
 rw[hR]
 replace hR:=hide hR
 go_enter Try.func29,Try.ntmps29
 go_wp2
 go_loop [7,8] (fun vn vi=>∃(i N:Nat),i<=b/\Hid (N=Q % 2 ^ i)/\vn = .int .i64 (N:Int)/\vi = .int .i64 (i:Int)) (fun _ vi=>b-(intOf vi).toNat)
 case atStart=>exact⟨0,0,by omega,(by show _=_;simp[Nat.mod_one]),rfl,rfl⟩
 case round =>
  obtain⟨i,N,hi,hN,rfl,rfl⟩:=hrel
  by_cases hlt:(i:Int)<(b:Int)
  ·obtain⟨q,r,hqr,hr⟩:∃q r:Nat,at'+i=64*q+r/\r<64:=⟨(at'+i) / 64,(at'+i) % 64,by omega,by omega⟩
   have hq1:((at':Int)+(i:Int)).tdiv 64=(q:Int):=by rw[Int.tdiv_eq_ediv_of_nonneg (by omega)];omega
   have hr1:((at':Int)+(i:Int)).tmod 64=(r:Int):=by rw[Int.tmod_eq_emod_of_nonneg (by omega)];omega
   have hqb:q<=100000000:=by omega
   have hbit:=bit_at HX.out q r hr
   rw[<-hqr,Nat.pow_add,<-Nat.div_div_eq_div_mul,hQ.out] at hbit
   have hst:=bit_step Q i
   rw[hbit,<-hN.out] at hst
   clear hbit
   have hNl:N<2 ^ i:=by rw[hN.out];exact Nat.mod_lt _ (Nat.two_pow_pos i)
   obtain⟨t1,t2,t3⟩:=two_at (show i<31 by omega)
   have t4:((2 ^ i:Nat):Int)=2 ^ i:=by simp
   obtain⟨P,hP⟩:∃P:Int,(2:Int) ^ i=P:=⟨_,rfl⟩
   rw[hP] at t1 t2 t3 t4
   have hNP:(N:Int)<P:=by rw[<-t4];exact Int.ofNat_lt.2 hNl
   have t5:(2:Int) ^ i=P:=hP
   clear hNl
   by_cases hqn:(q:Int)<(n:Int)
   ·obtain⟨bb,off,rfl,hbl,hc⟩:=RX.out.cells (by omega)
    have hcell:=hc q (by omega)
    clear hc
    have hv:=getD_lt (by omega) HX.out q
    generalize xs.getD q 0=v at *
    have d1:(v:Int) / 2 ^ r=((v / 2 ^ r:Nat):Int):=by rw[Int.natCast_ediv];simp
    generalize v / 2 ^ r=y at *
    by_cases h1:y % 2=1
    ·have d2:(y:Int).tmod 2=1:=by rw[Int.tmod_eq_emod_of_nonneg (by omega)];omega
     rw[h1,Nat.mul_one] at hst
     have HS:Hid ((N+2 ^ i:Nat)=Q % 2 ^ (i+1)):=hst.symm
     have eN:((N+2 ^ i:Nat):Int)=(N:Int)+P:=by rw[<-t4];exact Int.natCast_add ..
     replace eN:=hide eN
     clear hst h1 hqr t4 hP
     go_wp2
     go_round
     case rel=>exact⟨i+1,N+2 ^ i,by omega,HS,by rw[eN.out],by go_num⟩
     case measure=>simp only[intOf];omega
    ·have d2:(y:Int).tmod 2=0:=by rw[Int.tmod_eq_emod_of_nonneg (by omega)];omega
     rw[show y % 2=0 by omega,Nat.mul_zero,Nat.add_zero] at hst
     have HS:Hid (N=Q % 2 ^ (i+1)):=hst.symm
     clear hst h1 hqr t4 hP
     go_wp2
     go_round
     case rel=>exact⟨i+1,N,by omega,HS,rfl,by go_num⟩
     case measure=>simp only[intOf];omega
   ·have e0:xs.getD q 0=0:=getD_out (by rw[RX.out.len];omega)
    rw[e0,Nat.zero_div,Nat.zero_mod,Nat.mul_zero,Nat.add_zero] at hst
    have HS:Hid (N=Q % 2 ^ (i+1)):=hst.symm
    have hqn2:(n:Int)<=(q:Int):=by omega
    clear hst e0 hqr t4 hP t5 t1 hqn
    go_wp2
    go_round
    case rel=>exact⟨i+1,N,by omega,HS,rfl,by go_num⟩
    case measure=>simp only[intOf];omega
  ·obtain rfl:i=b:=by omega
   have eR:N=R:=hN.out.trans hR.out
   subst eR
   go_wp2
   go_ret
   exact⟨rfl,rfl⟩
theorem half_tab:(List.range 29).all (fun p=>decide ((2:Int)<=2 ^ (1+p)/\(2:Int) ^ (1+p)<=536870912/\wrap64 (2 ^ (1+p))=2 ^ (1+p)))=true:=by decide +kernel
theorem half_at {p:Nat} (hp:p<29):(2:Int)<=2 ^ (1+p)/\(2:Int) ^ (1+p)<=536870912/\wrap64 (2 ^ (1+p))=2 ^ (1+p):=by
 have t:=half_tab
 rw[List.all_eq_true] at t
 exact of_decide_eq_true (t p (List.mem_range.2 hp))
theorem wpList_pushI {w0:World} {ops:Array Oper} {rest:List Oper} {o:Oper} {a:Act} {Q:Exit->Act->World->Prop} (hgd:o.guard=none) (s x:Operand)
  (ho:o.op = .call {callee:=.builtin .append,args:=#[s,x],argTypes:=#[27,27]}) {base:Nat} {v:Value} {n:Nat} {xs:List Int} (hown:w0.ownsRow base 2 1 v n (iz xs)) (y:Int)
  (hs:a.eval s=v) (hx:a.eval x = .slice (some ⟨w0.heap.size,0,none⟩) 1 1) (hn:n<=4398046511104) (hb:base<=w0.heap.size)
  (h:∀v' w',w'.ownsRow base 2 1 v' (n+1) (iz (xs++[y]))->(∀a0,Gr a0 w0->a0.heap.size<=base->Gr a0 w')->wpList Try.prog ops Q rest (a.put o.dst v') w') :
  wpList Try.prog ops Q (o :: rest) a (w0.alloc (.cells #[.int .i64 y] 2)):=by
 obtain⟨i0,hi,hz0,hz1,hz2⟩:=info_parts infoI
 refine wpList_append_own _ hgd s x 27 ho base 2 i0 (.int .i64 0) 1 8 Try.underlying27 hi hz0 hz1 hz2 rfl (by decide) v n (iz xs) hs (hown.alloc _) ⟨w0.heap.size,0,none⟩ 1 1 (iz [y]) hx rfl ?_ (iz_one _) (by unfold maxLen;omega) (by omega) (by simp;omega) ?_
 ·intro j u hj
  match j,hj with
  | 0,hj=>simp[iz] at hj;subst hj;simp[Addr.add]
 ·intro v' w' hown' hgr _
  refine h v' w' ?_ ?_
  ·rw[iz_app];exact hown'
  ·intro a0 hg hle
   exact(hg.alloc _).grown hgr (fun k hk=>Nat.le_trans hle (hown.lt k hk).1)
end Go.Proofs.Ytfbgckgemfkioaa
namespace Go.Proofs.Ytfbgckgemfkioaa
open Go.RowKit
set_option linter.unusedVariables false
theorem newBx (w:World) (a:Bool) (b:Option Addr) (c d:Nat):(w.alloc (.cells #[.bool a,.slice b c d] 24)).cell? ⟨w.heap.size,0,none⟩=some (.bool a)/\(w.alloc (.cells #[.bool a,.slice b c d] 24)).cell? ⟨w.heap.size,1,none⟩=some (.slice b c d):=bx2 (blk1 w _)
structure Bw (w:World) (p:Nat) (s:Bool) (ad:Option Addr) (n cap:Nat) (X:Int):Prop where
 c0:w.cell? ⟨p,0,none⟩=some (.bool s)
 c1:w.cell? ⟨p,1,none⟩=some (.slice ad n cap)
 v:Wh w s ad n cap X
theorem Bw.gr {w w':World} {p:Nat} {s:Bool} {ad:Option Addr} {n cap:Nat} {X:Int} (h:Bw w p s ad n cap X) (g:Gr w w'):Bw w' p s ad n cap X:=⟨keepG g h.c0,keepG g h.c1,h.v.gr g⟩
theorem Bw.new {w:World} {s:Bool} {ad:Option Addr} {n cap:Nat} {X:Int} (h:Wh w s ad n cap X):Bw (w.alloc (.cells #[.bool s,.slice ad n cap] 24)) w.heap.size s ad n cap X:=
 ⟨(newBx w s ad n cap).1,(newBx w s ad n cap).2,h.gr ((Gr.refl w).alloc _)⟩
theorem Gr.keep {wo wn:World} (g:Gr wo wn) {b o:Nat} {v:Value} (h:wo.cell? ⟨b,o,none⟩=some v):wn.cell? ⟨b,o,none⟩=some v:=
 (g.cell (p:=⟨b,o,none⟩) (lt_of_cell' h)).trans h
theorem Lim.apart {w:World} {ad:Option Addr} {n cap B x:Nat} (h:Lim w ad n cap B x) {B2:Nat} {p:Bool} {s0:Option Addr} {l0 c0:Nat} {i0:Int} {T:TypeId} {fr:Nat × Nat} (hb:w.heap[B2]? = some (.cells #[.bool p,.slice s0 l0 c0,.int .i64 i0] T fr)):0<n->∀a,ad=some a->a.block≠B2:=by
 obtain⟨xs,h1,h2⟩:=h
 intro hp a ha he
 obtain⟨b,off,hab,_,hc⟩:=h1.cells hp
 rw[ha] at hab
 injection hab with hab
 have h0:=hc 0 hp
 rw[hab] at he
 have he:b=B2:=he
 subst he
 simp only[World.cell?,hb] at h0
 match off,h0 with
 | 0,h0=>simp at h0
 | 1,h0=>simp at h0
 | 2,h0=>simp at h0
 | k+3,h0=>simp at h0
def half (xs:List Nat):List Nat:=xs.flatMap fun x=>[x % 4294967296,x / 4294967296]
theorem Dg.lt {B n:Nat} {xs:List Nat} (h:Dg B n xs):∀x∈xs,x<B:=h.2.1
end Go.Proofs.Ytfbgckgemfkioaa
namespace Go.Proofs.Ytfbgckgemfkioaa
open Go.RowKit
open Ieee
set_option linter.unusedVariables false
end Go.Proofs.Ytfbgckgemfkioaa
namespace Go.Proofs.Ytfbgckgemfkioaa
open Go.RowKit
set_option linter.unusedVariables false
set_option maxHeartbeats 1600000 in
theorem rightR (s:Bool) (ad:Option Addr) (n cap:Nat) (xs:List Nat) (w:World) (rx:Row w ad n cap xs) :
  Calls Try.prog 27 #[.agg #[.bool s,.slice ad n cap]] w fun r w'=>r = .returned (.bool (rightN s xs))/\Gr w w':=by
 have hl:=rx.le
 have hm:=rx.max
 have hlen:=rx.len
 by_cases hn:n=0
 ·clear rx
  subst hn
  cases s
  ·rw[rightN_t (Or.inl ⟨hlen,rfl⟩)]
   go_enter Try.func27,Try.ntmps27
   go_wp2
   go_ret
   exact⟨rfl,(Gr.refl w).alloc _⟩
  ·rw[rightN_f (by rintro (⟨_,h⟩|⟨h,_⟩);exact absurd h (by simp);omega)]
   go_enter Try.func27,Try.ntmps27
   go_wp2
   go_ret
   exact⟨rfl,(Gr.refl w).alloc _⟩
 ·obtain⟨p,o,rfl,hp,hc⟩:=rx.cells (by omega)
  have hcl:=keepG ((Gr.refl w).alloc (.cells #[.bool s,.slice (some ⟨p,o,none⟩) n cap] 24)) (hc (n-1) (by omega))
  have H:Hid (RightN s xs ↔ (n<=4096/\xs.getD (n-1) 0≠0)):=by
   show _ ↔ _
   unfold RightN
   rw[hlen]
   omega
  clear rx hc hlen
  generalize xs.getD (n-1) 0=vl at *
  have hz:((n:Int)==0)=false:=by simp;omega
  by_cases h1:n<=4096
  ·have h1':(n:Int)<=4096:=by omega
   by_cases h2:vl=0
   ·subst h2
    rw[rightN_f (by rw[H.out];omega)]
    go_enter Try.func27,Try.ntmps27
    go_wp2
    go_ret
    exact⟨rfl,(Gr.refl w).alloc _⟩
   ·have h2':((vl:Int) != 0)=true:=by simp;omega
    rw[rightN_t (by rw[H.out];omega)]
    go_enter Try.func27,Try.ntmps27
    go_wp2
    go_ret
    exact⟨rfl,(Gr.refl w).alloc _⟩
  ·have h1':¬(n:Int)<=4096:=by omega
   rw[rightN_f (by rw[H.out];omega)]
   go_enter Try.func27,Try.ntmps27
   go_wp2
   go_ret
   exact⟨rfl,(Gr.refl w).alloc _⟩
end Go.Proofs.Ytfbgckgemfkioaa
