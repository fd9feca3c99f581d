import Derived.Test.YtanpdbadfddlcaaGreatDoorM21
import Derived.Test.YtanpdbadfddlcaaGreatDoorM18
import Derived.Test.YtanpdbadfddlcaaGreatDoorM20
import Derived.Test.YtanpdbadfddlcaaGreatDoorM08
import Derived.Deep.DeepCutAuto
namespace Go.Proofs.YtanpdbadfddlcaaGreatDoor
open Go.RowKit
set_option linter.unusedVariables false
def lostB (x n:Nat):Bool:=decide (x % 2 ^ n≠0)
def LostAt (b:Bool) (ds:List Nat) (k:Nat):Prop:=b=true ↔ nv 4294967296 (ds.take k)≠0
theorem lost_start (ds:List Nat):LostAt false ds 0:=by simp[LostAt,nv]
theorem lost_f {ds:List Nat} {k x:Nat} (h:LostAt false ds k) (hx:x=ds.getD k 0):LostAt ((x:Int) != 0) ds (k+1):=by
 unfold LostAt at h ⊢
 have h0:nv 4294967296 (ds.take k)=0:=by
  rcases Nat.eq_zero_or_pos (nv 4294967296 (ds.take k)) with h1|h1
  ·exact h1
  ·exact absurd (h.2 (by omega)) (by simp)
 rw[nv_take_succ,<-hx,h0,Nat.zero_add]
 have hp:0<4294967296 ^ k:=Nat.pow_pos (by omega)
 constructor
 ·intro h1
  have:x≠0:=by intro h2;subst h2;simp at h1
  exact Nat.ne_of_gt (Nat.mul_pos hp (by omega))
 ·intro h1
  have:x≠0:=by intro h2;subst h2;simp at h1
  simp;omega
theorem lost_t {ds:List Nat} {k:Nat} (h:LostAt true ds k):LostAt true ds (k+1):=by
 unfold LostAt at h ⊢
 have:=h.1 rfl
 rw[nv_take_succ]
 exact⟨fun _=>by omega,fun _=>rfl⟩
theorem lost_all {ds:List Nat} {k n x:Nat} {b:Bool} (h:LostAt b ds k) (d:Dg 4294967296 x ds) (hk:ds.length<=k) (hz:x / 2 ^ n=0):lostB x n=b:=by
 unfold LostAt at h
 rw[nv_take_all _ _ _ hk,d.1] at h
 have e:x % 2 ^ n=x:=by
  have:=Nat.div_add_mod x (2 ^ n)
  rw[hz,Nat.mul_zero,Nat.zero_add] at this
  exact this
 unfold lostB
 rw[e]
 cases b
 ·have:¬x≠0:=fun h1=>by simpa using h.2 h1
  exact decide_eq_false this
 ·exact decide_eq_true (h.1 rfl)
theorem mod_parts {ds:List Nat} {q r n x p:Nat} (d:Dg 4294967296 x ds) (hq:q<=ds.length) (hp:p=2 ^ r) (hn:n=32*q+r):x % 2 ^ n=nv 4294967296 (ds.take q)+4294967296 ^ q*(nv 4294967296 (ds.drop q) % p):=by
 have h1:x=nv 4294967296 (ds.take q)+4294967296 ^ q*nv 4294967296 (ds.drop q):=by
  conv=>lhs;rw[<-d.1,<-List.take_append_drop q ds,nv_append,List.length_take,Nat.min_eq_left hq]
 have h2:=nv_lt 4294967296 (ds.take q) (fun z h=>d.2.1 z (List.mem_of_mem_take h))
 rw[List.length_take,Nat.min_eq_left hq] at h2
 have e:2 ^ n=4294967296 ^ q*p:=by rw[hn,Nat.pow_add,<-pow32,hp]
 rw[e,h1,Nat.mod_mul,Nat.add_mul_mod_self_left,Nat.mod_eq_of_lt h2,Nat.add_mul_div_left _ _ (Nat.pow_pos (by omega)),Nat.div_eq_of_lt h2,Nat.zero_add]
theorem lost_ff {ds:List Nat} {q r n x p rr:Nat} (h:LostAt false ds q) (d:Dg 4294967296 x ds) (hq:q<=ds.length) (hp:p=2 ^ r) (hr:rr=nv 4294967296 (ds.drop q) % p) (hn:n=32*q+r):lostB x n=((rr:Int) != 0):=by
 unfold LostAt at h
 have h0:nv 4294967296 (ds.take q)=0:=by
  rcases Nat.eq_zero_or_pos (nv 4294967296 (ds.take q)) with h1|h1
  ·exact h1
  ·exact absurd (h.2 (by omega)) (by simp)
 unfold lostB
 rw[mod_parts d hq hp hn,h0,Nat.zero_add,<-hr]
 have hP:0<4294967296 ^ q:=Nat.pow_pos (by omega)
 rcases Nat.eq_zero_or_pos rr with h1|h1
 ·subst h1;simp
 ·have h2:=Nat.mul_pos hP h1
  have e1:((rr:Int) != 0)=true:=by simp;omega
  rw[e1]
  exact decide_eq_true (Nat.ne_of_gt h2)
theorem lost_tt {ds:List Nat} {q r n x p:Nat} (h:LostAt true ds q) (d:Dg 4294967296 x ds) (hq:q<=ds.length) (hp:p=2 ^ r) (hn:n=32*q+r):lostB x n=true:=by
 unfold LostAt at h
 have:=h.1 rfl
 unfold lostB
 rw[mod_parts d hq hp hn]
 exact decide_eq_true (by omega)
set_option maxRecDepth 10000 in
set_option maxHeartbeats 1600000 in
theorem downF (ad:Option Addr) (n1 c1 x n:Nat) (w:World) (hx:Lim w ad n1 c1 18446744073709551616 x) (hb:bl x<=68719476736) (hn:n<=68719476736) :
  Calls Tryz.prog 130 #[.slice ad n1 c1,.int .i64 (n:Int)] w fun e w'=>∃ad' n' cap',e = .returned (.tuple #[.slice ad' n' cap',.bool (lostB x n)])/\Lim w' ad' n' cap' 18446744073709551616 (x / 2 ^ n)/\Gr w w':=by
 have HH:Hid (Calls Tryz.prog 91 #[.slice ad n1 c1] w fun e w'=>∃ad' n' cap',e = .returned (.slice ad' n' cap')/\n'<=2147483650/\Hid (Lim w' ad' n' cap' 4294967296 x)/\Gr w w'):=halvesL ad n1 c1 x w hx hb
 clear hx
 obtain⟨q,hq⟩:∃q,q=n / 32:=⟨_,rfl⟩
 obtain⟨r,hr⟩:∃r,r=n % 32:=⟨_,rfl⟩
 have hr32:r<32:=by omega
 have eq:(n:Int) / 32=(q:Int):=by omega
 have er:(n:Int) % 32=(r:Int):=by omega
 have hqn:q<=2147483648:=by omega
 have HN:Hid (n=32*q+r):=by show _=_;omega
 clear hq hr
 go_enter Tryz.func130,Tryz.ntmps130
 go_wp2_with (go_at_call 91;(with_reducible refine HH.out.mono ?_);rintro e w1 ⟨a2,m,c2,rfl,hm,hl,g1⟩)
 obtain⟨ds,rd,dg⟩:=hl.out
 have RD:Hid (Row w1 a2 m c2 ds):=rd
 have DG:Hid (Dg 4294967296 x ds):=dg
 have G1:Hid (Gr w w1):=g1
 have hcm:=rd.max
 have hcl:=rd.le
 clear rd dg g1 hl
 go_loopw [7,8] (fun lo i wr=>∃(k:Nat) (b:Bool),k<=q/\i = .int .i64 (k:Int)/\lo = .bool b/\Hid (LostAt b ds k)/\Hid (Gr w1 wr)) (fun _ i _=>q+1-(intOf i).toNat)
 case atStart=>exact⟨0,false,by omega,rfl,rfl,lost_start ds,Gr.refl _⟩
 case round =>
  obtain⟨k,b,hk,rfl,rfl,hlost,hg⟩:=hrel
  by_cases h1:k<q
  ·by_cases h2:k<m
   ·have i1:(k:Int)<(q:Int):=by omega
    have i2:(k:Int)<(m:Int):=by omega
    obtain⟨p1,o1,rfl,hb1,hc1⟩:=RD.out.lt (by omega)
    have hcell1:=hc1 wr hg.out k h2
    obtain⟨xk,hxk⟩:∃xk,xk=ds.getD k 0:=⟨_,rfl⟩
    rw[<-hxk] at hcell1
    have HXK:Hid (xk=ds.getD k 0):=hxk
    clear hxk
    cases b
    ·go_wp2_with (simp only[eq])
     go_roundw
     case rel=>exact⟨k+1,_,by omega,by go_num,rfl,lost_f hlost.out HXK.out,hg⟩
     case measure=>simp only[intOf];omega
    ·go_wp2_with (simp only[eq])
     go_roundw
     case rel=>exact⟨k+1,_,by omega,by go_num,rfl,lost_t hlost.out,hg⟩
     case measure=>simp only[intOf];omega
   ·have i1:(k:Int)<(q:Int):=by omega
    have i2:¬(k:Int)<(m:Int):=by omega
    have i3:(q:Int)>=(m:Int):=by omega
    have hz:x / 2 ^ n=0:=Nat.div_eq_of_lt (by
     have h3:=DG.out.upper
     rw[RD.out.len,pow32] at h3
     exact Nat.lt_of_lt_of_le h3 (Nat.pow_le_pow_right (by omega) (by have:=HN.out;omega)))
    have HZ:Hid (x / 2 ^ n=0):=hz
    clear hz
    go_wp2_with (simp only[eq])
    refine bodyPost_ret (v:=.tuple #[.slice none 0 0,.bool b]) (by simp[results,Tryz.results130,go_sem]) rfl ⟨none,0,0,by rw[lost_all (n:=n) hlost.out DG.out (by rw[RD.out.len];omega) HZ.out],by rw[HZ.out];exact⟨[],Row.empty (by omega) (fun _=>rfl),Dg.nil⟩,G1.out.trans hg.out⟩
  ·have i1:¬(k:Int)<(q:Int):=by omega
   by_cases h3:m<=q
   ·have i3:(q:Int)>=(m:Int):=by omega
    have hz:x / 2 ^ n=0:=Nat.div_eq_of_lt (by
     have h3:=DG.out.upper
     rw[RD.out.len,pow32] at h3
     exact Nat.lt_of_lt_of_le h3 (Nat.pow_le_pow_right (by omega) (by have:=HN.out;omega)))
    have HZ:Hid (x / 2 ^ n=0):=hz
    clear hz
    go_wp2_with (simp only[eq])
    refine bodyPost_ret (v:=.tuple #[.slice none 0 0,.bool b]) (by simp[results,Tryz.results130,go_sem]) rfl ⟨none,0,0,by rw[lost_all (n:=n) hlost.out DG.out (by rw[RD.out.len];omega) HZ.out],by rw[HZ.out];exact⟨[],Row.empty (by omega) (fun _=>rfl),Dg.nil⟩,G1.out.trans hg.out⟩
   ·have i3:¬(q:Int)>=(m:Int):=by omega
    obtain⟨wo,rfl⟩:∃wo:World,wo=wr:=⟨_,rfl⟩
    go_wp2_with (simp only[eq])
    obtain⟨p1,o1,rfl,hb1,hc1⟩:=RD.out.cells (by omega)
    clear hc1
    go_loopw [9,10] (fun by' i wr=>∃j p:Nat,j<=r/\i = .int .i64 (j:Int)/\by' = .int .u64 (p:Int)/\Hid (p=2 ^ j)/\p<=2147483648/\wr=wo) (fun _ i _=>r-(intOf i).toNat)
    case atStart=>exact⟨0,1,by omega,rfl,rfl,rfl,by omega,rfl⟩
    case round =>
     obtain⟨j,p,hj,rfl,rfl,hp,hpb,rfl⟩:=hrel
     by_cases h4:j<r
     ·have i4:(j:Int)<(r:Int):=by omega
      have NX:Hid (2*p=2 ^ (j+1)/\2*p<=2147483648):=by
       have h5:=two_pow_le (k:=j+1) (by omega)
       have h6:2*p=2 ^ (j+1):=by rw[Nat.pow_succ,<-hp.out];omega
       exact⟨h6,by omega⟩
      have hpb2:=NX.out.2
      go_wp2_with (first|(simp only[er]))
      go_roundw
      case rel=>exact⟨j+1,2*p,by omega,by go_num,by go_num,NX.out.1,NX.out.2,trivial⟩
      case measure=>simp only[intOf];omega
     ·have hjr:j=r:=by omega
      subst hjr
      have i4:¬(j:Int)<(j:Int):=by omega
      have hp0:0<p:=by rw[hp.out];exact Nat.two_pow_pos j
      have FIN:Hid (nv 4294967296 (ds.drop q) / p=x / 2 ^ n):=by
       show _=_
       rw[<-nv_dropq (by omega) DG.out.2.1 q (by rw[RD.out.len];omega),DG.out.1,hp.out,HN.out,pow32,Nat.div_div_eq_div_mul,<-Nat.pow_add]
      have SH:Hid (Calls Tryz.prog 133 #[.slice (some ⟨p1,o1+q,none⟩) (m-q) (c2-q),.int .u64 (p:Int)] wr fun e w'=>∃ad' n' cap' rr,e = .returned (.tuple #[.slice ad' n' cap',.int .u64 (rr:Nat)])/\n'<=m-q/\Hid (Lim w' ad' n' cap' 4294967296 (x / 2 ^ n))/\Hid (rr=nv 4294967296 (ds.drop q) % p)/\Gr wr w'):=by
       refine(short101 _ _ _ p (ds.drop q) wr ((RD.out.gr hg.out).drop q (by omega)) (fun d hd=>DG.out.2.1 d (List.mem_of_mem_drop hd)) (by omega) hp0 hpb).mono ?_
       rintro e w' ⟨ad',n',cap',rr,h1,h2,h3,h4,h5⟩
       rw[FIN.out] at h3
       exact⟨ad',n',cap',rr,h1,h2,h3,h4,h5⟩
      have LB:Hid (∀a3 n3 c3 w3,Lim w3 a3 n3 c3 4294967296 (x / 2 ^ n)->n3<=2147483650->Calls Tryz.prog 92 #[.slice a3 n3 c3] w3 fun e w'=>∃ad' n' cap',e = .returned (.slice ad' n' cap')/\Hid (Lim w' ad' n' cap' 18446744073709551616 (x / 2 ^ n))/\Gr w3 w'):=fun a3 n3 c3 w3 h1 h2=>limbsL a3 n3 c3 _ w3 h1 (by omega)
      have HPP:Hid (p=2 ^ j):=hp
      obtain rfl:k=q:=by omega
      clear hp FIN
      cases b
      ·go_wp2_with (first|(simp only[er])|(simp only[eq])|(go_at_call 133;(with_reducible refine SH.out.mono ?_);rintro e w3 ⟨a3,n3,c3,rr,rfl,hn3,hl3,hrr,g3⟩)|(go_at_call 92;(with_reducible refine(LB.out _ _ _ _ hl3.out (by omega)).mono ?_);rintro e w4 ⟨a4,n4,c4,rfl,hl4,g4⟩))
       refine bodyPost_ret (v:=.tuple #[.slice a4 n4 c4,.bool ((rr:Int) != 0)]) (by simp[results,Tryz.results130,go_sem]) rfl ⟨a4,n4,c4,by rw[lost_ff hlost.out DG.out (by rw[RD.out.len];omega) HPP.out hrr.out HN.out],hl4.out,((G1.out.trans hg.out).trans g3).trans g4⟩
      ·go_wp2_with (first|(simp only[er])|(simp only[eq])|(go_at_call 133;(with_reducible refine SH.out.mono ?_);rintro e w3 ⟨a3,n3,c3,rr,rfl,hn3,hl3,hrr,g3⟩)|(go_at_call 92;(with_reducible refine(LB.out _ _ _ _ hl3.out (by omega)).mono ?_);rintro e w4 ⟨a4,n4,c4,rfl,hl4,g4⟩))
       refine bodyPost_ret (v:=.tuple #[.slice a4 n4 c4,.bool true]) (by simp[results,Tryz.results130,go_sem]) rfl ⟨a4,n4,c4,by rw[lost_tt hlost.out DG.out (by rw[RD.out.len];omega) HPP.out HN.out],hl4.out,((G1.out.trans hg.out).trans g3).trans g4⟩
def CutV (s:Bool) (x:Nat) (e last:Int) (up:Bool) (s':Bool) (m:Nat) (e':Int):Prop:=
 (x=0/\s'=false/\m=0/\e'=0)\/(0<x/\last<=e/\s'=s/\m=x/\e'=e)\/(0<x/\e<last/\s'=s/\e'=last/\m=x / 2 ^ (last-e).toNat+(if lostB x (last-e).toNat=true/\s≠up then 1 else 0))
theorem box_two (w:World) (o1 o2:Obj):((w.alloc o1).alloc o2).heap[w.heap.size]? = some o1/\((w.alloc o1).alloc o2).heap[w.heap.size+1]? = some o2:=blk2 w o1 o2
theorem set3_lim {w:World} {ad:Option Addr} {n cap x b:Nat} {p:Bool} {q:Option Addr} {l k:Nat} {i:Int} {T:TypeId} (h:Lim w ad n cap 18446744073709551616 x) (hb:w.heap[b]? = some (.cells #[.bool p,.slice q l k,.int .i64 i] T)) (v0 v1 v2:Value):Lim (((w.setCell ⟨b,0,none⟩ v0).setCell ⟨b,1,none⟩ v1).setCell ⟨b,2,none⟩ v2) ad n cap 18446744073709551616 x:=h.set3 (h.apart hb) _ _ _
set_option maxRecDepth 10000 in
set_option maxHeartbeats 2000000 in
theorem cutNum_z (s up:Bool) (ad:Option Addr) (n cap:Nat) (e last:Int) (w:World) (hx:Lim w ad n cap 18446744073709551616 0) :
  Calls Tryz.prog 124 #[.agg #[.bool s,.slice ad n cap,.int .i64 e],.int .i64 last,.bool up] w fun r w'=>∃s' ad' n' cap' m e',r = .returned (.agg #[.bool s',.slice ad' n' cap',.int .i64 e'])/\Lim w' ad' n' cap' 18446744073709551616 m/\CutV s 0 e last up s' m e'/\Gr w w':=by
 have HZ:Hid (∀w1,Gr w w1->Calls Tryz.prog 54 #[.agg #[.bool s,.slice ad n cap,.int .i64 e]] w1 fun r w'=>r = .returned (.bool true)/\Gr w1 w'):=fun w1 g=>zero57z s ad n cap e w1 (hx.gr g)
 have G0:Gr w ((w.alloc (.cells #[.bool s,.slice ad n cap,.int .i64 e] 58)).alloc (.cells #[.bool false,.slice none 0 0,.int .i64 0] 58)):=gr2 _ _
 have PP:=box_two w (.cells #[.bool s,.slice ad n cap,.int .i64 e] 58) (.cells #[.bool false,.slice none 0 0,.int .i64 0] 58)
 have P0:=hide PP.1
 have Q0:=hide PP.2
 clear PP
 clear hx
 go_enter Tryz.func124,Tryz.ntmps124
 go_wp2_with (go_at_call 54;(with_reducible refine(HZ.out _ G0).mono ?_);rintro r w1 ⟨rfl,g1⟩;have P1:=g1.keepH P0.out;have Q1:=g1.keepH Q0.out;obtain⟨x0,x1,x2⟩:=cells_ofT P1;obtain⟨y0,y1,y2⟩:=cells_ofT Q1;obtain⟨z0,z1,z2⟩:=open_ofT Q1)
 have GS:Gr w (((w1.setCell ⟨w.heap.size+1,0,none⟩ (.bool false)).setCell ⟨w.heap.size+1,1,none⟩ (.slice none 0 0)).setCell ⟨w.heap.size+1,2,none⟩ (.int .i64 0)):=set3_gr (G0.trans g1) (by omega) _ _ _
 refine bodyPost_ret (v:=.agg #[.bool false,.slice none 0 0,.int .i64 0]) ?_ rfl ⟨false,none,0,0,0,0,rfl,⟨[],Row.empty (by omega) (fun _=>rfl),Dg.nil⟩,Or.inl ⟨rfl,rfl,rfl,rfl⟩,GS⟩
 simp[results,Tryz.results124,go_sem,y0,y1,y2]
set_option maxRecDepth 10000 in
set_option maxHeartbeats 2000000 in
theorem cutNum_f (s up:Bool) (ad:Option Addr) (n cap x:Nat) (e last:Int) (w:World) (hx:Lim w ad n cap 18446744073709551616 x) (hb:bl x<=34359738368) (x0':0<x) (hel:last<=e) :
  Calls Tryz.prog 124 #[.agg #[.bool s,.slice ad n cap,.int .i64 e],.int .i64 last,.bool up] w fun r w'=>∃s' ad' n' cap' m e',r = .returned (.agg #[.bool s',.slice ad' n' cap',.int .i64 e'])/\Lim w' ad' n' cap' 18446744073709551616 m/\CutV s x e last up s' m e'/\Gr w w':=by
 have HZ:Hid (∀w1,Gr w w1->Calls Tryz.prog 54 #[.agg #[.bool s,.slice ad n cap,.int .i64 e]] w1 fun r w'=>r = .returned (.bool false)/\Gr w1 w'):=fun w1 g=>zero57n s ad n cap x e w1 (hx.gr g) (by omega) x0'
 have HX:Hid (∀w1,Gr w w1->Lim w1 ad n cap 18446744073709551616 x):=fun w1 g=>hx.gr g
 have G0:Gr w ((w.alloc (.cells #[.bool s,.slice ad n cap,.int .i64 e] 58)).alloc (.cells #[.bool false,.slice none 0 0,.int .i64 0] 58)):=gr2 _ _
 have PP:=box_two w (.cells #[.bool s,.slice ad n cap,.int .i64 e] 58) (.cells #[.bool false,.slice none 0 0,.int .i64 0] 58)
 have P0:=hide PP.1
 have Q0:=hide PP.2
 clear PP
 clear hx
 have i1:e>=last:=hel
 go_enter Tryz.func124,Tryz.ntmps124
 go_wp2_with (go_at_call 54;(with_reducible refine(HZ.out _ G0).mono ?_);rintro r w1 ⟨rfl,g1⟩;have P1:=g1.keepH P0.out;have Q1:=g1.keepH Q0.out;obtain⟨x0,x1,x2⟩:=cells_ofT P1;obtain⟨y0,y1,y2⟩:=cells_ofT Q1;obtain⟨z0,z1,z2⟩:=open_ofT Q1)
 have GS:Gr w (((w1.setCell ⟨w.heap.size+1,0,none⟩ (.bool s)).setCell ⟨w.heap.size+1,1,none⟩ (.slice ad n cap)).setCell ⟨w.heap.size+1,2,none⟩ (.int .i64 e)):=set3_gr (G0.trans g1) (by omega) _ _ _
 refine bodyPost_ret (v:=.agg #[.bool s,.slice ad n cap,.int .i64 e]) ?_ rfl ⟨s,ad,n,cap,x,e,rfl,HX.out _ GS,Or.inr (Or.inl ⟨x0',hel,rfl,rfl,rfl⟩),GS⟩
 simp[results,Tryz.results124,go_sem,y0,y1,y2]
set_option maxRecDepth 10000 in
set_option maxHeartbeats 4000000 in
theorem cutNum_d0 (s up:Bool) (ad:Option Addr) (n cap x:Nat) (e last:Int) (w:World) (hx:Lim w ad n cap 18446744073709551616 x) (hb:bl x<=34359738368) (x0':0<x) (hel:e<last) (e1 : -4194304<=e) (l2:last<=4194304) (hlo:lostB x (last-e).toNat=false) :
  Calls Tryz.prog 124 #[.agg #[.bool s,.slice ad n cap,.int .i64 e],.int .i64 last,.bool up] w fun r w'=>∃s' ad' n' cap' m e',r = .returned (.agg #[.bool s',.slice ad' n' cap',.int .i64 e'])/\Lim w' ad' n' cap' 18446744073709551616 m/\CutV s x e last up s' m e'/\Gr w w':=by
 obtain⟨t,ht⟩:∃t:Nat,(t:Int)=last-e:=⟨(last-e).toNat,by omega⟩
 have htt:(last-e).toNat=t:=by omega
 rw[htt] at hlo
 have hbt:bl (x / 2 ^ t)<=34359738368:=Nat.le_trans (bl_div _ _) hb
 have HZ:Hid (∀w1,Gr w w1->Calls Tryz.prog 54 #[.agg #[.bool s,.slice ad n cap,.int .i64 e]] w1 fun r w'=>r = .returned (.bool false)/\Gr w1 w'):=fun w1 g=>zero57n s ad n cap x e w1 (hx.gr g) (by omega) x0'
 have HD:Hid (∀w1,Gr w w1->Calls Tryz.prog 130 #[.slice ad n cap,.int .i64 (last-e)] w1 fun r w'=>∃ad' n' cap',r = .returned (.tuple #[.slice ad' n' cap',.bool false])/\Hid (Lim w' ad' n' cap' 18446744073709551616 (x / 2 ^ t))/\Gr w1 w'):=fun w1 g=>by
  have:=downF ad n cap x t w1 (hx.gr g) (by omega) (by omega)
  rw[ht,hlo] at this
  exact this
 have HOF:Hid (∀w1,Calls Tryz.prog 90 #[.int .u64 1] w1 fun e w'=>∃ad n cap,e = .returned (.slice ad n cap)/\Hid (Lim w' ad n cap 18446744073709551616 1)/\Gr w1 w'):=fun w1=>natOfR 1 w1 (by omega)
 have b1:bl 1=1:=bl_unique (by omega) (by omega)
 have HA:Hid (∀ad1 n1 c1 ad2 n2 c2 w1,Lim w1 ad1 n1 c1 18446744073709551616 (x / 2 ^ t)->Lim w1 ad2 n2 c2 18446744073709551616 1->Calls Tryz.prog 93 #[.slice ad1 n1 c1,.slice ad2 n2 c2] w1 fun e w'=>∃ad' n' cap',e = .returned (.slice ad' n' cap')/\Hid (Lim w' ad' n' cap' 18446744073709551616 (x / 2 ^ t+1))/\Gr w1 w'):=fun ad1 n1 c1 ad2 n2 c2 w1 h h'=>add59 ad1 ad2 n1 n2 c1 c2 _ 1 w1 h h' (by omega) (by omega)
 have FV:Hid (CutV s x e last up s (x / 2 ^ t) last):=by
  refine Or.inr (Or.inr ⟨x0',hel,rfl,rfl,?_⟩)
  rw[htt,hlo]
  rw[if_neg (fun h=>by simp at h)];rfl
 have G0:Gr w ((w.alloc (.cells #[.bool s,.slice ad n cap,.int .i64 e] 58)).alloc (.cells #[.bool false,.slice none 0 0,.int .i64 0] 58)):=gr2 _ _
 have PP:=box_two w (.cells #[.bool s,.slice ad n cap,.int .i64 e] 58) (.cells #[.bool false,.slice none 0 0,.int .i64 0] 58)
 have P0:=hide PP.1
 have Q0:=hide PP.2
 clear PP
 clear hx ht htt hlo hbt b1 hb x0'
 have i1:¬e>=last:=by omega
 skip
 all_goals
  go_enter Tryz.func124,Tryz.ntmps124
  go_wp2_with (first|(go_at_call 54;(with_reducible refine(HZ.out _ G0).mono ?_);rintro r w1 ⟨rfl,g1⟩;have P1:=g1.keepH P0.out;have Q1:=g1.keepH Q0.out;obtain⟨x0,x1,x2⟩:=cells_ofT P1;obtain⟨y0,y1,y2⟩:=cells_ofT Q1;obtain⟨z0,z1,z2⟩:=open_ofT Q1)|(go_at_call 130;(with_reducible refine(HD.out _ (G0.trans g1)).mono ?_);rintro r w2 ⟨a2,m2,k2,rfl,hl2,g2⟩;have P2:=g2.keepH P1;have Q2:=g2.keepH Q1;clear x0 x1 x2 y0 y1 y2 z0 z1 z2;obtain⟨x0,x1,x2⟩:=cells_ofT P2;obtain⟨y0,y1,y2⟩:=cells_ofT Q2;obtain⟨z0,z1,z2⟩:=open_ofT Q2))
  have GS:∀b:Bool,Gr w ((((w2).setCell ⟨w.heap.size+1,0,none⟩ (.bool b)).setCell ⟨w.heap.size+1,1,none⟩ (.slice a2 m2 k2)).setCell ⟨w.heap.size+1,2,none⟩ (.int .i64 last)):=fun b=>set3_gr ((G0.trans g1).trans g2) (by omega) _ _ _
  refine bodyPost_ret (v:=.agg #[.bool _,.slice a2 m2 k2,.int .i64 last]) ?_ rfl ⟨_,a2,m2,k2,_,last,rfl,set3_lim hl2.out Q2 _ _ _,FV.out,GS _⟩
  simp[results,Tryz.results124,go_sem,y0,y1,y2]
set_option maxRecDepth 10000 in
set_option maxHeartbeats 4000000 in
theorem cutNum_d1 (s up:Bool) (ad:Option Addr) (n cap x:Nat) (e last:Int) (w:World) (hx:Lim w ad n cap 18446744073709551616 x) (hb:bl x<=34359738368) (x0':0<x) (hel:e<last) (e1 : -4194304<=e) (l2:last<=4194304) (hlo:lostB x (last-e).toNat=true) (hsu:s=up) :
  Calls Tryz.prog 124 #[.agg #[.bool s,.slice ad n cap,.int .i64 e],.int .i64 last,.bool up] w fun r w'=>∃s' ad' n' cap' m e',r = .returned (.agg #[.bool s',.slice ad' n' cap',.int .i64 e'])/\Lim w' ad' n' cap' 18446744073709551616 m/\CutV s x e last up s' m e'/\Gr w w':=by
 obtain⟨t,ht⟩:∃t:Nat,(t:Int)=last-e:=⟨(last-e).toNat,by omega⟩
 have htt:(last-e).toNat=t:=by omega
 rw[htt] at hlo
 have hbt:bl (x / 2 ^ t)<=34359738368:=Nat.le_trans (bl_div _ _) hb
 have HZ:Hid (∀w1,Gr w w1->Calls Tryz.prog 54 #[.agg #[.bool s,.slice ad n cap,.int .i64 e]] w1 fun r w'=>r = .returned (.bool false)/\Gr w1 w'):=fun w1 g=>zero57n s ad n cap x e w1 (hx.gr g) (by omega) x0'
 have HD:Hid (∀w1,Gr w w1->Calls Tryz.prog 130 #[.slice ad n cap,.int .i64 (last-e)] w1 fun r w'=>∃ad' n' cap',r = .returned (.tuple #[.slice ad' n' cap',.bool true])/\Hid (Lim w' ad' n' cap' 18446744073709551616 (x / 2 ^ t))/\Gr w1 w'):=fun w1 g=>by
  have:=downF ad n cap x t w1 (hx.gr g) (by omega) (by omega)
  rw[ht,hlo] at this
  exact this
 have HOF:Hid (∀w1,Calls Tryz.prog 90 #[.int .u64 1] w1 fun e w'=>∃ad n cap,e = .returned (.slice ad n cap)/\Hid (Lim w' ad n cap 18446744073709551616 1)/\Gr w1 w'):=fun w1=>natOfR 1 w1 (by omega)
 have b1:bl 1=1:=bl_unique (by omega) (by omega)
 have HA:Hid (∀ad1 n1 c1 ad2 n2 c2 w1,Lim w1 ad1 n1 c1 18446744073709551616 (x / 2 ^ t)->Lim w1 ad2 n2 c2 18446744073709551616 1->Calls Tryz.prog 93 #[.slice ad1 n1 c1,.slice ad2 n2 c2] w1 fun e w'=>∃ad' n' cap',e = .returned (.slice ad' n' cap')/\Hid (Lim w' ad' n' cap' 18446744073709551616 (x / 2 ^ t+1))/\Gr w1 w'):=fun ad1 n1 c1 ad2 n2 c2 w1 h h'=>add59 ad1 ad2 n1 n2 c1 c2 _ 1 w1 h h' (by omega) (by omega)
 have FV:Hid (CutV s x e last up s (x / 2 ^ t) last):=by
  refine Or.inr (Or.inr ⟨x0',hel,rfl,rfl,?_⟩)
  rw[htt,hlo]
  rw[if_neg (fun h=>h.2 hsu)];rfl
 have G0:Gr w ((w.alloc (.cells #[.bool s,.slice ad n cap,.int .i64 e] 58)).alloc (.cells #[.bool false,.slice none 0 0,.int .i64 0] 58)):=gr2 _ _
 have PP:=box_two w (.cells #[.bool s,.slice ad n cap,.int .i64 e] 58) (.cells #[.bool false,.slice none 0 0,.int .i64 0] 58)
 have P0:=hide PP.1
 have Q0:=hide PP.2
 clear PP
 clear hx ht htt hlo hbt b1 hb x0'
 have i1:¬e>=last:=by omega
 subst hsu;cases s
 all_goals
  go_enter Tryz.func124,Tryz.ntmps124
  go_wp2_with (first|(go_at_call 54;(with_reducible refine(HZ.out _ G0).mono ?_);rintro r w1 ⟨rfl,g1⟩;have P1:=g1.keepH P0.out;have Q1:=g1.keepH Q0.out;obtain⟨x0,x1,x2⟩:=cells_ofT P1;obtain⟨y0,y1,y2⟩:=cells_ofT Q1;obtain⟨z0,z1,z2⟩:=open_ofT Q1)|(go_at_call 130;(with_reducible refine(HD.out _ (G0.trans g1)).mono ?_);rintro r w2 ⟨a2,m2,k2,rfl,hl2,g2⟩;have P2:=g2.keepH P1;have Q2:=g2.keepH Q1;clear x0 x1 x2 y0 y1 y2 z0 z1 z2;obtain⟨x0,x1,x2⟩:=cells_ofT P2;obtain⟨y0,y1,y2⟩:=cells_ofT Q2;obtain⟨z0,z1,z2⟩:=open_ofT Q2))
  have GS:∀b:Bool,Gr w ((((w2).setCell ⟨w.heap.size+1,0,none⟩ (.bool b)).setCell ⟨w.heap.size+1,1,none⟩ (.slice a2 m2 k2)).setCell ⟨w.heap.size+1,2,none⟩ (.int .i64 last)):=fun b=>set3_gr ((G0.trans g1).trans g2) (by omega) _ _ _
  refine bodyPost_ret (v:=.agg #[.bool _,.slice a2 m2 k2,.int .i64 last]) ?_ rfl ⟨_,a2,m2,k2,_,last,rfl,set3_lim hl2.out Q2 _ _ _,FV.out,GS _⟩
  simp[results,Tryz.results124,go_sem,y0,y1,y2]
set_option maxRecDepth 10000 in
set_option maxHeartbeats 4000000 in
theorem cutNum_d2 (s up:Bool) (ad:Option Addr) (n cap x:Nat) (e last:Int) (w:World) (hx:Lim w ad n cap 18446744073709551616 x) (hb:bl x<=34359738368) (x0':0<x) (hel:e<last) (e1 : -4194304<=e) (l2:last<=4194304) (hlo:lostB x (last-e).toNat=true) (hsu:s≠up) :
  Calls Tryz.prog 124 #[.agg #[.bool s,.slice ad n cap,.int .i64 e],.int .i64 last,.bool up] w fun r w'=>∃s' ad' n' cap' m e',r = .returned (.agg #[.bool s',.slice ad' n' cap',.int .i64 e'])/\Lim w' ad' n' cap' 18446744073709551616 m/\CutV s x e last up s' m e'/\Gr w w':=by
 obtain⟨t,ht⟩:∃t:Nat,(t:Int)=last-e:=⟨(last-e).toNat,by omega⟩
 have htt:(last-e).toNat=t:=by omega
 rw[htt] at hlo
 have hbt:bl (x / 2 ^ t)<=34359738368:=Nat.le_trans (bl_div _ _) hb
 have HZ:Hid (∀w1,Gr w w1->Calls Tryz.prog 54 #[.agg #[.bool s,.slice ad n cap,.int .i64 e]] w1 fun r w'=>r = .returned (.bool false)/\Gr w1 w'):=fun w1 g=>zero57n s ad n cap x e w1 (hx.gr g) (by omega) x0'
 have HD:Hid (∀w1,Gr w w1->Calls Tryz.prog 130 #[.slice ad n cap,.int .i64 (last-e)] w1 fun r w'=>∃ad' n' cap',r = .returned (.tuple #[.slice ad' n' cap',.bool true])/\Hid (Lim w' ad' n' cap' 18446744073709551616 (x / 2 ^ t))/\Gr w1 w'):=fun w1 g=>by
  have:=downF ad n cap x t w1 (hx.gr g) (by omega) (by omega)
  rw[ht,hlo] at this
  exact this
 have HOF:Hid (∀w1,Calls Tryz.prog 90 #[.int .u64 1] w1 fun e w'=>∃ad n cap,e = .returned (.slice ad n cap)/\Hid (Lim w' ad n cap 18446744073709551616 1)/\Gr w1 w'):=fun w1=>natOfR 1 w1 (by omega)
 have b1:bl 1=1:=bl_unique (by omega) (by omega)
 have HA:Hid (∀ad1 n1 c1 ad2 n2 c2 w1,Lim w1 ad1 n1 c1 18446744073709551616 (x / 2 ^ t)->Lim w1 ad2 n2 c2 18446744073709551616 1->Calls Tryz.prog 93 #[.slice ad1 n1 c1,.slice ad2 n2 c2] w1 fun e w'=>∃ad' n' cap',e = .returned (.slice ad' n' cap')/\Hid (Lim w' ad' n' cap' 18446744073709551616 (x / 2 ^ t+1))/\Gr w1 w'):=fun ad1 n1 c1 ad2 n2 c2 w1 h h'=>add59 ad1 ad2 n1 n2 c1 c2 _ 1 w1 h h' (by omega) (by omega)
 have FV:Hid (CutV s x e last up s (x / 2 ^ t+1) last):=by
  refine Or.inr (Or.inr ⟨x0',hel,rfl,rfl,?_⟩)
  rw[htt,hlo]
  rw[if_pos ⟨rfl,hsu⟩]
 have G0:Gr w ((w.alloc (.cells #[.bool s,.slice ad n cap,.int .i64 e] 58)).alloc (.cells #[.bool false,.slice none 0 0,.int .i64 0] 58)):=gr2 _ _
 have PP:=box_two w (.cells #[.bool s,.slice ad n cap,.int .i64 e] 58) (.cells #[.bool false,.slice none 0 0,.int .i64 0] 58)
 have P0:=hide PP.1
 have Q0:=hide PP.2
 clear PP
 clear hx ht htt hlo hbt b1 hb x0'
 have i1:¬e>=last:=by omega
 cases s <;> cases up <;> first|(exact absurd rfl hsu)|skip
 all_goals
  go_enter Tryz.func124,Tryz.ntmps124
  go_wp2_with (first|(go_at_call 54;(with_reducible refine(HZ.out _ G0).mono ?_);rintro r w1 ⟨rfl,g1⟩;have P1:=g1.keepH P0.out;have Q1:=g1.keepH Q0.out;obtain⟨x0,x1,x2⟩:=cells_ofT P1;obtain⟨y0,y1,y2⟩:=cells_ofT Q1;obtain⟨z0,z1,z2⟩:=open_ofT Q1)|(go_at_call 130;(with_reducible refine(HD.out _ (G0.trans g1)).mono ?_);rintro r w2 ⟨a2,m2,k2,rfl,hl2,g2⟩;have P2:=g2.keepH P1;have Q2:=g2.keepH Q1;clear x0 x1 x2 y0 y1 y2 z0 z1 z2;obtain⟨x0,x1,x2⟩:=cells_ofT P2;obtain⟨y0,y1,y2⟩:=cells_ofT Q2;obtain⟨z0,z1,z2⟩:=open_ofT Q2)|(go_at_call 90;(with_reducible refine(HOF.out _).mono ?_);rintro r w3 ⟨a3,m3,k3,rfl,hl3,g3⟩)|(go_at_call 93;(with_reducible refine(HA.out _ _ _ _ _ _ _ (hl2.out.gr g3) hl3.out).mono ?_);rintro r w4 ⟨a4,m4,k4,rfl,hl4,g4⟩;have P4:=(g3.trans g4).keepH P2;have Q4:=(g3.trans g4).keepH Q2;clear x0 x1 x2 y0 y1 y2 z0 z1 z2;obtain⟨x0,x1,x2⟩:=cells_ofT P4;obtain⟨y0,y1,y2⟩:=cells_ofT Q4;obtain⟨z0,z1,z2⟩:=open_ofT Q4))
  have GS:∀b:Bool,Gr w ((((w4).setCell ⟨w.heap.size+1,0,none⟩ (.bool b)).setCell ⟨w.heap.size+1,1,none⟩ (.slice a4 m4 k4)).setCell ⟨w.heap.size+1,2,none⟩ (.int .i64 last)):=fun b=>set3_gr ((((G0.trans g1).trans g2).trans g3).trans g4) (by omega) _ _ _
  refine bodyPost_ret (v:=.agg #[.bool _,.slice a4 m4 k4,.int .i64 last]) ?_ rfl ⟨_,a4,m4,k4,_,last,rfl,set3_lim hl4.out Q4 _ _ _,FV.out,GS _⟩
  simp[results,Tryz.results124,go_sem,y0,y1,y2]
theorem cutNum (s up:Bool) (ad:Option Addr) (n cap x:Nat) (e last:Int) (w:World) (hx:Lim w ad n cap 18446744073709551616 x) (hb:bl x<=34359738368) (e1 : -4194304<=e) (l2:last<=4194304) :
  Calls Tryz.prog 124 #[.agg #[.bool s,.slice ad n cap,.int .i64 e],.int .i64 last,.bool up] w fun r w'=>∃s' ad' n' cap' m e',r = .returned (.agg #[.bool s',.slice ad' n' cap',.int .i64 e'])/\Lim w' ad' n' cap' 18446744073709551616 m/\CutV s x e last up s' m e'/\Gr w w':=by
 rcases Nat.eq_zero_or_pos x with rfl|h0
 ·exact cutNum_z s up ad n cap e last w hx
 ·by_cases hel:last<=e
  ·exact cutNum_f s up ad n cap x e last w hx hb h0 hel
  ·cases hlo:lostB x (last-e).toNat
   ·exact cutNum_d0 s up ad n cap x e last w hx hb h0 (by omega) e1 l2 hlo
   ·by_cases hsu:s=up
    ·exact cutNum_d1 s up ad n cap x e last w hx hb h0 (by omega) e1 l2 hlo hsu
    ·exact cutNum_d2 s up ad n cap x e last w hx hb h0 (by omega) e1 l2 hlo hsu
theorem sub64B (o l:Nat) (ho:o<18446744073709551616) (hl:l<18446744073709551616):∃new bo:Nat,new+l=o+18446744073709551616*bo/\bo<=1/\new<18446744073709551616/\(l=0->bo=0)/\∀w,(callFunc 185 #[.int .u64 (o:Int),.int .u64 (l:Int),.int .u64 0]).run Tryz.prog w = .ok (.value (.tuple #[.int .u64 (new:Int),.int .u64 (bo:Int)])) w:=by
 refine⟨(o+18446744073709551616-l-0) % 18446744073709551616,if o<l+0 then 1 else 0,?_,?_,Nat.mod_lt _ (by omega),?_,fun w=>sub64N o l 0 (by omega) w⟩
 ·split <;> omega
 ·split <;> omega
 ·intro h;rw[if_neg (by omega)]
set_option maxHeartbeats 1600000 in
theorem takeTimesN (g N k cp x:Nat) (ad2:Option Addr) (n2 c2:Nat) (ys zs0:List Nat) (w0 w:World) (ry:Row w0 ad2 n2 c2 ys) (hy:∀x∈ys,x<18446744073709551616) (bx:x<18446744073709551616) (h0:∀z∈zs0,z<18446744073709551616)
  (hkN:k+n2+1<=N) (hNm:N<=4398046511104) (hcp:n2+1<=cp) (hg0:Gr w0 w) (hsz:w0.heap.size<=g) (how:w.ownsRow g 34 1 (.slice (some ⟨g,0,none⟩) N N) N (u64s zs0)) :
  Calls Tryz.prog 195 #[.slice (some ⟨g,k,none⟩) ((n2:Nat)+1) cp,.slice ad2 n2 c2,.int .u64 (x:Int)] w fun e w'=>∃(b:Nat) (zs:List Nat),e = .returned (.int .u64 (b:Int))/\b<=1/\(zs.length=N/\(∀z∈zs,z<18446744073709551616)/\nv 18446744073709551616 zs+18446744073709551616 ^ k*(x*nv 18446744073709551616 ys)=nv 18446744073709551616 zs0+18446744073709551616 ^ (k+n2+1)*b/\∀i,k+n2+1<=i->zs.getD i 0=zs0.getD i 0)/\w'.ownsRow g 34 1 (.slice (some ⟨g,0,none⟩) N N) N (u64s zs)/\Gr w0 w'/\Gx g w w':=by
 have RY:Hid (Row w0 ad2 n2 c2 ys):=ry
 have HY:Hid (∀x∈ys,x<18446744073709551616):=hy
 have H0:Hid (∀x∈zs0,x<18446744073709551616):=h0
 have HG:Hid (Gr w0 w/\Gx g w w):=⟨hg0,Gx.refl g w⟩
 have hl2:=ry.le
 clear ry hy hg0 h0
 go_enter Tryz.func195,Tryz.ntmps195
 go_wp2
 go_loopw [7,17] (fun cr i wr=>∃(j c:Nat) (zs:List Nat),j<=n2/\c<18446744073709551616/\i = .int .i64 (j:Int)/\cr = .int .u64 (c:Int)/\wr.ownsRow g 34 1 (.slice (some ⟨g,0,none⟩) N N) N (u64s zs)/\Hid (TakAt ys zs zs0 k j x c N)/\Hid (Gr w0 wr/\Gx g w wr)) (fun _ i _=>n2-(intOf i).toNat)
 case atStart=>exact⟨0,0,zs0,by omega,by omega,rfl,rfl,how,TakAt.start (owns_len how) H0.out,HG⟩
 case round =>
  obtain⟨j,c,zs,hj,hc,rfl,rfl,hown,hA,hg⟩:=hrel
  by_cases hlt:j<n2
  ·obtain⟨p2,o2,rfl,hp2,hc2⟩:=RY.out.lt (by omega)
   have hcell2:=hc2 wr hg.out.1 j hlt
   have hcell3:=owns_cell hown (k+j) (by omega)
   have hfz:=hown.frozenAt (k+j)
   obtain⟨yk,hyk⟩:∃yk,yk=ys.getD j 0:=⟨_,rfl⟩
   obtain⟨ok,hok⟩:∃ok,ok=zs.getD (k+j) 0:=⟨_,rfl⟩
   rw[<-hyk] at hcell2
   rw[<-hok] at hcell3
   have byk:yk<18446744073709551616:=hyk ▸ getD_lt (by omega) HY.out j
   have bok:ok<18446744073709551616:=hok ▸ getD_lt (by omega) hA.out.lt (k+j)
   have MUL:=fun w=>Tryz.bits_Mul64 x yk bx byk w
   have hm:=prod_le bx byk
   obtain⟨m,hmm⟩:∃m,m=x*yk:=⟨_,rfl⟩
   rw[<-hmm] at MUL hm
   obtain⟨hi,hhi⟩:∃hi,hi=m / 18446744073709551616:=⟨_,rfl⟩
   obtain⟨lo,hlo⟩:∃lo,lo=m % 18446744073709551616:=⟨_,rfl⟩
   rw[<-hhi,<-hlo] at MUL
   have M:Hid (∀w1,Calls Tryz.prog 84 #[.int .u64 (x:Int),.int .u64 (yk:Int)] w1 fun e w'=>e = .returned (.tuple #[.int .u64 (hi:Int),.int .u64 (lo:Int)])/\w'=w1):=MUL
   have A1:=fun w=>add64N lo c 0 (by omega) w
   obtain⟨l1,hl1⟩:∃l1,l1=(lo+c+0) % 18446744073709551616:=⟨_,rfl⟩
   obtain⟨m1,hm1⟩:∃m1,m1=(lo+c+0) / 18446744073709551616:=⟨_,rfl⟩
   rw[<-hl1,<-hm1] at A1
   have A1':Hid (∀w,(callFunc 85 #[.int .u64 (lo:Int),.int .u64 (c:Int),.int .u64 0]).run Tryz.prog w = .ok (.value (.tuple #[.int .u64 (l1:Int),.int .u64 (m1:Int)])) w):=A1
   obtain⟨nw,bo,q1,q2,q3,q4,S⟩:=sub64B ok l1 bok (by omega)
   have S':Hid (∀w,(callFunc 185 #[.int .u64 (ok:Int),.int .u64 (l1:Int),.int .u64 0]).run Tryz.prog w = .ok (.value (.tuple #[.int .u64 (nw:Int),.int .u64 (bo:Int)])) w):=S
   have NX':Hid (TakAt ys (zs.set (k+j) nw) zs0 k (j+1) x (hi+m1+bo) N):=hA.out.next (by omega) hok hyk q1 (by rw[<-hmm];omega) q3
   have b1:hi+m1+bo<18446744073709551616:=by
    by_cases z:l1=0
    ·have:=q4 z;omega
    ·omega
   have b2:hi+m1<18446744073709551616:=by omega
   clear A1 MUL hhi hlo hl1 hm1 hm hmm S q1 q4 hyk hok hc2
   have i1:(j:Int)<(n2:Int):=by omega
   go_wp2_with (first|(simp only[A1'.out])|(simp only[S'.out])|(go_at_call 84;with_reducible refine(M.out _).mono ?_;rintro e w' ⟨rfl,rfl⟩))
   go_roundw
   case rel=>exact⟨j+1,hi+m1+bo,_,by omega,b1,by go_num,by go_num,owns_set hown (k+j) nw,NX'.out,⟨hg.out.1.setCell hsz _,hg.out.2.setCell rfl _⟩⟩
   case measure=>simp only[intOf];omega
  ·have hk2:j=n2:=by omega
   subst hk2
   have hcell3:=owns_cell hown (k+j) (by omega)
   have hfz:=hown.frozenAt (k+j)
   obtain⟨ok,hok⟩:∃ok,ok=zs.getD (k+j) 0:=⟨_,rfl⟩
   rw[<-hok] at hcell3
   have bok:ok<18446744073709551616:=hok ▸ getD_lt (by omega) hA.out.lt (k+j)
   obtain⟨nw,bo,q1,q2,q3,q4,S⟩:=sub64B ok c bok hc
   have S':Hid (∀w,(callFunc 185 #[.int .u64 (ok:Int),.int .u64 (c:Int),.int .u64 0]).run Tryz.prog w = .ok (.value (.tuple #[.int .u64 (nw:Int),.int .u64 (bo:Int)])) w):=S
   have F:Hid _:=hA.out.last (by omega) hok q1 (by rw[RY.out.len];exact Nat.le_refl _) q3
   clear S q1 q3 q4 hok
   go_wp2_with (first|(simp only[S'.out]))
   go_ret
   exact⟨bo,_,rfl,q2,F.out,owns_set hown (k+j) nw,⟨hg.out.1.setCell hsz _,hg.out.2.setCell rfl _⟩⟩
end Go.Proofs.YtanpdbadfddlcaaGreatDoor
