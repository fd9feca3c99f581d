import Derived.Test.YtibckeckjfmbkaaGreatDoorM19
import Derived.Test.YtibckeckjfmbkaaGreatDoorM15
namespace Go.Proofs.YtibckeckjfmbkaaGreatDoor
open Go.RowKit
set_option linter.unusedVariables false
theorem nv_drop_end {l:List Nat} {k:Nat} (h:l.length<=k):nv 18446744073709551616 (l.drop k)=0:=by rw[List.drop_of_length_le h];rfl
theorem bl_pos' {y:Nat} (h:0<y):0<bl y:=by
 rw[bl_pos h];omega
theorem div64N (hi lo y:Nat) (hy:hi<y) (by':y<18446744073709551616) (bl':lo<18446744073709551616) (w:World) (Qv Rv:Nat) (hQ:Qv=(hi*18446744073709551616+lo) / y) (hR:Rv=(hi*18446744073709551616+lo) % y) :
  Calls Tryz.prog 192 #[.int .u64 (hi:Int),.int .u64 (lo:Int),.int .u64 (y:Int)] w fun r w'=>r = .returned (.tuple #[.int .u64 (Qv:Int),.int .u64 (Rv:Int)])/\Gr w w':=by
 by_cases h0:hi=0
 ·subst h0
  rw[Nat.zero_mul,Nat.zero_add] at hQ hR
  rw[hQ,hR]
  exact div64_0 lo y (by omega) bl' w
 ·have hb:=bl_pos' (y:=y) (by omega)
  obtain⟨Y,y1,y0,H,l10,u1,u0,D⟩:=divN hy by' bl' rfl (by omega)
  exact div64T hi lo y (64-bl y) Y y1 y0 H l10 u1 u0 (by omega) hy by' bl' w rfl (by omega) D Qv Rv ⟨hQ,hR⟩
set_option maxHeartbeats 1600000 in
theorem shortQN (ad:Option Addr) (n1 c1 x y:Nat) (w:World) (hx:Lim w ad n1 c1 18446744073709551616 x) (y0:0<y) (by':y<18446744073709551616) (b1:n1<=1099511627776) :
  Calls Tryz.prog 186 #[.slice ad n1 c1,.int .u64 (y:Int)] w fun e w'=>∃ad' n' cap',e = .returned (.slice ad' n' cap')/\n'<=n1/\Lim w' ad' n' cap' 18446744073709551616 (x / y)/\Gr w w':=by
 obtain⟨xs,rx,dx⟩:=hx
 have RX:Hid (Row w ad n1 c1 xs):=rx
 have DX:Hid (Dg 18446744073709551616 x xs):=dx
 have hl1:=rx.le
 clear rx dx
 go_enter Tryz.func186,Tryz.ntmps186
 go_wp2_with (at_make;refine wpList_made rfl _ _ rfl n1 _ rfl rfl ?_ ?_ ?_;rotate_right;intro w2 hown0 hg2)
 case' refine_1=>rfl
 case' refine_2=>omega
 have G2:Hid (Gr w w2):=hg2
 clear hg2
 go_loopw [6,7] (fun cr i wr=>∃(k c:Nat) (zs:List Nat),k<=n1/\i = .int .i64 ((k:Int)-1)/\cr = .int .u64 (c:Int)/\wr.ownsRow w.heap.size 39 1 (.slice (some ⟨w.heap.size,0,none⟩) n1 n1) n1 (u64s zs)/\Hid ((∀z∈zs,z<18446744073709551616)/\c=nv 18446744073709551616 (xs.drop k) % y/\nv 18446744073709551616 (zs.drop k)=nv 18446744073709551616 (xs.drop k) / y)/\Hid (Gr w wr)) (fun _ i _=>(intOf i+1).toNat)
 case atStart=>exact⟨n1,0,List.replicate n1 0,Nat.le_refl _,by go_num,rfl,hown0,⟨(fun z hz=>by rw[List.mem_replicate] at hz;omega),(by rw[nv_drop_end (l:=xs) (by rw[RX.out.len];exact Nat.le_refl _),Nat.zero_mod]),(by rw[nv_drop_end (l:=xs) (by rw[RX.out.len];exact Nat.le_refl _),nv_drop_end (l:=List.replicate n1 0) (by rw[List.length_replicate];exact Nat.le_refl _),Nat.zero_div])⟩,G2⟩
 case round =>
  obtain⟨k,c,zs,hk,rfl,rfl,hown,hA,hg⟩:=hrel
  by_cases hlt:0<k
  ·obtain⟨j,rfl⟩:∃j,k=j+1:=⟨k-1,by omega⟩
   obtain⟨p1,o1,rfl,hp1,hc1⟩:=RX.out.lt (by omega)
   have hcell1:=hc1 wr hg.out j (by omega)
   have hcell3:=owns_cell hown j (by omega)
   have hfz:=hown.frozenAt j
   obtain⟨xk,hxk⟩:∃xk,xk=xs.getD j 0:=⟨_,rfl⟩
   rw[<-hxk] at hcell1
   have bxk:xk<18446744073709551616:=hxk ▸ getD_lt (by omega) DX.out.2.1 j
   obtain⟨a1,a2,a3⟩:=hA.out
   have hcy:c<y:=a2 ▸ Nat.mod_lt _ y0
   obtain⟨Qv,hQv⟩:∃Qv,Qv=(c*18446744073709551616+xk) / y:=⟨_,rfl⟩
   obtain⟨Rv,hRv⟩:∃Rv,Rv=(c*18446744073709551616+xk) % y:=⟨_,rfl⟩
   have bQ:Qv<18446744073709551616:=hQv ▸ sq_lt hcy bxk
   have st:=sq_step (B:=18446744073709551616) (d:=y) (X:=nv 18446744073709551616 (xs.drop (j+1))) (x:=xk) y0
   have hl:xs.length=n1:=RX.out.len
   have hz:zs.length=n1:=owns_len hown
   have NX:Hid ((∀z∈zs.set j Qv,z<18446744073709551616)/\Rv=nv 18446744073709551616 (xs.drop j) % y/\nv 18446744073709551616 ((zs.set j Qv).drop j)=nv 18446744073709551616 (xs.drop j) / y):=by
    refine⟨set_lt a1 bQ,?_,?_⟩
    ·rw[nv_drop_at _ (by omega),<-hxk,st.2,<-a2,hRv]
    ·rw[nv_drop_set _ (by omega),nv_drop_at _ (xs:=xs) (by omega),<-hxk,st.1,<-a2,a3,hQv]
   have D:Hid (∀w1,Calls Tryz.prog 192 #[.int .u64 (c:Int),.int .u64 (xk:Int),.int .u64 (y:Int)] w1 fun r w'=>r = .returned (.tuple #[.int .u64 (Qv:Int),.int .u64 (Rv:Int)])/\Gr w1 w'):=fun w1=>div64N c xk y hcy by' bxk w1 Qv Rv hQv hRv
   clear hxk hc1 a1 a2 a3 hQv hRv st hcy
   have i1:(j:Int)<(n1:Int):=by omega
   have hlt:=hown.lt w.heap.size rfl
   obtain⟨wo,rfl⟩:∃wo:World,wo=wr:=⟨_,rfl⟩
   have e1:((j+1:Nat):Int)-1=(j:Int):=by omega
   rw[e1]
   go_wp2_with (go_at_call 192;(with_reducible refine(D.out _).mono ?_);rintro r w3 ⟨rfl,g3⟩;have hown3:=g3.owns hown;have hcell4:=owns_cell hown3 j (by omega);have hfz4:=hown3.frozenAt j)
   go_roundw
   case rel=>exact⟨j,Rv,_,by omega,by go_num,rfl,owns_set hown3 j Qv,NX.out,(hg.out.trans g3).setCell (Nat.le_refl _) _⟩
   case measure=>simp only[intOf];omega
  ·obtain rfl:k=0:=by omega
   have HT:=trimOwn (v:=x / y) hown hA.out.1 (by have:=hA.out.2.2;rw[List.drop_zero,List.drop_zero,DX.out.1] at this;exact this)
   have HT':Hid (Calls Tryz.prog 174 #[.slice (some ⟨w.heap.size,0,none⟩) n1 n1] wr fun e w'=>∃i,e = .returned (.slice (some ⟨w.heap.size,0,none⟩) i n1)/\i<=n1/\Lim w' (some ⟨w.heap.size,0,none⟩) i n1 18446744073709551616 (x / y)/\w'=wr):=HT
   clear HT hown
   go_wp2_with (go_at_call 174;with_reducible refine HT'.out.mono ?_;rintro e w' ⟨i,rfl,hi,hl,rfl⟩)
   go_ret
   exact⟨_,_,_,rfl,hi,hl,hg.out⟩
theorem top_three {zs ys:List Nat} {k t:Nat} (hz:∀z∈zs,z<18446744073709551616) (hy:∀z∈ys,z<18446744073709551616) (hl:k+t+3<=zs.length) (hn:ys.length=t+2) (hu:nv 18446744073709551616 zs<18446744073709551616 ^ (k+t+3)) (hv:0<ys.getD (t+1) 0) :
  nv 18446744073709551616 zs / 18446744073709551616 ^ k / nv 18446744073709551616 ys<=((zs.getD (k+t+2) 0*18446744073709551616+zs.getD (k+t+1) 0)*18446744073709551616+zs.getD (k+t) 0) / (ys.getD (t+1) 0*18446744073709551616+ys.getD t 0):=by
 have a0:=nv_take_zeros 18446744073709551616 zs (k+t+3) (fun i h1 _=>upper_zero (by omega) hu i h1)
 rw[nv_take_succ,nv_take_succ,nv_take_succ] at a0
 have a1:=nv_lt 18446744073709551616 (zs.take (k+t)) (fun x hx=>hz x (List.mem_of_mem_take hx))
 rw[List.length_take,Nat.min_eq_left (by omega)] at a1
 have b0:=nv_take_all 18446744073709551616 ys (t+2) (by omega)
 rw[nv_take_succ,nv_take_succ] at b0
 rw[show k+t+2=k+t+1+1 from rfl,Nat.pow_succ,Nat.pow_succ] at a0
 rw[Nat.pow_succ] at b0
 refine three_le (B:=18446744073709551616) (P:=18446744073709551616 ^ t) (Nat.pow_pos (by omega)) ?_ ?_ (by omega)
 ·refine(Nat.div_lt_iff_lt_mul (Nat.pow_pos (by omega))).2 ?_
  rw[<-a0,Nat.mul_assoc (_+1),<-Nat.pow_add,Nat.add_comm t k,show k+t+2=k+t+1+1 from rfl,Nat.pow_succ 18446744073709551616 (k+t)]
  generalize 18446744073709551616 ^ (k+t)=P at *
  generalize nv 18446744073709551616 (zs.take (k+t))=L at *
  generalize zs.getD (k+t) 0=p0 at *
  generalize zs.getD (k+t+1) 0=p1 at *
  generalize zs.getD (k+t+1+1) 0=p2 at *
  have e:((p2*18446744073709551616+p1)*18446744073709551616+p0+1)*P=P*p0+P*18446744073709551616*p1+P*18446744073709551616*18446744073709551616*p2+P:=by
   rw[Nat.add_mul,Nat.one_mul,Nat.add_mul,Nat.mul_comm p0 P,Nat.add_mul,Nat.add_mul]
   have f1:p2*18446744073709551616*18446744073709551616*P=P*18446744073709551616*18446744073709551616*p2:=by ac_rfl
   have f2:p1*18446744073709551616*P=P*18446744073709551616*p1:=by ac_rfl
   rw[f1,f2]
   omega
  rw[e]
  omega
 ·rw[<-b0]
  generalize 18446744073709551616 ^ t=P at *
  generalize ys.getD t 0=v0 at *
  generalize ys.getD (t+1) 0=v1 at *
  have e:(v1*18446744073709551616+v0)*P=P*v0+P*18446744073709551616*v1:=by
   rw[Nat.add_mul,Nat.mul_comm v0 P]
   have f1:v1*18446744073709551616*P=P*18446744073709551616*v1:=by ac_rfl
   rw[f1]
   omega
  rw[e]
  omega
theorem pow_pos64 (k:Nat):0<18446744073709551616 ^ k:=Nat.pow_pos (by omega)
theorem lt_of_mul64 {Z V k:Nat} (h:Z<18446744073709551616 ^ (k+1)*V):Z / 18446744073709551616 ^ k / V<18446744073709551616:=by
 have hV0:0<V:=Nat.pos_of_ne_zero fun h'=>by rw[h',Nat.mul_zero] at h;omega
 refine(Nat.div_lt_iff_lt_mul hV0).2 ((Nat.div_lt_iff_lt_mul (pow_pos64 k)).2 ?_)
 rw[Nat.pow_succ] at h
 generalize 18446744073709551616 ^ k=P at *
 have e:P*18446744073709551616*V=18446744073709551616*V*P:=by ac_rfl
 omega
theorem lt_pow64 {Z V k m:Nat} (h:Z<18446744073709551616 ^ (k+1)*V) (hV:V<18446744073709551616 ^ m):Z<18446744073709551616 ^ (k+1+m):=by
 rw[Nat.pow_add]
 have:=Nat.mul_lt_mul_of_pos_left hV (pow_pos64 (k+1))
 omega
theorem keep5 {W wo wn:World} {b1 b2 b3 b4 b5 o1 o2 o3 o4 o5:Nat} {v1 v2 v3 v4 v5:Value} (g:Gr wo wn) (h:wo.cell? ⟨b1,o1,none⟩=some v1/\wo.cell? ⟨b2,o2,none⟩=some v2/\wo.cell? ⟨b3,o3,none⟩=some v3/\wo.cell? ⟨b4,o4,none⟩=some v4/\wo.cell? ⟨b5,o5,none⟩=some v5/\Gr W wo) :
  wn.cell? ⟨b1,o1,none⟩=some v1/\wn.cell? ⟨b2,o2,none⟩=some v2/\wn.cell? ⟨b3,o3,none⟩=some v3/\wn.cell? ⟨b4,o4,none⟩=some v4/\wn.cell? ⟨b5,o5,none⟩=some v5/\Gr W wn:=⟨g.keep h.1,g.keep h.2.1,g.keep h.2.2.1,g.keep h.2.2.2.1,g.keep h.2.2.2.2.1,h.2.2.2.2.2.trans g⟩
set_option maxHeartbeats 1600000 in
theorem guessN (g N k cp T u:Nat) (hT:T=u+1) (ad2:Option Addr) (c2 V:Nat) (ys zs:List Nat) (w0 w:World) (ry:Row w0 ad2 (T+1) c2 ys) (dy:Dg 18446744073709551616 V ys) (hz:∀z∈zs,z<18446744073709551616)
  (hkN:k+T+2<=N) (hNm:N<=4398046511104) (hcp:T+2<=cp) (hg0:Gr w0 w) (how:w.ownsRow g 39 1 (.slice (some ⟨g,0,none⟩) N N) N (u64s zs)) (hu:nv 18446744073709551616 zs<18446744073709551616 ^ (k+1)*V) :
  Calls Tryz.prog 193 #[.slice (some ⟨g,k,none⟩) ((T:Nat)+1+1) cp,.slice ad2 (T+1) c2] w fun e w'=>∃(x:Nat),e = .returned (.int .u64 (x:Int))/\x<18446744073709551616/\nv 18446744073709551616 zs / 18446744073709551616 ^ k / V<=x/\Gr w w':=by
 have hqB:=lt_of_mul64 hu
 have hzl:=owns_len how
 have TOP:nv 18446744073709551616 zs / 18446744073709551616 ^ k / V<=((zs.getD (k+(T+1)) 0*18446744073709551616+zs.getD (k+T) 0)*18446744073709551616+zs.getD (k+u) 0) / (ys.getD T 0*18446744073709551616+ys.getD u 0):=by
  have hl:=ry.len
  subst hT
  have hV:V<18446744073709551616 ^ (u+2):=by have:=dy.upper;rwa [hl] at this
  have:=top_three (zs:=zs) (ys:=ys) (k:=k) (t:=u) hz dy.2.1 (by omega) hl (by have:=lt_pow64 hu hV;rwa [show k+1+(u+2)=k+u+3 by omega] at this) (Nat.pos_of_ne_zero (dy.2.2 (u+1) hl))
  rw[dy.1] at this
  exact this
 have hv1:0<ys.getD T 0:=Nat.pos_of_ne_zero (dy.2.2 T ry.len)
 generalize nv 18446744073709551616 zs / 18446744073709551616 ^ k / V=QT at *
 obtain⟨b2,o2,rfl,hb2,hc2⟩:=ry.lt (by omega)
 have cy1:=hc2 w hg0 T (by omega)
 have cy0:=hc2 w hg0 u (by omega)
 have cz2:=owns_cell how (k+(T+1)) (by omega)
 have cz1:=owns_cell how (k+T) (by omega)
 have cz0:=owns_cell how (k+u) (by omega)
 have bz:∀i,zs.getD i 0<18446744073709551616:=fun i=>getD_lt (by omega) hz i
 have by':∀i,ys.getD i 0<18446744073709551616:=fun i=>getD_lt (by omega) dy.2.1 i
 have bp2:=bz (k+(T+1))
 have bp1:=bz (k+T)
 have bp0:=bz (k+u)
 have bv1:=by' T
 have bv0:=by' u
 have hl2:=ry.le
 have eu:(T:Int)-1=(u:Int):=by omega
 have i0:(u:Int)<(T:Int)+1:=by omega
 have i1:(u:Int)<(T:Int)+1+1:=by omega
 have hTb:T<=4398046511104:=by omega
 clear hc2 bz by' dy hz hu how hg0 ry hT hzl
 generalize zs.getD (k+(T+1)) 0=p2 at *
 generalize zs.getD (k+T) 0=p1 at *
 generalize zs.getD (k+u) 0=p0 at *
 generalize ys.getD T 0=v1 at *
 generalize ys.getD u 0=v0 at *
 by_cases hge:v1<=p2
 ·have hge':(p2:Int)>=(v1:Int):=by omega
  go_enter Tryz.func193,Tryz.ntmps193
  go_wp2
  go_quiet (fail)
  go_wp2
  go_ret
  exact⟨18446744073709551615,rfl,by omega,by omega,(Gr.refl _).drewN _⟩
 ·have hge':¬(p2:Int)>=(v1:Int):=by omega
  obtain⟨x0,hx0⟩:∃x0,x0=(p2*18446744073709551616+p1) / v1:=⟨_,rfl⟩
  obtain⟨r0,hr0⟩:∃r0,r0=(p2*18446744073709551616+p1) % v1:=⟨_,rfl⟩
  have D:Hid (∀w1,Calls Tryz.prog 192 #[.int .u64 (p2:Int),.int .u64 (p1:Int),.int .u64 (v1:Int)] w1 fun r w'=>r = .returned (.tuple #[.int .u64 (x0:Int),.int .u64 (r0:Int)])/\Gr w1 w'):=fun w1=>div64N p2 p1 v1 (by omega) bv1 bp1 w1 x0 r0 hx0 hr0
  have bx0:x0<18446744073709551616:=hx0 ▸ sq_lt (by omega) bp1
  have br0:r0<v1:=hr0 ▸ Nat.mod_lt _ hv1
  have ST:Hid (x0*v1+r0=p2*18446744073709551616+p1/\((p2*18446744073709551616+p1)*18446744073709551616+p0) / (v1*18446744073709551616+v0)<=x0):=by
   refine⟨?_,?_⟩
   ·rw[hx0,hr0,Nat.mul_comm];exact Nat.div_add_mod _ _
   ·rw[hx0];exact guess_start hv1 bp0 (by omega)
  have TOP':Hid (QT<=((p2*18446744073709551616+p1)*18446744073709551616+p0) / (v1*18446744073709551616+v0)):=TOP
  clear hx0 hr0 TOP
  go_enter Tryz.func193,Tryz.ntmps193
  go_wp2
  go_quiet (fail)
  go_wp2
  have hS0:(w.drewN nq).drew.cell? ⟨g,k+(T+1),none⟩=some (.int .u64 (p2:Int))/\(w.drewN nq).drew.cell? ⟨g,k+T,none⟩=some (.int .u64 (p1:Int))/\(w.drewN nq).drew.cell? ⟨g,k+u,none⟩=some (.int .u64 (p0:Int))/\(w.drewN nq).drew.cell? ⟨b2,o2+T,none⟩=some (.int .u64 (v1:Int))/\(w.drewN nq).drew.cell? ⟨b2,o2+u,none⟩=some (.int .u64 (v0:Int))/\Gr w (w.drewN nq).drew:=⟨cz2,cz1,cz0,cy1,cy0,((Gr.refl w).drewN nq).drew⟩
  clear cz2 cz1 cz0 cy1 cy0
  generalize w.drewN nq=wq at *
  have j0:(0:Int)<=(T:Int):=by omega
  have j0':(0:Int)<=(T:Int)+1:=by omega
  have j1:(T:Int)<(T:Int)+1:=by omega
  have j2:(T:Int)<(T:Int)+1+1:=by omega
  have j3:(T:Int)+1<(T:Int)+1+1:=by omega
  have j4:IntKind.i64.wrap ((T:Int)+1)=(T:Int)+1:=IntWalk.i64_in _ ⟨by omega,by omega⟩
  go_region_held3 (fun w'=>w'.cell? ⟨g,k+(T+1),none⟩=some (.int .u64 (p2:Int))/\w'.cell? ⟨g,k+T,none⟩=some (.int .u64 (p1:Int))/\w'.cell? ⟨g,k+u,none⟩=some (.int .u64 (p0:Int))/\w'.cell? ⟨b2,o2+T,none⟩=some (.int .u64 (v1:Int))/\w'.cell? ⟨b2,o2+u,none⟩=some (.int .u64 (v0:Int))/\Gr w w') (first|(with_reducible assumption)|(apply keep5;(with_reducible assumption);(with_reducible assumption))) (first|(go_at_call 192;(with_reducible refine(D.out _).mono ?_);rintro r w3 ⟨rfl,g3⟩))
  have hS3:=keep5 g3 hS0
  clear hS0
  go_wp2
  obtain⟨s1,s2,s3,s4,s5,GG⟩:=hS3
  have GW:Hid (Gr w w3):=GG
  clear GG D hge'
  go_loopw [6,7] (fun cr i wr=>∃(x r:Nat),x<18446744073709551616/\r<18446744073709551616/\cr = .int .u64 (x:Int)/\i = .int .u64 (r:Int)/\Hid (x*v1+r=p2*18446744073709551616+p1/\((p2*18446744073709551616+p1)*18446744073709551616+p0) / (v1*18446744073709551616+v0)<=x)/\wr=w3) (fun cr _ _=>(intOf cr).toNat)
  case atStart=>exact⟨x0,r0,bx0,by omega,rfl,rfl,ST,rfl⟩
  case round =>
   obtain⟨x,r,bx,br,rfl,rfl,hA,rfl⟩:=hrel
   have MUL:=fun w=>Tryz.bits_Mul64 x v0 bx bv0 w
   obtain⟨m,hmm⟩:∃m,m=x*v0:=⟨_,rfl⟩
   rw[<-hmm] at MUL
   obtain⟨hi,hhi⟩:∃hi,hi=m / 18446744073709551616:=⟨_,rfl⟩
   obtain⟨lo,hlo⟩:∃lo,lo=m % 18446744073709551616:=⟨_,rfl⟩
   rw[<-hhi,<-hlo] at MUL
   have M:Hid (∀w1,Calls Tryz.prog 74 #[.int .u64 (x:Int),.int .u64 (v0:Int)] w1 fun e w'=>e = .returned (.tuple #[.int .u64 (hi:Int),.int .u64 (lo:Int)])/\w'=w1):=MUL
   have HM:Hid (m=x*v0):=hmm
   clear MUL hmm
   by_cases c1:hi<r
   ·have c1':(hi:Int)<(r:Int):=by omega
    clear hhi hlo
    go_wp2_with (go_at_call 74;with_reducible refine(M.out _).mono ?_;rintro e w' ⟨rfl,rfl⟩)
    go_ret
    exact⟨x,rfl,bx,Nat.le_trans TOP'.out hA.out.2,GW.out⟩
   ·have c1':¬(hi:Int)<(r:Int):=by omega
    by_cases c2:hi=r/\lo<=p0
    ·have c2':((hi:Int)==(r:Int))=true:=by simp;omega
     have c3':(lo:Int)<=(p0:Int):=by omega
     clear hhi hlo c2
     go_wp2_with (go_at_call 74;with_reducible refine(M.out _).mono ?_;rintro e w' ⟨rfl,rfl⟩)
     go_ret
     exact⟨x,rfl,bx,Nat.le_trans TOP'.out hA.out.2,GW.out⟩
    ·have gt:r*18446744073709551616+p0<x*v0:=by rw[<-HM.out];omega
     have LT:=guess_more (B:=18446744073709551616) (p0:=p0) (v0:=v0) hA.out.1 (by omega) gt
     have xp:0<x:=Nat.lt_of_le_of_lt (Nat.zero_le _) LT
     have NX:Hid ((x-1)*v1+(r+v1)=p2*18446744073709551616+p1/\((p2*18446744073709551616+p1)*18446744073709551616+p0) / (v1*18446744073709551616+v0)<=x-1):=by
      refine⟨?_,Nat.le_sub_one_of_lt LT⟩
      obtain⟨c,rfl⟩:∃c,x=c+1:=⟨x-1,by omega⟩
      have:=hA.out.1
      rw[Nat.add_mul,Nat.one_mul] at this
      rw[Nat.add_sub_cancel]
      omega
     have ex:(x:Int)-1=((x-1:Nat):Int):=by omega
     have A1:=fun w=>add64N r v1 0 (by omega) w
     have dec:((hi:Int)==(r:Int))=true/\¬(lo:Int)<=(p0:Int)\/((hi:Int)==(r:Int))=false:=by
      by_cases h:hi=r
      ·left;simp[h];omega
      ·right;simp;omega
     obtain⟨x1,hx1⟩:∃x1:Nat,x1=x-1:=⟨_,rfl⟩
     rw[<-hx1] at NX ex
     have bx1:x1<x:=by omega
     clear gt LT hhi hlo c2 hA hx1
     by_cases cr:r+v1<18446744073709551616
     ·rw[show(r+v1+0) % 18446744073709551616=r+v1 by omega,show(r+v1+0) / 18446744073709551616=0 by omega] at A1
      have A1':Hid (∀w,(callFunc 75 #[.int .u64 (r:Int),.int .u64 (v1:Int),.int .u64 0]).run Tryz.prog w = .ok (.value (.tuple #[.int .u64 ((r+v1:Nat):Int),.int .u64 0])) w):=A1
      clear A1
      generalize r+v1=r' at *
      rcases dec with ⟨d1,d2⟩|d1
      ·go_wp2_with (first|(simp only[A1'.out])|(go_at_call 74;with_reducible refine(M.out _).mono ?_;rintro e w' ⟨rfl,rfl⟩))
       go_roundw
       case rel=>exact⟨x1,r',by omega,cr,by go_num,rfl,NX,trivial⟩
       case measure=>simp only[intOf];omega
      ·go_wp2_with (first|(simp only[A1'.out])|(go_at_call 74;with_reducible refine(M.out _).mono ?_;rintro e w' ⟨rfl,rfl⟩))
       go_roundw
       case rel=>exact⟨x1,r',by omega,cr,by go_num,rfl,NX,trivial⟩
       case measure=>simp only[intOf];omega
     ·rw[show(r+v1+0) / 18446744073709551616=1 by omega] at A1
      obtain⟨r',hr'⟩:∃r',r'=(r+v1+0) % 18446744073709551616:=⟨_,rfl⟩
      rw[<-hr'] at A1
      have A1':Hid (∀w,(callFunc 75 #[.int .u64 (r:Int),.int .u64 (v1:Int),.int .u64 0]).run Tryz.prog w = .ok (.value (.tuple #[.int .u64 (r':Int),.int .u64 1])) w):=A1
      clear A1 hr'
      rcases dec with ⟨d1,d2⟩|d1
      ·go_wp2_with (first|(simp only[A1'.out])|(go_at_call 74;with_reducible refine(M.out _).mono ?_;rintro e w' ⟨rfl,rfl⟩))
       go_ret
       exact⟨x1,rfl,by omega,Nat.le_trans TOP'.out NX.out.2,GW.out⟩
      ·go_wp2_with (first|(simp only[A1'.out])|(go_at_call 74;with_reducible refine(M.out _).mono ?_;rintro e w' ⟨rfl,rfl⟩))
       go_ret
       exact⟨x1,rfl,by omega,Nat.le_trans TOP'.out NX.out.2,GW.out⟩
structure LimbAt (zs:List Nat) (k m R0 V x b N:Nat):Prop where
 len:zs.length=N
 lt:∀z∈zs,z<18446744073709551616
 val:nv 18446744073709551616 zs+18446744073709551616 ^ k*(x*V)=R0+18446744073709551616 ^ m*b
 up:nv 18446744073709551616 zs<18446744073709551616 ^ m
 ge:R0 / 18446744073709551616 ^ k / V<=x
theorem LimbAt.pos {zs:List Nat} {k m R0 V x N:Nat} (h:LimbAt zs k m R0 V x 1 N) (hV:0<V):R0 / 18446744073709551616 ^ k / V<x:=
 limb_less (Q:=18446744073709551616 ^ m) (pow_pos64 k) hV h.up (by have:=h.val;rwa [Nat.mul_one] at this)
theorem LimbAt.next {ys zs zs':List Nat} {k m R0 V x c N j:Nat} (h:LimbAt zs k m R0 V x 1 N) (hV:0<V) (p:PutAt ys zs' zs k j c N) (hm:m=k+j) (hmN:m<=N) (hj:nv 18446744073709551616 (ys.take j)=V) (hc:c<=1):LimbAt zs' k m R0 V (x-1) (1-c) N:=by
 have hx:=h.pos hV
 have xp:0<x:=Nat.lt_of_le_of_lt (Nat.zero_le _) hx
 have hz:∀i,m<=i->zs'.getD i 0=0:=fun i hi=>by
  rw[p.rest i (by omega)]
  exact upper_zero (by omega) h.up i hi
 refine⟨p.len,p.lt,?_,upper_lt p.lt hz (by rw[p.len];exact hmN),Nat.le_sub_one_of_lt hx⟩
 have h1:=h.val
 have h2:=p.val
 rw[hj,<-hm] at h2
 obtain⟨d,rfl⟩:∃d,x=d+1:=⟨x-1,by omega⟩
 rw[Nat.add_sub_cancel]
 rw[Nat.add_mul,Nat.one_mul,Nat.mul_add] at h1
 generalize 18446744073709551616 ^ k*(d*V)=A at *
 generalize 18446744073709551616 ^ k*V=C at *
 generalize 18446744073709551616 ^ m=Q at *
 rcases (show c=0\/c=1 by omega) with rfl|rfl <;> omega
set_option maxHeartbeats 1600000 in
theorem nextLimbN (g N k cp T u:Nat) (hT:T=u+1) (ad2:Option Addr) (c2 V:Nat) (ys zs0:List Nat) (w0 w:World) (ry:Row w0 ad2 (T+1) c2 ys) (dy:Dg 18446744073709551616 V ys) (hz:∀z∈zs0,z<18446744073709551616)
  (hkN:k+T+2<=N) (hNm:N<=4398046511104) (hcp:T+2<=cp) (hg0:Gr w0 w) (hsz:w0.heap.size<=g) (how:w.ownsRow g 39 1 (.slice (some ⟨g,0,none⟩) N N) N (u64s zs0)) (hu:nv 18446744073709551616 zs0<18446744073709551616 ^ (k+1)*V) :
  Calls Tryz.prog 188 #[.slice (some ⟨g,k,none⟩) ((T:Nat)+1+1) cp,.slice ad2 (T+1) c2] w fun e w'=>∃(x:Nat) (zs:List Nat),e = .returned (.int .u64 (x:Int))/\x<18446744073709551616/\(zs.length=N/\(∀z∈zs,z<18446744073709551616)/\nv 18446744073709551616 zs+18446744073709551616 ^ k*(x*V)=nv 18446744073709551616 zs0/\nv 18446744073709551616 zs<18446744073709551616 ^ k*V)/\w'.ownsRow g 39 1 (.slice (some ⟨g,0,none⟩) N N) N (u64s zs)/\Gr w0 w'/\Gx g w w':=by
 have hV:0<V:=Nat.pos_of_ne_zero fun h'=>by rw[h',Nat.mul_zero] at hu;omega
 have hVu:V<18446744073709551616 ^ (T+1):=by have:=dy.upper;rwa [ry.len] at this
 have hup:nv 18446744073709551616 zs0<18446744073709551616 ^ (k+(T+1+1)):=by
  have:=lt_pow64 hu hVu
  rwa [show k+1+(T+1)=k+(T+1+1) by omega] at this
 have hyl:=ry.len
 have GU:Hid (Calls Tryz.prog 193 #[.slice (some ⟨g,k,none⟩) ((T:Nat)+1+1) cp,.slice ad2 (T+1) c2] w fun e w'=>∃(x:Nat),e = .returned (.int .u64 (x:Int))/\x<18446744073709551616/\nv 18446744073709551616 zs0 / 18446744073709551616 ^ k / V<=x/\Gr w w'):=guessN g N k cp T u hT ad2 c2 V ys zs0 w0 w ry dy hz hkN hNm hcp hg0 how hu
 have TT:Hid (∀x w1,x<18446744073709551616->Gr w w1->nv 18446744073709551616 zs0 / 18446744073709551616 ^ k / V<=x->Calls Tryz.prog 194 #[.slice (some ⟨g,k,none⟩) ((T:Nat)+1+1) cp,.slice ad2 (T+1) c2,.int .u64 (x:Int)] w1 fun e w'=>∃(b:Nat) (zs:List Nat),e = .returned (.int .u64 (b:Int))/\b<=1/\Hid (LimbAt zs k (k+(T+1+1)) (nv 18446744073709551616 zs0) V x b N)/\w'.ownsRow g 39 1 (.slice (some ⟨g,0,none⟩) N N) N (u64s zs)/\Gr w0 w'/\Gx g w w'):=fun x w1 bx g1 hge=>by
  refine(takeTimesN g N k cp x ad2 (T+1) c2 ys zs0 w0 w1 ry dy.2.1 bx hz (by omega) hNm (by omega) (hg0.trans g1) hsz (g1.owns how)).mono ?_
  rintro e w' ⟨b,zs,rfl,hb,⟨h1,h2,h3,h4⟩,h5,h6,h7⟩
  rw[dy.1] at h3
  refine⟨b,zs,rfl,hb,⟨h1,h2,h3,?_,hge⟩,h5,h6,(Gx.of_gr g1).trans h7⟩
  exact upper_lt h2 (fun i hi=>by rw[h4 i (by omega)];exact upper_zero (by omega) hup i hi) (by omega)
 have CP:Hid (∀zs w1,(∀z∈zs,z<18446744073709551616)->Gr w0 w1->w1.ownsRow g 39 1 (.slice (some ⟨g,0,none⟩) N N) N (u64s zs)->Calls Tryz.prog 181 #[.slice (some ⟨g,k,none⟩) ((T:Nat)+1+1) cp,.slice (some ⟨g,k,none⟩) ((T:Nat)+1+1) cp,.slice ad2 (T+1) c2] w1 fun e w'=>∃(c:Nat) (zs':List Nat),e = .returned (.int .u64 (c:Int))/\c<=1/\Hid (PutAt ys zs' zs k (T+1+1) c N)/\w'.ownsRow g 39 1 (.slice (some ⟨g,0,none⟩) N N) N (u64s zs')/\Gr w0 w'/\Gx g w1 w'):=fun zs w1 h1 g1 h2=>copyPlusA g N k cp ad2 (T+1) c2 ys zs w0 w1 ry dy.2.1 h1 (by omega) hNm (by omega) g1 hsz h2
 have HY:Hid (nv 18446744073709551616 (ys.take (T+1+1))=V):=by
  show _=_
  rw[nv_take_all _ _ _ (by omega)];exact dy.1
 clear ry dy hz hu hg0 how hup hVu hyl hT
 go_enter Tryz.func188,Tryz.ntmps188
 go_wp2_with (first|(go_at_call 193;(with_reducible refine GU.out.mono ?_);rintro e w1 ⟨x,rfl,bx,hge,g1⟩)|(go_at_call 194;(with_reducible refine(TT.out _ _ bx g1 hge).mono ?_);rintro e w2 ⟨b,zs,rfl,hb,hL,hown,g2,x2⟩))
 have hgN:Hid (k+(T+1+1)<=N):=by show _<=_;omega
 go_loopw [5,6] (fun xr br wr=>∃(x b:Nat) (zs:List Nat),x<18446744073709551616/\b<=1/\xr = .int .u64 (x:Int)/\br = .int .u64 (b:Int)/\wr.ownsRow g 39 1 (.slice (some ⟨g,0,none⟩) N N) N (u64s zs)/\Hid (LimbAt zs k (k+(T+1+1)) (nv 18446744073709551616 zs0) V x b N)/\Hid (Gr w0 wr/\Gx g w wr)) (fun xr _ _=>(intOf xr).toNat)
 case atStart=>exact⟨x,b,zs,bx,hb,rfl,rfl,hown,hL,⟨g2,x2⟩⟩
 case round =>
  clear hL hown g2 hb bx hge g1 x2
  obtain⟨x,b,zs,bx,hb,rfl,rfl,hown,hL,hg⟩:=hrel
  rcases (show b=0\/b=1 by omega) with rfl|rfl
  ·have F:=limb_done (Z:=nv 18446744073709551616 zs) (pow_pos64 k) hV (by have:=hL.out.val;rwa [Nat.mul_zero,Nat.add_zero] at this) hL.out.ge
   go_wp2
   go_ret
   refine⟨x,zs,rfl,bx,⟨hL.out.len,hL.out.lt,?_,F.2⟩,hown,hg.out⟩
   have:=hL.out.val
   rwa [Nat.mul_zero,Nat.add_zero] at this
  ·have xp:0<x:=Nat.lt_of_le_of_lt (Nat.zero_le _) (hL.out.pos hV)
   have CP':Hid (Calls Tryz.prog 181 #[.slice (some ⟨g,k,none⟩) ((T:Nat)+1+1) cp,.slice (some ⟨g,k,none⟩) ((T:Nat)+1+1) cp,.slice ad2 (T+1) c2] wr fun e w'=>∃(c:Nat) (zs':List Nat),e = .returned (.int .u64 (c:Int))/\c<=1/\Hid (PutAt ys zs' zs k (T+1+1) c N)/\w'.ownsRow g 39 1 (.slice (some ⟨g,0,none⟩) N N) N (u64s zs')/\Gr w0 w'/\Gx g wr w'):=CP.out zs wr hL.out.lt hg.out.1 hown
   clear hown
   go_wp2_with (go_at_call 181;(with_reducible refine CP'.out.mono ?_);rintro e w5 ⟨c,zs',rfl,hc,hP,hown5,g5,x5⟩)
   go_roundw
   case rel=>exact⟨x-1,1-c,zs',by omega,by omega,(by congr 1;omega),(by congr 1;omega),hown5,hL.out.next hV hP.out rfl hgN.out HY.out hc,⟨g5,hg.out.2.trans x5⟩⟩
   case measure=>simp only[intOf];omega
end Go.Proofs.YtibckeckjfmbkaaGreatDoor
