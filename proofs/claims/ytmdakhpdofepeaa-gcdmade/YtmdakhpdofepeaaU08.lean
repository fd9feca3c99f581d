import Derived.Test.YtmdakhpdofepeaaU07
namespace Go.Proofs.Ytmdakhpdofepeaa
open Go.RowKit
set_option linter.unusedVariables false
theorem and32 {v:Nat} (h:v<18446744073709551616):bits .and .u64 (v:Int) 4294967295=((v % 4294967296:Nat):Int):=by
 rw[show(4294967295:Int)=((2 ^ 32-1:Nat):Int) from rfl,bits_and_u64_nat _ _ h (by decide),Nat.and_two_pow_sub_one_eq_mod]
theorem or_high {s hi lo:Nat} (hs:s<64) (hl:lo<18446744073709551616) (hh:hi*2 ^ s<18446744073709551616):bits .or .u64 ((hi*2 ^ s:Nat):Int) ((lo / 2 ^ (64-s):Nat):Int)=((hi*2 ^ s+lo / 2 ^ (64-s):Nat):Int):=by
 have h1:=shr_lt hs hl
 rw[bits_or_u64_nat _ _ hh (by have:2 ^ s<=2 ^ 63:=Nat.pow_le_pow_right (by omega) (by omega);omega),Nat.or_comm,or_add h1,Nat.add_comm]
structure DivN (hi lo y s Y y1 y0 H l10 u1 u0:Nat):Prop where
 eY:Y=y*2 ^ s
 eY':Y=y1*4294967296+y0
 bY:Y<18446744073709551616
 b1:2147483648<=y1
 b1':y1<4294967296
 b0:y0<4294967296
 eH:H=hi*2 ^ s+lo / 2 ^ (64-s)
 hH:H<Y
 el:l10=u1*4294967296+u0
 bu1:u1<4294967296
 bu0:u0<4294967296
 el':lo*2 ^ s % 18446744073709551616=l10
 val:(hi*18446744073709551616+lo)*2 ^ s=(H*4294967296+u1)*4294967296+u0
theorem divN {hi lo y s:Nat} (hy:hi<y) (by':y<18446744073709551616) (hl:lo<18446744073709551616) (hs:s=64-bl y) (hs64:s<64):∃Y y1 y0 H l10 u1 u0,DivN hi lo y s Y y1 y0 H l10 u1 u0:=by
 obtain⟨n1,n2⟩:=norm_lt by' (by omega)
 rw[<-hs] at n1 n2
 have p:=shl_parts hs64 hl
 have q:=shr_lt hs64 hl
 have hm:hi*2 ^ s+2 ^ s<=y*2 ^ s:=by rw[<-Nat.succ_mul];exact Nat.mul_le_mul_right _ hy
 refine⟨y*2 ^ s,y*2 ^ s / 4294967296,y*2 ^ s % 4294967296,hi*2 ^ s+lo / 2 ^ (64-s),lo*2 ^ s % 18446744073709551616,lo*2 ^ s % 18446744073709551616 / 4294967296,lo*2 ^ s % 18446744073709551616 % 4294967296,rfl,by omega,n1,by omega,by omega,Nat.mod_lt _ (by omega),rfl,by omega,by omega,?_,Nat.mod_lt _ (by omega),rfl,?_⟩
 ·have:=Nat.mod_lt (lo*2 ^ s) (show 0<18446744073709551616 by omega)
  omega
 ·rw[Nat.add_mul,Nat.mul_right_comm]
  generalize hi*2 ^ s=a at *
  generalize lo / 2 ^ (64-s)=b at *
  generalize lo*2 ^ s=c at *
  omega
theorem wrap_diff {a b c r:Int} (h:a+b-c=r) (h0:0<=r) (h1:r<18446744073709551616):IntKind.u64.wrap (IntKind.u64.wrap (IntKind.u64.wrap a+b)-IntKind.u64.wrap c)=r:=by
 simp only[IntKind.wrap_u64]
 omega
theorem rem_int {U Y q r:Nat} (hq:q=U / Y) (hr:r=U % Y):(U:Int)-(q:Int)*(Y:Int)=(r:Int):=by
 have:=Nat.div_add_mod U Y
 rw[<-hq,<-hr,Nat.mul_comm] at this
 rw[<-Int.natCast_mul]
 omega
theorem div_fin {hi lo y s Y H u1 u0 q1 r1 q0 Qv Rv:Nat} {qx ex:Int} (VAL:(hi*18446744073709551616+lo)*2 ^ s=(H*4294967296+u1)*4294967296+u0) (y0:0<y) (eY:Y=y*2 ^ s) (h1:q1=(H*4294967296+u1) / Y) (h2:r1=(H*4294967296+u1) % Y) (h3:q0=(r1*4294967296+u0) / Y) (hQR:Qv=(hi*18446744073709551616+lo) / y/\Rv=(hi*18446744073709551616+lo) % y) (hX1:qx=(q1:Int)) (hX:ex=(q0:Int)) (bY:Y<18446744073709551616) (hH:H<Y) (b1:u1<4294967296) (b0:u0<4294967296) :
  ∃(r0 sh:Nat) (A1 B1:Int),IntKind.u64.wrap (IntKind.u64.wrap ((r1:Int)*4294967296)+(u0:Int))=A1/\IntKind.u64.wrap (ex*(Y:Int))=B1/\IntKind.u64.wrap (A1-B1)=(r0:Int)/\(r0:Int) / 2 ^ s=(sh:Int)/\Hid (qx*4294967296+ex=(Qv:Int))/\Hid ((sh:Int)=(Rv:Int))/\0<=qx/\qx<4294967296/\0<=ex/\ex<4294967296/\r0<Y:=by
 obtain⟨r0,hr0⟩:∃r0,r0=(r1*4294967296+u0) % Y:=⟨_,rfl⟩
 have lr0:r0<Y:=hr0 ▸ Nat.mod_lt _ (by omega)
 have lr1:r1<Y:=h2 ▸ Nat.mod_lt _ (by omega)
 have d1:=rem_int h3 hr0
 have W1:=wrap_diff (a:=(r1:Int)*4294967296) (b:=(u0:Int)) (c:=ex*(Y:Int)) (r:=(r0:Int)) (by rw[hX];omega) (by omega) (by omega)
 have FIN:=div_whole (N:=hi*18446744073709551616+lo) (y:=y) (s:=s) (H:=H) (u1:=u1) (u0:=u0) (q1:=q1) (r1:=r1) (q0:=q0) (r0:=r0) VAL y0 (by rw[<-eY];exact h1) (by rw[<-eY];exact h2) (by rw[<-eY];exact h3) (by rw[<-eY];exact hr0)
 have bq1:q1<4294967296:=by rw[h1];exact(Nat.div_lt_iff_lt_mul (by omega)).2 (by omega)
 have bq0:q0<4294967296:=by rw[h3];exact(Nat.div_lt_iff_lt_mul (by omega)).2 (by omega)
 refine⟨r0,r0 / 2 ^ s,_,_,rfl,rfl,W1,?_,?_,?_,by omega,by omega,by omega,by omega,lr0⟩
 ·rw[Int.natCast_ediv,Int.natCast_pow];rfl
 ·show _=_
  rw[hQR.1,<-FIN.1];omega
 ·show _=_
  rw[hQR.2,FIN.2]
theorem div_mid {Y y1 y0 H u1 u0 q1:Nat} {qx:Int} (BB8:Y=y1*4294967296+y0) (HQ1:q1=(H*4294967296+u1) / (y1*4294967296+y0)) (hX:qx=(q1:Int)) (bY:Y<18446744073709551616) (bb1:2147483648<=y1) (bb2:y1<4294967296) (bb3:y0<4294967296) (bb4:u1<4294967296) (bb5:u0<4294967296) (hH:H<Y) :
  ∃(r1 q rr:Nat) (A1 B1:Int),r1<Y/\IntKind.u64.wrap (IntKind.u64.wrap ((H:Int)*4294967296)+(u1:Int))=A1/\IntKind.u64.wrap (qx*(Y:Int))=B1/\IntKind.u64.wrap (A1-B1)=(r1:Int)/\q<=4294967297/\rr<y1/\Hid ((r1*4294967296+u0) / (y1*4294967296+y0)<=q)/\(r1:Int).tdiv (y1:Int)=(q:Int)/\(r1:Int) / (y1:Int)=(q:Int)/\(q:Int)*(y1:Int)=(r1:Int)-(rr:Int)/\Hid (q*y1+rr=r1)/\((y1:Int)==0)=false/\rr<=r1/\Hid (r1=(H*4294967296+u1) % Y)/\Hid (q1=(H*4294967296+u1) / Y)/\Hid (qx=(q1:Int)):=by
 have hq1U:q1=(H*4294967296+u1) / Y:=by rw[BB8];exact HQ1
 obtain⟨r1,hr1⟩:∃r1,r1=(H*4294967296+u1) % Y:=⟨_,rfl⟩
 have lr1:r1<Y:=hr1 ▸ Nat.mod_lt _ (by omega)
 have d1:=rem_int hq1U hr1
 have W1:=wrap_diff (a:=(H:Int)*4294967296) (b:=(u1:Int)) (c:=qx*(Y:Int)) (r:=(r1:Int)) (by rw[hX];omega) (by omega) (by omega)
 obtain⟨q,hq⟩:∃q,q=r1 / y1:=⟨_,rfl⟩
 obtain⟨rr,hrr⟩:∃rr,rr=r1 % y1:=⟨_,rfl⟩
 have hqr:y1*q+rr=r1:=by rw[hq,hrr];exact Nat.div_add_mod _ _
 refine⟨r1,q,rr,_,_,lr1,rfl,rfl,W1,by rw[hq];exact dig_first bb1 bb3 (by rw[<-BB8];exact lr1),by rw[hrr];exact Nat.mod_lt _ (by omega),?_,?_,by rw[hq,Int.natCast_ediv],?_,?_,by simp;omega,by omega,hr1,hq1U,hX⟩
 ·show _<=_
  rw[hq];exact dig_start (by omega) bb5
 ·rw[Int.tdiv_eq_ediv_of_nonneg (by omega),hq,Int.natCast_ediv]
 ·rw[<-Int.natCast_mul,Nat.mul_comm];omega
 ·show _=_
  rw[Nat.mul_comm];exact hqr
set_option maxHeartbeats 1600000 in
theorem div64T (hi lo y s Y y1 y0 H l10 u1 u0:Nat) (h0:0<hi) (hy:hi<y) (by':y<18446744073709551616) (bl':lo<18446744073709551616) (w:World) (hs:s=64-bl y) (hs64:s<64) (D:DivN hi lo y s Y y1 y0 H l10 u1 u0) (Qv Rv:Nat) (hQR:Hid (Qv=(hi*18446744073709551616+lo) / y/\Rv=(hi*18446744073709551616+lo) % y)) :
  Calls Try.prog 83 #[.int .u64 (hi:Int),.int .u64 (lo:Int),.int .u64 (y:Int)] w fun r w'=>r = .returned (.tuple #[.int .u64 (Qv:Int),.int .u64 (Rv:Int)])/\Gr w w':=by
 have h1:(((y:Nat):Int)==0)=false:=by simp;omega
 have h2:¬((y:Nat):Int)<=(hi:Int):=by omega
 have h3:(((hi:Nat):Int)==0)=false:=by simp;omega
 have LZ:Hid (∀w1,Calls Try.prog 57 #[.int .u64 (y:Int)] w1 fun e w'=>e = .returned (.int .i64 (s:Int))/\w'=w1):=fun w1=>by
  refine(Try.bits_LeadingZeros64 y w1 (by omega) (by omega)).mono ?_
  rintro e w' ⟨rfl,rfl⟩
  refine⟨?_,rfl⟩
  rw[Int.toNat_natCast,bitLen_bl (by omega),hs]
  have:=bl64 by'
  congr 2
  omega
 have bb0:=D.bY
 have bb1:=D.b1
 have bb2:=D.b1'
 have bb3:=D.b0
 have bb4:=D.bu1
 have bb5:=D.bu0
 have bb6:=D.hH
 have bb7:=D.el
 have bb8:=D.eY'
 have E1:IntKind.u64.wrap ((y:Int)*2 ^ s)=(Y:Int):=by
  rw[show(y:Int)*2 ^ s=((y*2 ^ s:Nat):Int) by rw[Int.natCast_mul,Int.natCast_pow];rfl,<-D.eY,IntKind.wrap_u64,Int.emod_eq_of_lt (by omega) (by omega)]
 have E2:(Y:Int) / 4294967296=(y1:Int):=by omega
 have E3:bits .and .u64 (Y:Int) 4294967295=(y0:Int):=by rw[and32 bb0];omega
 have hh:hi*2 ^ s<18446744073709551616:=by
  have:=D.eH
  have:=Nat.zero_le (lo / 2 ^ (64-s))
  generalize lo / 2 ^ (64-s)=b at *
  omega
 have E4a:IntKind.u64.wrap ((hi:Int)*2 ^ s)=((hi*2 ^ s:Nat):Int):=by
  rw[show(hi:Int)*2 ^ s=((hi*2 ^ s:Nat):Int) by rw[Int.natCast_mul,Int.natCast_pow];rfl,IntKind.wrap_u64,Int.emod_eq_of_lt (by omega) (by omega)]
 have E4:bits .or .u64 (IntKind.u64.wrap ((hi:Int)*2 ^ s)) ((lo:Int) / 2 ^ (64-s))=(H:Int):=by
  rw[E4a,show(lo:Int) / 2 ^ (64-s)=((lo / 2 ^ (64-s):Nat):Int) by rw[Int.natCast_ediv,Int.natCast_pow];rfl,or_high hs64 bl' hh,D.eH]
 have E5:IntKind.u64.wrap ((lo:Int)*2 ^ s)=(l10:Int):=by
  rw[show(lo:Int)*2 ^ s=((lo*2 ^ s:Nat):Int) by rw[Int.natCast_mul,Int.natCast_pow];rfl,IntKind.wrap_u64,<-D.el'];omega
 have E6:(l10:Int) / 4294967296=(u1:Int):=by omega
 have E7:bits .and .u64 (l10:Int) 4294967295=(u0:Int):=by rw[and32 (by omega)];omega
 have VAL:Hid _:=D.val
 have EYs:Hid (Y=y*2 ^ s):=D.eY
 obtain⟨q,hq⟩:∃q,q=H / y1:=⟨_,rfl⟩
 obtain⟨rr,hrr⟩:∃rr,rr=H % y1:=⟨_,rfl⟩
 have hqr:y1*q+rr=H:=by rw[hq,hrr];exact Nat.div_add_mod _ _
 have hq1:q<=4294967297:=by rw[hq];exact dig_first bb1 bb3 (by omega)
 have hr1:rr<y1:=by rw[hrr];exact Nat.mod_lt _ (by omega)
 have ST:Hid ((H*4294967296+u1) / (y1*4294967296+y0)<=q):=by show _<=_;rw[hq];exact dig_start (by omega) bb4
 have E8:(H:Int).tdiv (y1:Int)=(q:Int):=by
  rw[Int.tdiv_eq_ediv_of_nonneg (by omega),hq,Int.natCast_ediv]
 have E9:(q:Int)*(y1:Int)=(H:Int)-(rr:Int):=by
  rw[<-Int.natCast_mul,Nat.mul_comm];omega
 have QR:Hid (q*y1+rr=H):=by show _=_;rw[Nat.mul_comm];exact hqr
 have ny1:((y1:Int)==0)=false:=by simp;omega
 have E8':(H:Int) / (y1:Int)=(q:Int):=by rw[hq,Int.natCast_ediv]
 have hrH:rr<=H:=by omega
 have BB7:Hid (l10=u1*4294967296+u0):=bb7
 have BB8:Hid (Y=y1*4294967296+y0):=bb8
 clear hs D hq hrr hqr E4a hh bb7 bb8
 go_enter Try.func83,Try.ntmps83
 go_wp2_with (go_at_call 57;(with_reducible refine(LZ.out _).mono ?_);rintro r w1 ⟨rfl,rfl⟩)
 go_loopw [15,16] (fun cr i wr=>∃(qz rz:Int) (q r:Nat),0<=qz/\qz<=4294967297/\0<=rz/\rz<4294967296/\cr = .int .u64 qz/\i = .int .u64 rz/\Hid (qz=(q:Int)/\rz=(r:Int))/\Hid (q*y1+r=H)/\Hid ((H*4294967296+u1) / (y1*4294967296+y0)<=q)/\Hid (Gr w1 wr)) (fun cr _ _=>(intOf cr).toNat)
 case atStart=>exact⟨q,rr,q,rr,by omega,by omega,by omega,by omega,by go_num,by go_num,⟨rfl,rfl⟩,QR,ST,Gr.refl _⟩
 case round =>
  obtain⟨qz,rz,q2,r2,z1,z2,z3,z4,rfl,rfl,hZ,hQ,hS,hG⟩:=hrel
  clear E1 E2 E3 E4 E5 E6 E7 E8 E8' E9 hrH hq1 hr1 ny1 h1 h2 h3 QR ST LZ
  obtain⟨hz1,hz2⟩:=hZ.out
  have P:qz*(y0:Int)=((q2*y0:Nat):Int):=by rw[Int.natCast_mul,hz1]
  obtain⟨pz,hpz⟩:∃pz:Int,pz=((q2*y0:Nat):Int):=⟨_,rfl⟩
  rw[<-hpz] at P
  by_cases hb:4294967296<=rz+(y1:Int)
  ·skip
   by_cases hc:qz>=4294967296
   ·skip
    have MO:=dig_more hQ.out (by omega) (by rw[<-BB8.out];exact bb6) bb4 (Or.inl (show 4294967296<=q2 by omega))
    have q2p:0<q2:=Nat.lt_of_le_of_lt (Nat.zero_le _) MO
    have qzp:1<=qz:=by omega
    have NQ:(q2-1)*y1+(r2+y1)=H:=by have:=hQ.out;obtain⟨c,hc'⟩:∃c,q2=c+1:=⟨q2-1,by omega⟩;rw[hc',Nat.add_mul,Nat.one_mul] at this;rw[hc',Nat.add_sub_cancel];omega
    obtain⟨q1,hqq⟩:∃k,k=q2-1:=⟨_,rfl⟩
    have hX:qz-1=(q1:Int):=by omega
    have HQ1:Hid (q1=(H*4294967296+u1) / (y1*4294967296+y0)):=by show _=_;rw[hqq];exact dig_break NQ (Nat.le_sub_one_of_lt MO) (by omega) (by omega) (by omega) bb3
    clear MO NQ q2p hqq hz1 hz2 hpz
    obtain⟨r1,q,rr,A1,B1,lr1,FA1,FB1,W1,hq1',hrr1,ST,E8,E8',E9,QR,ny1,hrH,HR1,HU1,HXh⟩:=div_mid (qx:=(qz-1)) BB8.out HQ1.out hX bb0 bb1 bb2 bb3 bb4 bb5 bb6
    clear hX HQ1 hQ hS
    go_wp2
    go_loopw [18,16] (fun cr i wr=>∃(qz rz:Int) (q r:Nat),0<=qz/\qz<=4294967297/\0<=rz/\rz<4294967296/\cr = .int .u64 qz/\i = .int .u64 rz/\Hid (qz=(q:Int)/\rz=(r:Int))/\Hid (q*y1+r=r1)/\Hid ((r1*4294967296+u0) / (y1*4294967296+y0)<=q)/\Hid (Gr w1 wr)) (fun cr _ _=>(intOf cr).toNat)
    case atStart=>exact⟨q,rr,q,rr,by omega,by omega,by omega,by omega,by go_num,by go_num,⟨rfl,rfl⟩,QR,ST,hG⟩
    case round =>
     clear hG
     obtain⟨ez,fz,e2,f2,y1',y2',y3',y4',rfl,rfl,hZ2,hQ2,hS2,hG⟩:=hrel
     clear W1 FA1 FB1 E8 E8' E9 hrH hq1' hrr1 ny1 QR ST
     obtain⟨hz1,hz2⟩:=hZ2.out
     have P:ez*(y0:Int)=((e2*y0:Nat):Int):=by rw[Int.natCast_mul,hz1]
     obtain⟨pz,hpz⟩:∃pz:Int,pz=((e2*y0:Nat):Int):=⟨_,rfl⟩
     rw[<-hpz] at P
     by_cases hb:4294967296<=fz+(y1:Int)
     ·skip
      by_cases hc:ez>=4294967296
      ·skip
       have MO:=dig_more hQ2.out (by omega) (by rw[<-BB8.out];exact lr1) bb5 (Or.inl (show 4294967296<=e2 by omega))
       have q2p:0<e2:=Nat.lt_of_le_of_lt (Nat.zero_le _) MO
       have ezp:1<=ez:=by omega
       have NQ:(e2-1)*y1+(f2+y1)=r1:=by have:=hQ2.out;obtain⟨c,hc'⟩:∃c,e2=c+1:=⟨e2-1,by omega⟩;rw[hc',Nat.add_mul,Nat.one_mul] at this;rw[hc',Nat.add_sub_cancel];omega
       obtain⟨q1',hqq⟩:∃k,k=e2-1:=⟨_,rfl⟩
       have hX:ez-1=(q1':Int):=by omega
       have HQ1:Hid (q1'=(r1*4294967296+u0) / (y1*4294967296+y0)):=by show _=_;rw[hqq];exact dig_break NQ (Nat.le_sub_one_of_lt MO) (by omega) (by omega) (by omega) bb3
       clear MO NQ q2p hqq hz1 hz2 hpz
       obtain⟨r0,sh,A1,B1,FA1,FB1,W1,SH,F1,F2,k1,k2,k3,k4,lr0⟩:=div_fin (qx:=(qz-1)) (ex:=(ez-1)) VAL.out (by omega) EYs.out HU1.out HR1.out (by rw[BB8.out];exact HQ1.out) hQR.out HXh.out hX bb0 bb6 bb4 bb5
       clear hX HQ1 hQ2 hS2 HXh HU1 HR1
       go_wp2
       refine bodyPost_ret (v:=.tuple #[.int .u64 ((qz-1)*4294967296+(ez-1)),.int .u64 (sh:Int)]) ?_ rfl ⟨by rw[F1.out,F2.out],hG.out⟩
       simp[results,Try.results83,go_sem]
      ·have pb:pz<18446744073709551616:=by rw[hpz];have:=Nat.mul_le_mul (show e2<=4294967295 by omega) (show y0<=4294967295 by omega);omega
       have pb0:0<=pz:=by omega
       by_cases hd:pz>4294967296*fz+(u0:Int)
       ·skip
        have MO:=dig_more hQ2.out (by omega) (by rw[<-BB8.out];exact lr1) bb5 (Or.inr (by omega))
        have q2p:0<e2:=Nat.lt_of_le_of_lt (Nat.zero_le _) MO
        have ezp:1<=ez:=by omega
        have NQ:(e2-1)*y1+(f2+y1)=r1:=by have:=hQ2.out;obtain⟨c,hc'⟩:∃c,e2=c+1:=⟨e2-1,by omega⟩;rw[hc',Nat.add_mul,Nat.one_mul] at this;rw[hc',Nat.add_sub_cancel];omega
        obtain⟨q1',hqq⟩:∃k,k=e2-1:=⟨_,rfl⟩
        have hX:ez-1=(q1':Int):=by omega
        have HQ1:Hid (q1'=(r1*4294967296+u0) / (y1*4294967296+y0)):=by show _=_;rw[hqq];exact dig_break NQ (Nat.le_sub_one_of_lt MO) (by omega) (by omega) (by omega) bb3
        clear MO NQ q2p hqq hz1 hz2 hpz
        obtain⟨r0,sh,A1,B1,FA1,FB1,W1,SH,F1,F2,k1,k2,k3,k4,lr0⟩:=div_fin (qx:=(qz-1)) (ex:=(ez-1)) VAL.out (by omega) EYs.out HU1.out HR1.out (by rw[BB8.out];exact HQ1.out) hQR.out HXh.out hX bb0 bb6 bb4 bb5
        clear hX HQ1 hQ2 hS2 HXh HU1 HR1
        go_wp2
        refine bodyPost_ret (v:=.tuple #[.int .u64 ((qz-1)*4294967296+(ez-1)),.int .u64 (sh:Int)]) ?_ rfl ⟨by rw[F1.out,F2.out],hG.out⟩
        simp[results,Try.results83,go_sem]
       ·skip
        obtain⟨q1',hqq⟩:∃k,k=e2:=⟨_,rfl⟩
        have hX:ez=(q1':Int):=by omega
        have HQ1:Hid (q1'=(r1*4294967296+u0) / (y1*4294967296+y0)):=by show _=_;rw[hqq];exact dig_out hQ2.out hS2.out (by omega) (by omega)
        clear hqq hz1 hz2 hpz
        obtain⟨r0,sh,A1,B1,FA1,FB1,W1,SH,F1,F2,k1,k2,k3,k4,lr0⟩:=div_fin (qx:=(qz-1)) (ex:=ez) VAL.out (by omega) EYs.out HU1.out HR1.out (by rw[BB8.out];exact HQ1.out) hQR.out HXh.out hX bb0 bb6 bb4 bb5
        clear hX HQ1 hQ2 hS2 HXh HU1 HR1
        go_wp2
        refine bodyPost_ret (v:=.tuple #[.int .u64 ((qz-1)*4294967296+ez),.int .u64 (sh:Int)]) ?_ rfl ⟨by rw[F1.out,F2.out],hG.out⟩
        simp[results,Try.results83,go_sem]
     ·skip
      by_cases hc:ez>=4294967296
      ·skip
       have MO:=dig_more hQ2.out (by omega) (by rw[<-BB8.out];exact lr1) bb5 (Or.inl (show 4294967296<=e2 by omega))
       have q2p:0<e2:=Nat.lt_of_le_of_lt (Nat.zero_le _) MO
       have ezp:1<=ez:=by omega
       have NQ:(e2-1)*y1+(f2+y1)=r1:=by have:=hQ2.out;obtain⟨c,hc'⟩:∃c,e2=c+1:=⟨e2-1,by omega⟩;rw[hc',Nat.add_mul,Nat.one_mul] at this;rw[hc',Nat.add_sub_cancel];omega
       have NQ':Hid ((e2-1)*y1+(f2+y1)=r1):=NQ
       have MO':Hid ((r1*4294967296+u0) / (y1*4294967296+y0)<=e2-1):=by show _<=_;exact Nat.le_sub_one_of_lt MO
       clear NQ MO hpz hz1 hz2
       go_wp2
       go_roundw
       case rel=>exact⟨ez-1,fz+(y1:Int),e2-1,f2+y1,by omega,by omega,by omega,by omega,by go_num,by go_num,⟨by obtain⟨hz1,hz2⟩:=hZ2.out;omega,by obtain⟨hz1,hz2⟩:=hZ2.out;omega⟩,NQ'.out,MO'.out,hG⟩
       case measure=>simp only[intOf];omega
      ·have pb:pz<18446744073709551616:=by rw[hpz];have:=Nat.mul_le_mul (show e2<=4294967295 by omega) (show y0<=4294967295 by omega);omega
       have pb0:0<=pz:=by omega
       by_cases hd:pz>4294967296*fz+(u0:Int)
       ·skip
        have MO:=dig_more hQ2.out (by omega) (by rw[<-BB8.out];exact lr1) bb5 (Or.inr (by omega))
        have q2p:0<e2:=Nat.lt_of_le_of_lt (Nat.zero_le _) MO
        have ezp:1<=ez:=by omega
        have NQ:(e2-1)*y1+(f2+y1)=r1:=by have:=hQ2.out;obtain⟨c,hc'⟩:∃c,e2=c+1:=⟨e2-1,by omega⟩;rw[hc',Nat.add_mul,Nat.one_mul] at this;rw[hc',Nat.add_sub_cancel];omega
        have NQ':Hid ((e2-1)*y1+(f2+y1)=r1):=NQ
        have MO':Hid ((r1*4294967296+u0) / (y1*4294967296+y0)<=e2-1):=by show _<=_;exact Nat.le_sub_one_of_lt MO
        clear NQ MO hpz hz1 hz2
        go_wp2
        go_roundw
        case rel=>exact⟨ez-1,fz+(y1:Int),e2-1,f2+y1,by omega,by omega,by omega,by omega,by go_num,by go_num,⟨by obtain⟨hz1,hz2⟩:=hZ2.out;omega,by obtain⟨hz1,hz2⟩:=hZ2.out;omega⟩,NQ'.out,MO'.out,hG⟩
        case measure=>simp only[intOf];omega
       ·skip
        obtain⟨q1',hqq⟩:∃k,k=e2:=⟨_,rfl⟩
        have hX:ez=(q1':Int):=by omega
        have HQ1:Hid (q1'=(r1*4294967296+u0) / (y1*4294967296+y0)):=by show _=_;rw[hqq];exact dig_out hQ2.out hS2.out (by omega) (by omega)
        clear hqq hz1 hz2 hpz
        obtain⟨r0,sh,A1,B1,FA1,FB1,W1,SH,F1,F2,k1,k2,k3,k4,lr0⟩:=div_fin (qx:=(qz-1)) (ex:=ez) VAL.out (by omega) EYs.out HU1.out HR1.out (by rw[BB8.out];exact HQ1.out) hQR.out HXh.out hX bb0 bb6 bb4 bb5
        clear hX HQ1 hQ2 hS2 HXh HU1 HR1
        go_wp2
        refine bodyPost_ret (v:=.tuple #[.int .u64 ((qz-1)*4294967296+ez),.int .u64 (sh:Int)]) ?_ rfl ⟨by rw[F1.out,F2.out],hG.out⟩
        simp[results,Try.results83,go_sem]
   ·have pb:pz<18446744073709551616:=by rw[hpz];have:=Nat.mul_le_mul (show q2<=4294967295 by omega) (show y0<=4294967295 by omega);omega
    have pb0:0<=pz:=by omega
    by_cases hd:pz>4294967296*rz+(u1:Int)
    ·skip
     have MO:=dig_more hQ.out (by omega) (by rw[<-BB8.out];exact bb6) bb4 (Or.inr (by omega))
     have q2p:0<q2:=Nat.lt_of_le_of_lt (Nat.zero_le _) MO
     have qzp:1<=qz:=by omega
     have NQ:(q2-1)*y1+(r2+y1)=H:=by have:=hQ.out;obtain⟨c,hc'⟩:∃c,q2=c+1:=⟨q2-1,by omega⟩;rw[hc',Nat.add_mul,Nat.one_mul] at this;rw[hc',Nat.add_sub_cancel];omega
     obtain⟨q1,hqq⟩:∃k,k=q2-1:=⟨_,rfl⟩
     have hX:qz-1=(q1:Int):=by omega
     have HQ1:Hid (q1=(H*4294967296+u1) / (y1*4294967296+y0)):=by show _=_;rw[hqq];exact dig_break NQ (Nat.le_sub_one_of_lt MO) (by omega) (by omega) (by omega) bb3
     clear MO NQ q2p hqq hz1 hz2 hpz
     obtain⟨r1,q,rr,A1,B1,lr1,FA1,FB1,W1,hq1',hrr1,ST,E8,E8',E9,QR,ny1,hrH,HR1,HU1,HXh⟩:=div_mid (qx:=(qz-1)) BB8.out HQ1.out hX bb0 bb1 bb2 bb3 bb4 bb5 bb6
     clear hX HQ1 hQ hS
     go_wp2
     go_loopw [18,16] (fun cr i wr=>∃(qz rz:Int) (q r:Nat),0<=qz/\qz<=4294967297/\0<=rz/\rz<4294967296/\cr = .int .u64 qz/\i = .int .u64 rz/\Hid (qz=(q:Int)/\rz=(r:Int))/\Hid (q*y1+r=r1)/\Hid ((r1*4294967296+u0) / (y1*4294967296+y0)<=q)/\Hid (Gr w1 wr)) (fun cr _ _=>(intOf cr).toNat)
     case atStart=>exact⟨q,rr,q,rr,by omega,by omega,by omega,by omega,by go_num,by go_num,⟨rfl,rfl⟩,QR,ST,hG⟩
     case round =>
      clear hG
      obtain⟨ez,fz,e2,f2,y1',y2',y3',y4',rfl,rfl,hZ2,hQ2,hS2,hG⟩:=hrel
      clear W1 FA1 FB1 E8 E8' E9 hrH hq1' hrr1 ny1 QR ST
      obtain⟨hz1,hz2⟩:=hZ2.out
      have P:ez*(y0:Int)=((e2*y0:Nat):Int):=by rw[Int.natCast_mul,hz1]
      obtain⟨pz,hpz⟩:∃pz:Int,pz=((e2*y0:Nat):Int):=⟨_,rfl⟩
      rw[<-hpz] at P
      by_cases hb:4294967296<=fz+(y1:Int)
      ·skip
       by_cases hc:ez>=4294967296
       ·skip
        have MO:=dig_more hQ2.out (by omega) (by rw[<-BB8.out];exact lr1) bb5 (Or.inl (show 4294967296<=e2 by omega))
        have q2p:0<e2:=Nat.lt_of_le_of_lt (Nat.zero_le _) MO
        have ezp:1<=ez:=by omega
        have NQ:(e2-1)*y1+(f2+y1)=r1:=by have:=hQ2.out;obtain⟨c,hc'⟩:∃c,e2=c+1:=⟨e2-1,by omega⟩;rw[hc',Nat.add_mul,Nat.one_mul] at this;rw[hc',Nat.add_sub_cancel];omega
        obtain⟨q1',hqq⟩:∃k,k=e2-1:=⟨_,rfl⟩
        have hX:ez-1=(q1':Int):=by omega
        have HQ1:Hid (q1'=(r1*4294967296+u0) / (y1*4294967296+y0)):=by show _=_;rw[hqq];exact dig_break NQ (Nat.le_sub_one_of_lt MO) (by omega) (by omega) (by omega) bb3
        clear MO NQ q2p hqq hz1 hz2 hpz
        obtain⟨r0,sh,A1,B1,FA1,FB1,W1,SH,F1,F2,k1,k2,k3,k4,lr0⟩:=div_fin (qx:=(qz-1)) (ex:=(ez-1)) VAL.out (by omega) EYs.out HU1.out HR1.out (by rw[BB8.out];exact HQ1.out) hQR.out HXh.out hX bb0 bb6 bb4 bb5
        clear hX HQ1 hQ2 hS2 HXh HU1 HR1
        go_wp2
        refine bodyPost_ret (v:=.tuple #[.int .u64 ((qz-1)*4294967296+(ez-1)),.int .u64 (sh:Int)]) ?_ rfl ⟨by rw[F1.out,F2.out],hG.out⟩
        simp[results,Try.results83,go_sem]
       ·have pb:pz<18446744073709551616:=by rw[hpz];have:=Nat.mul_le_mul (show e2<=4294967295 by omega) (show y0<=4294967295 by omega);omega
        have pb0:0<=pz:=by omega
        by_cases hd:pz>4294967296*fz+(u0:Int)
        ·skip
         have MO:=dig_more hQ2.out (by omega) (by rw[<-BB8.out];exact lr1) bb5 (Or.inr (by omega))
         have q2p:0<e2:=Nat.lt_of_le_of_lt (Nat.zero_le _) MO
         have ezp:1<=ez:=by omega
         have NQ:(e2-1)*y1+(f2+y1)=r1:=by have:=hQ2.out;obtain⟨c,hc'⟩:∃c,e2=c+1:=⟨e2-1,by omega⟩;rw[hc',Nat.add_mul,Nat.one_mul] at this;rw[hc',Nat.add_sub_cancel];omega
         obtain⟨q1',hqq⟩:∃k,k=e2-1:=⟨_,rfl⟩
         have hX:ez-1=(q1':Int):=by omega
         have HQ1:Hid (q1'=(r1*4294967296+u0) / (y1*4294967296+y0)):=by show _=_;rw[hqq];exact dig_break NQ (Nat.le_sub_one_of_lt MO) (by omega) (by omega) (by omega) bb3
         clear MO NQ q2p hqq hz1 hz2 hpz
         obtain⟨r0,sh,A1,B1,FA1,FB1,W1,SH,F1,F2,k1,k2,k3,k4,lr0⟩:=div_fin (qx:=(qz-1)) (ex:=(ez-1)) VAL.out (by omega) EYs.out HU1.out HR1.out (by rw[BB8.out];exact HQ1.out) hQR.out HXh.out hX bb0 bb6 bb4 bb5
         clear hX HQ1 hQ2 hS2 HXh HU1 HR1
         go_wp2
         refine bodyPost_ret (v:=.tuple #[.int .u64 ((qz-1)*4294967296+(ez-1)),.int .u64 (sh:Int)]) ?_ rfl ⟨by rw[F1.out,F2.out],hG.out⟩
         simp[results,Try.results83,go_sem]
        ·skip
         obtain⟨q1',hqq⟩:∃k,k=e2:=⟨_,rfl⟩
         have hX:ez=(q1':Int):=by omega
         have HQ1:Hid (q1'=(r1*4294967296+u0) / (y1*4294967296+y0)):=by show _=_;rw[hqq];exact dig_out hQ2.out hS2.out (by omega) (by omega)
         clear hqq hz1 hz2 hpz
         obtain⟨r0,sh,A1,B1,FA1,FB1,W1,SH,F1,F2,k1,k2,k3,k4,lr0⟩:=div_fin (qx:=(qz-1)) (ex:=ez) VAL.out (by omega) EYs.out HU1.out HR1.out (by rw[BB8.out];exact HQ1.out) hQR.out HXh.out hX bb0 bb6 bb4 bb5
         clear hX HQ1 hQ2 hS2 HXh HU1 HR1
         go_wp2
         refine bodyPost_ret (v:=.tuple #[.int .u64 ((qz-1)*4294967296+ez),.int .u64 (sh:Int)]) ?_ rfl ⟨by rw[F1.out,F2.out],hG.out⟩
         simp[results,Try.results83,go_sem]
      ·skip
       by_cases hc:ez>=4294967296
       ·skip
        have MO:=dig_more hQ2.out (by omega) (by rw[<-BB8.out];exact lr1) bb5 (Or.inl (show 4294967296<=e2 by omega))
        have q2p:0<e2:=Nat.lt_of_le_of_lt (Nat.zero_le _) MO
        have ezp:1<=ez:=by omega
        have NQ:(e2-1)*y1+(f2+y1)=r1:=by have:=hQ2.out;obtain⟨c,hc'⟩:∃c,e2=c+1:=⟨e2-1,by omega⟩;rw[hc',Nat.add_mul,Nat.one_mul] at this;rw[hc',Nat.add_sub_cancel];omega
        have NQ':Hid ((e2-1)*y1+(f2+y1)=r1):=NQ
        have MO':Hid ((r1*4294967296+u0) / (y1*4294967296+y0)<=e2-1):=by show _<=_;exact Nat.le_sub_one_of_lt MO
        clear NQ MO hpz hz1 hz2
        go_wp2
        go_roundw
        case rel=>exact⟨ez-1,fz+(y1:Int),e2-1,f2+y1,by omega,by omega,by omega,by omega,by go_num,by go_num,⟨by obtain⟨hz1,hz2⟩:=hZ2.out;omega,by obtain⟨hz1,hz2⟩:=hZ2.out;omega⟩,NQ'.out,MO'.out,hG⟩
        case measure=>simp only[intOf];omega
       ·have pb:pz<18446744073709551616:=by rw[hpz];have:=Nat.mul_le_mul (show e2<=4294967295 by omega) (show y0<=4294967295 by omega);omega
        have pb0:0<=pz:=by omega
        by_cases hd:pz>4294967296*fz+(u0:Int)
        ·skip
         have MO:=dig_more hQ2.out (by omega) (by rw[<-BB8.out];exact lr1) bb5 (Or.inr (by omega))
         have q2p:0<e2:=Nat.lt_of_le_of_lt (Nat.zero_le _) MO
         have ezp:1<=ez:=by omega
         have NQ:(e2-1)*y1+(f2+y1)=r1:=by have:=hQ2.out;obtain⟨c,hc'⟩:∃c,e2=c+1:=⟨e2-1,by omega⟩;rw[hc',Nat.add_mul,Nat.one_mul] at this;rw[hc',Nat.add_sub_cancel];omega
         have NQ':Hid ((e2-1)*y1+(f2+y1)=r1):=NQ
         have MO':Hid ((r1*4294967296+u0) / (y1*4294967296+y0)<=e2-1):=by show _<=_;exact Nat.le_sub_one_of_lt MO
         clear NQ MO hpz hz1 hz2
         go_wp2
         go_roundw
         case rel=>exact⟨ez-1,fz+(y1:Int),e2-1,f2+y1,by omega,by omega,by omega,by omega,by go_num,by go_num,⟨by obtain⟨hz1,hz2⟩:=hZ2.out;omega,by obtain⟨hz1,hz2⟩:=hZ2.out;omega⟩,NQ'.out,MO'.out,hG⟩
         case measure=>simp only[intOf];omega
        ·skip
         obtain⟨q1',hqq⟩:∃k,k=e2:=⟨_,rfl⟩
         have hX:ez=(q1':Int):=by omega
         have HQ1:Hid (q1'=(r1*4294967296+u0) / (y1*4294967296+y0)):=by show _=_;rw[hqq];exact dig_out hQ2.out hS2.out (by omega) (by omega)
         clear hqq hz1 hz2 hpz
         obtain⟨r0,sh,A1,B1,FA1,FB1,W1,SH,F1,F2,k1,k2,k3,k4,lr0⟩:=div_fin (qx:=(qz-1)) (ex:=ez) VAL.out (by omega) EYs.out HU1.out HR1.out (by rw[BB8.out];exact HQ1.out) hQR.out HXh.out hX bb0 bb6 bb4 bb5
         clear hX HQ1 hQ2 hS2 HXh HU1 HR1
         go_wp2
         refine bodyPost_ret (v:=.tuple #[.int .u64 ((qz-1)*4294967296+ez),.int .u64 (sh:Int)]) ?_ rfl ⟨by rw[F1.out,F2.out],hG.out⟩
         simp[results,Try.results83,go_sem]
    ·skip
     obtain⟨q1,hqq⟩:∃k,k=q2:=⟨_,rfl⟩
     have hX:qz=(q1:Int):=by omega
     have HQ1:Hid (q1=(H*4294967296+u1) / (y1*4294967296+y0)):=by show _=_;rw[hqq];exact dig_out hQ.out hS.out (by omega) (by omega)
     clear hqq hz1 hz2 hpz
     obtain⟨r1,q,rr,A1,B1,lr1,FA1,FB1,W1,hq1',hrr1,ST,E8,E8',E9,QR,ny1,hrH,HR1,HU1,HXh⟩:=div_mid (qx:=qz) BB8.out HQ1.out hX bb0 bb1 bb2 bb3 bb4 bb5 bb6
     clear hX HQ1 hQ hS
     go_wp2
     go_loopw [18,16] (fun cr i wr=>∃(qz rz:Int) (q r:Nat),0<=qz/\qz<=4294967297/\0<=rz/\rz<4294967296/\cr = .int .u64 qz/\i = .int .u64 rz/\Hid (qz=(q:Int)/\rz=(r:Int))/\Hid (q*y1+r=r1)/\Hid ((r1*4294967296+u0) / (y1*4294967296+y0)<=q)/\Hid (Gr w1 wr)) (fun cr _ _=>(intOf cr).toNat)
     case atStart=>exact⟨q,rr,q,rr,by omega,by omega,by omega,by omega,by go_num,by go_num,⟨rfl,rfl⟩,QR,ST,hG⟩
     case round =>
      clear hG
      obtain⟨ez,fz,e2,f2,y1',y2',y3',y4',rfl,rfl,hZ2,hQ2,hS2,hG⟩:=hrel
      clear W1 FA1 FB1 E8 E8' E9 hrH hq1' hrr1 ny1 QR ST
      obtain⟨hz1,hz2⟩:=hZ2.out
      have P:ez*(y0:Int)=((e2*y0:Nat):Int):=by rw[Int.natCast_mul,hz1]
      obtain⟨pz,hpz⟩:∃pz:Int,pz=((e2*y0:Nat):Int):=⟨_,rfl⟩
      rw[<-hpz] at P
      by_cases hb:4294967296<=fz+(y1:Int)
      ·skip
       by_cases hc:ez>=4294967296
       ·skip
        have MO:=dig_more hQ2.out (by omega) (by rw[<-BB8.out];exact lr1) bb5 (Or.inl (show 4294967296<=e2 by omega))
        have q2p:0<e2:=Nat.lt_of_le_of_lt (Nat.zero_le _) MO
        have ezp:1<=ez:=by omega
        have NQ:(e2-1)*y1+(f2+y1)=r1:=by have:=hQ2.out;obtain⟨c,hc'⟩:∃c,e2=c+1:=⟨e2-1,by omega⟩;rw[hc',Nat.add_mul,Nat.one_mul] at this;rw[hc',Nat.add_sub_cancel];omega
        obtain⟨q1',hqq⟩:∃k,k=e2-1:=⟨_,rfl⟩
        have hX:ez-1=(q1':Int):=by omega
        have HQ1:Hid (q1'=(r1*4294967296+u0) / (y1*4294967296+y0)):=by show _=_;rw[hqq];exact dig_break NQ (Nat.le_sub_one_of_lt MO) (by omega) (by omega) (by omega) bb3
        clear MO NQ q2p hqq hz1 hz2 hpz
        obtain⟨r0,sh,A1,B1,FA1,FB1,W1,SH,F1,F2,k1,k2,k3,k4,lr0⟩:=div_fin (qx:=qz) (ex:=(ez-1)) VAL.out (by omega) EYs.out HU1.out HR1.out (by rw[BB8.out];exact HQ1.out) hQR.out HXh.out hX bb0 bb6 bb4 bb5
        clear hX HQ1 hQ2 hS2 HXh HU1 HR1
        go_wp2
        refine bodyPost_ret (v:=.tuple #[.int .u64 (qz*4294967296+(ez-1)),.int .u64 (sh:Int)]) ?_ rfl ⟨by rw[F1.out,F2.out],hG.out⟩
        simp[results,Try.results83,go_sem]
       ·have pb:pz<18446744073709551616:=by rw[hpz];have:=Nat.mul_le_mul (show e2<=4294967295 by omega) (show y0<=4294967295 by omega);omega
        have pb0:0<=pz:=by omega
        by_cases hd:pz>4294967296*fz+(u0:Int)
        ·skip
         have MO:=dig_more hQ2.out (by omega) (by rw[<-BB8.out];exact lr1) bb5 (Or.inr (by omega))
         have q2p:0<e2:=Nat.lt_of_le_of_lt (Nat.zero_le _) MO
         have ezp:1<=ez:=by omega
         have NQ:(e2-1)*y1+(f2+y1)=r1:=by have:=hQ2.out;obtain⟨c,hc'⟩:∃c,e2=c+1:=⟨e2-1,by omega⟩;rw[hc',Nat.add_mul,Nat.one_mul] at this;rw[hc',Nat.add_sub_cancel];omega
         obtain⟨q1',hqq⟩:∃k,k=e2-1:=⟨_,rfl⟩
         have hX:ez-1=(q1':Int):=by omega
         have HQ1:Hid (q1'=(r1*4294967296+u0) / (y1*4294967296+y0)):=by show _=_;rw[hqq];exact dig_break NQ (Nat.le_sub_one_of_lt MO) (by omega) (by omega) (by omega) bb3
         clear MO NQ q2p hqq hz1 hz2 hpz
         obtain⟨r0,sh,A1,B1,FA1,FB1,W1,SH,F1,F2,k1,k2,k3,k4,lr0⟩:=div_fin (qx:=qz) (ex:=(ez-1)) VAL.out (by omega) EYs.out HU1.out HR1.out (by rw[BB8.out];exact HQ1.out) hQR.out HXh.out hX bb0 bb6 bb4 bb5
         clear hX HQ1 hQ2 hS2 HXh HU1 HR1
         go_wp2
         refine bodyPost_ret (v:=.tuple #[.int .u64 (qz*4294967296+(ez-1)),.int .u64 (sh:Int)]) ?_ rfl ⟨by rw[F1.out,F2.out],hG.out⟩
         simp[results,Try.results83,go_sem]
        ·skip
         obtain⟨q1',hqq⟩:∃k,k=e2:=⟨_,rfl⟩
         have hX:ez=(q1':Int):=by omega
         have HQ1:Hid (q1'=(r1*4294967296+u0) / (y1*4294967296+y0)):=by show _=_;rw[hqq];exact dig_out hQ2.out hS2.out (by omega) (by omega)
         clear hqq hz1 hz2 hpz
         obtain⟨r0,sh,A1,B1,FA1,FB1,W1,SH,F1,F2,k1,k2,k3,k4,lr0⟩:=div_fin (qx:=qz) (ex:=ez) VAL.out (by omega) EYs.out HU1.out HR1.out (by rw[BB8.out];exact HQ1.out) hQR.out HXh.out hX bb0 bb6 bb4 bb5
         clear hX HQ1 hQ2 hS2 HXh HU1 HR1
         go_wp2
         refine bodyPost_ret (v:=.tuple #[.int .u64 (qz*4294967296+ez),.int .u64 (sh:Int)]) ?_ rfl ⟨by rw[F1.out,F2.out],hG.out⟩
         simp[results,Try.results83,go_sem]
      ·skip
       by_cases hc:ez>=4294967296
       ·skip
        have MO:=dig_more hQ2.out (by omega) (by rw[<-BB8.out];exact lr1) bb5 (Or.inl (show 4294967296<=e2 by omega))
        have q2p:0<e2:=Nat.lt_of_le_of_lt (Nat.zero_le _) MO
        have ezp:1<=ez:=by omega
        have NQ:(e2-1)*y1+(f2+y1)=r1:=by have:=hQ2.out;obtain⟨c,hc'⟩:∃c,e2=c+1:=⟨e2-1,by omega⟩;rw[hc',Nat.add_mul,Nat.one_mul] at this;rw[hc',Nat.add_sub_cancel];omega
        have NQ':Hid ((e2-1)*y1+(f2+y1)=r1):=NQ
        have MO':Hid ((r1*4294967296+u0) / (y1*4294967296+y0)<=e2-1):=by show _<=_;exact Nat.le_sub_one_of_lt MO
        clear NQ MO hpz hz1 hz2
        go_wp2
        go_roundw
        case rel=>exact⟨ez-1,fz+(y1:Int),e2-1,f2+y1,by omega,by omega,by omega,by omega,by go_num,by go_num,⟨by obtain⟨hz1,hz2⟩:=hZ2.out;omega,by obtain⟨hz1,hz2⟩:=hZ2.out;omega⟩,NQ'.out,MO'.out,hG⟩
        case measure=>simp only[intOf];omega
       ·have pb:pz<18446744073709551616:=by rw[hpz];have:=Nat.mul_le_mul (show e2<=4294967295 by omega) (show y0<=4294967295 by omega);omega
        have pb0:0<=pz:=by omega
        by_cases hd:pz>4294967296*fz+(u0:Int)
        ·skip
         have MO:=dig_more hQ2.out (by omega) (by rw[<-BB8.out];exact lr1) bb5 (Or.inr (by omega))
         have q2p:0<e2:=Nat.lt_of_le_of_lt (Nat.zero_le _) MO
         have ezp:1<=ez:=by omega
         have NQ:(e2-1)*y1+(f2+y1)=r1:=by have:=hQ2.out;obtain⟨c,hc'⟩:∃c,e2=c+1:=⟨e2-1,by omega⟩;rw[hc',Nat.add_mul,Nat.one_mul] at this;rw[hc',Nat.add_sub_cancel];omega
         have NQ':Hid ((e2-1)*y1+(f2+y1)=r1):=NQ
         have MO':Hid ((r1*4294967296+u0) / (y1*4294967296+y0)<=e2-1):=by show _<=_;exact Nat.le_sub_one_of_lt MO
         clear NQ MO hpz hz1 hz2
         go_wp2
         go_roundw
         case rel=>exact⟨ez-1,fz+(y1:Int),e2-1,f2+y1,by omega,by omega,by omega,by omega,by go_num,by go_num,⟨by obtain⟨hz1,hz2⟩:=hZ2.out;omega,by obtain⟨hz1,hz2⟩:=hZ2.out;omega⟩,NQ'.out,MO'.out,hG⟩
         case measure=>simp only[intOf];omega
        ·skip
         obtain⟨q1',hqq⟩:∃k,k=e2:=⟨_,rfl⟩
         have hX:ez=(q1':Int):=by omega
         have HQ1:Hid (q1'=(r1*4294967296+u0) / (y1*4294967296+y0)):=by show _=_;rw[hqq];exact dig_out hQ2.out hS2.out (by omega) (by omega)
         clear hqq hz1 hz2 hpz
         obtain⟨r0,sh,A1,B1,FA1,FB1,W1,SH,F1,F2,k1,k2,k3,k4,lr0⟩:=div_fin (qx:=qz) (ex:=ez) VAL.out (by omega) EYs.out HU1.out HR1.out (by rw[BB8.out];exact HQ1.out) hQR.out HXh.out hX bb0 bb6 bb4 bb5
         clear hX HQ1 hQ2 hS2 HXh HU1 HR1
         go_wp2
         refine bodyPost_ret (v:=.tuple #[.int .u64 (qz*4294967296+ez),.int .u64 (sh:Int)]) ?_ rfl ⟨by rw[F1.out,F2.out],hG.out⟩
         simp[results,Try.results83,go_sem]
  ·skip
   by_cases hc:qz>=4294967296
   ·skip
    have MO:=dig_more hQ.out (by omega) (by rw[<-BB8.out];exact bb6) bb4 (Or.inl (show 4294967296<=q2 by omega))
    have q2p:0<q2:=Nat.lt_of_le_of_lt (Nat.zero_le _) MO
    have qzp:1<=qz:=by omega
    have NQ:(q2-1)*y1+(r2+y1)=H:=by have:=hQ.out;obtain⟨c,hc'⟩:∃c,q2=c+1:=⟨q2-1,by omega⟩;rw[hc',Nat.add_mul,Nat.one_mul] at this;rw[hc',Nat.add_sub_cancel];omega
    have NQ':Hid ((q2-1)*y1+(r2+y1)=H):=NQ
    have MO':Hid ((H*4294967296+u1) / (y1*4294967296+y0)<=q2-1):=by show _<=_;exact Nat.le_sub_one_of_lt MO
    clear NQ MO hpz hz1 hz2
    go_wp2
    go_roundw
    case rel=>exact⟨qz-1,rz+(y1:Int),q2-1,r2+y1,by omega,by omega,by omega,by omega,by go_num,by go_num,⟨by obtain⟨hz1,hz2⟩:=hZ.out;omega,by obtain⟨hz1,hz2⟩:=hZ.out;omega⟩,NQ'.out,MO'.out,hG⟩
    case measure=>simp only[intOf];omega
   ·have pb:pz<18446744073709551616:=by rw[hpz];have:=Nat.mul_le_mul (show q2<=4294967295 by omega) (show y0<=4294967295 by omega);omega
    have pb0:0<=pz:=by omega
    by_cases hd:pz>4294967296*rz+(u1:Int)
    ·skip
     have MO:=dig_more hQ.out (by omega) (by rw[<-BB8.out];exact bb6) bb4 (Or.inr (by omega))
     have q2p:0<q2:=Nat.lt_of_le_of_lt (Nat.zero_le _) MO
     have qzp:1<=qz:=by omega
     have NQ:(q2-1)*y1+(r2+y1)=H:=by have:=hQ.out;obtain⟨c,hc'⟩:∃c,q2=c+1:=⟨q2-1,by omega⟩;rw[hc',Nat.add_mul,Nat.one_mul] at this;rw[hc',Nat.add_sub_cancel];omega
     have NQ':Hid ((q2-1)*y1+(r2+y1)=H):=NQ
     have MO':Hid ((H*4294967296+u1) / (y1*4294967296+y0)<=q2-1):=by show _<=_;exact Nat.le_sub_one_of_lt MO
     clear NQ MO hpz hz1 hz2
     go_wp2
     go_roundw
     case rel=>exact⟨qz-1,rz+(y1:Int),q2-1,r2+y1,by omega,by omega,by omega,by omega,by go_num,by go_num,⟨by obtain⟨hz1,hz2⟩:=hZ.out;omega,by obtain⟨hz1,hz2⟩:=hZ.out;omega⟩,NQ'.out,MO'.out,hG⟩
     case measure=>simp only[intOf];omega
    ·skip
     obtain⟨q1,hqq⟩:∃k,k=q2:=⟨_,rfl⟩
     have hX:qz=(q1:Int):=by omega
     have HQ1:Hid (q1=(H*4294967296+u1) / (y1*4294967296+y0)):=by show _=_;rw[hqq];exact dig_out hQ.out hS.out (by omega) (by omega)
     clear hqq hz1 hz2 hpz
     obtain⟨r1,q,rr,A1,B1,lr1,FA1,FB1,W1,hq1',hrr1,ST,E8,E8',E9,QR,ny1,hrH,HR1,HU1,HXh⟩:=div_mid (qx:=qz) BB8.out HQ1.out hX bb0 bb1 bb2 bb3 bb4 bb5 bb6
     clear hX HQ1 hQ hS
     go_wp2
     go_loopw [18,16] (fun cr i wr=>∃(qz rz:Int) (q r:Nat),0<=qz/\qz<=4294967297/\0<=rz/\rz<4294967296/\cr = .int .u64 qz/\i = .int .u64 rz/\Hid (qz=(q:Int)/\rz=(r:Int))/\Hid (q*y1+r=r1)/\Hid ((r1*4294967296+u0) / (y1*4294967296+y0)<=q)/\Hid (Gr w1 wr)) (fun cr _ _=>(intOf cr).toNat)
     case atStart=>exact⟨q,rr,q,rr,by omega,by omega,by omega,by omega,by go_num,by go_num,⟨rfl,rfl⟩,QR,ST,hG⟩
     case round =>
      clear hG
      obtain⟨ez,fz,e2,f2,y1',y2',y3',y4',rfl,rfl,hZ2,hQ2,hS2,hG⟩:=hrel
      clear W1 FA1 FB1 E8 E8' E9 hrH hq1' hrr1 ny1 QR ST
      obtain⟨hz1,hz2⟩:=hZ2.out
      have P:ez*(y0:Int)=((e2*y0:Nat):Int):=by rw[Int.natCast_mul,hz1]
      obtain⟨pz,hpz⟩:∃pz:Int,pz=((e2*y0:Nat):Int):=⟨_,rfl⟩
      rw[<-hpz] at P
      by_cases hb:4294967296<=fz+(y1:Int)
      ·skip
       by_cases hc:ez>=4294967296
       ·skip
        have MO:=dig_more hQ2.out (by omega) (by rw[<-BB8.out];exact lr1) bb5 (Or.inl (show 4294967296<=e2 by omega))
        have q2p:0<e2:=Nat.lt_of_le_of_lt (Nat.zero_le _) MO
        have ezp:1<=ez:=by omega
        have NQ:(e2-1)*y1+(f2+y1)=r1:=by have:=hQ2.out;obtain⟨c,hc'⟩:∃c,e2=c+1:=⟨e2-1,by omega⟩;rw[hc',Nat.add_mul,Nat.one_mul] at this;rw[hc',Nat.add_sub_cancel];omega
        obtain⟨q1',hqq⟩:∃k,k=e2-1:=⟨_,rfl⟩
        have hX:ez-1=(q1':Int):=by omega
        have HQ1:Hid (q1'=(r1*4294967296+u0) / (y1*4294967296+y0)):=by show _=_;rw[hqq];exact dig_break NQ (Nat.le_sub_one_of_lt MO) (by omega) (by omega) (by omega) bb3
        clear MO NQ q2p hqq hz1 hz2 hpz
        obtain⟨r0,sh,A1,B1,FA1,FB1,W1,SH,F1,F2,k1,k2,k3,k4,lr0⟩:=div_fin (qx:=qz) (ex:=(ez-1)) VAL.out (by omega) EYs.out HU1.out HR1.out (by rw[BB8.out];exact HQ1.out) hQR.out HXh.out hX bb0 bb6 bb4 bb5
        clear hX HQ1 hQ2 hS2 HXh HU1 HR1
        go_wp2
        refine bodyPost_ret (v:=.tuple #[.int .u64 (qz*4294967296+(ez-1)),.int .u64 (sh:Int)]) ?_ rfl ⟨by rw[F1.out,F2.out],hG.out⟩
        simp[results,Try.results83,go_sem]
       ·have pb:pz<18446744073709551616:=by rw[hpz];have:=Nat.mul_le_mul (show e2<=4294967295 by omega) (show y0<=4294967295 by omega);omega
        have pb0:0<=pz:=by omega
        by_cases hd:pz>4294967296*fz+(u0:Int)
        ·skip
         have MO:=dig_more hQ2.out (by omega) (by rw[<-BB8.out];exact lr1) bb5 (Or.inr (by omega))
         have q2p:0<e2:=Nat.lt_of_le_of_lt (Nat.zero_le _) MO
         have ezp:1<=ez:=by omega
         have NQ:(e2-1)*y1+(f2+y1)=r1:=by have:=hQ2.out;obtain⟨c,hc'⟩:∃c,e2=c+1:=⟨e2-1,by omega⟩;rw[hc',Nat.add_mul,Nat.one_mul] at this;rw[hc',Nat.add_sub_cancel];omega
         obtain⟨q1',hqq⟩:∃k,k=e2-1:=⟨_,rfl⟩
         have hX:ez-1=(q1':Int):=by omega
         have HQ1:Hid (q1'=(r1*4294967296+u0) / (y1*4294967296+y0)):=by show _=_;rw[hqq];exact dig_break NQ (Nat.le_sub_one_of_lt MO) (by omega) (by omega) (by omega) bb3
         clear MO NQ q2p hqq hz1 hz2 hpz
         obtain⟨r0,sh,A1,B1,FA1,FB1,W1,SH,F1,F2,k1,k2,k3,k4,lr0⟩:=div_fin (qx:=qz) (ex:=(ez-1)) VAL.out (by omega) EYs.out HU1.out HR1.out (by rw[BB8.out];exact HQ1.out) hQR.out HXh.out hX bb0 bb6 bb4 bb5
         clear hX HQ1 hQ2 hS2 HXh HU1 HR1
         go_wp2
         refine bodyPost_ret (v:=.tuple #[.int .u64 (qz*4294967296+(ez-1)),.int .u64 (sh:Int)]) ?_ rfl ⟨by rw[F1.out,F2.out],hG.out⟩
         simp[results,Try.results83,go_sem]
        ·skip
         obtain⟨q1',hqq⟩:∃k,k=e2:=⟨_,rfl⟩
         have hX:ez=(q1':Int):=by omega
         have HQ1:Hid (q1'=(r1*4294967296+u0) / (y1*4294967296+y0)):=by show _=_;rw[hqq];exact dig_out hQ2.out hS2.out (by omega) (by omega)
         clear hqq hz1 hz2 hpz
         obtain⟨r0,sh,A1,B1,FA1,FB1,W1,SH,F1,F2,k1,k2,k3,k4,lr0⟩:=div_fin (qx:=qz) (ex:=ez) VAL.out (by omega) EYs.out HU1.out HR1.out (by rw[BB8.out];exact HQ1.out) hQR.out HXh.out hX bb0 bb6 bb4 bb5
         clear hX HQ1 hQ2 hS2 HXh HU1 HR1
         go_wp2
         refine bodyPost_ret (v:=.tuple #[.int .u64 (qz*4294967296+ez),.int .u64 (sh:Int)]) ?_ rfl ⟨by rw[F1.out,F2.out],hG.out⟩
         simp[results,Try.results83,go_sem]
      ·skip
       by_cases hc:ez>=4294967296
       ·skip
        have MO:=dig_more hQ2.out (by omega) (by rw[<-BB8.out];exact lr1) bb5 (Or.inl (show 4294967296<=e2 by omega))
        have q2p:0<e2:=Nat.lt_of_le_of_lt (Nat.zero_le _) MO
        have ezp:1<=ez:=by omega
        have NQ:(e2-1)*y1+(f2+y1)=r1:=by have:=hQ2.out;obtain⟨c,hc'⟩:∃c,e2=c+1:=⟨e2-1,by omega⟩;rw[hc',Nat.add_mul,Nat.one_mul] at this;rw[hc',Nat.add_sub_cancel];omega
        have NQ':Hid ((e2-1)*y1+(f2+y1)=r1):=NQ
        have MO':Hid ((r1*4294967296+u0) / (y1*4294967296+y0)<=e2-1):=by show _<=_;exact Nat.le_sub_one_of_lt MO
        clear NQ MO hpz hz1 hz2
        go_wp2
        go_roundw
        case rel=>exact⟨ez-1,fz+(y1:Int),e2-1,f2+y1,by omega,by omega,by omega,by omega,by go_num,by go_num,⟨by obtain⟨hz1,hz2⟩:=hZ2.out;omega,by obtain⟨hz1,hz2⟩:=hZ2.out;omega⟩,NQ'.out,MO'.out,hG⟩
        case measure=>simp only[intOf];omega
       ·have pb:pz<18446744073709551616:=by rw[hpz];have:=Nat.mul_le_mul (show e2<=4294967295 by omega) (show y0<=4294967295 by omega);omega
        have pb0:0<=pz:=by omega
        by_cases hd:pz>4294967296*fz+(u0:Int)
        ·skip
         have MO:=dig_more hQ2.out (by omega) (by rw[<-BB8.out];exact lr1) bb5 (Or.inr (by omega))
         have q2p:0<e2:=Nat.lt_of_le_of_lt (Nat.zero_le _) MO
         have ezp:1<=ez:=by omega
         have NQ:(e2-1)*y1+(f2+y1)=r1:=by have:=hQ2.out;obtain⟨c,hc'⟩:∃c,e2=c+1:=⟨e2-1,by omega⟩;rw[hc',Nat.add_mul,Nat.one_mul] at this;rw[hc',Nat.add_sub_cancel];omega
         have NQ':Hid ((e2-1)*y1+(f2+y1)=r1):=NQ
         have MO':Hid ((r1*4294967296+u0) / (y1*4294967296+y0)<=e2-1):=by show _<=_;exact Nat.le_sub_one_of_lt MO
         clear NQ MO hpz hz1 hz2
         go_wp2
         go_roundw
         case rel=>exact⟨ez-1,fz+(y1:Int),e2-1,f2+y1,by omega,by omega,by omega,by omega,by go_num,by go_num,⟨by obtain⟨hz1,hz2⟩:=hZ2.out;omega,by obtain⟨hz1,hz2⟩:=hZ2.out;omega⟩,NQ'.out,MO'.out,hG⟩
         case measure=>simp only[intOf];omega
        ·skip
         obtain⟨q1',hqq⟩:∃k,k=e2:=⟨_,rfl⟩
         have hX:ez=(q1':Int):=by omega
         have HQ1:Hid (q1'=(r1*4294967296+u0) / (y1*4294967296+y0)):=by show _=_;rw[hqq];exact dig_out hQ2.out hS2.out (by omega) (by omega)
         clear hqq hz1 hz2 hpz
         obtain⟨r0,sh,A1,B1,FA1,FB1,W1,SH,F1,F2,k1,k2,k3,k4,lr0⟩:=div_fin (qx:=qz) (ex:=ez) VAL.out (by omega) EYs.out HU1.out HR1.out (by rw[BB8.out];exact HQ1.out) hQR.out HXh.out hX bb0 bb6 bb4 bb5
         clear hX HQ1 hQ2 hS2 HXh HU1 HR1
         go_wp2
         refine bodyPost_ret (v:=.tuple #[.int .u64 (qz*4294967296+ez),.int .u64 (sh:Int)]) ?_ rfl ⟨by rw[F1.out,F2.out],hG.out⟩
         simp[results,Try.results83,go_sem]
end Go.Proofs.Ytmdakhpdofepeaa
