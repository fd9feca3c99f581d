import Derived.Test.YtanpdbadfddlcaaGreatDoorP03
namespace Go.Proofs.YtanpdbadfddlcaaGreatDoor
open Go.RowKit
set_option linter.unusedVariables false
theorem two64 {r:Nat} (hr:r<64):(18446744073709551616:Nat)=2 ^ r*2 ^ (64-r):=by rw[<-Nat.pow_add,show r+(64-r)=64 by omega]
theorem shl_back {r x:Nat} (hr:r<64):x*2 ^ (64-r) % 18446744073709551616=x % 2 ^ r*2 ^ (64-r):=by
 rw[two64 hr,Nat.mul_mod_mul_right]
theorem dn_val {X x i r:Nat} (hr:r<64):(X+18446744073709551616 ^ (i+1)*x) / 2 ^ r=X / 2 ^ r+18446744073709551616 ^ (i+1)*(x / 2 ^ r)+18446744073709551616 ^ i*(x*2 ^ (64-r) % 18446744073709551616):=by
 rw[shl_back hr]
 have h1:x % 2 ^ r+2 ^ r*(x / 2 ^ r)=x:=Nat.mod_add_div _ _
 have h2:18446744073709551616 ^ (i+1)=2 ^ r*(18446744073709551616 ^ i*2 ^ (64-r)):=by
  rw[Nat.pow_succ]
  conv=>lhs;rhs;rw[two64 hr]
  ac_rfl
 have h3:18446744073709551616 ^ (i+1)*x=2 ^ r*(18446744073709551616 ^ (i+1)*(x / 2 ^ r)+18446744073709551616 ^ i*(x % 2 ^ r*2 ^ (64-r))):=by
  generalize 18446744073709551616 ^ i=B at *
  generalize 18446744073709551616 ^ (i+1)=C at *
  generalize x % 2 ^ r=a at *
  generalize x / 2 ^ r=b at *
  rw[<-h1,Nat.mul_add,Nat.mul_add,Nat.add_comm]
  congr 1
  ·ac_rfl
  ·rw[h2];ac_rfl
 rw[h3,Nat.add_mul_div_left _ _ (Nat.two_pow_pos r),Nat.add_assoc]
structure DnAt (ds zs:List Nat) (k r N:Nat):Prop where
 len:zs.length=N
 lt:∀x∈zs,x<18446744073709551616
 val:nv 18446744073709551616 zs=nv 18446744073709551616 (ds.take k) / 2 ^ r
 zero:∀j,k<=j->zs.getD j 0=0
 edge:∀i,k=i+1->zs.getD i 0<2 ^ (64-r)
theorem DnAt.start {ds:List Nat} {r N:Nat}:DnAt ds (List.replicate N 0) 0 r N:=
 ⟨by simp,(fun x hx=>by rw[List.mem_replicate] at hx;omega),by simp[nv,nv_zeros],(fun j _=>by rw[List.getD_eq_getElem?_getD,List.getElem?_replicate];split <;> rfl),fun i hi=>absurd hi (by omega)⟩
theorem shr_lt' {r x:Nat} (hr:r<64) (hx:x<18446744073709551616):x / 2 ^ r<2 ^ (64-r):=by
 refine Nat.div_lt_of_lt_mul ?_
 rw[<-two64 hr]
 exact hx
theorem DnAt.first {ds zs:List Nat} {r N x:Nat} (h:DnAt ds zs 0 r N) (hr:r<64) (hx:x<18446744073709551616) (hN:0<N) (hxk:x=ds.getD 0 0):DnAt ds (zs.set 0 (x / 2 ^ r)) 1 r N:=by
 have hl:=h.len
 refine⟨by rw[List.length_set];exact h.len,set_lt h.lt (Nat.lt_of_le_of_lt (Nat.div_le_self _ _) hx),?_,?_,?_⟩
 ·have s1:=nv_set 18446744073709551616 zs 0 (x / 2 ^ r) (by omega)
  rw[h.zero 0 (Nat.le_refl _),Nat.mul_zero,Nat.add_zero] at s1
  rw[s1,h.val,nv_take_succ,<-hxk]
  simp[nv]
 ·intro j hj
  rw[getD_set _ _ _ _ (by omega),if_neg (by omega)]
  exact h.zero j (by omega)
 ·intro i hi
  have:i=0:=by omega
  subst this
  rw[getD_set _ _ _ _ (by omega),if_pos rfl]
  exact shr_lt' hr hx
theorem DnAt.next {ds zs:List Nat} {i r N x o:Nat} (h:DnAt ds zs (i+1) r N) (hr:r<64) (hx:x<18446744073709551616) (hN:i+1<N) (hxk:x=ds.getD (i+1) 0) (ho:o=zs.getD i 0) :
  DnAt ds ((zs.set (i+1) (x / 2 ^ r)).set i (o+x*2 ^ (64-r) % 18446744073709551616)) (i+2) r N:=by
 have hl:=h.len
 have ho1:o<2 ^ (64-r):=ho ▸ h.edge i rfl
 refine⟨by rw[List.length_set,List.length_set];exact h.len,set_lt (set_lt h.lt (Nat.lt_of_le_of_lt (Nat.div_le_self _ _) hx)) ?_,?_,?_,?_⟩
 ·rw[shl_back hr]
  have h1:(x % 2 ^ r+1)*2 ^ (64-r)<=2 ^ r*2 ^ (64-r):=Nat.mul_le_mul_right _ (Nat.mod_lt _ (Nat.two_pow_pos _))
  rw[<-two64 hr,Nat.add_mul] at h1
  omega
 ·have s1:=nv_set 18446744073709551616 zs (i+1) (x / 2 ^ r) (by omega)
  have s2:=nv_set 18446744073709551616 (zs.set (i+1) (x / 2 ^ r)) i (o+x*2 ^ (64-r) % 18446744073709551616) (by rw[List.length_set];omega)
  rw[h.zero (i+1) (Nat.le_refl _),Nat.mul_zero,Nat.add_zero] at s1
  rw[getD_set _ _ _ _ (by omega),if_neg (by omega),<-ho,s1,h.val,Nat.mul_add] at s2
  have s3:=nv_take_succ 18446744073709551616 ds (i+1)
  rw[<-hxk] at s3
  rw[show i+2=i+1+1 from rfl,s3,dn_val hr]
  omega
 ·intro j hj
  rw[getD_set _ _ _ _ (by rw[List.length_set];omega),if_neg (by omega),getD_set _ _ _ _ (by omega),if_neg (by omega)]
  exact h.zero j (by omega)
 ·intro j hj
  have:j=i+1:=by omega
  subst this
  rw[getD_set _ _ _ _ (by rw[List.length_set];omega),if_neg (by omega),getD_set _ _ _ _ (by omega),if_pos rfl]
  exact shr_lt' hr hx
theorem or_limb' {o x r:Nat} (hr:r<64) (hx:x<18446744073709551616) (ho:o<2 ^ (64-r)):bits .or .u64 (o:Int) (((x*2 ^ (64-r) % 18446744073709551616:Nat)):Int)=((o+x*2 ^ (64-r) % 18446744073709551616:Nat):Int):=by
 have h1:2 ^ (64-r)<=2 ^ 64:=Nat.pow_le_pow_right (by omega) (by omega)
 rw[bits_or_u64_nat _ _ (by omega) (by omega),shl_back hr,or_add ho]
theorem getD_drop (xs:List Nat) (q k:Nat):(xs.drop q).getD k 0=xs.getD (q+k) 0:=by
 rw[List.getD_eq_getElem?_getD,List.getD_eq_getElem?_getD,List.getElem?_drop]
theorem nv_drop {B x:Nat} {xs:List Nat} (h:Dg B x xs) (q:Nat) (hq:q<=xs.length) (hB:0<B):nv B (xs.drop q)=x / B ^ q:=by
 have h1:=nv_append B (xs.take q) (xs.drop q)
 rw[List.take_append_drop,h.1,List.length_take,Nat.min_eq_left hq] at h1
 have h2:=nv_lt B (xs.take q) (fun y hy=>h.2.1 y (List.mem_of_mem_take hy))
 rw[List.length_take,Nat.min_eq_left hq] at h2
 rw[h1,Nat.add_mul_div_left _ _ (Nat.pow_pos hB),Nat.div_eq_of_lt h2,Nat.zero_add]
set_option maxHeartbeats 1600000 in
theorem shiftDown37n (ad:Option Addr) (n1 c1 x n:Nat) (w:World) (hx:Lim w ad n1 c1 18446744073709551616 x) (b1:n1<=1099511627776) (hn:n<=9223372036854775807) :
  Calls Tryz.prog 173 #[.slice ad n1 c1,.int .i64 (n:Int)] w fun e w'=>∃ad' n' cap',e = .returned (.slice ad' n' cap')/\n'<=n1/\Lim w' ad' n' cap' 18446744073709551616 (x / 2 ^ n)/\Gr w w'/\Fresh w.heap.size w' ad' n' cap':=by
 obtain⟨xs,rx,dx⟩:=hx
 have RX:Hid (Row w ad n1 c1 xs):=rx
 have DX:Hid (Dg 18446744073709551616 x xs):=dx
 have hle:=rx.le
 have hmax:=rx.max
 obtain⟨q,hq⟩:∃q,q=n / 64:=⟨_,rfl⟩
 obtain⟨r,hr⟩:∃r,r=n % 64:=⟨_,rfl⟩
 have hr64:r<64:=by omega
 have hnq:n=64*q+r:=by omega
 have eq:(n:Int) / 64=(q:Int):=by omega
 have er:(n:Int) % 64=(r:Int):=by omega
 have HN:Hid (n=64*q+r):=hnq
 clear hq hr hnq rx dx
 by_cases hbig:n1<=q
 ·have fin:Hid (x / 2 ^ n=0):=by
   show _=_
   refine Nat.div_eq_of_lt ?_
   have h1:=DX.out.upper
   rw[RX.out.len,pow64] at h1
   refine Nat.lt_of_lt_of_le h1 (Nat.pow_le_pow_right (by omega) ?_)
   have:=HN.out
   omega
  have hbig':(q:Int)>=(n1:Int):=by omega
  go_enter Tryz.func173,Tryz.ntmps173
  go_wp2_with (simp only[er])
  go_ret
  refine⟨none,0,0,rfl,by omega,?_,Gr.refl _,Fresh.nil _ _⟩
  rw[fin.out]
  exact⟨[],Row.empty (by omega) (fun _=>rfl),Dg.nil⟩
 ·obtain⟨p1,o1,rfl,hp1,hc1⟩:=RX.out.lt (by omega)
  have HC:Hid (∀w',Gr w w'->∀j,j<n1->w'.cell? ⟨p1,o1+j,none⟩=some (.int .u64 ((xs.getD j 0:Nat):Int))):=hc1
  clear hc1
  have hbig':¬(q:Int)>=(n1:Int):=by omega
  go_enter Tryz.func173,Tryz.ntmps173
  go_wp2_with (first|(simp only[er])|(at_make;refine wpList_made rfl _ _ rfl (n1-q) _ rfl rfl ?_ ?_ ?_;rotate_right;intro w2 hown0 hg2))
  case' refine_1=>omega
  case' refine_2=>omega
  have G2:Hid (Gr w w2):=hg2
  clear hg2
  obtain⟨N,hN⟩:∃N,N=n1-q:=⟨_,rfl⟩
  rw[<-hN] at hown0 ⊢
  have hNq:N+q=n1:=by omega
  clear hN
  obtain⟨ds,hds⟩:∃ds,ds=xs.drop q:=⟨_,rfl⟩
  have HDS:Hid (ds=xs.drop q):=hds
  clear hds
  go_loopw [27] (fun i wr=>∃(k:Nat) (zs:List Nat),k<=N/\i = .int .i64 (k:Int)/\wr.ownsRow w.heap.size 34 1 (.slice (some ⟨w.heap.size,0,none⟩) N N) N (u64s zs)/\Hid (DnAt ds zs k r N)/\Hid (Gr w wr)) (fun i _=>N-(intOf i).toNat)
  case atStart=>exact⟨0,List.replicate N 0,by omega,rfl,hown0,DnAt.start,G2⟩
  case round =>
   obtain⟨k,zs,hk,rfl,hown,hU,hg⟩:=hrel
   by_cases hlt:k<N
   ·have hcell1:=HC.out wr hg.out (q+k) (by omega)
    rw[<-Nat.add_assoc] at hcell1
    have hcell2:=owns_cell hown k (by omega)
    have hfz2:=hown.frozenAt k
    obtain⟨xk,hxk⟩:∃xk,xk=xs.getD (q+k) 0:=⟨_,rfl⟩
    rw[<-hxk] at hcell1
    have bxk:xk<18446744073709551616:=hxk ▸ getD_lt (by omega) DX.out.2.1 (q+k)
    have HX:Hid (xk=ds.getD k 0):=by rw[HDS.out,getD_drop];exact hxk
    have SH:Hid ((xk:Int) / 2 ^ r=((xk / 2 ^ r:Nat):Int)):=by
     show _=_
     rw[Int.natCast_ediv,Int.natCast_pow]
     rfl
    have i1:(k:Int)<(N:Int):=by omega
    clear hxk
    by_cases hk0:k=0
    ·subst hk0
     rw[Nat.add_zero] at hcell1
     go_wp2
     rw[SH.out]
     go_roundw
     case rel=>exact⟨1,_,by omega,by go_num,owns_set hown 0 (xk / 2 ^ r),hU.out.first hr64 bxk (by omega) HX.out,hg.out.setCell (Nat.le_refl _) _⟩
     case measure=>simp only[intOf];omega
    ·obtain⟨i,rfl⟩:∃i,k=i+1:=⟨k-1,by omega⟩
     obtain⟨ok,hok⟩:∃ok,ok=zs.getD i 0:=⟨_,rfl⟩
     have HO:Hid (ok=zs.getD i 0):=hok
     have OR:Hid (bits .or .u64 (ok:Int) (IntKind.u64.wrap ((xk:Int)*2 ^ (64-r)))=((ok+xk*2 ^ (64-r) % 18446744073709551616:Nat):Int)):=by
      show _=_
      rw[<-or_limb' hr64 bxk (hok ▸ hU.out.edge i rfl),IntKind.wrap_u64,Int.natCast_emod,Int.natCast_mul,Int.natCast_pow]
      rfl
     clear hok
     go_wp2
     rw[SH.out]
     have hown1:=owns_set hown (i+1) (xk / 2 ^ r)
     have hg1:=hg.out.setCell (p:=⟨w.heap.size,i+1,none⟩) (Nat.le_refl _) (.int .u64 ((xk / 2 ^ r:Nat):Int))
     generalize hwq:wr.setCell ⟨w.heap.size,i+1,none⟩ (.int .u64 ((xk / 2 ^ r:Nat):Int))=wq at *
     clear hown hcell2 hfz2 hcell1
     have hcell3:=owns_cell hown1 i (by omega)
     have hfz3:=hown1.frozenAt i
     rw[getD_set _ _ _ _ (by rw[hU.out.len];omega),if_neg (by omega),<-HO.out] at hcell3
     have G1:Hid (Gr w wq):=hg1
     clear hg1 hg hwq
     have i4:(i:Int)<(N:Int):=by omega
     go_region
     rw[OR.out]
     go_wp2
     go_roundw
     case rel=>exact⟨i+2,_,by omega,by go_num,owns_set hown1 i (ok+xk*2 ^ (64-r) % 18446744073709551616),hU.out.next hr64 bxk (by omega) HX.out HO.out,(G1.out.setCell (p:=⟨w.heap.size,i,none⟩) (Nat.le_refl _) _).drew⟩
     case measure=>simp only[intOf];omega
   ·have hkm:k=N:=by omega
    subst hkm
    obtain⟨ad',cap',hEq,hrow⟩:=Row.of_owns hown
    simp only[Value.slice.injEq,true_and] at hEq
    obtain⟨rfl,rfl⟩:=hEq
    have fin:Hid (nv 18446744073709551616 zs=x / 2 ^ n):=by
     show _=_
     rw[hU.out.val,nv_take_all _ ds _ (by rw[HDS.out,List.length_drop,RX.out.len];omega),HDS.out,nv_drop DX.out q (by rw[RX.out.len];omega) (by omega),HN.out,pow64,Nat.div_div_eq_div_mul,<-Nat.pow_add]
    have HT:Hid (Calls Tryz.prog 175 #[.slice (some ⟨w.heap.size,0,none⟩) k k] wr fun e w'=>∃j,e = .returned (.slice (some ⟨w.heap.size,0,none⟩) j k)/\j<=k/\Lim wr (some ⟨w.heap.size,0,none⟩) j k 18446744073709551616 (x / 2 ^ n)/\w'=wr):=by
     refine(trim57 _ _ _ zs wr hrow).mono ?_
     rintro e w' ⟨j,rfl,hj,hz,ht,rfl⟩
     refine⟨j,rfl,hj,?_,rfl⟩
     have:=trim_out hrow hU.out.lt hj hz ht
     rw[fin.out] at this
     exact this
    have OWN:=hide hown
    clear hrow hown
    go_wp2_with (go_at_call 175;with_reducible refine HT.out.mono ?_;rintro e w' ⟨j,rfl,hj,hl,rfl⟩)
    go_ret
    exact⟨_,_,_,rfl,by omega,hl,hg.out,Fresh.take OWN.out hj⟩
theorem shiftDown37 (ad:Option Addr) (n1 c1 x n:Nat) (w:World) (hx:Lim w ad n1 c1 18446744073709551616 x) (b1:n1<=1099511627776) (hn:n<=9223372036854775807) :
  Calls Tryz.prog 173 #[.slice ad n1 c1,.int .i64 (n:Int)] w fun e w'=>∃ad' n' cap',e = .returned (.slice ad' n' cap')/\n'<=n1/\Lim w' ad' n' cap' 18446744073709551616 (x / 2 ^ n)/\Gr w w':=
 (shiftDown37n ad n1 c1 x n w hx b1 hn).mono (by rintro e w' ⟨ad',n',cap',h1,h2,h3,h4,_⟩;exact⟨ad',n',cap',h1,h2,h3,h4⟩)
structure AddAt (xs ys zs:List Nat) (k c N:Nat):Prop where
 len:zs.length=N
 lt:∀x∈zs,x<18446744073709551616
 val:nv 18446744073709551616 zs+18446744073709551616 ^ k*c=nv 18446744073709551616 (xs.take k)+nv 18446744073709551616 (ys.take k)
 zero:∀j,k<=j->zs.getD j 0=0
theorem AddAt.start {xs ys:List Nat} {N:Nat}:AddAt xs ys (List.replicate N 0) 0 0 N:=
 ⟨by simp,(fun x hx=>by rw[List.mem_replicate] at hx;omega),by simp[nv,nv_zeros],(fun j _=>by rw[List.getD_eq_getElem?_getD,List.getElem?_replicate];split <;> rfl)⟩
theorem AddAt.next {xs ys zs:List Nat} {k c N x y:Nat} (h:AddAt xs ys zs k c N) (hk:k<N) (hx:x=xs.getD k 0) (hy:y=ys.getD k 0) :
  AddAt xs ys (zs.set k ((x+y+c) % 18446744073709551616)) (k+1) ((x+y+c) / 18446744073709551616) N:=by
 have hl:=h.len
 refine⟨by rw[List.length_set];exact hl,set_lt h.lt (Nat.mod_lt _ (by omega)),?_,?_⟩
 ·have s1:=nv_set 18446744073709551616 zs k ((x+y+c) % 18446744073709551616) (by omega)
  rw[h.zero k (Nat.le_refl _),Nat.mul_zero,Nat.add_zero] at s1
  rw[s1,nv_take_succ,nv_take_succ,<-hx,<-hy,Nat.pow_succ]
  exact add_step h.val
 ·intro j hj
  rw[getD_set _ _ _ _ (by omega),if_neg (by omega)]
  exact h.zero j (by omega)
set_option maxHeartbeats 1600000 in
theorem copyPlus60 (g N:Nat) (ad1 ad2:Option Addr) (n1 n2 c1 c2:Nat) (xs ys:List Nat) (w0 w:World) (rx:Row w0 ad1 n1 c1 xs) (ry:Row w0 ad2 n2 c2 ys) (hx:∀x∈xs,x<18446744073709551616) (hy:∀x∈ys,x<18446744073709551616)
  (h21:n2<=n1) (h1N:n1<=N) (b1:n1<=1099511627776) (hg0:Gr w0 w) (hsz:w0.heap.size<=g) (how:w.ownsRow g 34 1 (.slice (some ⟨g,0,none⟩) N N) N (u64s (List.replicate N 0))) (hNm:N<=9223372036854775807) :
  Calls Tryz.prog 182 #[.slice (some ⟨g,0,none⟩) N N,.slice ad1 n1 c1,.slice ad2 n2 c2] w fun e w'=>∃(c:Nat) (zs:List Nat),e = .returned (.int .u64 (c:Int))/\c<=1/\AddAt xs ys zs n1 c N/\w'.ownsRow g 34 1 (.slice (some ⟨g,0,none⟩) N N) N (u64s zs)/\Gr w0 w':=by
 have RX:Hid (Row w0 ad1 n1 c1 xs):=rx
 have RY:Hid (Row w0 ad2 n2 c2 ys):=ry
 have HX:Hid (∀x∈xs,x<18446744073709551616):=hx
 have HY:Hid (∀x∈ys,x<18446744073709551616):=hy
 have HG:Hid (Gr w0 w):=hg0
 have hl1:=rx.le
 have hl2:=ry.le
 clear rx ry hx hy hg0
 go_enter Tryz.func182,Tryz.ntmps182
 go_wp2
 go_loopw [7,13] (fun cr i wr=>∃(k c:Nat) (zs:List Nat),k<=n2/\c<=1/\i = .int .i64 (k:Int)/\cr = .int .u64 (c:Int)/\wr.ownsRow g 34 1 (.slice (some ⟨g,0,none⟩) N N) N (u64s zs)/\Hid (AddAt xs ys zs k c N)/\Hid (Gr w0 wr)) (fun _ i _=>n2-(intOf i).toNat)
 case atStart=>exact⟨0,0,List.replicate N 0,by omega,by omega,rfl,rfl,how,AddAt.start,HG⟩
 case round =>
  obtain⟨k,c,zs,hk,hc,rfl,rfl,hown,hA,hg⟩:=hrel
  by_cases hlt:k<n2
  ·obtain⟨p1,o1,rfl,hp1,hc1⟩:=RX.out.lt (by omega)
   obtain⟨p2,o2,rfl,hp2,hc2⟩:=RY.out.lt (by omega)
   have hcell1:=hc1 wr hg.out k (by omega)
   have hcell2:=hc2 wr hg.out k hlt
   have hcell3:=owns_cell hown k (by omega)
   have hfz:=hown.frozenAt k
   obtain⟨xk,hxk⟩:∃xk,xk=xs.getD k 0:=⟨_,rfl⟩
   obtain⟨yk,hyk⟩:∃yk,yk=ys.getD k 0:=⟨_,rfl⟩
   rw[<-hxk] at hcell1
   rw[<-hyk] at hcell2
   have bxk:xk<18446744073709551616:=hxk ▸ getD_lt (by omega) HX.out k
   have byk:yk<18446744073709551616:=hyk ▸ getD_lt (by omega) HY.out k
   have HXY:Hid (xk=xs.getD k 0/\yk=ys.getD k 0):=⟨hxk,hyk⟩
   have A:Hid (∀w,(callFunc 85 #[.int .u64 (xk:Int),.int .u64 (yk:Int),.int .u64 (c:Int)]).run Tryz.prog w = .ok (.value (.tuple #[.int .u64 (((xk+yk+c) % 18446744073709551616:Nat):Int),.int .u64 (((xk+yk+c) / 18446744073709551616:Nat):Int)])) w):=fun w=>add64N xk yk c hc w
   have i1:(k:Int)<(n2:Int):=by omega
   have i2:(k:Int)<(n1:Int):=by omega
   have i3:(k:Int)<(N:Int):=by omega
   clear hxk hyk hc1 hc2
   generalize hs:(xk+yk+c) % 18446744073709551616=sv at A
   generalize hd:(xk+yk+c) / 18446744073709551616=dv at A
   have hd1:dv<=1:=by omega
   have NX:Hid (AddAt xs ys (zs.set k sv) (k+1) dv N):=by
    have:=hA.out.next (by omega) HXY.out.1 HXY.out.2
    rw[hs,hd] at this
    exact this
   clear hs hd
   go_wp2_with (simp only[A.out])
   go_roundw
   case rel=>exact⟨k+1,dv,_,by omega,hd1,by go_num,rfl,owns_set hown k sv,NX.out,hg.out.setCell hsz _⟩
   case measure=>simp only[intOf];omega
  ·have hk2:k=n2:=by omega
   subst hk2
   obtain⟨wo,rfl⟩:∃wo:World,wo=wr:=⟨_,rfl⟩
   go_wp2
   go_loopw [7,10] (fun cr i wr=>∃(j c:Nat) (zs:List Nat),k<=j/\j<=n1/\c<=1/\i = .int .i64 (j:Int)/\cr = .int .u64 (c:Int)/\wr.ownsRow g 34 1 (.slice (some ⟨g,0,none⟩) N N) N (u64s zs)/\Hid (AddAt xs ys zs j c N)/\Hid (Gr w0 wr)) (fun _ i _=>n1-(intOf i).toNat)
   case atStart=>exact⟨k,c,zs,by omega,by omega,hc,rfl,rfl,hown,hA,hg⟩
   case round =>
    clear hown hA hg
    obtain⟨j,c,zs,hkj,hj,hc,rfl,rfl,hown,hA,hg⟩:=hrel
    by_cases hlt2:j<n1
    ·obtain⟨p1,o1,rfl,hp1,hc1⟩:=RX.out.lt (by omega)
     have hcell1:=hc1 wr hg.out j (by omega)
     have hcell3:=owns_cell hown j (by omega)
     have hfz:=hown.frozenAt j
     obtain⟨xk,hxk⟩:∃xk,xk=xs.getD j 0:=⟨_,rfl⟩
     have hyk:0=ys.getD j 0:=(getD_out (by rw[RY.out.len];exact hkj)).symm
     rw[<-hxk] at hcell1
     have bxk:xk<18446744073709551616:=hxk ▸ getD_lt (by omega) HX.out j
     have HXY:Hid (xk=xs.getD j 0/\0=ys.getD j 0):=⟨hxk,hyk⟩
     have A:Hid (∀w,(callFunc 85 #[.int .u64 (xk:Int),.int .u64 0,.int .u64 (c:Int)]).run Tryz.prog w = .ok (.value (.tuple #[.int .u64 (((xk+0+c) % 18446744073709551616:Nat):Int),.int .u64 (((xk+0+c) / 18446744073709551616:Nat):Int)])) w):=fun w=>add64N xk 0 c hc w
     have i2:(j:Int)<(n1:Int):=by omega
     have i3:(j:Int)<(N:Int):=by omega
     clear hxk hyk hc1
     generalize hs:(xk+0+c) % 18446744073709551616=sv at A
     generalize hd:(xk+0+c) / 18446744073709551616=dv at A
     have hd1:dv<=1:=by omega
     have NX:Hid (AddAt xs ys (zs.set j sv) (j+1) dv N):=by
      have:=hA.out.next (by omega) HXY.out.1 HXY.out.2
      rw[hs,hd] at this
      exact this
     clear hs hd
     go_wp2_with (simp only[A.out])
     go_roundw
     case rel=>exact⟨j+1,dv,_,by omega,by omega,hd1,by go_num,rfl,owns_set hown j sv,NX.out,hg.out.setCell hsz _⟩
     case measure=>simp only[intOf];omega
    ·have hj2:j=n1:=by omega
     subst hj2
     go_wp2
     go_ret
     exact⟨c,zs,rfl,hc,hA.out,hown,hg.out⟩
theorem plus_fin {xs ys zs:List Nat} {x y n1 c:Nat} (dx:Dg 18446744073709551616 x xs) (dy:Dg 18446744073709551616 y ys) (h1:xs.length=n1) (h2:ys.length<=n1) (h:AddAt xs ys zs n1 c (n1+1)) (hc:c<=1) :
  nv 18446744073709551616 (zs.set n1 c)=x+y/\∀z∈zs.set n1 c,z<18446744073709551616:=by
 have hl:=h.len
 have s1:=nv_set 18446744073709551616 zs n1 c (by omega)
 rw[h.zero n1 (Nat.le_refl _),Nat.mul_zero,Nat.add_zero,h.val,nv_take_all _ xs _ (by omega),nv_take_all _ ys _ (by omega),dx.1,dy.1] at s1
 exact⟨s1,set_lt h.lt (by omega)⟩
theorem trimOwn {w:World} {g N v:Nat} {zs:List Nat} (hown:w.ownsRow g 34 1 (.slice (some ⟨g,0,none⟩) N N) N (u64s zs)) (hz:∀z∈zs,z<18446744073709551616) (hv:nv 18446744073709551616 zs=v) :
  Calls Tryz.prog 175 #[.slice (some ⟨g,0,none⟩) N N] w fun e w'=>∃j,e = .returned (.slice (some ⟨g,0,none⟩) j N)/\j<=N/\Lim w' (some ⟨g,0,none⟩) j N 18446744073709551616 v/\w'=w:=by
 obtain⟨ad',cap',hEq,hrow⟩:=Row.of_owns hown
 simp only[Value.slice.injEq,true_and] at hEq
 obtain⟨rfl,rfl⟩:=hEq
 refine(trim57 _ _ _ zs w hrow).mono ?_
 rintro e w' ⟨j,rfl,hj,h0,ht,rfl⟩
 refine⟨j,rfl,hj,?_,rfl⟩
 have:=trim_out hrow hz hj h0 ht
 rw[hv] at this
 exact this
set_option maxHeartbeats 1600000 in
theorem plus38 (ad1 ad2:Option Addr) (n1 n2 c1 c2 x y:Nat) (w:World) (hx:Lim w ad1 n1 c1 18446744073709551616 x) (hy:Lim w ad2 n2 c2 18446744073709551616 y) (b1:n1<=1099511627776) (b2:n2<=1099511627776) :
  Calls Tryz.prog 171 #[.slice ad1 n1 c1,.slice ad2 n2 c2] w fun e w'=>∃ad' n' cap',e = .returned (.slice ad' n' cap')/\n'<=max n1 n2+1/\Lim w' ad' n' cap' 18446744073709551616 (x+y)/\Gr w w':=by
 obtain⟨xs,rx,dx⟩:=hx
 obtain⟨ys,ry,dy⟩:=hy
 have RX:Hid (Row w ad1 n1 c1 xs):=rx
 have RY:Hid (Row w ad2 n2 c2 ys):=ry
 have DX:Hid (Dg 18446744073709551616 x xs):=dx
 have DY:Hid (Dg 18446744073709551616 y ys):=dy
 clear rx ry dx dy
 by_cases hlt:n1<n2
 ·have hm:max n1 n2=n2:=by omega
  rw[hm]
  clear hm
  have hlt':(n1:Int)<(n2:Int):=by omega
  go_enter Tryz.func171,Tryz.ntmps171
  go_wp2_with (first|(at_make;refine wpList_made rfl _ _ rfl (n2+1) _ rfl rfl ?_ ?_ ?_;rotate_right;intro w2 hown0 hg2)|(go_at_call 182;refine(copyPlus60 _ _ _ _ _ _ _ _ _ _ w _ RY.out RX.out DY.out.2.1 DX.out.2.1 (by omega) (by omega) (by omega) hg2 (Nat.le_refl _) hown0 (by omega)).mono ?_;rintro e w3 ⟨c,zs,rfl,hc,hA,hown1,hg3⟩;have hcell:=owns_cell hown1 n2 (by omega);have hfz:=hown1.frozenAt n2)|(go_at_call 175;refine(trimOwn (owns_set hown1 n2 c) (plus_fin DY.out DX.out RY.out.len (by rw[RX.out.len];omega) hA hc).2 (plus_fin DY.out DX.out RY.out.len (by rw[RX.out.len];omega) hA hc).1).mono ?_;rintro e w4 ⟨j,rfl,hj,hl,rfl⟩))
  ·go_ret
   exact⟨_,_,_,rfl,hj,by rw[Nat.add_comm x y];exact hl,hg3.setCell (Nat.le_refl _) _⟩
  all_goals omega
 ·have hm:max n1 n2=n1:=by omega
  rw[hm]
  clear hm
  have hlt':¬(n1:Int)<(n2:Int):=by omega
  go_enter Tryz.func171,Tryz.ntmps171
  go_wp2_with (first|(at_make;refine wpList_made rfl _ _ rfl (n1+1) _ rfl rfl ?_ ?_ ?_;rotate_right;intro w2 hown0 hg2)|(go_at_call 182;refine(copyPlus60 _ _ _ _ _ _ _ _ _ _ w _ RX.out RY.out DX.out.2.1 DY.out.2.1 (by omega) (by omega) (by omega) hg2 (Nat.le_refl _) hown0 (by omega)).mono ?_;rintro e w3 ⟨c,zs,rfl,hc,hA,hown1,hg3⟩;have hcell:=owns_cell hown1 n1 (by omega);have hfz:=hown1.frozenAt n1)|(go_at_call 175;refine(trimOwn (owns_set hown1 n1 c) (plus_fin DX.out DY.out RX.out.len (by rw[RY.out.len];omega) hA hc).2 (plus_fin DX.out DY.out RX.out.len (by rw[RY.out.len];omega) hA hc).1).mono ?_;rintro e w4 ⟨j,rfl,hj,hl,rfl⟩))
  ·go_ret
   exact⟨_,_,_,rfl,hj,hl,hg3.setCell (Nat.le_refl _) _⟩
  all_goals omega
structure SubAt (xs ys zs:List Nat) (k b N:Nat):Prop where
 len:zs.length=N
 lt:∀x∈zs,x<18446744073709551616
 val:nv 18446744073709551616 (xs.take k)+18446744073709551616 ^ k*b=nv 18446744073709551616 (ys.take k)+nv 18446744073709551616 zs
 zero:∀j,k<=j->zs.getD j 0=0
theorem SubAt.start {xs ys:List Nat} {N:Nat}:SubAt xs ys (List.replicate N 0) 0 0 N:=
 ⟨by simp,(fun x hx=>by rw[List.mem_replicate] at hx;omega),by simp[nv,nv_zeros],(fun j _=>by rw[List.getD_eq_getElem?_getD,List.getElem?_replicate];split <;> rfl)⟩
theorem SubAt.next {xs ys zs:List Nat} {k b N x y:Nat} (h:SubAt xs ys zs k b N) (hk:k<N) (hx:x=xs.getD k 0) (hy:y=ys.getD k 0) (bx:x<18446744073709551616) (by':y<18446744073709551616) (hb:b<=1) :
  SubAt xs ys (zs.set k ((x+18446744073709551616-y-b) % 18446744073709551616)) (k+1) (if x<y+b then 1 else 0) N:=by
 have hl:=h.len
 refine⟨by rw[List.length_set];exact hl,set_lt h.lt (Nat.mod_lt _ (by omega)),?_,?_⟩
 ·have s1:=nv_set 18446744073709551616 zs k ((x+18446744073709551616-y-b) % 18446744073709551616) (by omega)
  rw[h.zero k (Nat.le_refl _),Nat.mul_zero,Nat.add_zero] at s1
  have e:(if x<y+b then 1 else 0)=1-(x+18446744073709551616-y-b) / 18446744073709551616:=by
   by_cases hlt:x<y+b
   ·rw[if_pos hlt];omega
   ·rw[if_neg hlt];omega
  rw[s1,nv_take_succ,nv_take_succ,<-hx,<-hy,Nat.pow_succ,e]
  exact sub_step h.val (by omega) (by omega)
 ·intro j hj
  rw[getD_set _ _ _ _ (by omega),if_neg (by omega)]
  exact h.zero j (by omega)
theorem sub_fin {x y b n1:Nat} {xs ys zs:List Nat} (dx:Dg 18446744073709551616 x xs) (dy:Dg 18446744073709551616 y ys) (hyx:y<=x) (h1:xs.length=n1) (h:SubAt xs ys zs n1 b n1):nv 18446744073709551616 zs=x-y:=by
 have h2:=dy.len_le (by omega) dx hyx
 have h3:=h.val
 rw[nv_take_all _ xs _ (by omega),nv_take_all _ ys _ (by omega),dx.1,dy.1] at h3
 have h4:=nv_lt 18446744073709551616 zs h.lt
 rw[h.len] at h4
 by_cases hb:b=0
 ·subst hb;omega
 ·have h5:18446744073709551616 ^ n1*1<=18446744073709551616 ^ n1*b:=Nat.mul_le_mul_left _ (by omega)
  omega
set_option maxHeartbeats 1600000 in
theorem minus55 (ad1 ad2:Option Addr) (n1 n2 c1 c2 x y:Nat) (w:World) (hx:Lim w ad1 n1 c1 18446744073709551616 x) (hy:Lim w ad2 n2 c2 18446744073709551616 y) (b1:n1<=1099511627776) (hyx:y<=x) :
  Calls Tryz.prog 178 #[.slice ad1 n1 c1,.slice ad2 n2 c2] w fun e w'=>∃ad' n' cap',e = .returned (.slice ad' n' cap')/\n'<=n1/\Lim w' ad' n' cap' 18446744073709551616 (x-y)/\Gr w w':=by
 obtain⟨xs,rx,dx⟩:=hx
 obtain⟨ys,ry,dy⟩:=hy
 have h21:n2<=n1:=by
  have:=dy.len_le (by omega) dx hyx
  rw[rx.len,ry.len] at this
  exact this
 have RX:Hid (Row w ad1 n1 c1 xs):=rx
 have RY:Hid (Row w ad2 n2 c2 ys):=ry
 have DX:Hid (Dg 18446744073709551616 x xs):=dx
 have DY:Hid (Dg 18446744073709551616 y ys):=dy
 have HYX:Hid (y<=x):=hyx
 have hl1:=rx.le
 have hl2:=ry.le
 clear rx ry dx dy hyx
 go_enter Tryz.func178,Tryz.ntmps178
 go_wp2_with (at_make;refine wpList_made rfl _ _ rfl n1 _ rfl rfl ?_ ?_ ?_;rotate_right;intro w2 hown0 hg2)
 case' refine_1=>omega
 case' refine_2=>omega
 have G2:Hid (Gr w w2):=hg2
 clear hg2
 go_loopw [6,15] (fun cr i wr=>∃(k c:Nat) (zs:List Nat),k<=n2/\c<=1/\i = .int .i64 (k:Int)/\cr = .int .u64 (c:Int)/\wr.ownsRow w.heap.size 34 1 (.slice (some ⟨w.heap.size,0,none⟩) n1 n1) n1 (u64s zs)/\Hid (SubAt xs ys zs k c n1)/\Hid (Gr w wr)) (fun _ i _=>n2-(intOf i).toNat)
 case atStart=>exact⟨0,0,List.replicate n1 0,by omega,by omega,rfl,rfl,hown0,SubAt.start,G2⟩
 case round =>
  obtain⟨k,c,zs,hk,hc,rfl,rfl,hown,hA,hg⟩:=hrel
  by_cases hlt:k<n2
  ·obtain⟨p1,o1,rfl,hp1,hc1⟩:=RX.out.lt (by omega)
   obtain⟨p2,o2,rfl,hp2,hc2⟩:=RY.out.lt (by omega)
   have hcell1:=hc1 wr hg.out k (by omega)
   have hcell2:=hc2 wr hg.out k hlt
   have hcell3:=owns_cell hown k (by omega)
   have hfz:=hown.frozenAt k
   obtain⟨xk,hxk⟩:∃xk,xk=xs.getD k 0:=⟨_,rfl⟩
   obtain⟨yk,hyk⟩:∃yk,yk=ys.getD k 0:=⟨_,rfl⟩
   rw[<-hxk] at hcell1
   rw[<-hyk] at hcell2
   have bxk:xk<18446744073709551616:=hxk ▸ getD_lt (by omega) DX.out.2.1 k
   have byk:yk<18446744073709551616:=hyk ▸ getD_lt (by omega) DY.out.2.1 k
   have HXY:Hid (xk=xs.getD k 0/\yk=ys.getD k 0):=⟨hxk,hyk⟩
   have A:Hid (∀w,(callFunc 185 #[.int .u64 (xk:Int),.int .u64 (yk:Int),.int .u64 (c:Int)]).run Tryz.prog w = .ok (.value (.tuple #[.int .u64 (((xk+18446744073709551616-yk-c) % 18446744073709551616:Nat):Int),.int .u64 (((if xk<yk+c then 1 else 0):Nat):Int)])) w):=fun w=>sub64N xk yk c hc w
   have i1:(k:Int)<(n2:Int):=by omega
   have i2:(k:Int)<(n1:Int):=by omega
   have NX:=hA.out.next (by omega) HXY.out.1 HXY.out.2 bxk byk hc
   have hd1:(if xk<yk+c then 1 else 0)<=1:=by split <;> omega
   clear hxk hyk hc1 hc2
   generalize (xk+18446744073709551616-yk-c) % 18446744073709551616=sv at A NX
   generalize (if xk<yk+c then 1 else 0)=dv at A NX hd1
   have NX':Hid (SubAt xs ys (zs.set k sv) (k+1) dv n1):=NX
   clear NX
   go_wp2_with (simp only[A.out])
   go_roundw
   case rel=>exact⟨k+1,dv,_,by omega,hd1,by go_num,rfl,owns_set hown k sv,NX'.out,hg.out.setCell (Nat.le_refl _) _⟩
   case measure=>simp only[intOf];omega
  ·have hk2:k=n2:=by omega
   subst hk2
   obtain⟨wo,rfl⟩:∃wo:World,wo=wr:=⟨_,rfl⟩
   go_wp2
   go_loopw [6,9] (fun cr i wr=>∃(j c:Nat) (zs:List Nat),k<=j/\j<=n1/\c<=1/\i = .int .i64 (j:Int)/\cr = .int .u64 (c:Int)/\wr.ownsRow w.heap.size 34 1 (.slice (some ⟨w.heap.size,0,none⟩) n1 n1) n1 (u64s zs)/\Hid (SubAt xs ys zs j c n1)/\Hid (Gr w wr)) (fun _ i _=>n1-(intOf i).toNat)
   case atStart=>exact⟨k,c,zs,by omega,by omega,hc,rfl,rfl,hown,hA,hg⟩
   case round =>
    clear hown hA hg
    obtain⟨j,c,zs,hkj,hj,hc,rfl,rfl,hown,hA,hg⟩:=hrel
    by_cases hlt2:j<n1
    ·obtain⟨p1,o1,rfl,hp1,hc1⟩:=RX.out.lt (by omega)
     have hcell1:=hc1 wr hg.out j (by omega)
     have hcell3:=owns_cell hown j (by omega)
     have hfz:=hown.frozenAt j
     obtain⟨xk,hxk⟩:∃xk,xk=xs.getD j 0:=⟨_,rfl⟩
     have hyk:0=ys.getD j 0:=(getD_out (by rw[RY.out.len];exact hkj)).symm
     rw[<-hxk] at hcell1
     have bxk:xk<18446744073709551616:=hxk ▸ getD_lt (by omega) DX.out.2.1 j
     have HXY:Hid (xk=xs.getD j 0/\0=ys.getD j 0):=⟨hxk,hyk⟩
     have A:Hid (∀w,(callFunc 185 #[.int .u64 (xk:Int),.int .u64 0,.int .u64 (c:Int)]).run Tryz.prog w = .ok (.value (.tuple #[.int .u64 (((xk+18446744073709551616-0-c) % 18446744073709551616:Nat):Int),.int .u64 (((if xk<0+c then 1 else 0):Nat):Int)])) w):=fun w=>sub64N xk 0 c hc w
     have i2:(j:Int)<(n1:Int):=by omega
     have NX:=hA.out.next (by omega) HXY.out.1 HXY.out.2 bxk (by omega) hc
     have hd1:(if xk<0+c then 1 else 0)<=1:=by split <;> omega
     clear hxk hyk hc1
     generalize (xk+18446744073709551616-0-c) % 18446744073709551616=sv at A NX
     generalize (if xk<0+c then 1 else 0)=dv at A NX hd1
     have NX':Hid (SubAt xs ys (zs.set j sv) (j+1) dv n1):=NX
     clear NX
     go_wp2_with (simp only[A.out])
     go_roundw
     case rel=>exact⟨j+1,dv,_,by omega,by omega,hd1,by go_num,rfl,owns_set hown j sv,NX'.out,hg.out.setCell (Nat.le_refl _) _⟩
     case measure=>simp only[intOf];omega
    ·have hj2:j=n1:=by omega
     subst hj2
     have HT:=trimOwn hown hA.out.lt (sub_fin DX.out DY.out HYX.out RX.out.len hA.out)
     have HT':Hid (Calls Tryz.prog 175 #[.slice (some ⟨w.heap.size,0,none⟩) j j] wr fun e w'=>∃i,e = .returned (.slice (some ⟨w.heap.size,0,none⟩) i j)/\i<=j/\Lim w' (some ⟨w.heap.size,0,none⟩) i j 18446744073709551616 (x-y)/\w'=wr):=HT
     clear HT hown
     go_wp2_with (go_at_call 175;with_reducible refine HT'.out.mono ?_;rintro e w' ⟨i,rfl,hi,hl,rfl⟩)
     go_ret
     exact⟨_,_,_,rfl,hi,hl,hg.out⟩
theorem inner_step {zs zs' ys:List Nat} {k j c x y o s P:Nat} (hj:k+j<zs.length) (h:nv 18446744073709551616 zs+18446744073709551616 ^ (k+j)*c=P+18446744073709551616 ^ k*(x*nv 18446744073709551616 (ys.take j))) (ho:o=zs.getD (k+j) 0) (hy:y=ys.getD j 0) (hs:s=x*y+o+c) (hz:zs'=zs.set (k+j) (s % 18446744073709551616)) :
  nv 18446744073709551616 zs'+18446744073709551616 ^ (k+(j+1))*(s / 18446744073709551616)=P+18446744073709551616 ^ k*(x*nv 18446744073709551616 (ys.take (j+1))):=by
 have h1:=nv_set 18446744073709551616 zs (k+j) (s % 18446744073709551616) hj
 rw[<-hz,<-ho,hs] at h1
 have h2:=mul_step h h1
 rw[<-Nat.add_assoc,Nat.pow_succ,hs,h2,nv_take_succ,<-hy,Nat.mul_add,Nat.mul_add,Nat.pow_add,<-Nat.add_assoc]
 congr 1
 ac_rfl
structure MulAt (ys zs zs0:List Nat) (k j x c N:Nat):Prop where
 len:zs.length=N
 lt:∀x∈zs,x<18446744073709551616
 val:nv 18446744073709551616 zs+18446744073709551616 ^ (k+j)*c=nv 18446744073709551616 zs0+18446744073709551616 ^ k*(x*nv 18446744073709551616 (ys.take j))
 rest:∀i,k+j<=i->zs.getD i 0=zs0.getD i 0
theorem MulAt.next {ys zs zs0:List Nat} {k j x c N y o:Nat} (h:MulAt ys zs zs0 k j x c N) (hj:k+j<N) (ho:o=zs.getD (k+j) 0) (hy:y=ys.getD j 0) :
  MulAt ys (zs.set (k+j) ((x*y+o+c) % 18446744073709551616)) zs0 k (j+1) x ((x*y+o+c) / 18446744073709551616) N:=by
 have hl:=h.len
 refine⟨by rw[List.length_set];exact hl,set_lt h.lt (Nat.mod_lt _ (by omega)),inner_step (by omega) h.val ho hy rfl rfl,?_⟩
 intro i hi
 rw[getD_set _ _ _ _ (by omega),if_neg (by omega)]
 exact h.rest i (by omega)
theorem prod_le {x y:Nat} (hx:x<18446744073709551616) (hy:y<18446744073709551616):x*y<=340282366920938463426481119284349108225:=by
 have:=Nat.mul_le_mul (show x<=18446744073709551615 by omega) (show y<=18446744073709551615 by omega)
 omega
set_option maxHeartbeats 1600000 in
theorem addTimes56 (g N k cp x:Nat) (ad2:Option Addr) (n2 c2:Nat) (ys zs0:List Nat) (w0 w:World) (ry:Row w0 ad2 n2 c2 ys) (hy:∀x∈ys,x<18446744073709551616) (bx:x<18446744073709551616) (h0:∀z∈zs0,z<18446744073709551616)
  (hkN:k+n2<=N) (hNm:N<=4398046511104) (hcp:n2<=cp) (hg0:Gr w0 w) (hsz:w0.heap.size<=g) (how:w.ownsRow g 34 1 (.slice (some ⟨g,0,none⟩) N N) N (u64s zs0)) :
  Calls Tryz.prog 190 #[.slice (some ⟨g,k,none⟩) n2 cp,.slice ad2 n2 c2,.int .u64 (x:Int)] w fun e w'=>∃(c:Nat) (zs:List Nat),e = .returned (.int .u64 (c:Int))/\c<18446744073709551616/\MulAt ys zs zs0 k n2 x c N/\w'.ownsRow g 34 1 (.slice (some ⟨g,0,none⟩) N N) N (u64s zs)/\Gr w0 w':=by
 have RY:Hid (Row w0 ad2 n2 c2 ys):=ry
 have HY:Hid (∀x∈ys,x<18446744073709551616):=hy
 have H0:Hid (∀x∈zs0,x<18446744073709551616):=h0
 have HG:Hid (Gr w0 w):=hg0
 have hl2:=ry.le
 clear ry hy hg0 h0
 go_enter Tryz.func190,Tryz.ntmps190
 go_wp2
 go_loopw [7,15] (fun cr i wr=>∃(j c:Nat) (zs:List Nat),j<=n2/\c<18446744073709551616/\i = .int .i64 (j:Int)/\cr = .int .u64 (c:Int)/\wr.ownsRow g 34 1 (.slice (some ⟨g,0,none⟩) N N) N (u64s zs)/\Hid (MulAt ys zs zs0 k j x c N)/\Hid (Gr w0 wr)) (fun _ i _=>n2-(intOf i).toNat)
 case atStart=>exact⟨0,0,zs0,by omega,by omega,rfl,rfl,how,⟨owns_len how,H0.out,by simp[nv],fun _ _=>rfl⟩,HG⟩
 case round =>
  obtain⟨j,c,zs,hj,hc,rfl,rfl,hown,hA,hg⟩:=hrel
  by_cases hlt:j<n2
  ·obtain⟨p2,o2,rfl,hp2,hc2⟩:=RY.out.lt (by omega)
   have hcell2:=hc2 wr hg.out j hlt
   have hcell3:=owns_cell hown (k+j) (by omega)
   have hfz:=hown.frozenAt (k+j)
   obtain⟨yk,hyk⟩:∃yk,yk=ys.getD j 0:=⟨_,rfl⟩
   obtain⟨ok,hok⟩:∃ok,ok=zs.getD (k+j) 0:=⟨_,rfl⟩
   rw[<-hyk] at hcell2
   rw[<-hok] at hcell3
   have byk:yk<18446744073709551616:=hyk ▸ getD_lt (by omega) HY.out j
   have bok:ok<18446744073709551616:=hok ▸ getD_lt (by omega) hA.out.lt (k+j)
   have NX:=hA.out.next (by omega) hok hyk
   have MUL:=fun w=>Tryz.bits_Mul64 x yk bx byk w
   have hm:=prod_le bx byk
   clear hyk hok hc2
   generalize x*yk=m at *
   obtain⟨hi,hhi⟩:∃hi,hi=m / 18446744073709551616:=⟨_,rfl⟩
   obtain⟨lo,hlo⟩:∃lo,lo=m % 18446744073709551616:=⟨_,rfl⟩
   rw[<-hhi,<-hlo] at MUL
   have M:Hid (∀w1,Calls Tryz.prog 84 #[.int .u64 (x:Int),.int .u64 (yk:Int)] w1 fun e w'=>e = .returned (.tuple #[.int .u64 (hi:Int),.int .u64 (lo:Int)])/\w'=w1):=MUL
   have A1:=fun w=>add64N lo c 0 (by omega) w
   obtain⟨l1,hl1⟩:∃l1,l1=(lo+c+0) % 18446744073709551616:=⟨_,rfl⟩
   obtain⟨m1,hm1⟩:∃m1,m1=(lo+c+0) / 18446744073709551616:=⟨_,rfl⟩
   rw[<-hl1,<-hm1] at A1
   have A1':Hid (∀w,(callFunc 85 #[.int .u64 (lo:Int),.int .u64 (c:Int),.int .u64 0]).run Tryz.prog w = .ok (.value (.tuple #[.int .u64 (l1:Int),.int .u64 (m1:Int)])) w):=A1
   have A2:=fun w=>add64N ok l1 0 (by omega) w
   obtain⟨l2,hl2'⟩:∃l2,l2=(ok+l1+0) % 18446744073709551616:=⟨_,rfl⟩
   obtain⟨m2,hm2⟩:∃m2,m2=(ok+l1+0) / 18446744073709551616:=⟨_,rfl⟩
   rw[<-hl2',<-hm2] at A2
   have A2':Hid (∀w,(callFunc 85 #[.int .u64 (ok:Int),.int .u64 (l1:Int),.int .u64 0]).run Tryz.prog w = .ok (.value (.tuple #[.int .u64 (l2:Int),.int .u64 (m2:Int)])) w):=A2
   have e1:(m+ok+c) % 18446744073709551616=l2:=by omega
   have e2:(m+ok+c) / 18446744073709551616=hi+m1+m2:=by omega
   have b1:hi+m1+m2<18446744073709551616:=by omega
   rw[e1,e2] at NX
   have NX':Hid (MulAt ys (zs.set (k+j) l2) zs0 k (j+1) x (hi+m1+m2) N):=NX
   clear NX e1 e2 A1 A2 MUL hhi hlo hl1 hm1 hl2' hm2 hm
   have i1:(j:Int)<(n2:Int):=by omega
   go_wp2_with (first|(simp only[A1'.out])|(simp only[A2'.out])|(go_at_call 84;with_reducible refine(M.out _).mono ?_;rintro e w' ⟨rfl,rfl⟩))
   go_roundw
   case rel=>exact⟨j+1,hi+m1+m2,_,by omega,b1,by go_num,by go_num,owns_set hown (k+j) l2,NX'.out,hg.out.setCell hsz _⟩
   case measure=>simp only[intOf];omega
  ·have hk2:j=n2:=by omega
   subst hk2
   go_wp2
   go_ret
   exact⟨c,zs,rfl,hc,hA.out,hown,hg.out⟩
end Go.Proofs.YtanpdbadfddlcaaGreatDoor
