import Derived.Test.YtibckeckjfmbkaaGreatDoorM04
namespace Go.Proofs.YtibckeckjfmbkaaGreatDoor
open Go.RowKit
set_option linter.unusedVariables false
structure SubAt (xs ys zs:List Nat) (k b N:Nat):Prop where
 len:zs.length=N
 lt:∀x∈zs,x<18446744073709551616
 val:nv 18446744073709551616 (xs.take k)+18446744073709551616 ^ k*b=nv 18446744073709551616 (ys.take k)+nv 18446744073709551616 zs
 zero:∀j,k<=j->zs.getD j 0=0
theorem SubAt.start {xs ys:List Nat} {N:Nat}:SubAt xs ys (List.replicate N 0) 0 0 N:=
 ⟨by simp,(fun x hx=>by rw[List.mem_replicate] at hx;omega),by simp[nv,nv_zeros],(fun j _=>by rw[List.getD_eq_getElem?_getD,List.getElem?_replicate];split <;> rfl)⟩
theorem SubAt.next {xs ys zs:List Nat} {k b N x y:Nat} (h:SubAt xs ys zs k b N) (hk:k<N) (hx:x=xs.getD k 0) (hy:y=ys.getD k 0) (bx:x<18446744073709551616) (by':y<18446744073709551616) (hb:b<=1) :
  SubAt xs ys (zs.set k ((x+18446744073709551616-y-b) % 18446744073709551616)) (k+1) (if x<y+b then 1 else 0) N:=by
 have hl:=h.len
 refine⟨by rw[List.length_set];exact hl,set_lt h.lt (Nat.mod_lt _ (by omega)),?_,?_⟩
 ·have s1:=nv_set 18446744073709551616 zs k ((x+18446744073709551616-y-b) % 18446744073709551616) (by omega)
  rw[h.zero k (Nat.le_refl _),Nat.mul_zero,Nat.add_zero] at s1
  have e:(if x<y+b then 1 else 0)=1-(x+18446744073709551616-y-b) / 18446744073709551616:=by
   by_cases hlt:x<y+b
   ·rw[if_pos hlt];omega
   ·rw[if_neg hlt];omega
  rw[s1,nv_take_succ,nv_take_succ,<-hx,<-hy,Nat.pow_succ,e]
  exact sub_step h.val (by omega) (by omega)
 ·intro j hj
  rw[getD_set _ _ _ _ (by omega),if_neg (by omega)]
  exact h.zero j (by omega)
theorem sub_fin {x y b n1:Nat} {xs ys zs:List Nat} (dx:Dg 18446744073709551616 x xs) (dy:Dg 18446744073709551616 y ys) (hyx:y<=x) (h1:xs.length=n1) (h:SubAt xs ys zs n1 b n1):nv 18446744073709551616 zs=x-y:=by
 have h2:=dy.len_le (by omega) dx hyx
 have h3:=h.val
 rw[nv_take_all _ xs _ (by omega),nv_take_all _ ys _ (by omega),dx.1,dy.1] at h3
 have h4:=nv_lt 18446744073709551616 zs h.lt
 rw[h.len] at h4
 by_cases hb:b=0
 ·subst hb;omega
 ·have h5:18446744073709551616 ^ n1*1<=18446744073709551616 ^ n1*b:=Nat.mul_le_mul_left _ (by omega)
  omega
set_option maxHeartbeats 1600000 in
theorem minus55 (ad1 ad2:Option Addr) (n1 n2 c1 c2 x y:Nat) (w:World) (hx:Lim w ad1 n1 c1 18446744073709551616 x) (hy:Lim w ad2 n2 c2 18446744073709551616 y) (b1:n1<=1099511627776) (hyx:y<=x) :
  Calls Tryz.prog 177 #[.slice ad1 n1 c1,.slice ad2 n2 c2] w fun e w'=>∃ad' n' cap',e = .returned (.slice ad' n' cap')/\n'<=n1/\Lim w' ad' n' cap' 18446744073709551616 (x-y)/\Gr w w':=by
 obtain⟨xs,rx,dx⟩:=hx
 obtain⟨ys,ry,dy⟩:=hy
 have h21:n2<=n1:=by
  have:=dy.len_le (by omega) dx hyx
  rw[rx.len,ry.len] at this
  exact this
 have RX:Hid (Row w ad1 n1 c1 xs):=rx
 have RY:Hid (Row w ad2 n2 c2 ys):=ry
 have DX:Hid (Dg 18446744073709551616 x xs):=dx
 have DY:Hid (Dg 18446744073709551616 y ys):=dy
 have HYX:Hid (y<=x):=hyx
 have hl1:=rx.le
 have hl2:=ry.le
 clear rx ry dx dy hyx
 go_enter Tryz.func177,Tryz.ntmps177
 go_wp2_with (at_make;refine wpList_made rfl _ _ rfl n1 _ rfl rfl ?_ ?_ ?_;rotate_right;intro w2 hown0 hg2)
 case' refine_1=>omega
 case' refine_2=>omega
 have G2:Hid (Gr w w2):=hg2
 clear hg2
 go_loopw [6,15] (fun cr i wr=>∃(k c:Nat) (zs:List Nat),k<=n2/\c<=1/\i = .int .i64 (k:Int)/\cr = .int .u64 (c:Int)/\wr.ownsRow w.heap.size 39 1 (.slice (some ⟨w.heap.size,0,none⟩) n1 n1) n1 (u64s zs)/\Hid (SubAt xs ys zs k c n1)/\Hid (Gr w wr)) (fun _ i _=>n2-(intOf i).toNat)
 case atStart=>exact⟨0,0,List.replicate n1 0,by omega,by omega,rfl,rfl,hown0,SubAt.start,G2⟩
 case round =>
  obtain⟨k,c,zs,hk,hc,rfl,rfl,hown,hA,hg⟩:=hrel
  by_cases hlt:k<n2
  ·obtain⟨p1,o1,rfl,hp1,hc1⟩:=RX.out.lt (by omega)
   obtain⟨p2,o2,rfl,hp2,hc2⟩:=RY.out.lt (by omega)
   have hcell1:=hc1 wr hg.out k (by omega)
   have hcell2:=hc2 wr hg.out k hlt
   have hcell3:=owns_cell hown k (by omega)
   have hfz:=hown.frozenAt k
   obtain⟨xk,hxk⟩:∃xk,xk=xs.getD k 0:=⟨_,rfl⟩
   obtain⟨yk,hyk⟩:∃yk,yk=ys.getD k 0:=⟨_,rfl⟩
   rw[<-hxk] at hcell1
   rw[<-hyk] at hcell2
   have bxk:xk<18446744073709551616:=hxk ▸ getD_lt (by omega) DX.out.2.1 k
   have byk:yk<18446744073709551616:=hyk ▸ getD_lt (by omega) DY.out.2.1 k
   have HXY:Hid (xk=xs.getD k 0/\yk=ys.getD k 0):=⟨hxk,hyk⟩
   have A:Hid (∀w,(callFunc 184 #[.int .u64 (xk:Int),.int .u64 (yk:Int),.int .u64 (c:Int)]).run Tryz.prog w = .ok (.value (.tuple #[.int .u64 (((xk+18446744073709551616-yk-c) % 18446744073709551616:Nat):Int),.int .u64 (((if xk<yk+c then 1 else 0):Nat):Int)])) w):=fun w=>sub64N xk yk c hc w
   have i1:(k:Int)<(n2:Int):=by omega
   have i2:(k:Int)<(n1:Int):=by omega
   have NX:=hA.out.next (by omega) HXY.out.1 HXY.out.2 bxk byk hc
   have hd1:(if xk<yk+c then 1 else 0)<=1:=by split <;> omega
   clear hxk hyk hc1 hc2
   generalize (xk+18446744073709551616-yk-c) % 18446744073709551616=sv at A NX
   generalize (if xk<yk+c then 1 else 0)=dv at A NX hd1
   have NX':Hid (SubAt xs ys (zs.set k sv) (k+1) dv n1):=NX
   clear NX
   go_wp2_with (simp only[A.out])
   go_roundw
   case rel=>exact⟨k+1,dv,_,by omega,hd1,by go_num,rfl,owns_set hown k sv,NX'.out,hg.out.setCell (Nat.le_refl _) _⟩
   case measure=>simp only[intOf];omega
  ·have hk2:k=n2:=by omega
   subst hk2
   obtain⟨wo,rfl⟩:∃wo:World,wo=wr:=⟨_,rfl⟩
   go_wp2
   go_loopw [6,9] (fun cr i wr=>∃(j c:Nat) (zs:List Nat),k<=j/\j<=n1/\c<=1/\i = .int .i64 (j:Int)/\cr = .int .u64 (c:Int)/\wr.ownsRow w.heap.size 39 1 (.slice (some ⟨w.heap.size,0,none⟩) n1 n1) n1 (u64s zs)/\Hid (SubAt xs ys zs j c n1)/\Hid (Gr w wr)) (fun _ i _=>n1-(intOf i).toNat)
   case atStart=>exact⟨k,c,zs,by omega,by omega,hc,rfl,rfl,hown,hA,hg⟩
   case round =>
    clear hown hA hg
    obtain⟨j,c,zs,hkj,hj,hc,rfl,rfl,hown,hA,hg⟩:=hrel
    by_cases hlt2:j<n1
    ·obtain⟨p1,o1,rfl,hp1,hc1⟩:=RX.out.lt (by omega)
     have hcell1:=hc1 wr hg.out j (by omega)
     have hcell3:=owns_cell hown j (by omega)
     have hfz:=hown.frozenAt j
     obtain⟨xk,hxk⟩:∃xk,xk=xs.getD j 0:=⟨_,rfl⟩
     have hyk:0=ys.getD j 0:=(getD_out (by rw[RY.out.len];exact hkj)).symm
     rw[<-hxk] at hcell1
     have bxk:xk<18446744073709551616:=hxk ▸ getD_lt (by omega) DX.out.2.1 j
     have HXY:Hid (xk=xs.getD j 0/\0=ys.getD j 0):=⟨hxk,hyk⟩
     have A:Hid (∀w,(callFunc 184 #[.int .u64 (xk:Int),.int .u64 0,.int .u64 (c:Int)]).run Tryz.prog w = .ok (.value (.tuple #[.int .u64 (((xk+18446744073709551616-0-c) % 18446744073709551616:Nat):Int),.int .u64 (((if xk<0+c then 1 else 0):Nat):Int)])) w):=fun w=>sub64N xk 0 c hc w
     have i2:(j:Int)<(n1:Int):=by omega
     have NX:=hA.out.next (by omega) HXY.out.1 HXY.out.2 bxk (by omega) hc
     have hd1:(if xk<0+c then 1 else 0)<=1:=by split <;> omega
     clear hxk hyk hc1
     generalize (xk+18446744073709551616-0-c) % 18446744073709551616=sv at A NX
     generalize (if xk<0+c then 1 else 0)=dv at A NX hd1
     have NX':Hid (SubAt xs ys (zs.set j sv) (j+1) dv n1):=NX
     clear NX
     go_wp2_with (simp only[A.out])
     go_roundw
     case rel=>exact⟨j+1,dv,_,by omega,by omega,hd1,by go_num,rfl,owns_set hown j sv,NX'.out,hg.out.setCell (Nat.le_refl _) _⟩
     case measure=>simp only[intOf];omega
    ·have hj2:j=n1:=by omega
     subst hj2
     have HT:=trimOwn hown hA.out.lt (sub_fin DX.out DY.out HYX.out RX.out.len hA.out)
     have HT':Hid (Calls Tryz.prog 174 #[.slice (some ⟨w.heap.size,0,none⟩) j j] wr fun e w'=>∃i,e = .returned (.slice (some ⟨w.heap.size,0,none⟩) i j)/\i<=j/\Lim w' (some ⟨w.heap.size,0,none⟩) i j 18446744073709551616 (x-y)/\w'=wr):=HT
     clear HT hown
     go_wp2_with (go_at_call 174;with_reducible refine HT'.out.mono ?_;rintro e w' ⟨i,rfl,hi,hl,rfl⟩)
     go_ret
     exact⟨_,_,_,rfl,hi,hl,hg.out⟩
theorem inner_step {zs zs' ys:List Nat} {k j c x y o s P:Nat} (hj:k+j<zs.length) (h:nv 18446744073709551616 zs+18446744073709551616 ^ (k+j)*c=P+18446744073709551616 ^ k*(x*nv 18446744073709551616 (ys.take j))) (ho:o=zs.getD (k+j) 0) (hy:y=ys.getD j 0) (hs:s=x*y+o+c) (hz:zs'=zs.set (k+j) (s % 18446744073709551616)) :
  nv 18446744073709551616 zs'+18446744073709551616 ^ (k+(j+1))*(s / 18446744073709551616)=P+18446744073709551616 ^ k*(x*nv 18446744073709551616 (ys.take (j+1))):=by
 have h1:=nv_set 18446744073709551616 zs (k+j) (s % 18446744073709551616) hj
 rw[<-hz,<-ho,hs] at h1
 have h2:=mul_step h h1
 rw[<-Nat.add_assoc,Nat.pow_succ,hs,h2,nv_take_succ,<-hy,Nat.mul_add,Nat.mul_add,Nat.pow_add,<-Nat.add_assoc]
 congr 1
 ac_rfl
structure MulAt (ys zs zs0:List Nat) (k j x c N:Nat):Prop where
 len:zs.length=N
 lt:∀x∈zs,x<18446744073709551616
 val:nv 18446744073709551616 zs+18446744073709551616 ^ (k+j)*c=nv 18446744073709551616 zs0+18446744073709551616 ^ k*(x*nv 18446744073709551616 (ys.take j))
 rest:∀i,k+j<=i->zs.getD i 0=zs0.getD i 0
theorem MulAt.next {ys zs zs0:List Nat} {k j x c N y o:Nat} (h:MulAt ys zs zs0 k j x c N) (hj:k+j<N) (ho:o=zs.getD (k+j) 0) (hy:y=ys.getD j 0) :
  MulAt ys (zs.set (k+j) ((x*y+o+c) % 18446744073709551616)) zs0 k (j+1) x ((x*y+o+c) / 18446744073709551616) N:=by
 have hl:=h.len
 refine⟨by rw[List.length_set];exact hl,set_lt h.lt (Nat.mod_lt _ (by omega)),inner_step (by omega) h.val ho hy rfl rfl,?_⟩
 intro i hi
 rw[getD_set _ _ _ _ (by omega),if_neg (by omega)]
 exact h.rest i (by omega)
theorem prod_le {x y:Nat} (hx:x<18446744073709551616) (hy:y<18446744073709551616):x*y<=340282366920938463426481119284349108225:=by
 have:=Nat.mul_le_mul (show x<=18446744073709551615 by omega) (show y<=18446744073709551615 by omega)
 omega
set_option maxHeartbeats 1600000 in
theorem addTimes56 (g N k cp x:Nat) (ad2:Option Addr) (n2 c2:Nat) (ys zs0:List Nat) (w0 w:World) (ry:Row w0 ad2 n2 c2 ys) (hy:∀x∈ys,x<18446744073709551616) (bx:x<18446744073709551616) (h0:∀z∈zs0,z<18446744073709551616)
  (hkN:k+n2<=N) (hNm:N<=4398046511104) (hcp:n2<=cp) (hg0:Gr w0 w) (hsz:w0.heap.size<=g) (how:w.ownsRow g 39 1 (.slice (some ⟨g,0,none⟩) N N) N (u64s zs0)) :
  Calls Tryz.prog 189 #[.slice (some ⟨g,k,none⟩) n2 cp,.slice ad2 n2 c2,.int .u64 (x:Int)] w fun e w'=>∃(c:Nat) (zs:List Nat),e = .returned (.int .u64 (c:Int))/\c<18446744073709551616/\MulAt ys zs zs0 k n2 x c N/\w'.ownsRow g 39 1 (.slice (some ⟨g,0,none⟩) N N) N (u64s zs)/\Gr w0 w':=by
 have RY:Hid (Row w0 ad2 n2 c2 ys):=ry
 have HY:Hid (∀x∈ys,x<18446744073709551616):=hy
 have H0:Hid (∀x∈zs0,x<18446744073709551616):=h0
 have HG:Hid (Gr w0 w):=hg0
 have hl2:=ry.le
 clear ry hy hg0 h0
 go_enter Tryz.func189,Tryz.ntmps189
 go_wp2
 go_loopw [7,15] (fun cr i wr=>∃(j c:Nat) (zs:List Nat),j<=n2/\c<18446744073709551616/\i = .int .i64 (j:Int)/\cr = .int .u64 (c:Int)/\wr.ownsRow g 39 1 (.slice (some ⟨g,0,none⟩) N N) N (u64s zs)/\Hid (MulAt ys zs zs0 k j x c N)/\Hid (Gr w0 wr)) (fun _ i _=>n2-(intOf i).toNat)
 case atStart=>exact⟨0,0,zs0,by omega,by omega,rfl,rfl,how,⟨owns_len how,H0.out,by simp[nv],fun _ _=>rfl⟩,HG⟩
 case round =>
  obtain⟨j,c,zs,hj,hc,rfl,rfl,hown,hA,hg⟩:=hrel
  by_cases hlt:j<n2
  ·obtain⟨p2,o2,rfl,hp2,hc2⟩:=RY.out.lt (by omega)
   have hcell2:=hc2 wr hg.out j hlt
   have hcell3:=owns_cell hown (k+j) (by omega)
   have hfz:=hown.frozenAt (k+j)
   obtain⟨yk,hyk⟩:∃yk,yk=ys.getD j 0:=⟨_,rfl⟩
   obtain⟨ok,hok⟩:∃ok,ok=zs.getD (k+j) 0:=⟨_,rfl⟩
   rw[<-hyk] at hcell2
   rw[<-hok] at hcell3
   have byk:yk<18446744073709551616:=hyk ▸ getD_lt (by omega) HY.out j
   have bok:ok<18446744073709551616:=hok ▸ getD_lt (by omega) hA.out.lt (k+j)
   have NX:=hA.out.next (by omega) hok hyk
   have MUL:=fun w=>Tryz.bits_Mul64 x yk bx byk w
   have hm:=prod_le bx byk
   clear hyk hok hc2
   generalize x*yk=m at *
   obtain⟨hi,hhi⟩:∃hi,hi=m / 18446744073709551616:=⟨_,rfl⟩
   obtain⟨lo,hlo⟩:∃lo,lo=m % 18446744073709551616:=⟨_,rfl⟩
   rw[<-hhi,<-hlo] at MUL
   have M:Hid (∀w1,Calls Tryz.prog 74 #[.int .u64 (x:Int),.int .u64 (yk:Int)] w1 fun e w'=>e = .returned (.tuple #[.int .u64 (hi:Int),.int .u64 (lo:Int)])/\w'=w1):=MUL
   have A1:=fun w=>add64N lo c 0 (by omega) w
   obtain⟨l1,hl1⟩:∃l1,l1=(lo+c+0) % 18446744073709551616:=⟨_,rfl⟩
   obtain⟨m1,hm1⟩:∃m1,m1=(lo+c+0) / 18446744073709551616:=⟨_,rfl⟩
   rw[<-hl1,<-hm1] at A1
   have A1':Hid (∀w,(callFunc 75 #[.int .u64 (lo:Int),.int .u64 (c:Int),.int .u64 0]).run Tryz.prog w = .ok (.value (.tuple #[.int .u64 (l1:Int),.int .u64 (m1:Int)])) w):=A1
   have A2:=fun w=>add64N ok l1 0 (by omega) w
   obtain⟨l2,hl2'⟩:∃l2,l2=(ok+l1+0) % 18446744073709551616:=⟨_,rfl⟩
   obtain⟨m2,hm2⟩:∃m2,m2=(ok+l1+0) / 18446744073709551616:=⟨_,rfl⟩
   rw[<-hl2',<-hm2] at A2
   have A2':Hid (∀w,(callFunc 75 #[.int .u64 (ok:Int),.int .u64 (l1:Int),.int .u64 0]).run Tryz.prog w = .ok (.value (.tuple #[.int .u64 (l2:Int),.int .u64 (m2:Int)])) w):=A2
   have e1:(m+ok+c) % 18446744073709551616=l2:=by omega
   have e2:(m+ok+c) / 18446744073709551616=hi+m1+m2:=by omega
   have b1:hi+m1+m2<18446744073709551616:=by omega
   rw[e1,e2] at NX
   have NX':Hid (MulAt ys (zs.set (k+j) l2) zs0 k (j+1) x (hi+m1+m2) N):=NX
   clear NX e1 e2 A1 A2 MUL hhi hlo hl1 hm1 hl2' hm2 hm
   have i1:(j:Int)<(n2:Int):=by omega
   go_wp2_with (first|(simp only[A1'.out])|(simp only[A2'.out])|(go_at_call 74;with_reducible refine(M.out _).mono ?_;rintro e w' ⟨rfl,rfl⟩))
   go_roundw
   case rel=>exact⟨j+1,hi+m1+m2,_,by omega,b1,by go_num,by go_num,owns_set hown (k+j) l2,NX'.out,hg.out.setCell hsz _⟩
   case measure=>simp only[intOf];omega
  ·have hk2:j=n2:=by omega
   subst hk2
   go_wp2
   go_ret
   exact⟨c,zs,rfl,hc,hA.out,hown,hg.out⟩
structure TimAt (xs zs:List Nat) (k n2 Y N:Nat):Prop where
 len:zs.length=N
 lt:∀x∈zs,x<18446744073709551616
 val:nv 18446744073709551616 zs=nv 18446744073709551616 (xs.take k)*Y
 zero:∀j,k+n2<=j->zs.getD j 0=0
theorem TimAt.start {xs:List Nat} {n2 Y N:Nat}:TimAt xs (List.replicate N 0) 0 n2 Y N:=
 ⟨by simp,(fun x hx=>by rw[List.mem_replicate] at hx;omega),by simp[nv,nv_zeros],(fun j _=>by rw[List.getD_eq_getElem?_getD,List.getElem?_replicate];split <;> rfl)⟩
theorem TimAt.next {xs ys zs zs0:List Nat} {k n2 Y N x c:Nat} (h:TimAt xs zs0 k n2 Y N) (m:MulAt ys zs zs0 k n2 x c N) (hk:k+n2<N) (dy:Dg 18446744073709551616 Y ys) (hn:ys.length=n2) (hx:x=xs.getD k 0) (hc:c<18446744073709551616) :
  TimAt xs (zs.set (k+n2) c) (k+1) n2 Y N:=by
 have hl:=m.len
 refine⟨by rw[List.length_set];exact hl,set_lt m.lt hc,?_,?_⟩
 ·have h1:=nv_set 18446744073709551616 zs (k+n2) c (by omega)
  rw[m.rest _ (Nat.le_refl _),h.zero _ (Nat.le_refl _),Nat.mul_zero,Nat.add_zero,m.val,h.val,nv_take_all _ ys _ (by omega),dy.1] at h1
  rw[h1,nv_take_succ,Nat.add_mul,<-hx,Nat.mul_assoc]
 ·intro j hj
  rw[getD_set _ _ _ _ (by omega),if_neg (by omega),m.rest j (by omega)]
  exact h.zero j (by omega)
set_option maxHeartbeats 1600000 in
theorem times32 (ad1 ad2:Option Addr) (n1 n2 c1 c2 x y:Nat) (w:World) (hx:Lim w ad1 n1 c1 18446744073709551616 x) (hy:Lim w ad2 n2 c2 18446744073709551616 y) (b1:n1<=1099511627776) (b2:n2<=1099511627776) :
  Calls Tryz.prog 180 #[.slice ad1 n1 c1,.slice ad2 n2 c2] w fun e w'=>∃ad' n' cap',e = .returned (.slice ad' n' cap')/\n'<=n1+n2/\Lim w' ad' n' cap' 18446744073709551616 (x*y)/\Gr w w':=by
 obtain⟨xs,rx,dx⟩:=hx
 obtain⟨ys,ry,dy⟩:=hy
 have RX:Hid (Row w ad1 n1 c1 xs):=rx
 have RY:Hid (Row w ad2 n2 c2 ys):=ry
 have DX:Hid (Dg 18446744073709551616 x xs):=dx
 have DY:Hid (Dg 18446744073709551616 y ys):=dy
 have hl1:=rx.le
 have hl2:=ry.le
 clear rx ry dx dy
 go_enter Tryz.func180,Tryz.ntmps180
 go_wp2_with (at_make;refine wpList_made rfl _ _ rfl (n1+n2) _ rfl rfl ?_ ?_ ?_;rotate_right;intro w2 hown0 hg2)
 case' refine_1=>omega
 case' refine_2=>omega
 have G2:Hid (Gr w w2):=hg2
 clear hg2
 go_loopw [16] (fun i wr=>∃(k:Nat) (zs:List Nat),k<=n1/\i = .int .i64 (k:Int)/\wr.ownsRow w.heap.size 39 1 (.slice (some ⟨w.heap.size,0,none⟩) (n1+n2) (n1+n2)) (n1+n2) (u64s zs)/\Hid (TimAt xs zs k n2 y (n1+n2))/\Hid (Gr w wr)) (fun i _=>n1-(intOf i).toNat)
 case atStart=>exact⟨0,List.replicate (n1+n2) 0,by omega,rfl,hown0,TimAt.start,G2⟩
 case round =>
  obtain⟨k,zs,hk,rfl,hown,hA,hg⟩:=hrel
  by_cases hlt:k<n1
  ·obtain⟨p1,o1,rfl,hp1,hc1⟩:=RX.out.lt (by omega)
   have hcell1:=hc1 wr hg.out k (by omega)
   obtain⟨xk,hxk⟩:∃xk,xk=xs.getD k 0:=⟨_,rfl⟩
   rw[<-hxk] at hcell1
   have bxk:xk<18446744073709551616:=hxk ▸ getD_lt (by omega) DX.out.2.1 k
   have HX:Hid (xk=xs.getD k 0):=hxk
   clear hxk hc1
   have AT:Hid (∀cp,n2<=cp->Calls Tryz.prog 189 #[.slice (some ⟨w.heap.size,k,none⟩) n2 cp,.slice ad2 n2 c2,.int .u64 (xk:Int)] wr fun e w'=>∃(c:Nat) (zs':List Nat),e = .returned (.int .u64 (c:Int))/\c<18446744073709551616/\MulAt ys zs' zs k n2 xk c (n1+n2)/\w'.ownsRow w.heap.size 39 1 (.slice (some ⟨w.heap.size,0,none⟩) (n1+n2) (n1+n2)) (n1+n2) (u64s zs')/\Gr w w'):=fun cp hcp=>addTimes56 w.heap.size (n1+n2) k cp xk ad2 n2 c2 ys zs w wr RY.out DY.out.2.1 bxk hA.out.lt (by omega) (by omega) hcp hg.out (Nat.le_refl _) hown
   have i1:(k:Int)<(n1:Int):=by omega
   have i2:(k:Int)+(n2:Int)<(n1:Int)+(n2:Int):=by omega
   have i3:k+n2<=n1+n2:=by omega
   go_wp2_with (go_at_call 189;refine(AT.out _ ?_).mono ?_;rotate_right;rintro e w3 ⟨c,zs',rfl,hc,hM,hown1,hg3⟩;have hcell:=owns_cell hown1 (k+n2) (by omega);have hfz:=hown1.frozenAt (k+n2))
   ·go_roundw
    case rel=>exact⟨k+1,_,by omega,by go_num,owns_set hown1 (k+n2) c,hA.out.next hM (by omega) DY.out RY.out.len HX.out hc,hg3.setCell (Nat.le_refl _) _⟩
    case measure=>simp only[intOf];omega
   ·omega
  ·have hk2:k=n1:=by omega
   subst hk2
   have HT:=trimOwn hown hA.out.lt (v:=x*y) (by rw[hA.out.val,nv_take_all _ xs _ (by rw[RX.out.len];exact Nat.le_refl _),DX.out.1])
   have HT':Hid (Calls Tryz.prog 174 #[.slice (some ⟨w.heap.size,0,none⟩) (k+n2) (k+n2)] wr fun e w'=>∃i,e = .returned (.slice (some ⟨w.heap.size,0,none⟩) i (k+n2))/\i<=k+n2/\Lim w' (some ⟨w.heap.size,0,none⟩) i (k+n2) 18446744073709551616 (x*y)/\w'=wr):=HT
   clear HT hown
   go_wp2_with (go_at_call 174;with_reducible refine HT'.out.mono ?_;rintro e w' ⟨i,rfl,hi,hl,rfl⟩)
   go_ret
   exact⟨_,_,_,rfl,hi,hl,hg.out⟩
theorem rightExp36 (e:Int) (w:World):Calls Tryz.prog 161 #[.int .i64 e] w fun r w'=>r = .returned (.bool (decide (-1048576<=e/\e<=1048576)))/\w'=w:=by
 by_cases h1 : -1048576<=e
 ·by_cases h2:e<=1048576
  ·rw[show decide (-1048576<=e/\e<=1048576)=true by simp[h1,h2]]
   go_enter Tryz.func161,Tryz.ntmps161
   go_wp2
   go_ret
   exact⟨rfl,rfl⟩
  ·rw[show decide (-1048576<=e/\e<=1048576)=false by simp[h2]]
   go_enter Tryz.func161,Tryz.ntmps161
   go_wp2
   go_ret
   exact⟨rfl,rfl⟩
 ·rw[show decide (-1048576<=e/\e<=1048576)=false by simp[h1]]
  go_enter Tryz.func161,Tryz.ntmps161
  go_wp2
  go_ret
  exact⟨rfl,rfl⟩
def RightD (s:Bool) (xs:List Nat) (e:Int):Prop:=
 (xs.length=0/\s=false/\e=0)\/(0<xs.length/\xs.length<=4096/\xs.getD (xs.length-1) 0≠0/\xs.getD 0 0 % 2=1/\-1048576<=e/\e<=1048576)
instance (s:Bool) (xs:List Nat) (e:Int):Decidable (RightD s xs e):=by unfold RightD;infer_instance
def rightB (s:Bool) (xs:List Nat) (e:Int):Bool:=decide (RightD s xs e)
theorem rightB_t {s:Bool} {xs:List Nat} {e:Int} (h:RightD s xs e):rightB s xs e=true:=by simp[rightB,h]
theorem rightB_f {s:Bool} {xs:List Nat} {e:Int} (h:¬RightD s xs e):rightB s xs e=false:=by simp[rightB,h]
theorem and_one {v:Nat} (h:v<18446744073709551616):bits .and .u64 (v:Int) 1=((v % 2:Nat):Int):=by
 have:=bits_and_u64_nat v 1 h (by omega)
 rw[Nat.and_one_is_mod] at this
 exact this
theorem gr_box {w:World} (o:Obj):Gr w (w.alloc o):=(Gr.refl w).alloc o
set_option maxHeartbeats 1600000 in
theorem right26 (s:Bool) (ad:Option Addr) (n cap:Nat) (e:Int) (xs:List Nat) (w:World) (rx:Row w ad n cap xs) (hx:∀x∈xs,x<18446744073709551616) :
  Calls Tryz.prog 151 #[.agg #[.bool s,.slice ad n cap,.int .i64 e]] w fun r w'=>r = .returned (.bool (rightB s xs e))/\Gr w w':=by
 have hl:=rx.le
 have hm:=rx.max
 have hlen:=rx.len
 by_cases hn:n=0
 ·clear rx hx
  subst hn
  cases s
  ·by_cases he:e=0
   ·subst he
    rw[rightB_t (Or.inl ⟨hlen,rfl,rfl⟩)]
    go_enter Tryz.func151,Tryz.ntmps151
    go_wp2
    go_ret
    exact⟨rfl,gr_box _⟩
   ·have he':(e==0)=false:=by simp[he]
    rw[rightB_f (by rintro (⟨_,_,h⟩|⟨h,_⟩) <;> omega)]
    go_enter Tryz.func151,Tryz.ntmps151
    go_wp2
    go_ret
    exact⟨rfl,gr_box _⟩
  ·rw[rightB_f (by rintro (⟨_,h,_⟩|⟨h,_⟩);exact absurd h (by simp);omega)]
   go_enter Tryz.func151,Tryz.ntmps151
   go_wp2
   go_ret
   exact⟨rfl,gr_box _⟩
 ·obtain⟨p,o,rfl,hp,hc⟩:=rx.cells (by omega)
  have hcl:=hc (n-1) (by omega)
  have hc0:=hc 0 (by omega)
  have b0:=getD_lt (by omega) hx 0
  have AND:=and_one b0
  have H:Hid (RightD s xs e ↔ (n<=4096/\xs.getD (n-1) 0≠0/\xs.getD 0 0 % 2=1/\(-1048576<=e/\e<=1048576))):=by
   show _ ↔ _
   unfold RightD
   rw[hlen]
   omega
  clear rx hx hc hlen
  rw[Nat.add_zero] at hc0
  generalize xs.getD (n-1) 0=vl at *
  generalize xs.getD 0 0=v0 at *
  by_cases h1:n<=4096
  ·have h1':(n:Int)<=4096:=by omega
   by_cases h2:vl=0
   ·subst h2
    rw[rightB_f (by rw[H.out];omega)]
    go_enter Tryz.func151,Tryz.ntmps151
    go_wp2
    go_ret
    exact⟨rfl,gr_box _⟩
   ·have h2':((vl:Int) != 0)=true:=by simp;omega
    by_cases h3:v0 % 2=1
    ·rw[h3] at AND
     have R:Hid (decide (-1048576<=e/\e<=1048576)=rightB s xs e):=by
      show _=_
      unfold rightB
      exact decide_eq_decide.mpr (by rw[H.out];omega)
     generalize rightB s xs e=rb at *
     have HE:Hid (∀w1,Calls Tryz.prog 161 #[.int .i64 e] w1 fun r w'=>r = .returned (.bool rb)/\w'=w1):=fun w1=>by
      rw[<-R.out];exact rightExp36 e w1
     clear R
     go_enter Tryz.func151,Tryz.ntmps151
     go_wp2_with (go_at_call 161;with_reducible refine(HE.out _).mono ?_;rintro e w' ⟨rfl,rfl⟩)
     go_ret
     exact⟨rfl,gr_box _⟩
    ·have h3':v0 % 2=0:=by omega
     rw[h3'] at AND
     rw[rightB_f (by rw[H.out];omega)]
     go_enter Tryz.func151,Tryz.ntmps151
     go_wp2
     go_ret
     exact⟨rfl,gr_box _⟩
  ·have h1':¬(n:Int)<=4096:=by omega
   rw[rightB_f (by rw[H.out];omega)]
   go_enter Tryz.func151,Tryz.ntmps151
   go_wp2
   go_ret
   exact⟨rfl,gr_box _⟩
end Go.Proofs.YtibckeckjfmbkaaGreatDoor
