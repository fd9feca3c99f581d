import Derived.Test.YtapnglidnblmcaaGreatQ31
import Derived.Test.YtapnglidnblmcaaGreatQ30
import Derived.Test.YtapnglidnblmcaaGreatQ01
import Derived.Deep.RegionHeld3
namespace Go.Proofs.YtapnglidnblmcaaGreat
open Go.RowKit
set_option linter.unusedVariables false
theorem up_inv {xs zs:List Nat} {q k c p s x:Nat} (hl:zs.length=q+k) (h:nv 4294967296 zs+4294967296 ^ (q+k)*c=4294967296 ^ q*(p*nv 4294967296 (xs.take k))) (hx:x=xs.getD k 0) (hs:s=x*p+c) :
  nv 4294967296 (zs++[s % 4294967296])+4294967296 ^ (q+(k+1))*(s / 4294967296)=4294967296 ^ q*(p*nv 4294967296 (xs.take (k+1))):=by
 rw[nv_snoc,hl,nv_take_succ,<-hx,<-Nat.add_assoc,Nat.pow_succ]
 have h1:s % 4294967296+4294967296*(s / 4294967296)=s:=Nat.mod_add_div _ _
 have h2:4294967296 ^ (q+k)*(s % 4294967296)+4294967296 ^ (q+k)*4294967296*(s / 4294967296)=4294967296 ^ (q+k)*(x*p)+4294967296 ^ (q+k)*c:=by
  rw[Nat.mul_assoc,<-Nat.mul_add,h1,hs,Nat.mul_add]
 have h3:4294967296 ^ q*(p*(nv 4294967296 (xs.take k)+4294967296 ^ k*x))=4294967296 ^ q*(p*nv 4294967296 (xs.take k))+4294967296 ^ (q+k)*(x*p):=by
  rw[Nat.mul_add,Nat.mul_add,Nat.pow_add]
  congr 1
  ac_rfl
 omega
theorem up_fin {xs zs:List Nat} {n c p x:Nat} {m:Nat} (dx:Dg 4294967296 x xs) (hm:xs.length=m) (hl:zs.length=n / 32+m) (hp:p=2 ^ (n % 32)) (h:nv 4294967296 zs+4294967296 ^ (n / 32+m)*c=4294967296 ^ (n / 32)*(p*nv 4294967296 (xs.take m))) :
  nv 4294967296 (zs++[c])=x*2 ^ n:=by
 rw[nv_snoc,hl,h,nv_take_all _ xs _ (by omega),dx.1,hp,pow32,<-Nat.mul_assoc,<-Nat.pow_add,show 32*(n / 32)+n % 32=n by omega,Nat.mul_comm]
theorem two_pow_le {k:Nat} (h:k<32):2 ^ k<=2147483648:=by
 have:2 ^ k<=2 ^ 31:=Nat.pow_le_pow_right (by omega) (by omega)
 omega
set_option maxHeartbeats 1600000 in
set_option maxRecDepth 10000 in
theorem up58 (ad:Option Addr) (n1 c1 x n:Nat) (w:World) (hx:Lim w ad n1 c1 18446744073709551616 x) (bx:bl x<=68719476736) (hn:n<=68719476736) (h0:0<x) :
  Calls Tryz.prog 66 #[.slice ad n1 c1,.int .i64 (n:Int)] w fun e w'=>∃ad' n' cap',e = .returned (.slice ad' n' cap')/\Lim w' ad' n' cap' 18446744073709551616 (x*2 ^ n)/\Gr w w':=by
 have H1:Hid (Calls Tryz.prog 72 #[.slice ad n1 c1] w fun e w'=>∃b off m cap',e = .returned (.slice (some ⟨b,off,none⟩) (m+1) cap')/\m<=2147483650/\Hid (Lim w' (some ⟨b,off,none⟩) (m+1) cap' 4294967296 x)/\Hid (Gr w w')):=by
  refine(halvesL ad n1 c1 x w hx bx).mono ?_
  rintro e w' ⟨a1,m1,k1,rfl,hm1,hL,g1⟩
  have hL':=hL
  obtain⟨xs,rx,dx⟩:=hL'
  have hm0:m1≠0:=fun e=>by
   have:=(dx.zero_iff (by omega)).1 (by rw[rx.len];exact e)
   omega
  obtain⟨b,off,rfl,_,_⟩:=rx.cells (by omega)
  exact⟨b,off,m1-1,k1,by rw[show m1-1+1=m1 by omega],by omega,by rw[show m1-1+1=m1 by omega];exact hL,g1⟩
 clear hx bx
 have hr:n % 32<32:=by omega
 go_enter Tryz.func66,Tryz.ntmps66
 go_wp2_with (first|(go_at_call 72;with_reducible refine H1.out.mono ?_;rintro e w1 ⟨b,off,m,k1,rfl,hm1,hl1,g1⟩)|(at_make;refine wpList_made rfl _ _ rfl (n / 32) _ rfl rfl ?_ ?_ ?_;rotate_right;intro w2 hown0 hg2))
 case' refine_1=>omega
 case' refine_2=>omega
 obtain⟨xs,rx,dx⟩:=hl1.out
 have RX:Hid (Row w1 (some ⟨b,off,none⟩) (m+1) k1 xs):=rx
 have DX:Hid (Dg 4294967296 x xs):=dx
 have G:Hid (Gr w w1):=g1
 have G2:Hid (Gr w1 w2):=hg2
 have S2:w1.heap.size<=w2.heap.size:=hg2.size
 clear rx dx hl1 g1 hg2 H1
 go_loop [8,9] (fun p i=>∃k p':Nat,k<=n % 32/\p'<=2147483648/\0<p'/\i = .int .i64 (k:Int)/\p = .int .u64 (p':Int)/\Hid (p'=2 ^ k)) (fun _ i=>n % 32-(intOf i).toNat)
 case atStart=>exact⟨0,1,by omega,by omega,by omega,rfl,rfl,rfl⟩
 case round =>
  obtain⟨k,p',hk,hp,hp0,rfl,rfl,he⟩:=hrel
  by_cases hlt:k<n % 32
  ·have H2:Hid (2*p'=2 ^ (k+1)):=by show _=_;rw[he.out,Nat.pow_succ,Nat.mul_comm]
   have H3:2*p'<=2147483648:=by rw[H2.out];exact two_pow_le (by omega)
   have hlt':(k:Int)<(n:Int) % 32:=by omega
   go_wp2
   go_round
   case rel=>exact⟨k+1,2*p',by omega,H3,by omega,by go_num,by go_num,H2⟩
   case measure=>simp only[intOf];omega
  ·have hkn:k=n % 32:=by omega
   have HP:Hid (p'=2 ^ (n % 32)):=by rw[<-hkn];exact he
   have hlt':¬(k:Int)<(n:Int) % 32:=by omega
   clear he
   go_wp2
   go_loopw [6,7,10] (fun v cr i wr=>∃(j c:Nat) (zs:List Nat),j<=m+1/\c<p'/\i = .int .i64 (j:Int)/\cr = .int .u64 (c:Int)/\wr.ownsRow w1.heap.size 71 1 v (n / 32+j) (u64s zs)/\Hid (zs.length=n / 32+j/\(∀x∈zs,x<4294967296)/\nv 4294967296 zs+4294967296 ^ (n / 32+j)*c=4294967296 ^ (n / 32)*(p'*nv 4294967296 (xs.take j)))/\Hid (Gr w1 wr)) (fun _ _ i _=>m+1-(intOf i).toNat)
   case atStart=>exact⟨0,0,List.replicate (n / 32) 0,by omega,by omega,rfl,rfl,hown0,⟨by simp,(fun x hx=>by rw[List.mem_replicate] at hx;omega),by simp[nv,nv_zeros]⟩,G2⟩
   case round =>
    obtain⟨j,c,zs,hj,hcp,rfl,rfl,hown,hzs,hg⟩:=hrel
    have hsz:=hg.out.size
    by_cases hlt2:j<m+1
    ·obtain⟨xk,hxk⟩:∃xk,xk=xs.getD j 0:=⟨_,rfl⟩
     obtain⟨b',off',hEq,hb,hc⟩:=RX.out.lt (by omega)
     simp only[Option.some.injEq,Addr.mk.injEq,and_true] at hEq
     obtain⟨rfl,rfl⟩:=hEq
     have hcell:=hc wr hg.out j hlt2
     rw[<-hxk] at hcell
     have bxk:xk<4294967296:=hxk ▸ getD_lt (by omega) DX.out.2.1 j
     have hpr:xk*p'<=9223372034707292160:=by
      have:=Nat.mul_le_mul (show xk<=4294967295 by omega) hp
      omega
     have hpr':(xk:Int)*(p':Int)<=9223372034707292160:=by
      have:((xk*p':Nat):Int)<=9223372034707292160:=by omega
      rwa [Int.natCast_mul] at this
     have hpr0:0<=(xk:Int)*(p':Int):=Int.mul_nonneg (by omega) (by omega)
     have HQ:Hid (((xk*p'+c) / 4294967296)<p'):=by
      show _<_
      refine Nat.div_lt_of_lt_mul ?_
      have:(xk+1)*p'<=4294967296*p':=Nat.mul_le_mul_right _ (by omega)
      rw[Nat.add_mul,Nat.one_mul] at this
      omega
     have HX:Hid (xk=xs.getD j 0):=hxk
     have HM:Hid ((xk:Int)*(p':Int)=((xk*p':Nat):Int)):=(Int.natCast_mul _ _).symm
     clear hxk hc
     have hlt2':(j:Int)<(m:Int)+1:=by omega
     go_wp2_with (at_builtin;refine wpList_push rfl _ _ rfl hown ((xk*p'+c) % 4294967296) _ rfl rfl ?_ ?_ ?_ ?_;rotate_right;intro v' w' hown' hgr)
     ·go_roundw
      case rel=>exact⟨j+1,(xk*p'+c) / 4294967296,_,by omega,HQ.out,by go_num,by rw[HM.out];go_num,hown',⟨by simp[hzs.out.1];omega,snoc_lt hzs.out.2.1 (by omega),up_inv hzs.out.1 hzs.out.2.2 HX.out rfl⟩,hgr w1 hg.out (Nat.le_refl _)⟩
      case measure=>simp only[intOf];omega
     ·rw[HM.out];omega
     ·omega
     ·omega
    ·have hjm:j=m+1:=by omega
     subst hjm
     have hlt2':¬((m+1:Nat):Int)<(m:Int)+1:=by omega
     have fin:Hid (nv 4294967296 (zs++[c])=x*2 ^ n):=up_fin DX.out RX.out.len hzs.out.1 HP.out hzs.out.2.2
     go_wp2_with (first|(at_builtin;refine wpList_push rfl _ _ rfl hown c _ rfl rfl ?_ ?_ ?_ ?_;rotate_right;intro v' w' hown' hgr;obtain⟨ad',cap',rfl,hrow⟩:=Row.of_owns hown')|(go_at_call 70;refine(limbs75 _ _ _ _ _ ‹Row _ _ _ _ _› ?_ ?_).mono ?_;rotate_right;rintro e w' ⟨ad2,n2,cap2,rfl,hl,hgr2⟩))
     ·rw[fin.out] at hl
      go_ret
      exact⟨_,_,_,rfl,hl,(G.out.trans (hgr w1 hg.out (Nat.le_refl _))).trans hgr2⟩
     ·omega
     ·intro z hz
      rcases hz with hz|hz
      ·exact hzs.out.2.1 z hz
      ·omega
     ·rfl
     ·omega
theorem inner_stepR {zs zs' ys:List Nat} {k j c x y o s P:Nat} (hj:k+j<zs.length) (h:nv 4294967296 zs+4294967296 ^ (k+j)*c=P+4294967296 ^ k*(x*nv 4294967296 (ys.take j))) (ho:o=zs.getD (k+j) 0) (hy:y=ys.getD j 0) (hs:s=x*y+o+c) (hz:zs'=zs.set (k+j) (s % 4294967296)) :
  nv 4294967296 zs'+4294967296 ^ (k+(j+1))*(s / 4294967296)=P+4294967296 ^ k*(x*nv 4294967296 (ys.take (j+1))):=by
 have h1:=nv_set 4294967296 zs (k+j) (s % 4294967296) hj
 rw[<-hz,<-ho,hs] at h1
 have h2:=mul_step h h1
 rw[<-Nat.add_assoc,Nat.pow_succ,hs,h2,nv_take_succ,<-hy,Nat.mul_add,Nat.mul_add,Nat.pow_add,<-Nat.add_assoc]
 congr 1
 ac_rfl
theorem outer_step {zs xs ys:List Nat} {k m c x X Y P:Nat} (dy:Dg 4294967296 Y ys) (hm:ys.length=m) (hk:k+m<zs.length) (hP:P=nv 4294967296 (xs.take k)*Y) (hx:x=xs.getD k 0) (h:nv 4294967296 zs+4294967296 ^ (k+m)*c=P+4294967296 ^ k*(x*nv 4294967296 (ys.take m))) (h0:zs.getD (k+m) 0=0) :
  nv 4294967296 (zs.set (k+m) c)=nv 4294967296 (xs.take (k+1))*Y:=by
 have h1:=nv_set 4294967296 zs (k+m) c hk
 rw[h0] at h1
 rw[nv_take_all _ ys _ (by omega),dy.1] at h
 rw[nv_take_succ,Nat.add_mul,<-hP,<-hx]
 have:4294967296 ^ k*x*Y=4294967296 ^ k*(x*Y):=Nat.mul_assoc _ _ _
 omega
theorem owns_cellR {w:World} {base:Nat} {g N:Nat} {zs:List Nat} (h:w.ownsRow base 71 1 (.slice (some ⟨g,0,none⟩) N N) N (u64s zs)) (j:Nat) (hj:j<N):w.cell? ⟨g,j,none⟩=some (.int .u64 ((zs.getD j 0:Nat):Int)):=by
 have hl:zs.length=N:=by have:=h.1;rw[u64s_length] at this;omega
 rw[h.cellAt j (by omega),u64s_getD (by omega)]
theorem owns_setR {w:World} {base:Nat} {g N:Nat} {zs:List Nat} (h:w.ownsRow base 71 1 (.slice (some ⟨g,0,none⟩) N N) N (u64s zs)) (j v:Nat):(w.setCell ⟨g,j,none⟩ (.int .u64 (v:Int))).ownsRow base 71 1 (.slice (some ⟨g,0,none⟩) N N) N (u64s (zs.set j v)):=by
 have:=(h.stored j (.int .u64 (v:Int))).1
 rw[show u64s (zs.set j v)=(u64s zs).set j (.int .u64 (v:Int)) by simp[u64s]]
 exact this
set_option maxHeartbeats 1600000 in
set_option maxRecDepth 10000 in
theorem prod82 (ad1 ad2:Option Addr) (m1 m2 c1 c2 X Y:Nat) (w:World) (hx:Lim w ad1 m1 c1 4294967296 X) (hy:Lim w ad2 m2 c2 4294967296 Y) (b1:m1<=2147483650) (b2:m2<=2147483650) :
  Calls Tryz.prog 71 #[.slice ad1 m1 c1,.slice ad2 m2 c2] w fun e w'=>∃ad' n' cap',e = .returned (.slice ad' n' cap')/\n'<=4294967300/\Lim w' ad' n' cap' 4294967296 (X*Y)/\Gr w w':=by
 obtain⟨xs,rx,dx⟩:=hx
 obtain⟨ys,ry,dy⟩:=hy
 have RX:Hid (Row w ad1 m1 c1 xs):=rx
 have RY:Hid (Row w ad2 m2 c2 ys):=ry
 have DX:Hid (Dg 4294967296 X xs):=dx
 have DY:Hid (Dg 4294967296 Y ys):=dy
 clear rx ry dx dy
 go_enter Tryz.func71,Tryz.ntmps71
 go_wp2_with (at_make;refine wpList_made rfl _ _ rfl (m1+m2) _ rfl rfl ?_ ?_ ?_;rotate_right;intro w2 hown0 hg2)
 case' refine_1=>omega
 case' refine_2=>omega
 have G2:Hid (Gr w w2):=hg2
 clear hg2
 go_loopw [6] (fun i wr=>∃(k:Nat) (zs:List Nat),k<=m1/\i = .int .i64 (k:Int)/\wr.ownsRow w.heap.size 71 1 (.slice (some ⟨w.heap.size,0,none⟩) (m1+m2) (m1+m2)) (m1+m2) (u64s zs)/\Hid (zs.length=m1+m2/\(∀x∈zs,x<4294967296)/\nv 4294967296 zs=nv 4294967296 (xs.take k)*Y/\∀j,k+m2<=j->zs.getD j 0=0)/\Hid (Gr w wr)) (fun i _=>m1-(intOf i).toNat)
 case atStart=>exact⟨0,List.replicate (m1+m2) 0,by omega,rfl,hown0,⟨by simp,(fun x hx=>by rw[List.mem_replicate] at hx;omega),by simp[nv,nv_zeros],(fun j _=>by rw[List.getD_eq_getElem?_getD,List.getElem?_replicate];split <;> rfl)⟩,G2⟩
 case round =>
  obtain⟨k,zs,hk,rfl,hown,hzs,hg⟩:=hrel
  obtain⟨wo,rfl⟩:∃wo:World,wo=wr:=⟨_,rfl⟩
  by_cases hlt:k<m1
  ·go_wp2
   obtain⟨P,hP⟩:∃P,P=nv 4294967296 (xs.take k)*Y:=⟨_,rfl⟩
   have HP:Hid (P=nv 4294967296 (xs.take k)*Y):=hP
   clear hP
   obtain⟨xk,hxk⟩:∃xk,xk=xs.getD k 0:=⟨_,rfl⟩
   obtain⟨p1,o1,rfl,hp1,hc1⟩:=RX.out.lt (by omega)
   have bxk:xk<4294967296:=hxk ▸ getD_lt (by omega) DX.out.2.1 k
   have HXK:Hid (xk=xs.getD k 0):=hxk
   clear hxk
   have HC1:Hid (∀w',Gr w w'->w'.cell? ⟨p1,o1+k,none⟩=some (.int .u64 ((xk:Nat):Int))):=fun w' g=>by rw[HXK.out];exact hc1 w' g k hlt
   clear hc1
   go_loopw [7,8] (fun cr i wr=>∃(j c:Nat) (zs:List Nat),j<=m2/\c<4294967296/\i = .int .i64 (j:Int)/\cr = .int .u64 (c:Int)/\wr.ownsRow w.heap.size 71 1 (.slice (some ⟨w.heap.size,0,none⟩) (m1+m2) (m1+m2)) (m1+m2) (u64s zs)/\Hid (zs.length=m1+m2/\(∀x∈zs,x<4294967296)/\nv 4294967296 zs+4294967296 ^ (k+j)*c=P+4294967296 ^ k*(xk*nv 4294967296 (ys.take j))/\∀j,k+m2<=j->zs.getD j 0=0)/\Hid (Gr w wr)) (fun _ i _=>m2-(intOf i).toNat)
   case atStart=>exact⟨0,0,zs,by omega,by omega,rfl,rfl,hown,⟨hzs.out.1,hzs.out.2.1,by rw[hzs.out.2.2.1,HP.out];simp[nv],hzs.out.2.2.2⟩,hg⟩
   case round =>
    clear hown hzs hg zs
    obtain⟨j,c,zs,hj,hcB,rfl,rfl,hown,hzs,hg⟩:=hrel
    have hfz:=hown.frozenAt
    by_cases hlt2:j<m2
    ·obtain⟨yk,hyk⟩:∃yk,yk=ys.getD j 0:=⟨_,rfl⟩
     obtain⟨ok,hok⟩:∃ok,ok=zs.getD (k+j) 0:=⟨_,rfl⟩
     obtain⟨p2,o2,rfl,hp2,hc2⟩:=RY.out.lt (by omega)
     have hcell1:=HC1.out wr hg.out
     have hcell2:=hc2 wr hg.out j hlt2
     have hcell3:=owns_cellR hown (k+j) (by omega)
     have hfz3:=hfz (k+j)
     rw[<-hyk] at hcell2
     rw[<-hok] at hcell3
     have byk:yk<4294967296:=hyk ▸ getD_lt (by omega) DY.out.2.1 j
     have bok:ok<4294967296:=hok ▸ getD_lt (by omega) hzs.out.2.1 (k+j)
     have HX:Hid (ok=zs.getD (k+j) 0/\yk=ys.getD j 0):=⟨hok,hyk⟩
     have hpr:xk*yk<=18446744065119617025:=prod_lt bxk byk
     have hpr':(xk:Int)*(yk:Int)<=18446744065119617025:=by
      have:((xk*yk:Nat):Int)<=18446744065119617025:=by omega
      rwa [Int.natCast_mul] at this
     have hpr0:0<=(xk:Int)*(yk:Int):=Int.mul_nonneg (by omega) (by omega)
     have HM:Hid ((xk:Int)*(yk:Int)=((xk*yk:Nat):Int)):=(Int.natCast_mul _ _).symm
     have EM:Hid (((xk:Int)*(yk:Int)+(ok:Int)+(c:Int)) % 4294967296=(((xk*yk+ok+c) % 4294967296:Nat):Int)):=by
      show _=_
      rw[HM.out];omega
     have ED:Hid (((xk:Int)*(yk:Int)+(ok:Int)+(c:Int)) / 4294967296=(((xk*yk+ok+c) / 4294967296:Nat):Int)):=by
      show _=_
      rw[HM.out];omega
     clear hc2 hyk hok hfz
     have i1:(k:Int)<(m1:Int):=by omega
     have i2:(j:Int)<(m2:Int):=by omega
     have i3:(k:Int)+(j:Int)<(m1:Int)+(m2:Int):=by omega
     go_wp2
     go_quiet (fail)
     go_wp2
     go_roundw
     case rel =>
      rw[EM.out,ED.out]
      refine⟨j+1,(xk*yk+ok+c) / 4294967296,zs.set (k+j) ((xk*yk+ok+c) % 4294967296),by omega,by omega,by go_num,rfl,owns_setR (w:=wr.drewN nq) hown (k+j) _,⟨by rw[List.length_set];exact hzs.out.1,set_lt hzs.out.2.1 (by omega),inner_stepR (by rw[hzs.out.1];omega) hzs.out.2.2.1 HX.out.1 HX.out.2 rfl rfl,?_⟩,(hg.out.drewN nq).setCell (Nat.le_refl _) _⟩
      intro i hi
      rw[getD_set _ _ _ _ (by rw[hzs.out.1];omega),if_neg (by omega)]
      exact hzs.out.2.2.2 i hi
     case measure=>simp only[intOf];omega
    ·have hjm:j=m2:=by omega
     subst hjm
     have hcell3:=owns_cellR hown (k+j) (by omega)
     have hfz3:=hfz (k+j)
     rw[hzs.out.2.2.2 (k+j) (Nat.le_refl _)] at hcell3
     clear hfz
     have i3:(k:Int)+(j:Int)<(m1:Int)+(j:Int):=by omega
     have fin:Hid (nv 4294967296 (zs.set (k+j) c)=nv 4294967296 (xs.take (k+1))*Y):=outer_step (X:=X) DY.out RY.out.len (by rw[hzs.out.1];omega) HP.out HXK.out hzs.out.2.2.1 (hzs.out.2.2.2 _ (Nat.le_refl _))
     go_wp2
     go_roundw
     case rel =>
      refine⟨k+1,zs.set (k+j) c,by omega,by go_num,owns_setR hown (k+j) c,⟨by rw[List.length_set];exact hzs.out.1,set_lt hzs.out.2.1 hcB,fin.out,?_⟩,hg.out.setCell (Nat.le_refl _) _⟩
      intro i hi
      rw[getD_set _ _ _ _ (by rw[hzs.out.1];omega),if_neg (by omega)]
      exact hzs.out.2.2.2 i (by omega)
     case measure=>simp only[intOf];omega
  ·have hkm:k=m1:=by omega
   subst hkm
   obtain⟨ad',cap',hEq,hrow⟩:=Row.of_owns hown
   simp only[Value.slice.injEq,true_and] at hEq
   obtain⟨rfl,rfl⟩:=hEq
   have fin:Hid (nv 4294967296 zs=X*Y):=by
    show _=_
    rw[hzs.out.2.2.1,nv_take_all _ xs _ (by rw[RX.out.len];exact Nat.le_refl _),DX.out.1]
   have HT:Hid (Calls Tryz.prog 88 #[.slice (some ⟨w.heap.size,0,none⟩) (k+m2) (k+m2)] wo fun e w'=>∃j,e = .returned (.slice (some ⟨w.heap.size,0,none⟩) j (k+m2))/\j<=4294967300/\Lim wo (some ⟨w.heap.size,0,none⟩) j (k+m2) 4294967296 (X*Y)/\w'=wo):=by
    refine(low83 _ _ _ zs wo hrow).mono ?_
    rintro e w' ⟨j,rfl,hj,hz,ht,rfl⟩
    refine⟨j,rfl,by omega,?_,rfl⟩
    have:=trim_out hrow hzs.out.2.1 hj hz ht
    rw[fin.out] at this
    exact this
   clear hrow hown
   go_wp2_with (go_at_call 88;with_reducible refine HT.out.mono ?_;rintro e w' ⟨j,rfl,hj,hl,rfl⟩)
   go_ret
   exact⟨_,_,_,rfl,hj,hl,hg.out⟩
theorem Dg.lt {B n:Nat} {xs:List Nat} (h:Dg B n xs):∀x∈xs,x<B:=h.2.1
theorem limbsL (ad:Option Addr) (n cap x:Nat) (w:World) (h:Lim w ad n cap 4294967296 x) (hn:n<=1099511627776) :
  Calls Tryz.prog 70 #[.slice ad n cap] w fun e w'=>∃ad' n' cap',e = .returned (.slice ad' n' cap')/\Lim w' ad' n' cap' 18446744073709551616 x/\Gr w w':=by
 obtain⟨xs,h1,h2⟩:=h
 have:=limbs75 ad n cap xs w h1 hn h2.lt
 rw[h2.1] at this
 exact this
set_option maxRecDepth 10000 in
theorem mul66 (ad1 ad2:Option Addr) (n1 n2 c1 c2 x y:Nat) (w:World) (hx:Lim w ad1 n1 c1 18446744073709551616 x) (hy:Lim w ad2 n2 c2 18446744073709551616 y) (bx:bl x<=68719476736) (by':bl y<=68719476736) :
  Calls Tryz.prog 47 #[.slice ad1 n1 c1,.slice ad2 n2 c2] w fun e w'=>∃ad' n' cap',e = .returned (.slice ad' n' cap')/\Lim w' ad' n' cap' 18446744073709551616 (x*y)/\Gr w w':=by
 have H1:Hid (Calls Tryz.prog 72 #[.slice ad1 n1 c1] w fun e w'=>∃ad' n' cap',e = .returned (.slice ad' n' cap')/\n'<=2147483650/\Lim w' ad' n' cap' 4294967296 x/\Gr w w'):=halvesL ad1 n1 c1 x w hx bx
 have H2:Hid (∀w1,Gr w w1->Calls Tryz.prog 72 #[.slice ad2 n2 c2] w1 fun e w'=>∃ad' n' cap',e = .returned (.slice ad' n' cap')/\n'<=2147483650/\Lim w' ad' n' cap' 4294967296 y/\Gr w1 w'):=fun w1 g=>halvesL ad2 n2 c2 y w1 (hy.gr g) by'
 clear hx hy bx by'
 have tok:True:=trivial
 have tok2:True:=trivial
 go_enter Tryz.func47,Tryz.ntmps47
 go_wp2_with (first|(go_at_call 72;have _t:=tok;with_reducible refine H1.out.mono ?_;rintro e w1 ⟨a1,m1,k1,rfl,hm1,hl1,g1⟩;clear tok)|(go_at_call 72;with_reducible refine(H2.out _ ‹Gr _ _›).mono ?_;rintro e w2 ⟨a2,m2,k2,rfl,hm2,hl2,g2⟩)|(go_at_call 71;refine(prod82 _ _ _ _ _ _ x y _ (Lim.gr ‹Lim _ _ _ _ 4294967296 x› ‹Gr _ _›) ‹Lim _ _ _ _ 4294967296 y› (by assumption) (by assumption)).mono ?_;rintro e w3 ⟨a3,m3,k3,rfl,hm3,hl3,g3⟩)|(go_at_call 70;refine(limbsL _ _ _ (x*y) _ ‹Lim _ _ _ _ 4294967296 (x*y)› (by omega)).mono ?_;rintro e w4 ⟨a4,m4,k4,rfl,hl4,g4⟩))
 go_ret
 exact⟨_,_,_,rfl,hl4,((g1.trans g2).trans g3).trans g4⟩
theorem ret_boolR {a b:Bool} (h:a=b):Ending.returned (.bool a) = .returned (.bool b):=by rw[h]
set_option maxRecDepth 10000 in
theorem zero57 (neg:Bool) (ad:Option Addr) (n cap x:Nat) (e:Int) (w:World) (h:Lim w ad n cap 18446744073709551616 x) (hb:bl x<=68719476736) :
  Calls Tryz.prog 58 #[.agg #[.bool neg,.slice ad n cap,.int .i64 e]] w fun r w'=>r = .returned (.bool (decide (x=0)))/\Gr w w':=by
 have hz:Hid (((bl x:Int)==0)=decide (x=0)):=by
  show _=_
  rw[Bool.eq_iff_iff,beq_iff_eq,decide_eq_true_iff]
  have:=bl_zero_iff (n:=x)
  omega
 go_enter Tryz.func58,Tryz.ntmps58
 go_wp2_with (go_at_call 59;refine(bits73 _ _ _ x _ (h.gr ((Gr.refl w).alloc _)) hb).mono ?_;rintro r w1 ⟨rfl,g1⟩)
 go_ret
 exact⟨ret_boolR hz.out,((Gr.refl w).alloc _).trans g1⟩
set_option maxHeartbeats 400000 in
set_option maxRecDepth 10000 in
theorem top68 (neg:Bool) (ad:Option Addr) (n cap x:Nat) (e:Int) (w:World) (h:Lim w ad n cap 18446744073709551616 x) (hb:bl x<=68719476736) (e1 : -1000000000000<=e) (e2:e<=1000000000000) :
  Calls Tryz.prog 49 #[.agg #[.bool neg,.slice ad n cap,.int .i64 e]] w fun r w'=>r = .returned (.int .i64 (e+(bl x:Int)))/\Gr w w':=by
 have H:Hid (∀w1,Gr w w1->Calls Tryz.prog 59 #[.slice ad n cap] w1 fun r w'=>r = .returned (.int .i64 (bl x:Int))/\Gr w1 w'):=fun w1 g=>bits73 ad n cap x w1 (h.gr g) hb
 clear h
 go_enter Tryz.func49,Tryz.ntmps49
 go_wp2
 go_region_held3 (fun w'=>w'.cell? ⟨w.heap.size,1,none⟩=some (.slice ad n cap)/\w'.cell? ⟨w.heap.size,2,none⟩=some (.int .i64 e)/\Gr w w') (first|exact⟨by simp,by simp,((Gr.refl w).alloc _).drew⟩|exact keep2 ‹Gr _ _› ‹_/\_/\_›) (first|(go_at_call 59;refine(H.out _ (And.right (And.right ‹_/\_/\Gr w _›))).mono ?_;rintro r w1 ⟨rfl,g1⟩))
 have g:=‹_/\_/\Gr w w1›.2.2
 go_wp2
 go_ret
 exact⟨ret_i64R (IntWalk.i64_in _ ⟨by omega,by omega⟩),g⟩
set_option maxRecDepth 10000 in
theorem minus70 (neg:Bool) (ad:Option Addr) (n cap:Nat) (e:Int) (w:World) :
  Calls Tryz.prog 39 #[.agg #[.bool neg,.slice ad n cap,.int .i64 e]] w fun r w'=>r = .returned (.agg #[.bool (!neg),.slice ad n cap,.int .i64 e])/\Gr w w':=by
 go_enter Tryz.func39,Tryz.ntmps39
 go_wp2
 refine bodyPost_ret (v:=.agg #[.bool (!neg),.slice ad n cap,.int .i64 e]) (by simp[results,Tryz.results39,go_sem]) rfl ⟨rfl,?_⟩
 exact((Gr.refl w).alloc _).alloc _
set_option maxHeartbeats 1600000 in
set_option maxRecDepth 10000 in
theorem times43 (s t:Bool) (ad1 ad2:Option Addr) (n1 n2 c1 c2 x y:Nat) (e f:Int) (w:World) (hx:Lim w ad1 n1 c1 18446744073709551616 x) (hy:Lim w ad2 n2 c2 18446744073709551616 y) (bx:bl x<=68719476736) (by':bl y<=68719476736)
  (e1 : -1000000000000<=e) (e2:e<=1000000000000) (f1 : -1000000000000<=f) (f2:f<=1000000000000) :
  Calls Tryz.prog 21 #[.agg #[.bool s,.slice ad1 n1 c1,.int .i64 e],.agg #[.bool t,.slice ad2 n2 c2,.int .i64 f]] w fun r w'=>∃ad n cap,r = .returned (.agg #[.bool (s != t),.slice ad n cap,.int .i64 (e+f)])/\Lim w' ad n cap 18446744073709551616 (x*y)/\Gr w w':=by
 have H:Hid (∀w1,Gr w w1->Calls Tryz.prog 47 #[.slice ad1 n1 c1,.slice ad2 n2 c2] w1 fun e w'=>∃ad' n' cap',e = .returned (.slice ad' n' cap')/\Lim w' ad' n' cap' 18446744073709551616 (x*y)/\Gr w1 w'):=fun w1 g=>mul66 ad1 ad2 n1 n2 c1 c2 x y w1 (hx.gr g) (hy.gr g) bx by'
 clear hx hy
 go_enter Tryz.func21,Tryz.ntmps21
 go_wp2
 obtain⟨W0,hW0⟩:∃W0,W0=((w.alloc (.cells #[.bool s,.slice ad1 n1 c1,.int .i64 e] 46)).alloc (.cells #[.bool t,.slice ad2 n2 c2,.int .i64 f] 46)).alloc (.cells #[.bool false,.slice none 0 0,.int .i64 0] 46):=⟨_,rfl⟩
 rw[<-hW0]
 have hS0:=boxes3 w 46 _ _ _ _ _ _ _ _ _ _ W0 hW0 rfl
 have hB2:Hid (W0.drew.heap[w.heap.size+1+1]? = some (.cells #[.bool false,.slice none 0 0,.int .i64 0] 46)):=by
  show W0.heap[w.heap.size+1+1]? = _
  rw[hW0]
  show(((w.heap.push _).push _).push _)[w.heap.size+1+1]? = _
  simp only[Array.getElem?_push,Array.size_push]
  rw[if_pos trivial]
 clear hW0
 go_region_held3 (fun w'=>(w'.cell? ⟨w.heap.size,0,none⟩=some (.bool s)/\w'.cell? ⟨w.heap.size,1,none⟩=some (.slice ad1 n1 c1)/\w'.cell? ⟨w.heap.size,2,none⟩=some (.int .i64 e)/\w'.cell? ⟨w.heap.size+1,0,none⟩=some (.bool t)/\w'.cell? ⟨w.heap.size+1,1,none⟩=some (.slice ad2 n2 c2)/\w'.cell? ⟨w.heap.size+1,2,none⟩=some (.int .i64 f))/\(w'.cell? ⟨w.heap.size+2,0,none⟩=some (cellV w' (w.heap.size+2) 0)/\w'.cell? ⟨w.heap.size+2,1,none⟩=some (cellV w' (w.heap.size+2) 1)/\w'.cell? ⟨w.heap.size+2,2,none⟩=some (cellV w' (w.heap.size+2) 2)/\w'.frozen? ⟨w.heap.size+2,0,none⟩=false/\w'.frozen? ⟨w.heap.size+2,1,none⟩=false/\w'.frozen? ⟨w.heap.size+2,2,none⟩=false)/\Gr w w') (first|(with_reducible assumption)|(apply keep3;(with_reducible assumption);(with_reducible assumption))|(refine keepSt3 rfl ?_;(with_reducible assumption))) (first|(go_at_call 47;refine(H.out _ (And.right (And.right ‹_/\_/\Gr w _›))).mono ?_;rintro r w1 ⟨a3,m3,k3,rfl,hl3,g3⟩))
 have hS1:=keep3 g3 hS0
 have k0:w1.cell? ⟨w.heap.size+1+1,0,none⟩=some (cellV w1 (w.heap.size+2) 0):=hS1.2.1.1
 have k1:w1.cell? ⟨w.heap.size+1+1,1,none⟩=some (cellV w1 (w.heap.size+2) 1):=hS1.2.1.2.1
 have k2:w1.cell? ⟨w.heap.size+1+1,2,none⟩=some (cellV w1 (w.heap.size+2) 2):=hS1.2.1.2.2.1
 have hb1:w1.heap[w.heap.size+1+1]? = some (.cells #[.bool false,.slice none 0 0,.int .i64 0] 46):=by
  rw[g3.block _ (by have:=hS0.2.1.1;exact lt_of_cell' this)];exact hB2.out
 have hl4:=hl3.apart hb1
 have hg1:=hS1.2.2
 have hG:=(((hg1.setCell (p:=⟨w.heap.size+1+1,0,none⟩) (by show _<=w.heap.size+1+1;omega) (.bool !s==t)).setCell (p:=⟨w.heap.size+1+1,1,none⟩) (by show _<=w.heap.size+1+1;omega) (.slice a3 m3 k3)).setCell (p:=⟨w.heap.size+1+1,2,none⟩) (by show _<=w.heap.size+1+1;omega) (.int .i64 (IntKind.i64.wrap (e+f))))
 clear hS0 hS1 hb1 hB2
 go_wp2
 refine bodyPost_ret (v:=.agg #[.bool (s != t),.slice a3 m3 k3,.int .i64 (e+f)]) ?_ rfl ⟨a3,m3,k3,rfl,hl3.set3 hl4 _ _ _,hG⟩
 have hw:IntKind.i64.wrap (e+f)=e+f:=IntWalk.i64_in _ ⟨by omega,by omega⟩
 simp[results,Tryz.results21,go_sem,k0,k1,k2,hw,bne]
end Go.Proofs.YtapnglidnblmcaaGreat
namespace Go.Proofs.YtapnglidnblmcaaGreat
open Go.RowKit
open Ieee
set_option linter.unusedVariables false
theorem num_block {w:World} {b:Nat} {v0 v1 v2:Value} {T:TypeId} (h:w.heap[b]? = some (.cells #[v0,v1,v2] T)) :
  (w.cell? ⟨b,0,none⟩=some v0/\w.cell? ⟨b,1,none⟩=some v1/\w.cell? ⟨b,2,none⟩=some v2)/\w.frozen? ⟨b,0,none⟩=false/\w.frozen? ⟨b,1,none⟩=false/\w.frozen? ⟨b,2,none⟩=false:=by
 refine⟨⟨?_,?_,?_⟩,?_,?_,?_⟩ <;> simp[World.cell?,World.frozen?,h]
set_option maxRecDepth 10000 in
theorem set3_gr {a w:World} (h:Gr a w) {b:Nat} (hb:a.heap.size<=b) (v0 v1 v2:Value):Gr a (((w.setCell ⟨b,0,none⟩ v0).setCell ⟨b,1,none⟩ v1).setCell ⟨b,2,none⟩ v2):=
 ((h.setCell (p:=⟨b,0,none⟩) hb v0).setCell (p:=⟨b,1,none⟩) hb v1).setCell (p:=⟨b,2,none⟩) hb v2
end Go.Proofs.YtapnglidnblmcaaGreat
