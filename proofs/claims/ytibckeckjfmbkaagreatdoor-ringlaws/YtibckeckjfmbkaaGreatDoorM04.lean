import Derived.Test.YtibckeckjfmbkaaGreatDoorM02
import Derived.Test.YtibckeckjfmbkaaGreatDoorM03
namespace Go.Proofs.YtibckeckjfmbkaaGreatDoor
open Go.RowKit
set_option linter.unusedVariables false
theorem hide {p:Prop} (h:p):Hid p:=h
theorem owns_take {w:World} {B:Nat} {e:TypeId} {g N cap:Nat} {xs:List Value} (h:w.ownsRow B e 1 (.slice (some ⟨g,0,none⟩) N cap) N xs) {k:Nat} (hk:k<=N):w.ownsRow B e 1 (.slice (some ⟨g,0,none⟩) k cap) k (xs.take k):=by
 have hl:=h.1
 refine⟨by rw[List.length_take];omega,?_⟩
 rcases h.2 with ⟨h1,_⟩|⟨g',cap',cur,h1,h2,h3,h4,h5,h6,h7⟩
 ·cases h1
 ·injection h1 with e1 e2 e3
  injection e1 with e1
  injection e1 with e1
  subst e1
  subst e3
  refine Or.inr ⟨_,_,cur,rfl,h2,h3,by omega,h5,h6,?_⟩
  rw[<-h7,List.take_take,Nat.mul_one,Nat.mul_one,Nat.min_eq_left hk]
theorem owns_low {w:World} {B B':Nat} {e:TypeId} {size:Nat} {v:Value} {n:Nat} {xs:List Value} (h:w.ownsRow B e size v n xs) (hb:B'<=B):w.ownsRow B' e size v n xs:=by
 refine⟨h.1,?_⟩
 rcases h.2 with h2|⟨g,cap,cur,e1,h3,h4⟩
 ·exact Or.inl h2
 ·exact Or.inr ⟨g,cap,cur,e1,Nat.le_trans hb h3,h4⟩
theorem owns_far {w:World} {B:Nat} {e:TypeId} {size:Nat} {v:Value} {n:Nat} {xs:List Value} (h:w.ownsRow B e size v n xs) {b:Nat} (hb:v.ownBlock≠some b) (i:Nat) (u:Value):(w.setCell ⟨b,i,none⟩ u).ownsRow B e size v n xs:=by
 refine⟨h.1,?_⟩
 rcases h.2 with h2|⟨g,cap,cur,e1,h3,h4,h5⟩
 ·exact Or.inl h2
 ·refine Or.inr ⟨g,cap,cur,e1,h3,?_,h5⟩
  rw[<-h4]
  have:b≠g:=fun e=>hb (by rw[e1,e];rfl)
  simp only[World.setCell,Array.getElem?_modify,if_neg this]
def Fresh (B:Nat) (w:World) (ad:Option Addr) (n cap:Nat):Prop:=∃xs,w.ownsRow B 39 1 (.slice ad n cap) n (u64s xs)
theorem Fresh.nil (B:Nat) (w:World):Fresh B w none 0 0:=⟨[],World.ownsRow_nil _ _ _ _⟩
theorem Fresh.take {w:World} {B g N cap:Nat} {xs:List Nat} (h:w.ownsRow B 39 1 (.slice (some ⟨g,0,none⟩) N cap) N (u64s xs)) {k:Nat} (hk:k<=N):Fresh B w (some ⟨g,0,none⟩) k cap:=
 ⟨xs.take k,by have:=owns_take h hk;rwa [show(u64s xs).take k=u64s (xs.take k) by simp[u64s,List.map_take]] at this⟩
theorem Fresh.gr {B:Nat} {w w':World} {ad:Option Addr} {n cap:Nat} (h:Fresh B w ad n cap) (g:Gr w w'):Fresh B w' ad n cap:=by
 obtain⟨xs,h⟩:=h
 exact⟨xs,g.owns h⟩
theorem Fresh.low {B B':Nat} {w:World} {ad:Option Addr} {n cap:Nat} (h:Fresh B w ad n cap) (hb:B'<=B):Fresh B' w ad n cap:=by
 obtain⟨xs,h⟩:=h
 exact⟨xs,owns_low h hb⟩
theorem Fresh.set3 {B:Nat} {w:World} {ad:Option Addr} {n cap:Nat} (h:Fresh B w ad n cap) {B2:Nat} (hb:∀a,ad=some a->a.block≠B2) (v0 v1 v2:Value):Fresh B (((w.setCell ⟨B2,0,none⟩ v0).setCell ⟨B2,1,none⟩ v1).setCell ⟨B2,2,none⟩ v2) ad n cap:=by
 obtain⟨xs,h⟩:=h
 have hne:(Value.slice ad n cap).ownBlock≠some B2:=by
  cases ad with
  | none=>simp[Value.ownBlock]
  | some a=>exact fun e=>hb a rfl (by simpa [Value.ownBlock] using e)
 exact⟨xs,owns_far (owns_far (owns_far h hne _ _) hne _ _) hne _ _⟩
theorem Fresh.ne {B:Nat} {w:World} {ad:Option Addr} {n cap:Nat} (h:Fresh B w ad n cap) {B2:Nat} {cs:Array Value} {T:TypeId} {fr:Nat × Nat} (hb:w.heap[B2]? = some (.cells cs T fr)) (hT:T≠39):∀a,ad=some a->a.block≠B2:=by
 obtain⟨xs,h⟩:=h
 intro a ha he
 rcases h.2 with ⟨h1,_⟩|⟨g,cap',cur,h1,_,h2,_⟩
 ·injection h1 with h1
  rw[ha] at h1
  cases h1
 ·injection h1 with h1
  rw[ha] at h1
  injection h1 with h1
  subst h1
  simp only at he
  rw[he,hb] at h2
  injection h2 with h2
  injection h2 with _ h2
  exact hT h2
def NewR (B:Nat) (w:World) (r:Ending):Prop:=∃a ad n cap f g,r = .returned (.tuple #[.agg #[.bool a,.slice ad n cap,.int .i64 f],.int .i64 g])/\Fresh B w ad n cap/\n<=4096
theorem NewR.zero (B:Nat) (w:World) (g:Int):NewR B w (.returned (.tuple #[.agg #[.bool false,.slice none 0 0,.int .i64 0],.int .i64 g])):=⟨_,_,_,_,_,_,rfl,Fresh.nil _ _,by omega⟩
theorem NewR.gr {B:Nat} {w w':World} {r:Ending} (h:NewR B w r) (g:Gr w w'):NewR B w' r:=by
 obtain⟨a,ad,n,cap,f,k,h1,h2,h3⟩:=h
 exact⟨a,ad,n,cap,f,k,h1,h2.gr g,h3⟩
theorem NewR.low {B B':Nat} {w:World} {r:Ending} (h:NewR B w r) (hb:B'<=B):NewR B' w r:=by
 obtain⟨a,ad,n,cap,f,k,h1,h2,h3⟩:=h
 exact⟨a,ad,n,cap,f,k,h1,h2.low hb,h3⟩
theorem NewR.set3 {B:Nat} {w:World} {r:Ending} (h:NewR B w r) {B2:Nat} {cs:Array Value} {T:TypeId} {fr:Nat × Nat} (hb:w.heap[B2]? = some (.cells cs T fr)) (v0 v1 v2:Value) (hT:T≠39):NewR B (((w.setCell ⟨B2,0,none⟩ v0).setCell ⟨B2,1,none⟩ v1).setCell ⟨B2,2,none⟩ v2) r:=by
 obtain⟨a,ad,n,cap,f,k,h1,h2,h3⟩:=h
 exact⟨a,ad,n,cap,f,k,h1,h2.set3 (h2.ne hb hT) v0 v1 v2,h3⟩
theorem two64 {r:Nat} (hr:r<64):(18446744073709551616:Nat)=2 ^ r*2 ^ (64-r):=by rw[<-Nat.pow_add,show r+(64-r)=64 by omega]
theorem shl_back {r x:Nat} (hr:r<64):x*2 ^ (64-r) % 18446744073709551616=x % 2 ^ r*2 ^ (64-r):=by
 rw[two64 hr,Nat.mul_mod_mul_right]
theorem dn_val {X x i r:Nat} (hr:r<64):(X+18446744073709551616 ^ (i+1)*x) / 2 ^ r=X / 2 ^ r+18446744073709551616 ^ (i+1)*(x / 2 ^ r)+18446744073709551616 ^ i*(x*2 ^ (64-r) % 18446744073709551616):=by
 rw[shl_back hr]
 have h1:x % 2 ^ r+2 ^ r*(x / 2 ^ r)=x:=Nat.mod_add_div _ _
 have h2:18446744073709551616 ^ (i+1)=2 ^ r*(18446744073709551616 ^ i*2 ^ (64-r)):=by
  rw[Nat.pow_succ]
  conv=>lhs;rhs;rw[two64 hr]
  ac_rfl
 have h3:18446744073709551616 ^ (i+1)*x=2 ^ r*(18446744073709551616 ^ (i+1)*(x / 2 ^ r)+18446744073709551616 ^ i*(x % 2 ^ r*2 ^ (64-r))):=by
  generalize 18446744073709551616 ^ i=B at *
  generalize 18446744073709551616 ^ (i+1)=C at *
  generalize x % 2 ^ r=a at *
  generalize x / 2 ^ r=b at *
  rw[<-h1,Nat.mul_add,Nat.mul_add,Nat.add_comm]
  congr 1
  ·ac_rfl
  ·rw[h2];ac_rfl
 rw[h3,Nat.add_mul_div_left _ _ (Nat.two_pow_pos r),Nat.add_assoc]
structure DnAt (ds zs:List Nat) (k r N:Nat):Prop where
 len:zs.length=N
 lt:∀x∈zs,x<18446744073709551616
 val:nv 18446744073709551616 zs=nv 18446744073709551616 (ds.take k) / 2 ^ r
 zero:∀j,k<=j->zs.getD j 0=0
 edge:∀i,k=i+1->zs.getD i 0<2 ^ (64-r)
theorem DnAt.start {ds:List Nat} {r N:Nat}:DnAt ds (List.replicate N 0) 0 r N:=
 ⟨by simp,(fun x hx=>by rw[List.mem_replicate] at hx;omega),by simp[nv,nv_zeros],(fun j _=>by rw[List.getD_eq_getElem?_getD,List.getElem?_replicate];split <;> rfl),fun i hi=>absurd hi (by omega)⟩
theorem shr_lt' {r x:Nat} (hr:r<64) (hx:x<18446744073709551616):x / 2 ^ r<2 ^ (64-r):=by
 refine Nat.div_lt_of_lt_mul ?_
 rw[<-two64 hr]
 exact hx
theorem DnAt.first {ds zs:List Nat} {r N x:Nat} (h:DnAt ds zs 0 r N) (hr:r<64) (hx:x<18446744073709551616) (hN:0<N) (hxk:x=ds.getD 0 0):DnAt ds (zs.set 0 (x / 2 ^ r)) 1 r N:=by
 have hl:=h.len
 refine⟨by rw[List.length_set];exact h.len,set_lt h.lt (Nat.lt_of_le_of_lt (Nat.div_le_self _ _) hx),?_,?_,?_⟩
 ·have s1:=nv_set 18446744073709551616 zs 0 (x / 2 ^ r) (by omega)
  rw[h.zero 0 (Nat.le_refl _),Nat.mul_zero,Nat.add_zero] at s1
  rw[s1,h.val,nv_take_succ,<-hxk]
  simp[nv]
 ·intro j hj
  rw[getD_set _ _ _ _ (by omega),if_neg (by omega)]
  exact h.zero j (by omega)
 ·intro i hi
  have:i=0:=by omega
  subst this
  rw[getD_set _ _ _ _ (by omega),if_pos rfl]
  exact shr_lt' hr hx
theorem DnAt.next {ds zs:List Nat} {i r N x o:Nat} (h:DnAt ds zs (i+1) r N) (hr:r<64) (hx:x<18446744073709551616) (hN:i+1<N) (hxk:x=ds.getD (i+1) 0) (ho:o=zs.getD i 0) :
  DnAt ds ((zs.set (i+1) (x / 2 ^ r)).set i (o+x*2 ^ (64-r) % 18446744073709551616)) (i+2) r N:=by
 have hl:=h.len
 have ho1:o<2 ^ (64-r):=ho ▸ h.edge i rfl
 refine⟨by rw[List.length_set,List.length_set];exact h.len,set_lt (set_lt h.lt (Nat.lt_of_le_of_lt (Nat.div_le_self _ _) hx)) ?_,?_,?_,?_⟩
 ·rw[shl_back hr]
  have h1:(x % 2 ^ r+1)*2 ^ (64-r)<=2 ^ r*2 ^ (64-r):=Nat.mul_le_mul_right _ (Nat.mod_lt _ (Nat.two_pow_pos _))
  rw[<-two64 hr,Nat.add_mul] at h1
  omega
 ·have s1:=nv_set 18446744073709551616 zs (i+1) (x / 2 ^ r) (by omega)
  have s2:=nv_set 18446744073709551616 (zs.set (i+1) (x / 2 ^ r)) i (o+x*2 ^ (64-r) % 18446744073709551616) (by rw[List.length_set];omega)
  rw[h.zero (i+1) (Nat.le_refl _),Nat.mul_zero,Nat.add_zero] at s1
  rw[getD_set _ _ _ _ (by omega),if_neg (by omega),<-ho,s1,h.val,Nat.mul_add] at s2
  have s3:=nv_take_succ 18446744073709551616 ds (i+1)
  rw[<-hxk] at s3
  rw[show i+2=i+1+1 from rfl,s3,dn_val hr]
  omega
 ·intro j hj
  rw[getD_set _ _ _ _ (by rw[List.length_set];omega),if_neg (by omega),getD_set _ _ _ _ (by omega),if_neg (by omega)]
  exact h.zero j (by omega)
 ·intro j hj
  have:j=i+1:=by omega
  subst this
  rw[getD_set _ _ _ _ (by rw[List.length_set];omega),if_neg (by omega),getD_set _ _ _ _ (by omega),if_pos rfl]
  exact shr_lt' hr hx
theorem or_limb' {o x r:Nat} (hr:r<64) (hx:x<18446744073709551616) (ho:o<2 ^ (64-r)):bits .or .u64 (o:Int) (((x*2 ^ (64-r) % 18446744073709551616:Nat)):Int)=((o+x*2 ^ (64-r) % 18446744073709551616:Nat):Int):=by
 have h1:2 ^ (64-r)<=2 ^ 64:=Nat.pow_le_pow_right (by omega) (by omega)
 rw[bits_or_u64_nat _ _ (by omega) (by omega),shl_back hr,or_add ho]
theorem getD_drop (xs:List Nat) (q k:Nat):(xs.drop q).getD k 0=xs.getD (q+k) 0:=by
 rw[List.getD_eq_getElem?_getD,List.getD_eq_getElem?_getD,List.getElem?_drop]
theorem nv_drop {B x:Nat} {xs:List Nat} (h:Dg B x xs) (q:Nat) (hq:q<=xs.length) (hB:0<B):nv B (xs.drop q)=x / B ^ q:=by
 have h1:=nv_append B (xs.take q) (xs.drop q)
 rw[List.take_append_drop,h.1,List.length_take,Nat.min_eq_left hq] at h1
 have h2:=nv_lt B (xs.take q) (fun y hy=>h.2.1 y (List.mem_of_mem_take hy))
 rw[List.length_take,Nat.min_eq_left hq] at h2
 rw[h1,Nat.add_mul_div_left _ _ (Nat.pow_pos hB),Nat.div_eq_of_lt h2,Nat.zero_add]
set_option maxHeartbeats 1600000 in
theorem shiftDown37n (ad:Option Addr) (n1 c1 x n:Nat) (w:World) (hx:Lim w ad n1 c1 18446744073709551616 x) (b1:n1<=1099511627776) (hn:n<=9223372036854775807) :
  Calls Tryz.prog 172 #[.slice ad n1 c1,.int .i64 (n:Int)] w fun e w'=>∃ad' n' cap',e = .returned (.slice ad' n' cap')/\n'<=n1/\Lim w' ad' n' cap' 18446744073709551616 (x / 2 ^ n)/\Gr w w'/\Fresh w.heap.size w' ad' n' cap':=by
 obtain⟨xs,rx,dx⟩:=hx
 have RX:Hid (Row w ad n1 c1 xs):=rx
 have DX:Hid (Dg 18446744073709551616 x xs):=dx
 have hle:=rx.le
 have hmax:=rx.max
 obtain⟨q,hq⟩:∃q,q=n / 64:=⟨_,rfl⟩
 obtain⟨r,hr⟩:∃r,r=n % 64:=⟨_,rfl⟩
 have hr64:r<64:=by omega
 have hnq:n=64*q+r:=by omega
 have eq:(n:Int) / 64=(q:Int):=by omega
 have er:(n:Int) % 64=(r:Int):=by omega
 have HN:Hid (n=64*q+r):=hnq
 clear hq hr hnq rx dx
 by_cases hbig:n1<=q
 ·have fin:Hid (x / 2 ^ n=0):=by
   show _=_
   refine Nat.div_eq_of_lt ?_
   have h1:=DX.out.upper
   rw[RX.out.len,pow64] at h1
   refine Nat.lt_of_lt_of_le h1 (Nat.pow_le_pow_right (by omega) ?_)
   have:=HN.out
   omega
  have hbig':(q:Int)>=(n1:Int):=by omega
  go_enter Tryz.func172,Tryz.ntmps172
  go_wp2_with (simp only[er])
  go_ret
  refine⟨none,0,0,rfl,by omega,?_,Gr.refl _,Fresh.nil _ _⟩
  rw[fin.out]
  exact⟨[],Row.empty (by omega) (fun _=>rfl),Dg.nil⟩
 ·obtain⟨p1,o1,rfl,hp1,hc1⟩:=RX.out.lt (by omega)
  have HC:Hid (∀w',Gr w w'->∀j,j<n1->w'.cell? ⟨p1,o1+j,none⟩=some (.int .u64 ((xs.getD j 0:Nat):Int))):=hc1
  clear hc1
  have hbig':¬(q:Int)>=(n1:Int):=by omega
  go_enter Tryz.func172,Tryz.ntmps172
  go_wp2_with (first|(simp only[er])|(at_make;refine wpList_made rfl _ _ rfl (n1-q) _ rfl rfl ?_ ?_ ?_;rotate_right;intro w2 hown0 hg2))
  case' refine_1=>omega
  case' refine_2=>omega
  have G2:Hid (Gr w w2):=hg2
  clear hg2
  obtain⟨N,hN⟩:∃N,N=n1-q:=⟨_,rfl⟩
  rw[<-hN] at hown0 ⊢
  have hNq:N+q=n1:=by omega
  clear hN
  obtain⟨ds,hds⟩:∃ds,ds=xs.drop q:=⟨_,rfl⟩
  have HDS:Hid (ds=xs.drop q):=hds
  clear hds
  go_loopw [27] (fun i wr=>∃(k:Nat) (zs:List Nat),k<=N/\i = .int .i64 (k:Int)/\wr.ownsRow w.heap.size 39 1 (.slice (some ⟨w.heap.size,0,none⟩) N N) N (u64s zs)/\Hid (DnAt ds zs k r N)/\Hid (Gr w wr)) (fun i _=>N-(intOf i).toNat)
  case atStart=>exact⟨0,List.replicate N 0,by omega,rfl,hown0,DnAt.start,G2⟩
  case round =>
   obtain⟨k,zs,hk,rfl,hown,hU,hg⟩:=hrel
   by_cases hlt:k<N
   ·have hcell1:=HC.out wr hg.out (q+k) (by omega)
    rw[<-Nat.add_assoc] at hcell1
    have hcell2:=owns_cell hown k (by omega)
    have hfz2:=hown.frozenAt k
    obtain⟨xk,hxk⟩:∃xk,xk=xs.getD (q+k) 0:=⟨_,rfl⟩
    rw[<-hxk] at hcell1
    have bxk:xk<18446744073709551616:=hxk ▸ getD_lt (by omega) DX.out.2.1 (q+k)
    have HX:Hid (xk=ds.getD k 0):=by rw[HDS.out,getD_drop];exact hxk
    have SH:Hid ((xk:Int) / 2 ^ r=((xk / 2 ^ r:Nat):Int)):=by
     show _=_
     rw[Int.natCast_ediv,Int.natCast_pow]
     rfl
    have i1:(k:Int)<(N:Int):=by omega
    clear hxk
    by_cases hk0:k=0
    ·subst hk0
     rw[Nat.add_zero] at hcell1
     go_wp2
     rw[SH.out]
     go_roundw
     case rel=>exact⟨1,_,by omega,by go_num,owns_set hown 0 (xk / 2 ^ r),hU.out.first hr64 bxk (by omega) HX.out,hg.out.setCell (Nat.le_refl _) _⟩
     case measure=>simp only[intOf];omega
    ·obtain⟨i,rfl⟩:∃i,k=i+1:=⟨k-1,by omega⟩
     obtain⟨ok,hok⟩:∃ok,ok=zs.getD i 0:=⟨_,rfl⟩
     have HO:Hid (ok=zs.getD i 0):=hok
     have OR:Hid (bits .or .u64 (ok:Int) (IntKind.u64.wrap ((xk:Int)*2 ^ (64-r)))=((ok+xk*2 ^ (64-r) % 18446744073709551616:Nat):Int)):=by
      show _=_
      rw[<-or_limb' hr64 bxk (hok ▸ hU.out.edge i rfl),IntKind.wrap_u64,Int.natCast_emod,Int.natCast_mul,Int.natCast_pow]
      rfl
     clear hok
     go_wp2
     rw[SH.out]
     have hown1:=owns_set hown (i+1) (xk / 2 ^ r)
     have hg1:=hg.out.setCell (p:=⟨w.heap.size,i+1,none⟩) (Nat.le_refl _) (.int .u64 ((xk / 2 ^ r:Nat):Int))
     generalize hwq:wr.setCell ⟨w.heap.size,i+1,none⟩ (.int .u64 ((xk / 2 ^ r:Nat):Int))=wq at *
     clear hown hcell2 hfz2 hcell1
     have hcell3:=owns_cell hown1 i (by omega)
     have hfz3:=hown1.frozenAt i
     rw[getD_set _ _ _ _ (by rw[hU.out.len];omega),if_neg (by omega),<-HO.out] at hcell3
     have G1:Hid (Gr w wq):=hg1
     clear hg1 hg hwq
     have i4:(i:Int)<(N:Int):=by omega
     go_region
     rw[OR.out]
     go_wp2
     go_roundw
     case rel=>exact⟨i+2,_,by omega,by go_num,owns_set hown1 i (ok+xk*2 ^ (64-r) % 18446744073709551616),hU.out.next hr64 bxk (by omega) HX.out HO.out,(G1.out.setCell (p:=⟨w.heap.size,i,none⟩) (Nat.le_refl _) _).drew⟩
     case measure=>simp only[intOf];omega
   ·have hkm:k=N:=by omega
    subst hkm
    obtain⟨ad',cap',hEq,hrow⟩:=Row.of_owns hown
    simp only[Value.slice.injEq,true_and] at hEq
    obtain⟨rfl,rfl⟩:=hEq
    have fin:Hid (nv 18446744073709551616 zs=x / 2 ^ n):=by
     show _=_
     rw[hU.out.val,nv_take_all _ ds _ (by rw[HDS.out,List.length_drop,RX.out.len];omega),HDS.out,nv_drop DX.out q (by rw[RX.out.len];omega) (by omega),HN.out,pow64,Nat.div_div_eq_div_mul,<-Nat.pow_add]
    have HT:Hid (Calls Tryz.prog 174 #[.slice (some ⟨w.heap.size,0,none⟩) k k] wr fun e w'=>∃j,e = .returned (.slice (some ⟨w.heap.size,0,none⟩) j k)/\j<=k/\Lim wr (some ⟨w.heap.size,0,none⟩) j k 18446744073709551616 (x / 2 ^ n)/\w'=wr):=by
     refine(trim57 _ _ _ zs wr hrow).mono ?_
     rintro e w' ⟨j,rfl,hj,hz,ht,rfl⟩
     refine⟨j,rfl,hj,?_,rfl⟩
     have:=trim_out hrow hU.out.lt hj hz ht
     rw[fin.out] at this
     exact this
    have OWN:=hide hown
    clear hrow hown
    go_wp2_with (go_at_call 174;with_reducible refine HT.out.mono ?_;rintro e w' ⟨j,rfl,hj,hl,rfl⟩)
    go_ret
    exact⟨_,_,_,rfl,by omega,hl,hg.out,Fresh.take OWN.out hj⟩
theorem shiftDown37 (ad:Option Addr) (n1 c1 x n:Nat) (w:World) (hx:Lim w ad n1 c1 18446744073709551616 x) (b1:n1<=1099511627776) (hn:n<=9223372036854775807) :
  Calls Tryz.prog 172 #[.slice ad n1 c1,.int .i64 (n:Int)] w fun e w'=>∃ad' n' cap',e = .returned (.slice ad' n' cap')/\n'<=n1/\Lim w' ad' n' cap' 18446744073709551616 (x / 2 ^ n)/\Gr w w':=
 (shiftDown37n ad n1 c1 x n w hx b1 hn).mono (by rintro e w' ⟨ad',n',cap',h1,h2,h3,h4,_⟩;exact⟨ad',n',cap',h1,h2,h3,h4⟩)
structure AddAt (xs ys zs:List Nat) (k c N:Nat):Prop where
 len:zs.length=N
 lt:∀x∈zs,x<18446744073709551616
 val:nv 18446744073709551616 zs+18446744073709551616 ^ k*c=nv 18446744073709551616 (xs.take k)+nv 18446744073709551616 (ys.take k)
 zero:∀j,k<=j->zs.getD j 0=0
theorem AddAt.start {xs ys:List Nat} {N:Nat}:AddAt xs ys (List.replicate N 0) 0 0 N:=
 ⟨by simp,(fun x hx=>by rw[List.mem_replicate] at hx;omega),by simp[nv,nv_zeros],(fun j _=>by rw[List.getD_eq_getElem?_getD,List.getElem?_replicate];split <;> rfl)⟩
theorem AddAt.next {xs ys zs:List Nat} {k c N x y:Nat} (h:AddAt xs ys zs k c N) (hk:k<N) (hx:x=xs.getD k 0) (hy:y=ys.getD k 0) :
  AddAt xs ys (zs.set k ((x+y+c) % 18446744073709551616)) (k+1) ((x+y+c) / 18446744073709551616) N:=by
 have hl:=h.len
 refine⟨by rw[List.length_set];exact hl,set_lt h.lt (Nat.mod_lt _ (by omega)),?_,?_⟩
 ·have s1:=nv_set 18446744073709551616 zs k ((x+y+c) % 18446744073709551616) (by omega)
  rw[h.zero k (Nat.le_refl _),Nat.mul_zero,Nat.add_zero] at s1
  rw[s1,nv_take_succ,nv_take_succ,<-hx,<-hy,Nat.pow_succ]
  exact add_step h.val
 ·intro j hj
  rw[getD_set _ _ _ _ (by omega),if_neg (by omega)]
  exact h.zero j (by omega)
set_option maxHeartbeats 1600000 in
theorem copyPlus60 (g N:Nat) (ad1 ad2:Option Addr) (n1 n2 c1 c2:Nat) (xs ys:List Nat) (w0 w:World) (rx:Row w0 ad1 n1 c1 xs) (ry:Row w0 ad2 n2 c2 ys) (hx:∀x∈xs,x<18446744073709551616) (hy:∀x∈ys,x<18446744073709551616)
  (h21:n2<=n1) (h1N:n1<=N) (b1:n1<=1099511627776) (hg0:Gr w0 w) (hsz:w0.heap.size<=g) (how:w.ownsRow g 39 1 (.slice (some ⟨g,0,none⟩) N N) N (u64s (List.replicate N 0))) (hNm:N<=9223372036854775807) :
  Calls Tryz.prog 181 #[.slice (some ⟨g,0,none⟩) N N,.slice ad1 n1 c1,.slice ad2 n2 c2] w fun e w'=>∃(c:Nat) (zs:List Nat),e = .returned (.int .u64 (c:Int))/\c<=1/\AddAt xs ys zs n1 c N/\w'.ownsRow g 39 1 (.slice (some ⟨g,0,none⟩) N N) N (u64s zs)/\Gr w0 w':=by
 have RX:Hid (Row w0 ad1 n1 c1 xs):=rx
 have RY:Hid (Row w0 ad2 n2 c2 ys):=ry
 have HX:Hid (∀x∈xs,x<18446744073709551616):=hx
 have HY:Hid (∀x∈ys,x<18446744073709551616):=hy
 have HG:Hid (Gr w0 w):=hg0
 have hl1:=rx.le
 have hl2:=ry.le
 clear rx ry hx hy hg0
 go_enter Tryz.func181,Tryz.ntmps181
 go_wp2
 go_loopw [7,13] (fun cr i wr=>∃(k c:Nat) (zs:List Nat),k<=n2/\c<=1/\i = .int .i64 (k:Int)/\cr = .int .u64 (c:Int)/\wr.ownsRow g 39 1 (.slice (some ⟨g,0,none⟩) N N) N (u64s zs)/\Hid (AddAt xs ys zs k c N)/\Hid (Gr w0 wr)) (fun _ i _=>n2-(intOf i).toNat)
 case atStart=>exact⟨0,0,List.replicate N 0,by omega,by omega,rfl,rfl,how,AddAt.start,HG⟩
 case round =>
  obtain⟨k,c,zs,hk,hc,rfl,rfl,hown,hA,hg⟩:=hrel
  by_cases hlt:k<n2
  ·obtain⟨p1,o1,rfl,hp1,hc1⟩:=RX.out.lt (by omega)
   obtain⟨p2,o2,rfl,hp2,hc2⟩:=RY.out.lt (by omega)
   have hcell1:=hc1 wr hg.out k (by omega)
   have hcell2:=hc2 wr hg.out k hlt
   have hcell3:=owns_cell hown k (by omega)
   have hfz:=hown.frozenAt k
   obtain⟨xk,hxk⟩:∃xk,xk=xs.getD k 0:=⟨_,rfl⟩
   obtain⟨yk,hyk⟩:∃yk,yk=ys.getD k 0:=⟨_,rfl⟩
   rw[<-hxk] at hcell1
   rw[<-hyk] at hcell2
   have bxk:xk<18446744073709551616:=hxk ▸ getD_lt (by omega) HX.out k
   have byk:yk<18446744073709551616:=hyk ▸ getD_lt (by omega) HY.out k
   have HXY:Hid (xk=xs.getD k 0/\yk=ys.getD k 0):=⟨hxk,hyk⟩
   have A:Hid (∀w,(callFunc 75 #[.int .u64 (xk:Int),.int .u64 (yk:Int),.int .u64 (c:Int)]).run Tryz.prog w = .ok (.value (.tuple #[.int .u64 (((xk+yk+c) % 18446744073709551616:Nat):Int),.int .u64 (((xk+yk+c) / 18446744073709551616:Nat):Int)])) w):=fun w=>add64N xk yk c hc w
   have i1:(k:Int)<(n2:Int):=by omega
   have i2:(k:Int)<(n1:Int):=by omega
   have i3:(k:Int)<(N:Int):=by omega
   clear hxk hyk hc1 hc2
   generalize hs:(xk+yk+c) % 18446744073709551616=sv at A
   generalize hd:(xk+yk+c) / 18446744073709551616=dv at A
   have hd1:dv<=1:=by omega
   have NX:Hid (AddAt xs ys (zs.set k sv) (k+1) dv N):=by
    have:=hA.out.next (by omega) HXY.out.1 HXY.out.2
    rw[hs,hd] at this
    exact this
   clear hs hd
   go_wp2_with (simp only[A.out])
   go_roundw
   case rel=>exact⟨k+1,dv,_,by omega,hd1,by go_num,rfl,owns_set hown k sv,NX.out,hg.out.setCell hsz _⟩
   case measure=>simp only[intOf];omega
  ·have hk2:k=n2:=by omega
   subst hk2
   obtain⟨wo,rfl⟩:∃wo:World,wo=wr:=⟨_,rfl⟩
   go_wp2
   go_loopw [7,10] (fun cr i wr=>∃(j c:Nat) (zs:List Nat),k<=j/\j<=n1/\c<=1/\i = .int .i64 (j:Int)/\cr = .int .u64 (c:Int)/\wr.ownsRow g 39 1 (.slice (some ⟨g,0,none⟩) N N) N (u64s zs)/\Hid (AddAt xs ys zs j c N)/\Hid (Gr w0 wr)) (fun _ i _=>n1-(intOf i).toNat)
   case atStart=>exact⟨k,c,zs,by omega,by omega,hc,rfl,rfl,hown,hA,hg⟩
   case round =>
    clear hown hA hg
    obtain⟨j,c,zs,hkj,hj,hc,rfl,rfl,hown,hA,hg⟩:=hrel
    by_cases hlt2:j<n1
    ·obtain⟨p1,o1,rfl,hp1,hc1⟩:=RX.out.lt (by omega)
     have hcell1:=hc1 wr hg.out j (by omega)
     have hcell3:=owns_cell hown j (by omega)
     have hfz:=hown.frozenAt j
     obtain⟨xk,hxk⟩:∃xk,xk=xs.getD j 0:=⟨_,rfl⟩
     have hyk:0=ys.getD j 0:=(getD_out (by rw[RY.out.len];exact hkj)).symm
     rw[<-hxk] at hcell1
     have bxk:xk<18446744073709551616:=hxk ▸ getD_lt (by omega) HX.out j
     have HXY:Hid (xk=xs.getD j 0/\0=ys.getD j 0):=⟨hxk,hyk⟩
     have A:Hid (∀w,(callFunc 75 #[.int .u64 (xk:Int),.int .u64 0,.int .u64 (c:Int)]).run Tryz.prog w = .ok (.value (.tuple #[.int .u64 (((xk+0+c) % 18446744073709551616:Nat):Int),.int .u64 (((xk+0+c) / 18446744073709551616:Nat):Int)])) w):=fun w=>add64N xk 0 c hc w
     have i2:(j:Int)<(n1:Int):=by omega
     have i3:(j:Int)<(N:Int):=by omega
     clear hxk hyk hc1
     generalize hs:(xk+0+c) % 18446744073709551616=sv at A
     generalize hd:(xk+0+c) / 18446744073709551616=dv at A
     have hd1:dv<=1:=by omega
     have NX:Hid (AddAt xs ys (zs.set j sv) (j+1) dv N):=by
      have:=hA.out.next (by omega) HXY.out.1 HXY.out.2
      rw[hs,hd] at this
      exact this
     clear hs hd
     go_wp2_with (simp only[A.out])
     go_roundw
     case rel=>exact⟨j+1,dv,_,by omega,by omega,hd1,by go_num,rfl,owns_set hown j sv,NX.out,hg.out.setCell hsz _⟩
     case measure=>simp only[intOf];omega
    ·have hj2:j=n1:=by omega
     subst hj2
     go_wp2
     go_ret
     exact⟨c,zs,rfl,hc,hA.out,hown,hg.out⟩
theorem plus_fin {xs ys zs:List Nat} {x y n1 c:Nat} (dx:Dg 18446744073709551616 x xs) (dy:Dg 18446744073709551616 y ys) (h1:xs.length=n1) (h2:ys.length<=n1) (h:AddAt xs ys zs n1 c (n1+1)) (hc:c<=1) :
  nv 18446744073709551616 (zs.set n1 c)=x+y/\∀z∈zs.set n1 c,z<18446744073709551616:=by
 have hl:=h.len
 have s1:=nv_set 18446744073709551616 zs n1 c (by omega)
 rw[h.zero n1 (Nat.le_refl _),Nat.mul_zero,Nat.add_zero,h.val,nv_take_all _ xs _ (by omega),nv_take_all _ ys _ (by omega),dx.1,dy.1] at s1
 exact⟨s1,set_lt h.lt (by omega)⟩
theorem trimOwn {w:World} {g N v:Nat} {zs:List Nat} (hown:w.ownsRow g 39 1 (.slice (some ⟨g,0,none⟩) N N) N (u64s zs)) (hz:∀z∈zs,z<18446744073709551616) (hv:nv 18446744073709551616 zs=v) :
  Calls Tryz.prog 174 #[.slice (some ⟨g,0,none⟩) N N] w fun e w'=>∃j,e = .returned (.slice (some ⟨g,0,none⟩) j N)/\j<=N/\Lim w' (some ⟨g,0,none⟩) j N 18446744073709551616 v/\w'=w:=by
 obtain⟨ad',cap',hEq,hrow⟩:=Row.of_owns hown
 simp only[Value.slice.injEq,true_and] at hEq
 obtain⟨rfl,rfl⟩:=hEq
 refine(trim57 _ _ _ zs w hrow).mono ?_
 rintro e w' ⟨j,rfl,hj,h0,ht,rfl⟩
 refine⟨j,rfl,hj,?_,rfl⟩
 have:=trim_out hrow hz hj h0 ht
 rw[hv] at this
 exact this
set_option maxHeartbeats 1600000 in
theorem plus38 (ad1 ad2:Option Addr) (n1 n2 c1 c2 x y:Nat) (w:World) (hx:Lim w ad1 n1 c1 18446744073709551616 x) (hy:Lim w ad2 n2 c2 18446744073709551616 y) (b1:n1<=1099511627776) (b2:n2<=1099511627776) :
  Calls Tryz.prog 170 #[.slice ad1 n1 c1,.slice ad2 n2 c2] w fun e w'=>∃ad' n' cap',e = .returned (.slice ad' n' cap')/\n'<=max n1 n2+1/\Lim w' ad' n' cap' 18446744073709551616 (x+y)/\Gr w w':=by
 obtain⟨xs,rx,dx⟩:=hx
 obtain⟨ys,ry,dy⟩:=hy
 have RX:Hid (Row w ad1 n1 c1 xs):=rx
 have RY:Hid (Row w ad2 n2 c2 ys):=ry
 have DX:Hid (Dg 18446744073709551616 x xs):=dx
 have DY:Hid (Dg 18446744073709551616 y ys):=dy
 clear rx ry dx dy
 by_cases hlt:n1<n2
 ·have hm:max n1 n2=n2:=by omega
  rw[hm]
  clear hm
  have hlt':(n1:Int)<(n2:Int):=by omega
  go_enter Tryz.func170,Tryz.ntmps170
  go_wp2_with (first|(at_make;refine wpList_made rfl _ _ rfl (n2+1) _ rfl rfl ?_ ?_ ?_;rotate_right;intro w2 hown0 hg2)|(go_at_call 181;refine(copyPlus60 _ _ _ _ _ _ _ _ _ _ w _ RY.out RX.out DY.out.2.1 DX.out.2.1 (by omega) (by omega) (by omega) hg2 (Nat.le_refl _) hown0 (by omega)).mono ?_;rintro e w3 ⟨c,zs,rfl,hc,hA,hown1,hg3⟩;have hcell:=owns_cell hown1 n2 (by omega);have hfz:=hown1.frozenAt n2)|(go_at_call 174;refine(trimOwn (owns_set hown1 n2 c) (plus_fin DY.out DX.out RY.out.len (by rw[RX.out.len];omega) hA hc).2 (plus_fin DY.out DX.out RY.out.len (by rw[RX.out.len];omega) hA hc).1).mono ?_;rintro e w4 ⟨j,rfl,hj,hl,rfl⟩))
  ·go_ret
   exact⟨_,_,_,rfl,hj,by rw[Nat.add_comm x y];exact hl,hg3.setCell (Nat.le_refl _) _⟩
  all_goals omega
 ·have hm:max n1 n2=n1:=by omega
  rw[hm]
  clear hm
  have hlt':¬(n1:Int)<(n2:Int):=by omega
  go_enter Tryz.func170,Tryz.ntmps170
  go_wp2_with (first|(at_make;refine wpList_made rfl _ _ rfl (n1+1) _ rfl rfl ?_ ?_ ?_;rotate_right;intro w2 hown0 hg2)|(go_at_call 181;refine(copyPlus60 _ _ _ _ _ _ _ _ _ _ w _ RX.out RY.out DX.out.2.1 DY.out.2.1 (by omega) (by omega) (by omega) hg2 (Nat.le_refl _) hown0 (by omega)).mono ?_;rintro e w3 ⟨c,zs,rfl,hc,hA,hown1,hg3⟩;have hcell:=owns_cell hown1 n1 (by omega);have hfz:=hown1.frozenAt n1)|(go_at_call 174;refine(trimOwn (owns_set hown1 n1 c) (plus_fin DX.out DY.out RX.out.len (by rw[RY.out.len];omega) hA hc).2 (plus_fin DX.out DY.out RX.out.len (by rw[RY.out.len];omega) hA hc).1).mono ?_;rintro e w4 ⟨j,rfl,hj,hl,rfl⟩))
  ·go_ret
   exact⟨_,_,_,rfl,hj,hl,hg3.setCell (Nat.le_refl _) _⟩
  all_goals omega
end Go.Proofs.YtibckeckjfmbkaaGreatDoor
