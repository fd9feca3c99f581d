import Derived.Test.YtbcocfhfhblhcaaGreatDoorS03
import Derived.Test.YtbcocfhfhblhcaaGreatDoorS02
import Derived.Laws.Bits64b
namespace Go.Proofs.YtbcocfhfhblhcaaGreatDoor
open Go.RowKit
set_option linter.unusedVariables false
theorem made_u64 (n:Nat):(madeCells (Value.int .u64 0).cells (n*1)).toList=u64s (List.replicate n 0):=by
 rw [Nat.mul_one]
 refine List.ext_getElem (by rw [Array.length_toList,size_madeCells,u64s_length,List.length_replicate]) fun i h1 h2=>?_
 simp [madeCells,u64s,Value.cells,Nat.mod_one]
theorem wpList_made {w:World} {ops:Array Oper} {rest:List Oper} {o:Oper} {a:Act} {Q:Exit->Act->World->Prop} (hgd:o.guard=none) (l c:Operand)
  (hop:o.op=Op.makeSlice 90 l c) (n:Nat) (L:Int) (hl:a.eval l = .int .i64 L) (hc:a.eval c = .int .i64 L) (hL:L=(n:Int)) (hn:n<=4398046511104)
  (hK:∀ w',w'.ownsRow w.heap.size 85 1 (.slice (some ⟨w.heap.size,0,none⟩) n n) n (u64s (List.replicate n 0))->Gr w w'->wpList Tryz.prog ops Q rest (a.put o.dst (.slice (some ⟨w.heap.size,0,none⟩) n n)) w') :
  wpList Tryz.prog ops Q (o :: rest) a w:=by
 obtain ⟨i0,hi,hz0,hz1,hz2⟩:=info_parts Tryz.info85
 refine wpList_make_full w hgd l c 90 hop w.heap.size 85 i0 (.int .u64 0) 1 Tryz.underlying90 hi hz0 hz1 .i64 .i64 L L n hl hc hL hL (by rw [hz2];omega) (by unfold maxLen;omega) (Nat.le_refl _) ?_
 intro w' hown hgr
 rw [made_u64] at hown
 exact hK w' hown ((Gr.refl w).grown hgr (fun k h=>by cases h))
theorem owns_cell {w:World} {base:Nat} {g N:Nat} {zs:List Nat} (h:w.ownsRow base 85 1 (.slice (some ⟨g,0,none⟩) N N) N (u64s zs)) (j:Nat) (hj:j<N):w.cell? ⟨g,j,none⟩=some (.int .u64 ((zs.getD j 0:Nat):Int)):=by
 have hl:zs.length=N:=by have:=h.1;rw [u64s_length] at this;omega
 rw [h.cellAt j (by omega),u64s_getD (by omega)]
theorem owns_set {w:World} {base:Nat} {g N:Nat} {zs:List Nat} (h:w.ownsRow base 85 1 (.slice (some ⟨g,0,none⟩) N N) N (u64s zs)) (j v:Nat):(w.setCell ⟨g,j,none⟩ (.int .u64 (v:Int))).ownsRow base 85 1 (.slice (some ⟨g,0,none⟩) N N) N (u64s (zs.set j v)):=by
 have:=(h.stored j (.int .u64 (v:Int))).1
 rw [show u64s (zs.set j v)=(u64s zs).set j (.int .u64 (v:Int)) by simp [u64s]]
 exact this
theorem owns_len {w:World} {base:Nat} {g N:Nat} {zs:List Nat} (h:w.ownsRow base 85 1 (.slice (some ⟨g,0,none⟩) N N) N (u64s zs)):zs.length=N:=by
 have:=h.1;rw [u64s_length] at this;omega
theorem or_add {r a b:Nat} (ha:a<2 ^ r):a ||| (b*2 ^ r)=a+b*2 ^ r:=by
 rw [Nat.or_comm,Nat.mul_comm,<-Nat.two_pow_add_eq_or_of_lt ha,Nat.add_comm]
theorem shl_mod {r x:Nat} (hr:r<64) (hx:x<18446744073709551616):x*2 ^ r % 18446744073709551616=x % 2 ^ (64-r)*2 ^ r:=by
 have e:(18446744073709551616:Nat)=2 ^ (64-r)*2 ^ r:=by rw [<-Nat.pow_add,show 64-r+r=64 by omega]
 rw [e,Nat.mul_mod_mul_right]
theorem shl_parts {r x:Nat} (hr:r<64) (hx:x<18446744073709551616):x*2 ^ r % 18446744073709551616+18446744073709551616*(x / 2 ^ (64-r))=x*2 ^ r:=by
 rw [shl_mod hr hx]
 have e:(18446744073709551616:Nat)=2 ^ r*2 ^ (64-r):=by rw [<-Nat.pow_add,show r+(64-r)=64 by omega]
 have h1:x % 2 ^ (64-r)+2 ^ (64-r)*(x / 2 ^ (64-r))=x:=Nat.mod_add_div _ _
 generalize x % 2 ^ (64-r)=a at *
 generalize x / 2 ^ (64-r)=b at *
 rw [<-h1,e,Nat.add_mul]
 congr 1
 ac_rfl
theorem shr_lt {r x:Nat} (hr:r<64) (hx:x<18446744073709551616):x / 2 ^ (64-r)<2 ^ r:=by
 refine Nat.div_lt_of_lt_mul ?_
 rw [<-Nat.pow_add,show 64-r+r=64 by omega]
 exact hx
theorem up_round {xs zs:List Nat} {k q r x o P:Nat} (hr:r<64) (hx:x<18446744073709551616) (hj:k+q+1<zs.length) (hxk:x=xs.getD k 0) (ho:o=zs.getD (k+q) 0) (ho1:o<2 ^ r) (h0:zs.getD (k+q+1) 0=0)
  (h:nv 18446744073709551616 zs=2 ^ (64*q+r)*nv 18446744073709551616 (xs.take k)) :
  nv 18446744073709551616 ((zs.set (k+q) (o+x*2 ^ r % 18446744073709551616)).set (k+q+1) (x / 2 ^ (64-r)))=2 ^ (64*q+r)*nv 18446744073709551616 (xs.take (k+1)):=by
 have e:=shl_parts hr hx
 have e2:2 ^ (64*q+r)*(18446744073709551616 ^ k*x)=18446744073709551616 ^ (k+q)*(x*2 ^ r):=by
  rw [Nat.pow_add 2,<-pow64,Nat.pow_add];ac_rfl
 generalize x*2 ^ r % 18446744073709551616=low at *
 generalize x / 2 ^ (64-r)=high at *
 have s1:=nv_set 18446744073709551616 zs (k+q) (o+low) (by omega)
 have s2:=nv_set 18446744073709551616 (zs.set (k+q) (o+low)) (k+q+1) high (by rw [List.length_set];omega)
 rw [getD_set _ _ _ _ (by omega),if_neg (by omega),h0,Nat.mul_zero,Nat.add_zero] at s2
 rw [<-ho,Nat.mul_add] at s1
 rw [s2,nv_take_succ,<-hxk,Nat.mul_add,<-h,Nat.pow_succ,e2,<-e,Nat.mul_add,Nat.mul_assoc]
 omega
structure UpAt (xs zs:List Nat) (k q r N:Nat):Prop where
 len:zs.length=N
 lt:∀ x∈zs,x<18446744073709551616
 val:nv 18446744073709551616 zs=2 ^ (64*q+r)*nv 18446744073709551616 (xs.take k)
 zero:∀ j,k+q<j->zs.getD j 0=0
 edge:zs.getD (k+q) 0<2 ^ r
theorem UpAt.start {xs:List Nat} {q r N:Nat}:UpAt xs (List.replicate N 0) 0 q r N:=
 ⟨by simp,(fun x hx=>by rw [List.mem_replicate] at hx;omega),by simp [nv,nv_zeros],(fun j _=>by rw [List.getD_eq_getElem?_getD,List.getElem?_replicate];split <;> rfl),by
  have:(List.replicate N 0).getD (0+q) 0=0:=by rw [List.getD_eq_getElem?_getD,List.getElem?_replicate];split <;> rfl
  rw [this];exact Nat.two_pow_pos r⟩
theorem UpAt.next {xs zs:List Nat} {k q r N x o:Nat} (h:UpAt xs zs k q r N) (hr:r<64) (hx:x<18446744073709551616) (hj:k+q+1<N) (hxk:x=xs.getD k 0) (ho:o=zs.getD (k+q) 0) :
  UpAt xs ((zs.set (k+q) (o+x*2 ^ r % 18446744073709551616)).set (k+q+1) (x / 2 ^ (64-r))) (k+1) q r N:=by
 have ho1:o<2 ^ r:=ho ▸ h.edge
 have hl:=h.len
 refine ⟨by rw [List.length_set,List.length_set];exact h.len,set_lt (set_lt h.lt ?_) ?_,?_,?_,?_⟩
 ·rw [shl_mod hr hx]
  have e:(18446744073709551616:Nat)=2 ^ (64-r)*2 ^ r:=by rw [<-Nat.pow_add,show 64-r+r=64 by omega]
  have h1:(x % 2 ^ (64-r)+1)*2 ^ r<=2 ^ (64-r)*2 ^ r:=Nat.mul_le_mul_right _ (Nat.mod_lt _ (Nat.two_pow_pos _))
  rw [<-e,Nat.add_mul] at h1
  omega
 ·exact Nat.lt_of_le_of_lt (Nat.div_le_self _ _) hx
 ·exact up_round (P:=0) hr hx (by omega) hxk ho ho1 (h.zero _ (by omega)) h.val
 ·intro j hjj
  rw [getD_set _ _ _ _ (by rw [List.length_set];omega),if_neg (by omega),getD_set _ _ _ _ (by omega),if_neg (by omega)]
  exact h.zero j (by omega)
 ·rw [show k+1+q=k+q+1 by omega,getD_set _ _ _ _ (by rw [List.length_set];omega),if_pos rfl]
  exact shr_lt hr hx
theorem or_limb {o x r:Nat} (hr:r<64) (hx:x<18446744073709551616) (ho:o<2 ^ r):bits .or .u64 (o:Int) (((x*2 ^ r % 18446744073709551616:Nat)):Int)=((o+x*2 ^ r % 18446744073709551616:Nat):Int):=by
 have h1:2 ^ r<=2 ^ 63:=Nat.pow_le_pow_right (by omega) (by omega)
 rw [bits_or_u64_nat _ _ (by omega) (by omega),shl_mod hr hx,or_add ho]
set_option maxHeartbeats 1600000 in
theorem shiftUp53 (ad:Option Addr) (n1 c1 x n:Nat) (w:World) (hx:Lim w ad n1 c1 18446744073709551616 x) (b1:n1<=1099511627776) (hn:n<=68719476736) :
  Calls Tryz.prog 221 #[.slice ad n1 c1,.int .i64 (n:Int)] w fun e w'=>∃ ad' n' cap',e = .returned (.slice ad' n' cap')/\n'<=n1+n / 64+1/\Lim w' ad' n' cap' 18446744073709551616 (x*2 ^ n)/\Gr w w':=by
 obtain ⟨xs,rx,dx⟩:=hx
 have RX:Hid (Row w ad n1 c1 xs):=rx
 have DX:Hid (Dg 18446744073709551616 x xs):=dx
 clear rx dx
 obtain ⟨q,hq⟩:∃ q,q=n / 64:=⟨_,rfl⟩
 obtain ⟨r,hr⟩:∃ r,r=n % 64:=⟨_,rfl⟩
 have hr64:r<64:=by omega
 have hnq:n=64*q+r:=by omega
 have eq:(n:Int) / 64=(q:Int):=by omega
 have er:(n:Int) % 64=(r:Int):=by omega
 have hqn:q<=1073741824:=by omega
 rw [<-hq]
 have HN:Hid (n=64*q+r):=hnq
 clear hq hr hnq
 go_enter Tryz.func221,Tryz.ntmps221
 go_wp2_with (first | (simp only [er]) | (at_make;refine wpList_made rfl _ _ rfl (n1+q+1) _ rfl rfl ?_ ?_ ?_;rotate_right;intro w2 hown0 hg2))
 case' refine_1=>omega
 case' refine_2=>omega
 have G2:Hid (Gr w w2):=hg2
 clear hg2
 go_loopw [22] (fun i wr=>∃ (k:Nat) (zs:List Nat),k<=n1/\i = .int .i64 (k:Int)/\wr.ownsRow w.heap.size 85 1 (.slice (some ⟨w.heap.size,0,none⟩) (n1+q+1) (n1+q+1)) (n1+q+1) (u64s zs)/\Hid (UpAt xs zs k q r (n1+q+1))/\Hid (Gr w wr)) (fun i _=>n1-(intOf i).toNat)
 case atStart=>exact ⟨0,List.replicate (n1+q+1) 0,by omega,rfl,hown0,UpAt.start,G2⟩
 case round =>
  obtain ⟨k,zs,hk,rfl,hown,hU,hg⟩:=hrel
  by_cases hlt:k<n1
  ·obtain ⟨p1,o1,rfl,hp1,hc1⟩:=RX.out.lt (by omega)
   have hcell1:=hc1 wr hg.out k hlt
   have hcell2:=owns_cell hown (k+q) (by omega)
   have hfz2:=hown.frozenAt (k+q)
   obtain ⟨xk,hxk⟩:∃ xk,xk=xs.getD k 0:=⟨_,rfl⟩
   obtain ⟨ok,hok⟩:∃ ok,ok=zs.getD (k+q) 0:=⟨_,rfl⟩
   rw [<-hxk] at hcell1
   rw [<-hok] at hcell2
   have bxk:xk<18446744073709551616:=hxk ▸ getD_lt (by omega) DX.out.2.1 k
   have i1:(k:Int)<(n1:Int):=by omega
   have i2:(k:Int)+(q:Int)<(n1:Int)+(q:Int)+1:=by omega
   have i3:(k:Int)+(q:Int)+1<(n1:Int)+(q:Int)+1:=by omega
   have HX:Hid (xk=xs.getD k 0/\ok=zs.getD (k+q) 0):=⟨hxk,hok⟩
   have OR:Hid (bits .or .u64 (ok:Int) (IntKind.u64.wrap ((xk:Int)*2 ^ r))=((ok+xk*2 ^ r % 18446744073709551616:Nat):Int)):=by
    show _=_
    rw [<-or_limb hr64 bxk (hok ▸ hU.out.edge),IntKind.wrap_u64,Int.natCast_emod,Int.natCast_mul,Int.natCast_pow]
    rfl
   have SH:Hid ((xk:Int) / 2 ^ (64-r)=((xk / 2 ^ (64-r):Nat):Int)):=by
    show _=_
    rw [Int.natCast_ediv,Int.natCast_pow]
    rfl
   clear hxk hok hc1
   go_wp2
   go_region
   rw [OR.out]
   have hown1:=owns_set hown (k+q) (ok+xk*2 ^ r % 18446744073709551616)
   have hg1:=(hg.out.setCell (p:=⟨w.heap.size,k+q,none⟩) (Nat.le_refl _) (.int .u64 ((ok+xk*2 ^ r % 18446744073709551616:Nat):Int))).drew
   generalize hwq:(wr.setCell ⟨w.heap.size,k+q,none⟩ (.int .u64 ((ok+xk*2 ^ r % 18446744073709551616:Nat):Int))).drew=wq at *
   have hown2:wq.ownsRow w.heap.size 85 1 (.slice (some ⟨w.heap.size,0,none⟩) (n1+q+1) (n1+q+1)) (n1+q+1) (u64s (zs.set (k+q) (ok+xk*2 ^ r % 18446744073709551616))):=by rw [<-hwq];exact hown1
   clear hown hown1 hcell2 hfz2 hcell1
   have hcell3:=owns_cell hown2 (k+q+1) (by omega)
   have hfz3:=hown2.frozenAt (k+q+1)
   have G1:Hid (Gr w wq):=hg1
   clear hg1 hg hwq
   go_wp2
   rw [SH.out]
   go_roundw
   case rel=>exact ⟨k+1,_,by omega,by go_num,owns_set hown2 (k+q+1) (xk / 2 ^ (64-r)),hU.out.next hr64 bxk (by omega) HX.out.1 HX.out.2,G1.out.setCell (Nat.le_refl _) _⟩
   case measure=>simp only [intOf];omega
  ·have hkm:k=n1:=by omega
   subst hkm
   obtain ⟨ad',cap',hEq,hrow⟩:=Row.of_owns hown
   simp only [Value.slice.injEq,true_and] at hEq
   obtain ⟨rfl,rfl⟩:=hEq
   have fin:Hid (nv 18446744073709551616 zs=x*2 ^ n):=by
    show _=_
    rw [hU.out.val,nv_take_all _ xs _ (by rw [RX.out.len];exact Nat.le_refl _),DX.out.1,HN.out,Nat.mul_comm]
   have HT:Hid (Calls Tryz.prog 222 #[.slice (some ⟨w.heap.size,0,none⟩) (k+q+1) (k+q+1)] wr fun e w'=>∃ j,e = .returned (.slice (some ⟨w.heap.size,0,none⟩) j (k+q+1))/\j<=k+q+1/\Lim wr (some ⟨w.heap.size,0,none⟩) j (k+q+1) 18446744073709551616 (x*2 ^ n)/\w'=wr):=by
    refine (trim57 _ _ _ zs wr hrow).mono ?_
    rintro e w' ⟨j,rfl,hj,hz,ht,rfl⟩
    refine ⟨j,rfl,hj,?_,rfl⟩
    have:=trim_out hrow hU.out.lt hj hz ht
    rw [fin.out] at this
    exact this
   clear hrow hown
   go_wp2_with (go_at_call 222;with_reducible refine HT.out.mono ?_;rintro e w' ⟨j,rfl,hj,hl,rfl⟩)
   go_ret
   exact ⟨_,_,_,rfl,hj,hl,hg.out⟩
theorem hide {p:Prop} (h:p):Hid p:=h
theorem owns_take {w:World} {B:Nat} {e:TypeId} {g N cap:Nat} {xs:List Value} (h:w.ownsRow B e 1 (.slice (some ⟨g,0,none⟩) N cap) N xs) {k:Nat} (hk:k<=N):w.ownsRow B e 1 (.slice (some ⟨g,0,none⟩) k cap) k (xs.take k):=by
 have hl:=h.1
 refine ⟨by rw [List.length_take];omega,?_⟩
 rcases h.2 with ⟨h1,_⟩ | ⟨g',cap',cur,h1,h2,h3,h4,h5,h6,h7⟩
 ·cases h1
 ·injection h1 with e1 e2 e3
  injection e1 with e1
  injection e1 with e1
  subst e1
  subst e3
  refine Or.inr ⟨_,_,cur,rfl,h2,h3,by omega,h5,h6,?_⟩
  rw [<-h7,List.take_take,Nat.mul_one,Nat.mul_one,Nat.min_eq_left hk]
theorem owns_low {w:World} {B B':Nat} {e:TypeId} {size:Nat} {v:Value} {n:Nat} {xs:List Value} (h:w.ownsRow B e size v n xs) (hb:B'<=B):w.ownsRow B' e size v n xs:=by
 refine ⟨h.1,?_⟩
 rcases h.2 with h2 | ⟨g,cap,cur,e1,h3,h4⟩
 ·exact Or.inl h2
 ·exact Or.inr ⟨g,cap,cur,e1,Nat.le_trans hb h3,h4⟩
theorem owns_far {w:World} {B:Nat} {e:TypeId} {size:Nat} {v:Value} {n:Nat} {xs:List Value} (h:w.ownsRow B e size v n xs) {b:Nat} (hb:v.ownBlock≠some b) (i:Nat) (u:Value):(w.setCell ⟨b,i,none⟩ u).ownsRow B e size v n xs:=by
 refine ⟨h.1,?_⟩
 rcases h.2 with h2 | ⟨g,cap,cur,e1,h3,h4,h5⟩
 ·exact Or.inl h2
 ·refine Or.inr ⟨g,cap,cur,e1,h3,?_,h5⟩
  rw [<-h4]
  have:b≠g:=fun e=>hb (by rw [e1,e];rfl)
  simp only [World.setCell,Array.getElem?_modify,if_neg this]
def Fresh (B:Nat) (w:World) (ad:Option Addr) (n cap:Nat):Prop:=∃ xs,w.ownsRow B 85 1 (.slice ad n cap) n (u64s xs)
theorem Fresh.nil (B:Nat) (w:World):Fresh B w none 0 0:=⟨[],World.ownsRow_nil _ _ _ _⟩
theorem Fresh.take {w:World} {B g N cap:Nat} {xs:List Nat} (h:w.ownsRow B 85 1 (.slice (some ⟨g,0,none⟩) N cap) N (u64s xs)) {k:Nat} (hk:k<=N):Fresh B w (some ⟨g,0,none⟩) k cap:=
 ⟨xs.take k,by have:=owns_take h hk;rwa [show (u64s xs).take k=u64s (xs.take k) by simp [u64s,List.map_take]] at this⟩
theorem Fresh.gr {B:Nat} {w w':World} {ad:Option Addr} {n cap:Nat} (h:Fresh B w ad n cap) (g:Gr w w'):Fresh B w' ad n cap:=by
 obtain ⟨xs,h⟩:=h
 exact ⟨xs,g.owns h⟩
theorem Fresh.low {B B':Nat} {w:World} {ad:Option Addr} {n cap:Nat} (h:Fresh B w ad n cap) (hb:B'<=B):Fresh B' w ad n cap:=by
 obtain ⟨xs,h⟩:=h
 exact ⟨xs,owns_low h hb⟩
theorem Fresh.set3 {B:Nat} {w:World} {ad:Option Addr} {n cap:Nat} (h:Fresh B w ad n cap) {B2:Nat} (hb:∀ a,ad=some a->a.block≠B2) (v0 v1 v2:Value):Fresh B (((w.setCell ⟨B2,0,none⟩ v0).setCell ⟨B2,1,none⟩ v1).setCell ⟨B2,2,none⟩ v2) ad n cap:=by
 obtain ⟨xs,h⟩:=h
 have hne:(Value.slice ad n cap).ownBlock≠some B2:=by
  cases ad with
  | none=>simp [Value.ownBlock]
  | some a=>exact fun e=>hb a rfl (by simpa [Value.ownBlock] using e)
 exact ⟨xs,owns_far (owns_far (owns_far h hne _ _) hne _ _) hne _ _⟩
theorem Fresh.ne {B:Nat} {w:World} {ad:Option Addr} {n cap:Nat} (h:Fresh B w ad n cap) {B2:Nat} {cs:Array Value} {T:TypeId} {fr:Nat × Nat} (hb:w.heap[B2]? = some (.cells cs T fr)) (hT:T≠85):∀ a,ad=some a->a.block≠B2:=by
 obtain ⟨xs,h⟩:=h
 intro a ha he
 rcases h.2 with ⟨h1,_⟩ | ⟨g,cap',cur,h1,_,h2,_⟩
 ·injection h1 with h1
  rw [ha] at h1
  cases h1
 ·injection h1 with h1
  rw [ha] at h1
  injection h1 with h1
  subst h1
  simp only at he
  rw [he,hb] at h2
  injection h2 with h2
  injection h2 with _ h2
  exact hT h2
def NewR (B:Nat) (w:World) (r:Ending):Prop:=∃ a ad n cap f g,r = .returned (.tuple #[.agg #[.bool a,.slice ad n cap,.int .i64 f],.int .i64 g])/\Fresh B w ad n cap/\n<=4096
theorem NewR.zero (B:Nat) (w:World) (g:Int):NewR B w (.returned (.tuple #[.agg #[.bool false,.slice none 0 0,.int .i64 0],.int .i64 g])):=⟨_,_,_,_,_,_,rfl,Fresh.nil _ _,by omega⟩
theorem NewR.gr {B:Nat} {w w':World} {r:Ending} (h:NewR B w r) (g:Gr w w'):NewR B w' r:=by
 obtain ⟨a,ad,n,cap,f,k,h1,h2,h3⟩:=h
 exact ⟨a,ad,n,cap,f,k,h1,h2.gr g,h3⟩
theorem NewR.low {B B':Nat} {w:World} {r:Ending} (h:NewR B w r) (hb:B'<=B):NewR B' w r:=by
 obtain ⟨a,ad,n,cap,f,k,h1,h2,h3⟩:=h
 exact ⟨a,ad,n,cap,f,k,h1,h2.low hb,h3⟩
theorem NewR.set3 {B:Nat} {w:World} {r:Ending} (h:NewR B w r) {B2:Nat} {cs:Array Value} {T:TypeId} {fr:Nat × Nat} (hb:w.heap[B2]? = some (.cells cs T fr)) (v0 v1 v2:Value) (hT:T≠85):NewR B (((w.setCell ⟨B2,0,none⟩ v0).setCell ⟨B2,1,none⟩ v1).setCell ⟨B2,2,none⟩ v2) r:=by
 obtain ⟨a,ad,n,cap,f,k,h1,h2,h3⟩:=h
 exact ⟨a,ad,n,cap,f,k,h1,h2.set3 (h2.ne hb hT) v0 v1 v2,h3⟩
theorem two64 {r:Nat} (hr:r<64):(18446744073709551616:Nat)=2 ^ r*2 ^ (64-r):=by rw [<-Nat.pow_add,show r+(64-r)=64 by omega]
theorem shl_back {r x:Nat} (hr:r<64):x*2 ^ (64-r) % 18446744073709551616=x % 2 ^ r*2 ^ (64-r):=by
 rw [two64 hr,Nat.mul_mod_mul_right]
theorem dn_val {X x i r:Nat} (hr:r<64):(X+18446744073709551616 ^ (i+1)*x) / 2 ^ r=X / 2 ^ r+18446744073709551616 ^ (i+1)*(x / 2 ^ r)+18446744073709551616 ^ i*(x*2 ^ (64-r) % 18446744073709551616):=by
 rw [shl_back hr]
 have h1:x % 2 ^ r+2 ^ r*(x / 2 ^ r)=x:=Nat.mod_add_div _ _
 have h2:18446744073709551616 ^ (i+1)=2 ^ r*(18446744073709551616 ^ i*2 ^ (64-r)):=by
  rw [Nat.pow_succ]
  conv=>lhs;rhs;rw [two64 hr]
  ac_rfl
 have h3:18446744073709551616 ^ (i+1)*x=2 ^ r*(18446744073709551616 ^ (i+1)*(x / 2 ^ r)+18446744073709551616 ^ i*(x % 2 ^ r*2 ^ (64-r))):=by
  generalize 18446744073709551616 ^ i=B at *
  generalize 18446744073709551616 ^ (i+1)=C at *
  generalize x % 2 ^ r=a at *
  generalize x / 2 ^ r=b at *
  rw [<-h1,Nat.mul_add,Nat.mul_add,Nat.add_comm]
  congr 1
  ·ac_rfl
  ·rw [h2];ac_rfl
 rw [h3,Nat.add_mul_div_left _ _ (Nat.two_pow_pos r),Nat.add_assoc]
structure DnAt (ds zs:List Nat) (k r N:Nat):Prop where
 len:zs.length=N
 lt:∀ x∈zs,x<18446744073709551616
 val:nv 18446744073709551616 zs=nv 18446744073709551616 (ds.take k) / 2 ^ r
 zero:∀ j,k<=j->zs.getD j 0=0
 edge:∀ i,k=i+1->zs.getD i 0<2 ^ (64-r)
theorem DnAt.start {ds:List Nat} {r N:Nat}:DnAt ds (List.replicate N 0) 0 r N:=
 ⟨by simp,(fun x hx=>by rw [List.mem_replicate] at hx;omega),by simp [nv,nv_zeros],(fun j _=>by rw [List.getD_eq_getElem?_getD,List.getElem?_replicate];split <;> rfl),fun i hi=>absurd hi (by omega)⟩
theorem shr_lt' {r x:Nat} (hr:r<64) (hx:x<18446744073709551616):x / 2 ^ r<2 ^ (64-r):=by
 refine Nat.div_lt_of_lt_mul ?_
 rw [<-two64 hr]
 exact hx
theorem DnAt.first {ds zs:List Nat} {r N x:Nat} (h:DnAt ds zs 0 r N) (hr:r<64) (hx:x<18446744073709551616) (hN:0<N) (hxk:x=ds.getD 0 0):DnAt ds (zs.set 0 (x / 2 ^ r)) 1 r N:=by
 have hl:=h.len
 refine ⟨by rw [List.length_set];exact h.len,set_lt h.lt (Nat.lt_of_le_of_lt (Nat.div_le_self _ _) hx),?_,?_,?_⟩
 ·have s1:=nv_set 18446744073709551616 zs 0 (x / 2 ^ r) (by omega)
  rw [h.zero 0 (Nat.le_refl _),Nat.mul_zero,Nat.add_zero] at s1
  rw [s1,h.val,nv_take_succ,<-hxk]
  simp [nv]
 ·intro j hj
  rw [getD_set _ _ _ _ (by omega),if_neg (by omega)]
  exact h.zero j (by omega)
 ·intro i hi
  have:i=0:=by omega
  subst this
  rw [getD_set _ _ _ _ (by omega),if_pos rfl]
  exact shr_lt' hr hx
theorem DnAt.next {ds zs:List Nat} {i r N x o:Nat} (h:DnAt ds zs (i+1) r N) (hr:r<64) (hx:x<18446744073709551616) (hN:i+1<N) (hxk:x=ds.getD (i+1) 0) (ho:o=zs.getD i 0) :
  DnAt ds ((zs.set (i+1) (x / 2 ^ r)).set i (o+x*2 ^ (64-r) % 18446744073709551616)) (i+2) r N:=by
 have hl:=h.len
 have ho1:o<2 ^ (64-r):=ho ▸ h.edge i rfl
 refine ⟨by rw [List.length_set,List.length_set];exact h.len,set_lt (set_lt h.lt (Nat.lt_of_le_of_lt (Nat.div_le_self _ _) hx)) ?_,?_,?_,?_⟩
 ·rw [shl_back hr]
  have h1:(x % 2 ^ r+1)*2 ^ (64-r)<=2 ^ r*2 ^ (64-r):=Nat.mul_le_mul_right _ (Nat.mod_lt _ (Nat.two_pow_pos _))
  rw [<-two64 hr,Nat.add_mul] at h1
  omega
 ·have s1:=nv_set 18446744073709551616 zs (i+1) (x / 2 ^ r) (by omega)
  have s2:=nv_set 18446744073709551616 (zs.set (i+1) (x / 2 ^ r)) i (o+x*2 ^ (64-r) % 18446744073709551616) (by rw [List.length_set];omega)
  rw [h.zero (i+1) (Nat.le_refl _),Nat.mul_zero,Nat.add_zero] at s1
  rw [getD_set _ _ _ _ (by omega),if_neg (by omega),<-ho,s1,h.val,Nat.mul_add] at s2
  have s3:=nv_take_succ 18446744073709551616 ds (i+1)
  rw [<-hxk] at s3
  rw [show i+2=i+1+1 from rfl,s3,dn_val hr]
  omega
 ·intro j hj
  rw [getD_set _ _ _ _ (by rw [List.length_set];omega),if_neg (by omega),getD_set _ _ _ _ (by omega),if_neg (by omega)]
  exact h.zero j (by omega)
 ·intro j hj
  have:j=i+1:=by omega
  subst this
  rw [getD_set _ _ _ _ (by rw [List.length_set];omega),if_neg (by omega),getD_set _ _ _ _ (by omega),if_pos rfl]
  exact shr_lt' hr hx
theorem or_limb' {o x r:Nat} (hr:r<64) (hx:x<18446744073709551616) (ho:o<2 ^ (64-r)):bits .or .u64 (o:Int) (((x*2 ^ (64-r) % 18446744073709551616:Nat)):Int)=((o+x*2 ^ (64-r) % 18446744073709551616:Nat):Int):=by
 have h1:2 ^ (64-r)<=2 ^ 64:=Nat.pow_le_pow_right (by omega) (by omega)
 rw [bits_or_u64_nat _ _ (by omega) (by omega),shl_back hr,or_add ho]
theorem getD_drop (xs:List Nat) (q k:Nat):(xs.drop q).getD k 0=xs.getD (q+k) 0:=by
 rw [List.getD_eq_getElem?_getD,List.getD_eq_getElem?_getD,List.getElem?_drop]
theorem nv_drop {B x:Nat} {xs:List Nat} (h:Dg B x xs) (q:Nat) (hq:q<=xs.length) (hB:0<B):nv B (xs.drop q)=x / B ^ q:=by
 have h1:=nv_append B (xs.take q) (xs.drop q)
 rw [List.take_append_drop,h.1,List.length_take,Nat.min_eq_left hq] at h1
 have h2:=nv_lt B (xs.take q) (fun y hy=>h.2.1 y (List.mem_of_mem_take hy))
 rw [List.length_take,Nat.min_eq_left hq] at h2
 rw [h1,Nat.add_mul_div_left _ _ (Nat.pow_pos hB),Nat.div_eq_of_lt h2,Nat.zero_add]
set_option maxHeartbeats 1600000 in
theorem shiftDown37n (ad:Option Addr) (n1 c1 x n:Nat) (w:World) (hx:Lim w ad n1 c1 18446744073709551616 x) (b1:n1<=1099511627776) (hn:n<=9223372036854775807) :
  Calls Tryz.prog 220 #[.slice ad n1 c1,.int .i64 (n:Int)] w fun e w'=>∃ ad' n' cap',e = .returned (.slice ad' n' cap')/\n'<=n1/\Lim w' ad' n' cap' 18446744073709551616 (x / 2 ^ n)/\Gr w w'/\Fresh w.heap.size w' ad' n' cap':=by
 obtain ⟨xs,rx,dx⟩:=hx
 have RX:Hid (Row w ad n1 c1 xs):=rx
 have DX:Hid (Dg 18446744073709551616 x xs):=dx
 have hle:=rx.le
 have hmax:=rx.max
 obtain ⟨q,hq⟩:∃ q,q=n / 64:=⟨_,rfl⟩
 obtain ⟨r,hr⟩:∃ r,r=n % 64:=⟨_,rfl⟩
 have hr64:r<64:=by omega
 have hnq:n=64*q+r:=by omega
 have eq:(n:Int) / 64=(q:Int):=by omega
 have er:(n:Int) % 64=(r:Int):=by omega
 have HN:Hid (n=64*q+r):=hnq
 clear hq hr hnq rx dx
 by_cases hbig:n1<=q
 ·have fin:Hid (x / 2 ^ n=0):=by
   show _=_
   refine Nat.div_eq_of_lt ?_
   have h1:=DX.out.upper
   rw [RX.out.len,pow64] at h1
   refine Nat.lt_of_lt_of_le h1 (Nat.pow_le_pow_right (by omega) ?_)
   have:=HN.out
   omega
  have hbig':(q:Int)>=(n1:Int):=by omega
  go_enter Tryz.func220,Tryz.ntmps220
  go_wp2_with (simp only [er])
  go_ret
  refine ⟨none,0,0,rfl,by omega,?_,Gr.refl _,Fresh.nil _ _⟩
  rw [fin.out]
  exact ⟨[],Row.empty (by omega) (fun _=>rfl),Dg.nil⟩
 ·obtain ⟨p1,o1,rfl,hp1,hc1⟩:=RX.out.lt (by omega)
  have HC:Hid (∀ w',Gr w w'->∀ j,j<n1->w'.cell? ⟨p1,o1+j,none⟩=some (.int .u64 ((xs.getD j 0:Nat):Int))):=hc1
  clear hc1
  have hbig':¬ (q:Int)>=(n1:Int):=by omega
  go_enter Tryz.func220,Tryz.ntmps220
  go_wp2_with (first | (simp only [er]) | (at_make;refine wpList_made rfl _ _ rfl (n1-q) _ rfl rfl ?_ ?_ ?_;rotate_right;intro w2 hown0 hg2))
  case' refine_1=>omega
  case' refine_2=>omega
  have G2:Hid (Gr w w2):=hg2
  clear hg2
  obtain ⟨N,hN⟩:∃ N,N=n1-q:=⟨_,rfl⟩
  rw [<-hN] at hown0 ⊢
  have hNq:N+q=n1:=by omega
  clear hN
  obtain ⟨ds,hds⟩:∃ ds,ds=xs.drop q:=⟨_,rfl⟩
  have HDS:Hid (ds=xs.drop q):=hds
  clear hds
  go_loopw [27] (fun i wr=>∃ (k:Nat) (zs:List Nat),k<=N/\i = .int .i64 (k:Int)/\wr.ownsRow w.heap.size 85 1 (.slice (some ⟨w.heap.size,0,none⟩) N N) N (u64s zs)/\Hid (DnAt ds zs k r N)/\Hid (Gr w wr)) (fun i _=>N-(intOf i).toNat)
  case atStart=>exact ⟨0,List.replicate N 0,by omega,rfl,hown0,DnAt.start,G2⟩
  case round =>
   obtain ⟨k,zs,hk,rfl,hown,hU,hg⟩:=hrel
   by_cases hlt:k<N
   ·have hcell1:=HC.out wr hg.out (q+k) (by omega)
    rw [<-Nat.add_assoc] at hcell1
    have hcell2:=owns_cell hown k (by omega)
    have hfz2:=hown.frozenAt k
    obtain ⟨xk,hxk⟩:∃ xk,xk=xs.getD (q+k) 0:=⟨_,rfl⟩
    rw [<-hxk] at hcell1
    have bxk:xk<18446744073709551616:=hxk ▸ getD_lt (by omega) DX.out.2.1 (q+k)
    have HX:Hid (xk=ds.getD k 0):=by rw [HDS.out,getD_drop];exact hxk
    have SH:Hid ((xk:Int) / 2 ^ r=((xk / 2 ^ r:Nat):Int)):=by
     show _=_
     rw [Int.natCast_ediv,Int.natCast_pow]
     rfl
    have i1:(k:Int)<(N:Int):=by omega
    clear hxk
    by_cases hk0:k=0
    ·subst hk0
     rw [Nat.add_zero] at hcell1
     go_wp2
     rw [SH.out]
     go_roundw
     case rel=>exact ⟨1,_,by omega,by go_num,owns_set hown 0 (xk / 2 ^ r),hU.out.first hr64 bxk (by omega) HX.out,hg.out.setCell (Nat.le_refl _) _⟩
     case measure=>simp only [intOf];omega
    ·obtain ⟨i,rfl⟩:∃ i,k=i+1:=⟨k-1,by omega⟩
     obtain ⟨ok,hok⟩:∃ ok,ok=zs.getD i 0:=⟨_,rfl⟩
     have HO:Hid (ok=zs.getD i 0):=hok
     have OR:Hid (bits .or .u64 (ok:Int) (IntKind.u64.wrap ((xk:Int)*2 ^ (64-r)))=((ok+xk*2 ^ (64-r) % 18446744073709551616:Nat):Int)):=by
      show _=_
      rw [<-or_limb' hr64 bxk (hok ▸ hU.out.edge i rfl),IntKind.wrap_u64,Int.natCast_emod,Int.natCast_mul,Int.natCast_pow]
      rfl
     clear hok
     go_wp2
     rw [SH.out]
     have hown1:=owns_set hown (i+1) (xk / 2 ^ r)
     have hg1:=hg.out.setCell (p:=⟨w.heap.size,i+1,none⟩) (Nat.le_refl _) (.int .u64 ((xk / 2 ^ r:Nat):Int))
     generalize hwq:wr.setCell ⟨w.heap.size,i+1,none⟩ (.int .u64 ((xk / 2 ^ r:Nat):Int))=wq at *
     clear hown hcell2 hfz2 hcell1
     have hcell3:=owns_cell hown1 i (by omega)
     have hfz3:=hown1.frozenAt i
     rw [getD_set _ _ _ _ (by rw [hU.out.len];omega),if_neg (by omega),<-HO.out] at hcell3
     have G1:Hid (Gr w wq):=hg1
     clear hg1 hg hwq
     have i4:(i:Int)<(N:Int):=by omega
     go_region
     rw [OR.out]
     go_wp2
     go_roundw
     case rel=>exact ⟨i+2,_,by omega,by go_num,owns_set hown1 i (ok+xk*2 ^ (64-r) % 18446744073709551616),hU.out.next hr64 bxk (by omega) HX.out HO.out,(G1.out.setCell (p:=⟨w.heap.size,i,none⟩) (Nat.le_refl _) _).drew⟩
     case measure=>simp only [intOf];omega
   ·have hkm:k=N:=by omega
    subst hkm
    obtain ⟨ad',cap',hEq,hrow⟩:=Row.of_owns hown
    simp only [Value.slice.injEq,true_and] at hEq
    obtain ⟨rfl,rfl⟩:=hEq
    have fin:Hid (nv 18446744073709551616 zs=x / 2 ^ n):=by
     show _=_
     rw [hU.out.val,nv_take_all _ ds _ (by rw [HDS.out,List.length_drop,RX.out.len];omega),HDS.out,nv_drop DX.out q (by rw [RX.out.len];omega) (by omega),HN.out,pow64,Nat.div_div_eq_div_mul,<-Nat.pow_add]
    have HT:Hid (Calls Tryz.prog 222 #[.slice (some ⟨w.heap.size,0,none⟩) k k] wr fun e w'=>∃ j,e = .returned (.slice (some ⟨w.heap.size,0,none⟩) j k)/\j<=k/\Lim wr (some ⟨w.heap.size,0,none⟩) j k 18446744073709551616 (x / 2 ^ n)/\w'=wr):=by
     refine (trim57 _ _ _ zs wr hrow).mono ?_
     rintro e w' ⟨j,rfl,hj,hz,ht,rfl⟩
     refine ⟨j,rfl,hj,?_,rfl⟩
     have:=trim_out hrow hU.out.lt hj hz ht
     rw [fin.out] at this
     exact this
    have OWN:=hide hown
    clear hrow hown
    go_wp2_with (go_at_call 222;with_reducible refine HT.out.mono ?_;rintro e w' ⟨j,rfl,hj,hl,rfl⟩)
    go_ret
    exact ⟨_,_,_,rfl,by omega,hl,hg.out,Fresh.take OWN.out hj⟩
theorem shiftDown37 (ad:Option Addr) (n1 c1 x n:Nat) (w:World) (hx:Lim w ad n1 c1 18446744073709551616 x) (b1:n1<=1099511627776) (hn:n<=9223372036854775807) :
  Calls Tryz.prog 220 #[.slice ad n1 c1,.int .i64 (n:Int)] w fun e w'=>∃ ad' n' cap',e = .returned (.slice ad' n' cap')/\n'<=n1/\Lim w' ad' n' cap' 18446744073709551616 (x / 2 ^ n)/\Gr w w':=
 (shiftDown37n ad n1 c1 x n w hx b1 hn).mono (by rintro e w' ⟨ad',n',cap',h1,h2,h3,h4,_⟩;exact ⟨ad',n',cap',h1,h2,h3,h4⟩)
end Go.Proofs.YtbcocfhfhblhcaaGreatDoor
