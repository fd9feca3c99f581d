import Derived.Test.YtnhekagmdniokaaGreatDoorT01
import Derived.Laws.Bits64b
import Derived.Laws.OwnMore
namespace Go.Proofs.YtnhekagmdniokaaGreatDoor
open Go.RowKit
set_option linter.unusedVariables false
theorem made_u64 (n:Nat):(madeCells (Value.int .u64 0).cells (n*1)).toList=u64s (List.replicate n 0):=by
 rw[Nat.mul_one]
 refine List.ext_getElem (by rw[Array.length_toList,size_madeCells,u64s_length,List.length_replicate]) fun i h1 h2=>?_
 simp[madeCells,u64s,Value.cells,Nat.mod_one]
theorem wpList_made {w:World} {ops:Array Oper} {rest:List Oper} {o:Oper} {a:Act} {Q:Exit->Act->World->Prop} (hgd:o.guard=none) (l c:Operand)
  (hop:o.op=Op.makeSlice 22 l c) (n:Nat) (L:Int) (hl:a.eval l = .int .i64 L) (hc:a.eval c = .int .i64 L) (hL:L=(n:Int)) (hn:n<=4398046511104)
  (hK:∀w',w'.ownsRow w.heap.size 63 1 (.slice (some ⟨w.heap.size,0,none⟩) n n) n (u64s (List.replicate n 0))->Gr w w'->wpList Tryz.prog ops Q rest (a.put o.dst (.slice (some ⟨w.heap.size,0,none⟩) n n)) w') :
  wpList Tryz.prog ops Q (o :: rest) a w:=by
 obtain⟨i0,hi,hz0,hz1,hz2⟩:=info_parts Tryz.info63
 refine wpList_make_full w hgd l c 22 hop w.heap.size 63 i0 (.int .u64 0) 1 Tryz.underlying22 hi hz0 hz1 .i64 .i64 L L n hl hc hL hL (by rw[hz2];omega) (by unfold maxLen;omega) (Nat.le_refl _) ?_
 intro w' hown hgr
 rw[made_u64] at hown
 exact hK w' hown ((Gr.refl w).grown hgr (fun k h=>by cases h))
theorem owns_cell {w:World} {base:Nat} {g N:Nat} {zs:List Nat} (h:w.ownsRow base 63 1 (.slice (some ⟨g,0,none⟩) N N) N (u64s zs)) (j:Nat) (hj:j<N):w.cell? ⟨g,j,none⟩=some (.int .u64 ((zs.getD j 0:Nat):Int)):=by
 have hl:zs.length=N:=by have:=h.1;rw[u64s_length] at this;omega
 rw[h.cellAt j (by omega),u64s_getD (by omega)]
theorem owns_set {w:World} {base:Nat} {g N:Nat} {zs:List Nat} (h:w.ownsRow base 63 1 (.slice (some ⟨g,0,none⟩) N N) N (u64s zs)) (j v:Nat):(w.setCell ⟨g,j,none⟩ (.int .u64 (v:Int))).ownsRow base 63 1 (.slice (some ⟨g,0,none⟩) N N) N (u64s (zs.set j v)):=by
 have:=(h.stored j (.int .u64 (v:Int))).1
 rw[show u64s (zs.set j v)=(u64s zs).set j (.int .u64 (v:Int)) by simp[u64s]]
 exact this
theorem owns_len {w:World} {base:Nat} {g N:Nat} {zs:List Nat} (h:w.ownsRow base 63 1 (.slice (some ⟨g,0,none⟩) N N) N (u64s zs)):zs.length=N:=by
 have:=h.1;rw[u64s_length] at this;omega
theorem or_add {r a b:Nat} (ha:a<2 ^ r):a ||| (b*2 ^ r)=a+b*2 ^ r:=by
 rw[Nat.or_comm,Nat.mul_comm,<-Nat.two_pow_add_eq_or_of_lt ha,Nat.add_comm]
theorem shl_mod {r x:Nat} (hr:r<64) (hx:x<18446744073709551616):x*2 ^ r % 18446744073709551616=x % 2 ^ (64-r)*2 ^ r:=by
 have e:(18446744073709551616:Nat)=2 ^ (64-r)*2 ^ r:=by rw[<-Nat.pow_add,show 64-r+r=64 by omega]
 rw[e,Nat.mul_mod_mul_right]
theorem shl_parts {r x:Nat} (hr:r<64) (hx:x<18446744073709551616):x*2 ^ r % 18446744073709551616+18446744073709551616*(x / 2 ^ (64-r))=x*2 ^ r:=by
 rw[shl_mod hr hx]
 have e:(18446744073709551616:Nat)=2 ^ r*2 ^ (64-r):=by rw[<-Nat.pow_add,show r+(64-r)=64 by omega]
 have h1:x % 2 ^ (64-r)+2 ^ (64-r)*(x / 2 ^ (64-r))=x:=Nat.mod_add_div _ _
 generalize x % 2 ^ (64-r)=a at *
 generalize x / 2 ^ (64-r)=b at *
 rw[<-h1,e,Nat.add_mul]
 congr 1
 ac_rfl
theorem shr_lt {r x:Nat} (hr:r<64) (hx:x<18446744073709551616):x / 2 ^ (64-r)<2 ^ r:=by
 refine Nat.div_lt_of_lt_mul ?_
 rw[<-Nat.pow_add,show 64-r+r=64 by omega]
 exact hx
theorem up_round {xs zs:List Nat} {k q r x o P:Nat} (hr:r<64) (hx:x<18446744073709551616) (hj:k+q+1<zs.length) (hxk:x=xs.getD k 0) (ho:o=zs.getD (k+q) 0) (ho1:o<2 ^ r) (h0:zs.getD (k+q+1) 0=0)
  (h:nv 18446744073709551616 zs=2 ^ (64*q+r)*nv 18446744073709551616 (xs.take k)) :
  nv 18446744073709551616 ((zs.set (k+q) (o+x*2 ^ r % 18446744073709551616)).set (k+q+1) (x / 2 ^ (64-r)))=2 ^ (64*q+r)*nv 18446744073709551616 (xs.take (k+1)):=by
 have e:=shl_parts hr hx
 have e2:2 ^ (64*q+r)*(18446744073709551616 ^ k*x)=18446744073709551616 ^ (k+q)*(x*2 ^ r):=by
  rw[Nat.pow_add 2,<-pow64,Nat.pow_add];ac_rfl
 generalize x*2 ^ r % 18446744073709551616=low at *
 generalize x / 2 ^ (64-r)=high at *
 have s1:=nv_set 18446744073709551616 zs (k+q) (o+low) (by omega)
 have s2:=nv_set 18446744073709551616 (zs.set (k+q) (o+low)) (k+q+1) high (by rw[List.length_set];omega)
 rw[getD_set _ _ _ _ (by omega),if_neg (by omega),h0,Nat.mul_zero,Nat.add_zero] at s2
 rw[<-ho,Nat.mul_add] at s1
 rw[s2,nv_take_succ,<-hxk,Nat.mul_add,<-h,Nat.pow_succ,e2,<-e,Nat.mul_add,Nat.mul_assoc]
 omega
structure UpAt (xs zs:List Nat) (k q r N:Nat):Prop where
 len:zs.length=N
 lt:∀x∈zs,x<18446744073709551616
 val:nv 18446744073709551616 zs=2 ^ (64*q+r)*nv 18446744073709551616 (xs.take k)
 zero:∀j,k+q<j->zs.getD j 0=0
 edge:zs.getD (k+q) 0<2 ^ r
theorem UpAt.start {xs:List Nat} {q r N:Nat}:UpAt xs (List.replicate N 0) 0 q r N:=
 ⟨by simp,(fun x hx=>by rw[List.mem_replicate] at hx;omega),by simp[nv,nv_zeros],(fun j _=>by rw[List.getD_eq_getElem?_getD,List.getElem?_replicate];split <;> rfl),by
  have:(List.replicate N 0).getD (0+q) 0=0:=by rw[List.getD_eq_getElem?_getD,List.getElem?_replicate];split <;> rfl
  rw[this];exact Nat.two_pow_pos r⟩
theorem UpAt.next {xs zs:List Nat} {k q r N x o:Nat} (h:UpAt xs zs k q r N) (hr:r<64) (hx:x<18446744073709551616) (hj:k+q+1<N) (hxk:x=xs.getD k 0) (ho:o=zs.getD (k+q) 0) :
  UpAt xs ((zs.set (k+q) (o+x*2 ^ r % 18446744073709551616)).set (k+q+1) (x / 2 ^ (64-r))) (k+1) q r N:=by
 have ho1:o<2 ^ r:=ho ▸ h.edge
 have hl:=h.len
 refine⟨by rw[List.length_set,List.length_set];exact h.len,set_lt (set_lt h.lt ?_) ?_,?_,?_,?_⟩
 ·rw[shl_mod hr hx]
  have e:(18446744073709551616:Nat)=2 ^ (64-r)*2 ^ r:=by rw[<-Nat.pow_add,show 64-r+r=64 by omega]
  have h1:(x % 2 ^ (64-r)+1)*2 ^ r<=2 ^ (64-r)*2 ^ r:=Nat.mul_le_mul_right _ (Nat.mod_lt _ (Nat.two_pow_pos _))
  rw[<-e,Nat.add_mul] at h1
  omega
 ·exact Nat.lt_of_le_of_lt (Nat.div_le_self _ _) hx
 ·exact up_round (P:=0) hr hx (by omega) hxk ho ho1 (h.zero _ (by omega)) h.val
 ·intro j hjj
  rw[getD_set _ _ _ _ (by rw[List.length_set];omega),if_neg (by omega),getD_set _ _ _ _ (by omega),if_neg (by omega)]
  exact h.zero j (by omega)
 ·rw[show k+1+q=k+q+1 by omega,getD_set _ _ _ _ (by rw[List.length_set];omega),if_pos rfl]
  exact shr_lt hr hx
theorem hide {p:Prop} (h:p):Hid p:=h
theorem owns_take {w:World} {B:Nat} {e:TypeId} {g N cap:Nat} {xs:List Value} (h:w.ownsRow B e 1 (.slice (some ⟨g,0,none⟩) N cap) N xs) {k:Nat} (hk:k<=N):w.ownsRow B e 1 (.slice (some ⟨g,0,none⟩) k cap) k (xs.take k):=by
 have hl:=h.1
 refine⟨by rw[List.length_take];omega,?_⟩
 rcases h.2 with ⟨h1,_⟩|⟨g',cap',cur,h1,h2,h3,h4,h5,h6,h7⟩
 ·cases h1
 ·injection h1 with e1 e2 e3
  injection e1 with e1
  injection e1 with e1
  subst e1
  subst e3
  refine Or.inr ⟨_,_,cur,rfl,h2,h3,by omega,h5,h6,?_⟩
  rw[<-h7,List.take_take,Nat.mul_one,Nat.mul_one,Nat.min_eq_left hk]
theorem owns_low {w:World} {B B':Nat} {e:TypeId} {size:Nat} {v:Value} {n:Nat} {xs:List Value} (h:w.ownsRow B e size v n xs) (hb:B'<=B):w.ownsRow B' e size v n xs:=by
 refine⟨h.1,?_⟩
 rcases h.2 with h2|⟨g,cap,cur,e1,h3,h4⟩
 ·exact Or.inl h2
 ·exact Or.inr ⟨g,cap,cur,e1,Nat.le_trans hb h3,h4⟩
theorem owns_far {w:World} {B:Nat} {e:TypeId} {size:Nat} {v:Value} {n:Nat} {xs:List Value} (h:w.ownsRow B e size v n xs) {b:Nat} (hb:v.ownBlock≠some b) (i:Nat) (u:Value):(w.setCell ⟨b,i,none⟩ u).ownsRow B e size v n xs:=by
 refine⟨h.1,?_⟩
 rcases h.2 with h2|⟨g,cap,cur,e1,h3,h4,h5⟩
 ·exact Or.inl h2
 ·refine Or.inr ⟨g,cap,cur,e1,h3,?_,h5⟩
  rw[<-h4]
  have:b≠g:=fun e=>hb (by rw[e1,e];rfl)
  simp only[World.setCell,Array.getElem?_modify,if_neg this]
def Fresh (B:Nat) (w:World) (ad:Option Addr) (n cap:Nat):Prop:=∃xs,w.ownsRow B 63 1 (.slice ad n cap) n (u64s xs)
theorem Fresh.nil (B:Nat) (w:World):Fresh B w none 0 0:=⟨[],World.ownsRow_nil _ _ _ _⟩
theorem Fresh.take {w:World} {B g N cap:Nat} {xs:List Nat} (h:w.ownsRow B 63 1 (.slice (some ⟨g,0,none⟩) N cap) N (u64s xs)) {k:Nat} (hk:k<=N):Fresh B w (some ⟨g,0,none⟩) k cap:=
 ⟨xs.take k,by have:=owns_take h hk;rwa [show(u64s xs).take k=u64s (xs.take k) by simp[u64s,List.map_take]] at this⟩
theorem Fresh.gr {B:Nat} {w w':World} {ad:Option Addr} {n cap:Nat} (h:Fresh B w ad n cap) (g:Gr w w'):Fresh B w' ad n cap:=by
 obtain⟨xs,h⟩:=h
 exact⟨xs,g.owns h⟩
theorem Fresh.low {B B':Nat} {w:World} {ad:Option Addr} {n cap:Nat} (h:Fresh B w ad n cap) (hb:B'<=B):Fresh B' w ad n cap:=by
 obtain⟨xs,h⟩:=h
 exact⟨xs,owns_low h hb⟩
theorem Fresh.set3 {B:Nat} {w:World} {ad:Option Addr} {n cap:Nat} (h:Fresh B w ad n cap) {B2:Nat} (hb:∀a,ad=some a->a.block≠B2) (v0 v1 v2:Value):Fresh B (((w.setCell ⟨B2,0,none⟩ v0).setCell ⟨B2,1,none⟩ v1).setCell ⟨B2,2,none⟩ v2) ad n cap:=by
 obtain⟨xs,h⟩:=h
 have hne:(Value.slice ad n cap).ownBlock≠some B2:=by
  cases ad with
  | none=>simp[Value.ownBlock]
  | some a=>exact fun e=>hb a rfl (by simpa [Value.ownBlock] using e)
 exact⟨xs,owns_far (owns_far (owns_far h hne _ _) hne _ _) hne _ _⟩
theorem Fresh.ne {B:Nat} {w:World} {ad:Option Addr} {n cap:Nat} (h:Fresh B w ad n cap) {B2:Nat} {cs:Array Value} {T:TypeId} {fr:Nat × Nat} (hb:w.heap[B2]? = some (.cells cs T fr)) (hT:T≠63):∀a,ad=some a->a.block≠B2:=by
 obtain⟨xs,h⟩:=h
 intro a ha he
 rcases h.2 with ⟨h1,_⟩|⟨g,cap',cur,h1,_,h2,_⟩
 ·injection h1 with h1
  rw[ha] at h1
  cases h1
 ·injection h1 with h1
  rw[ha] at h1
  injection h1 with h1
  subst h1
  simp only at he
  rw[he,hb] at h2
  injection h2 with h2
  injection h2 with _ h2
  exact hT h2
def NewR (B:Nat) (w:World) (r:Ending):Prop:=∃a ad n cap f g,r = .returned (.tuple #[.agg #[.bool a,.slice ad n cap,.int .i64 f],.int .i64 g])/\Fresh B w ad n cap/\n<=4096
theorem NewR.zero (B:Nat) (w:World) (g:Int):NewR B w (.returned (.tuple #[.agg #[.bool false,.slice none 0 0,.int .i64 0],.int .i64 g])):=⟨_,_,_,_,_,_,rfl,Fresh.nil _ _,by omega⟩
theorem NewR.gr {B:Nat} {w w':World} {r:Ending} (h:NewR B w r) (g:Gr w w'):NewR B w' r:=by
 obtain⟨a,ad,n,cap,f,k,h1,h2,h3⟩:=h
 exact⟨a,ad,n,cap,f,k,h1,h2.gr g,h3⟩
theorem NewR.low {B B':Nat} {w:World} {r:Ending} (h:NewR B w r) (hb:B'<=B):NewR B' w r:=by
 obtain⟨a,ad,n,cap,f,k,h1,h2,h3⟩:=h
 exact⟨a,ad,n,cap,f,k,h1,h2.low hb,h3⟩
theorem NewR.set3 {B:Nat} {w:World} {r:Ending} (h:NewR B w r) {B2:Nat} {cs:Array Value} {T:TypeId} {fr:Nat × Nat} (hb:w.heap[B2]? = some (.cells cs T fr)) (v0 v1 v2:Value) (hT:T≠63):NewR B (((w.setCell ⟨B2,0,none⟩ v0).setCell ⟨B2,1,none⟩ v1).setCell ⟨B2,2,none⟩ v2) r:=by
 obtain⟨a,ad,n,cap,f,k,h1,h2,h3⟩:=h
 exact⟨a,ad,n,cap,f,k,h1,h2.set3 (h2.ne hb hT) v0 v1 v2,h3⟩
theorem two64 {r:Nat} (hr:r<64):(18446744073709551616:Nat)=2 ^ r*2 ^ (64-r):=by rw[<-Nat.pow_add,show r+(64-r)=64 by omega]
theorem shl_back {r x:Nat} (hr:r<64):x*2 ^ (64-r) % 18446744073709551616=x % 2 ^ r*2 ^ (64-r):=by
 rw[two64 hr,Nat.mul_mod_mul_right]
theorem dn_val {X x i r:Nat} (hr:r<64):(X+18446744073709551616 ^ (i+1)*x) / 2 ^ r=X / 2 ^ r+18446744073709551616 ^ (i+1)*(x / 2 ^ r)+18446744073709551616 ^ i*(x*2 ^ (64-r) % 18446744073709551616):=by
 rw[shl_back hr]
 have h1:x % 2 ^ r+2 ^ r*(x / 2 ^ r)=x:=Nat.mod_add_div _ _
 have h2:18446744073709551616 ^ (i+1)=2 ^ r*(18446744073709551616 ^ i*2 ^ (64-r)):=by
  rw[Nat.pow_succ]
  conv=>lhs;rhs;rw[two64 hr]
  ac_rfl
 have h3:18446744073709551616 ^ (i+1)*x=2 ^ r*(18446744073709551616 ^ (i+1)*(x / 2 ^ r)+18446744073709551616 ^ i*(x % 2 ^ r*2 ^ (64-r))):=by
  generalize 18446744073709551616 ^ i=B at *
  generalize 18446744073709551616 ^ (i+1)=C at *
  generalize x % 2 ^ r=a at *
  generalize x / 2 ^ r=b at *
  rw[<-h1,Nat.mul_add,Nat.mul_add,Nat.add_comm]
  congr 1
  ·ac_rfl
  ·rw[h2];ac_rfl
 rw[h3,Nat.add_mul_div_left _ _ (Nat.two_pow_pos r),Nat.add_assoc]
structure DnAt (ds zs:List Nat) (k r N:Nat):Prop where
 len:zs.length=N
 lt:∀x∈zs,x<18446744073709551616
 val:nv 18446744073709551616 zs=nv 18446744073709551616 (ds.take k) / 2 ^ r
 zero:∀j,k<=j->zs.getD j 0=0
 edge:∀i,k=i+1->zs.getD i 0<2 ^ (64-r)
theorem DnAt.start {ds:List Nat} {r N:Nat}:DnAt ds (List.replicate N 0) 0 r N:=
 ⟨by simp,(fun x hx=>by rw[List.mem_replicate] at hx;omega),by simp[nv,nv_zeros],(fun j _=>by rw[List.getD_eq_getElem?_getD,List.getElem?_replicate];split <;> rfl),fun i hi=>absurd hi (by omega)⟩
theorem shr_lt' {r x:Nat} (hr:r<64) (hx:x<18446744073709551616):x / 2 ^ r<2 ^ (64-r):=by
 refine Nat.div_lt_of_lt_mul ?_
 rw[<-two64 hr]
 exact hx
theorem DnAt.first {ds zs:List Nat} {r N x:Nat} (h:DnAt ds zs 0 r N) (hr:r<64) (hx:x<18446744073709551616) (hN:0<N) (hxk:x=ds.getD 0 0):DnAt ds (zs.set 0 (x / 2 ^ r)) 1 r N:=by
 have hl:=h.len
 refine⟨by rw[List.length_set];exact h.len,set_lt h.lt (Nat.lt_of_le_of_lt (Nat.div_le_self _ _) hx),?_,?_,?_⟩
 ·have s1:=nv_set 18446744073709551616 zs 0 (x / 2 ^ r) (by omega)
  rw[h.zero 0 (Nat.le_refl _),Nat.mul_zero,Nat.add_zero] at s1
  rw[s1,h.val,nv_take_succ,<-hxk]
  simp[nv]
 ·intro j hj
  rw[getD_set _ _ _ _ (by omega),if_neg (by omega)]
  exact h.zero j (by omega)
 ·intro i hi
  have:i=0:=by omega
  subst this
  rw[getD_set _ _ _ _ (by omega),if_pos rfl]
  exact shr_lt' hr hx
theorem DnAt.next {ds zs:List Nat} {i r N x o:Nat} (h:DnAt ds zs (i+1) r N) (hr:r<64) (hx:x<18446744073709551616) (hN:i+1<N) (hxk:x=ds.getD (i+1) 0) (ho:o=zs.getD i 0) :
  DnAt ds ((zs.set (i+1) (x / 2 ^ r)).set i (o+x*2 ^ (64-r) % 18446744073709551616)) (i+2) r N:=by
 have hl:=h.len
 have ho1:o<2 ^ (64-r):=ho ▸ h.edge i rfl
 refine⟨by rw[List.length_set,List.length_set];exact h.len,set_lt (set_lt h.lt (Nat.lt_of_le_of_lt (Nat.div_le_self _ _) hx)) ?_,?_,?_,?_⟩
 ·rw[shl_back hr]
  have h1:(x % 2 ^ r+1)*2 ^ (64-r)<=2 ^ r*2 ^ (64-r):=Nat.mul_le_mul_right _ (Nat.mod_lt _ (Nat.two_pow_pos _))
  rw[<-two64 hr,Nat.add_mul] at h1
  omega
 ·have s1:=nv_set 18446744073709551616 zs (i+1) (x / 2 ^ r) (by omega)
  have s2:=nv_set 18446744073709551616 (zs.set (i+1) (x / 2 ^ r)) i (o+x*2 ^ (64-r) % 18446744073709551616) (by rw[List.length_set];omega)
  rw[h.zero (i+1) (Nat.le_refl _),Nat.mul_zero,Nat.add_zero] at s1
  rw[getD_set _ _ _ _ (by omega),if_neg (by omega),<-ho,s1,h.val,Nat.mul_add] at s2
  have s3:=nv_take_succ 18446744073709551616 ds (i+1)
  rw[<-hxk] at s3
  rw[show i+2=i+1+1 from rfl,s3,dn_val hr]
  omega
 ·intro j hj
  rw[getD_set _ _ _ _ (by rw[List.length_set];omega),if_neg (by omega),getD_set _ _ _ _ (by omega),if_neg (by omega)]
  exact h.zero j (by omega)
 ·intro j hj
  have:j=i+1:=by omega
  subst this
  rw[getD_set _ _ _ _ (by rw[List.length_set];omega),if_neg (by omega),getD_set _ _ _ _ (by omega),if_pos rfl]
  exact shr_lt' hr hx
structure AddAt (xs ys zs:List Nat) (k c N:Nat):Prop where
 len:zs.length=N
 lt:∀x∈zs,x<18446744073709551616
 val:nv 18446744073709551616 zs+18446744073709551616 ^ k*c=nv 18446744073709551616 (xs.take k)+nv 18446744073709551616 (ys.take k)
 zero:∀j,k<=j->zs.getD j 0=0
theorem AddAt.start {xs ys:List Nat} {N:Nat}:AddAt xs ys (List.replicate N 0) 0 0 N:=
 ⟨by simp,(fun x hx=>by rw[List.mem_replicate] at hx;omega),by simp[nv,nv_zeros],(fun j _=>by rw[List.getD_eq_getElem?_getD,List.getElem?_replicate];split <;> rfl)⟩
theorem AddAt.next {xs ys zs:List Nat} {k c N x y:Nat} (h:AddAt xs ys zs k c N) (hk:k<N) (hx:x=xs.getD k 0) (hy:y=ys.getD k 0) :
  AddAt xs ys (zs.set k ((x+y+c) % 18446744073709551616)) (k+1) ((x+y+c) / 18446744073709551616) N:=by
 have hl:=h.len
 refine⟨by rw[List.length_set];exact hl,set_lt h.lt (Nat.mod_lt _ (by omega)),?_,?_⟩
 ·have s1:=nv_set 18446744073709551616 zs k ((x+y+c) % 18446744073709551616) (by omega)
  rw[h.zero k (Nat.le_refl _),Nat.mul_zero,Nat.add_zero] at s1
  rw[s1,nv_take_succ,nv_take_succ,<-hx,<-hy,Nat.pow_succ]
  exact add_step h.val
 ·intro j hj
  rw[getD_set _ _ _ _ (by omega),if_neg (by omega)]
  exact h.zero j (by omega)
structure SubAt (xs ys zs:List Nat) (k b N:Nat):Prop where
 len:zs.length=N
 lt:∀x∈zs,x<18446744073709551616
 val:nv 18446744073709551616 (xs.take k)+18446744073709551616 ^ k*b=nv 18446744073709551616 (ys.take k)+nv 18446744073709551616 zs
 zero:∀j,k<=j->zs.getD j 0=0
theorem SubAt.start {xs ys:List Nat} {N:Nat}:SubAt xs ys (List.replicate N 0) 0 0 N:=
 ⟨by simp,(fun x hx=>by rw[List.mem_replicate] at hx;omega),by simp[nv,nv_zeros],(fun j _=>by rw[List.getD_eq_getElem?_getD,List.getElem?_replicate];split <;> rfl)⟩
theorem SubAt.next {xs ys zs:List Nat} {k b N x y:Nat} (h:SubAt xs ys zs k b N) (hk:k<N) (hx:x=xs.getD k 0) (hy:y=ys.getD k 0) (bx:x<18446744073709551616) (by':y<18446744073709551616) (hb:b<=1) :
  SubAt xs ys (zs.set k ((x+18446744073709551616-y-b) % 18446744073709551616)) (k+1) (if x<y+b then 1 else 0) N:=by
 have hl:=h.len
 refine⟨by rw[List.length_set];exact hl,set_lt h.lt (Nat.mod_lt _ (by omega)),?_,?_⟩
 ·have s1:=nv_set 18446744073709551616 zs k ((x+18446744073709551616-y-b) % 18446744073709551616) (by omega)
  rw[h.zero k (Nat.le_refl _),Nat.mul_zero,Nat.add_zero] at s1
  have e:(if x<y+b then 1 else 0)=1-(x+18446744073709551616-y-b) / 18446744073709551616:=by
   by_cases hlt:x<y+b
   ·rw[if_pos hlt];omega
   ·rw[if_neg hlt];omega
  rw[s1,nv_take_succ,nv_take_succ,<-hx,<-hy,Nat.pow_succ,e]
  exact sub_step h.val (by omega) (by omega)
 ·intro j hj
  rw[getD_set _ _ _ _ (by omega),if_neg (by omega)]
  exact h.zero j (by omega)
theorem sub_fin {x y b n1:Nat} {xs ys zs:List Nat} (dx:Dg 18446744073709551616 x xs) (dy:Dg 18446744073709551616 y ys) (hyx:y<=x) (h1:xs.length=n1) (h:SubAt xs ys zs n1 b n1):nv 18446744073709551616 zs=x-y:=by
 have h2:=dy.len_le (by omega) dx hyx
 have h3:=h.val
 rw[nv_take_all _ xs _ (by omega),nv_take_all _ ys _ (by omega),dx.1,dy.1] at h3
 have h4:=nv_lt 18446744073709551616 zs h.lt
 rw[h.len] at h4
 by_cases hb:b=0
 ·subst hb;omega
 ·have h5:18446744073709551616 ^ n1*1<=18446744073709551616 ^ n1*b:=Nat.mul_le_mul_left _ (by omega)
  omega
theorem inner_step {zs zs' ys:List Nat} {k j c x y o s P:Nat} (hj:k+j<zs.length) (h:nv 18446744073709551616 zs+18446744073709551616 ^ (k+j)*c=P+18446744073709551616 ^ k*(x*nv 18446744073709551616 (ys.take j))) (ho:o=zs.getD (k+j) 0) (hy:y=ys.getD j 0) (hs:s=x*y+o+c) (hz:zs'=zs.set (k+j) (s % 18446744073709551616)) :
  nv 18446744073709551616 zs'+18446744073709551616 ^ (k+(j+1))*(s / 18446744073709551616)=P+18446744073709551616 ^ k*(x*nv 18446744073709551616 (ys.take (j+1))):=by
 have h1:=nv_set 18446744073709551616 zs (k+j) (s % 18446744073709551616) hj
 rw[<-hz,<-ho,hs] at h1
 have h2:=mul_step h h1
 rw[<-Nat.add_assoc,Nat.pow_succ,hs,h2,nv_take_succ,<-hy,Nat.mul_add,Nat.mul_add,Nat.pow_add,<-Nat.add_assoc]
 congr 1
 ac_rfl
structure MulAt (ys zs zs0:List Nat) (k j x c N:Nat):Prop where
 len:zs.length=N
 lt:∀x∈zs,x<18446744073709551616
 val:nv 18446744073709551616 zs+18446744073709551616 ^ (k+j)*c=nv 18446744073709551616 zs0+18446744073709551616 ^ k*(x*nv 18446744073709551616 (ys.take j))
 rest:∀i,k+j<=i->zs.getD i 0=zs0.getD i 0
theorem MulAt.next {ys zs zs0:List Nat} {k j x c N y o:Nat} (h:MulAt ys zs zs0 k j x c N) (hj:k+j<N) (ho:o=zs.getD (k+j) 0) (hy:y=ys.getD j 0) :
  MulAt ys (zs.set (k+j) ((x*y+o+c) % 18446744073709551616)) zs0 k (j+1) x ((x*y+o+c) / 18446744073709551616) N:=by
 have hl:=h.len
 refine⟨by rw[List.length_set];exact hl,set_lt h.lt (Nat.mod_lt _ (by omega)),inner_step (by omega) h.val ho hy rfl rfl,?_⟩
 intro i hi
 rw[getD_set _ _ _ _ (by omega),if_neg (by omega)]
 exact h.rest i (by omega)
theorem prod_le {x y:Nat} (hx:x<18446744073709551616) (hy:y<18446744073709551616):x*y<=340282366920938463426481119284349108225:=by
 have:=Nat.mul_le_mul (show x<=18446744073709551615 by omega) (show y<=18446744073709551615 by omega)
 omega
def OU (w:World) (g N C:Nat) (zs:List Nat):Prop:=w.ownsRow g 63 1 (.slice (some ⟨g,0,none⟩) N C) N (u64s zs)
theorem OU.cell {w:World} {g N C:Nat} {zs:List Nat} (h:OU w g N C zs) (j:Nat) (hj:j<N):w.cell? ⟨g,j,none⟩=some (.int .u64 ((zs.getD j 0:Nat):Int)):=by
 have hl:zs.length=N:=by have:=h.1;rw[u64s_length] at this;omega
 rw[World.ownsRow.cellAt h j (by omega),u64s_getD (by omega)]
theorem OU.set {w:World} {g N C:Nat} {zs:List Nat} (h:OU w g N C zs) (j v:Nat):OU (w.setCell ⟨g,j,none⟩ (.int .u64 (v:Int))) g N C (zs.set j v):=by
 have:=(World.ownsRow.stored h j (.int .u64 (v:Int))).1
 unfold OU
 rw[show u64s (zs.set j v)=(u64s zs).set j (.int .u64 (v:Int)) by simp[u64s]]
 exact this
theorem OU.len {w:World} {g N C:Nat} {zs:List Nat} (h:OU w g N C zs):zs.length=N:=by
 have:=h.1;rw[u64s_length] at this;omega
theorem OU.fz {w:World} {g N C:Nat} {zs:List Nat} (h:OU w g N C zs) (j:Nat):w.frozen? ⟨g,j,none⟩=false:=World.ownsRow.frozenAt h j
structure Gt (g:Nat) (w w':World):Prop where
 os:w'.os=w.os
 output:w'.output=w.output
 size:w.heap.size<=w'.heap.size
 block:∀k,k<w.heap.size->k≠g->w'.heap[k]? = w.heap[k]?
theorem Gt.refl (g:Nat) (w:World):Gt g w w:=⟨rfl,rfl,Nat.le_refl _,fun _ _ _=>rfl⟩
theorem Gt.trans {g:Nat} {a b c:World} (h:Gt g a b) (k:Gt g b c):Gt g a c:=
 ⟨k.os.trans h.os,k.output.trans h.output,Nat.le_trans h.size k.size,fun i hi hn=>(k.block i (Nat.lt_of_lt_of_le hi h.size) hn).trans (h.block i hi hn)⟩
theorem Gt.of_gr {g:Nat} {w w':World} (h:Gr w w'):Gt g w w':=⟨h.os,h.output,h.size,fun k hk _=>h.block k hk⟩
theorem Gt.setCell {g:Nat} {a w:World} (h:Gt g a w) {p:Addr} (hp:p.block=g) (u:Value):Gt g a (w.setCell p u):=
 ⟨h.os,h.output,by simpa [World.setCell] using h.size,fun k hk hn=>(Below.heap_setCell _ _ _ _ (by omega)).trans (h.block k hk hn)⟩
theorem Gt.gr {g:Nat} {a w w':World} (h:Gr a w) (k:Gt g w w') (hg:a.heap.size<=g):Gr a w':=
 ⟨k.os.trans h.os,k.output.trans h.output,Nat.le_trans h.size k.size,fun i hi=>(k.block i (Nat.lt_of_lt_of_le hi h.size) (by omega)).trans (h.block i hi)⟩
theorem Gt.drew {g:Nat} {a w:World} (h:Gt g a w):Gt g a w.drew:=⟨h.os,h.output,h.size,h.block⟩
theorem Gt.drewN {g:Nat} {a w:World} (h:Gt g a w) (n:Nat):Gt g a (w.drewN n):=⟨h.os,h.output,h.size,h.block⟩
theorem Row.gt {g:Nat} {w w':World} {ad:Option Addr} {n cap:Nat} {xs:List Nat} (h:Row w ad n cap xs) (k:Gt g w w') (hne:0<n->∀b,ad=some b->b.block≠g):Row w' ad n cap xs:=by
 refine⟨h.len,h.le,h.max,h.nil,fun hp=>?_⟩
 obtain⟨b,off,e,hb,hc⟩:=h.cells hp
 refine⟨b,off,e,Nat.lt_of_lt_of_le hb k.size,fun j hj=>?_⟩
 rw[World.cell?_of_block (w:=w) (a:=⟨b,off+j,none⟩) (k.block b hb (hne hp _ e))]
 exact hc j hj
theorem OU.gt {f g:Nat} {w w':World} {N C:Nat} {zs:List Nat} (h:OU w f N C zs) (k:Gt g w w') (hne:f≠g):OU w' f N C zs:=by
 refine⟨h.1,?_⟩
 rcases h.2 with hn|⟨g',cap,cur,e1,hb,hgg,rest⟩
 ·exact .inl hn
 ·refine .inr ⟨g',cap,cur,e1,hb,?_,rest⟩
  have:g'=f:=by
   simp only[Value.slice.injEq,Option.some.injEq,Addr.mk.injEq] at e1
   exact e1.1.1.symm
  rw[k.block g' (Array.getElem?_eq_some_iff.1 hgg).1 (by omega)]
  exact hgg
set_option maxHeartbeats 1600000 in
theorem putTimesT (g N C k m2 cp x:Nat) (ad2:Option Addr) (n2 c2:Nat) (ys zs0:List Nat) (w:World) (ry:Row w ad2 n2 c2 ys) (hne:0<n2->∀b,ad2=some b->b.block≠g) (hy:∀x∈ys,x<18446744073709551616) (bx:x<18446744073709551616) (h0:∀z∈zs0,z<18446744073709551616)
  (hkN:k+n2<=N) (hNm:N<=4398046511104) (hm2:n2<=m2) (hcp:m2<=cp) (hcp2:cp<=9223372036854775807) (how:OU w g N C zs0) :
  Calls Tryz.prog 153 #[.slice (some ⟨g,k,none⟩) m2 cp,.slice ad2 n2 c2,.int .u64 (x:Int)] w fun e w'=>∃(c:Nat) (zs:List Nat),e = .returned (.int .u64 (c:Int))/\c<18446744073709551616/\Hid (MulAt ys zs zs0 k n2 x c N)/\Hid (OU w' g N C zs)/\Hid (Gt g w w'):=by
 have RY:Hid (∀w',Gt g w w'->Row w' ad2 n2 c2 ys):=fun w' k=>ry.gt k hne
 have HY:Hid (∀x∈ys,x<18446744073709551616):=hy
 have H0:Hid (∀x∈zs0,x<18446744073709551616):=h0
 have HO:Hid (OU w g N C zs0):=how
 have hl2:=ry.le
 have hm3:=ry.max
 clear ry hy h0 hne how
 go_enter Tryz.func153,Tryz.ntmps153
 go_wp2
 go_loopw [7,19] (fun cr i wr=>∃(j c:Nat) (zs:List Nat),j<=n2/\c<18446744073709551616/\i = .int .i64 (j:Int)/\cr = .int .u64 (c:Int)/\Hid (OU wr g N C zs)/\Hid (MulAt ys zs zs0 k j x c N)/\Hid (Gt g w wr)) (fun _ i _=>n2-(intOf i).toNat)
 case atStart=>exact⟨0,0,zs0,by omega,by omega,rfl,rfl,HO,⟨HO.out.len,H0.out,by simp[nv],fun _ _=>rfl⟩,Gt.refl _ _⟩
 case round =>
  obtain⟨j,c,zs,hj,hc,rfl,rfl,hown,hA,hg⟩:=hrel
  by_cases hlt:j<n2
  ·obtain⟨p2,o2,hp2e,hp2,hc2⟩:=(RY.out wr hg.out).cells (by omega)
   have hcell2:=hc2 j hlt
   have hcell3:=hown.out.cell (k+j) (by omega)
   have hfz:=hown.out.fz (k+j)
   subst hp2e
   obtain⟨yk,hyk⟩:∃yk,yk=ys.getD j 0:=⟨_,rfl⟩
   obtain⟨ok,hok⟩:∃ok,ok=zs.getD (k+j) 0:=⟨_,rfl⟩
   rw[<-hyk] at hcell2
   rw[<-hok] at hcell3
   have byk:yk<18446744073709551616:=hyk ▸ getD_lt (by omega) HY.out j
   have bok:ok<18446744073709551616:=hok ▸ getD_lt (by omega) hA.out.lt (k+j)
   have NX:=hA.out.next (by omega) hok hyk
   have MUL:=fun w=>Tryz.bits_Mul64 yk x byk bx w
   have hm:=prod_le bx byk
   rw[Nat.mul_comm yk x] at MUL
   clear hyk hok hc2
   generalize x*yk=m at *
   obtain⟨hi,hhi⟩:∃hi,hi=m / 18446744073709551616:=⟨_,rfl⟩
   obtain⟨lo,hlo⟩:∃lo,lo=m % 18446744073709551616:=⟨_,rfl⟩
   rw[<-hhi,<-hlo] at MUL
   have M:Hid (∀w1,Calls Tryz.prog 156 #[.int .u64 (yk:Int),.int .u64 (x:Int)] w1 fun e w'=>e = .returned (.tuple #[.int .u64 (hi:Int),.int .u64 (lo:Int)])/\w'=w1):=MUL
   have A1:=fun w=>add64N lo c 0 (by omega) w
   obtain⟨l1,hl1⟩:∃l1,l1=(lo+c+0) % 18446744073709551616:=⟨_,rfl⟩
   obtain⟨m1,hm1⟩:∃m1,m1=(lo+c+0) / 18446744073709551616:=⟨_,rfl⟩
   rw[<-hl1,<-hm1] at A1
   have A1':Hid (∀w,(callFunc 131 #[.int .u64 (lo:Int),.int .u64 (c:Int),.int .u64 0]).run Tryz.prog w = .ok (.value (.tuple #[.int .u64 (l1:Int),.int .u64 (m1:Int)])) w):=A1
   have A2:=fun w=>add64N l1 ok 0 (by omega) w
   obtain⟨l2,hl2'⟩:∃l2,l2=(l1+ok+0) % 18446744073709551616:=⟨_,rfl⟩
   obtain⟨m2',hm2'⟩:∃m2,m2=(l1+ok+0) / 18446744073709551616:=⟨_,rfl⟩
   rw[<-hl2',<-hm2'] at A2
   have A2':Hid (∀w,(callFunc 131 #[.int .u64 (l1:Int),.int .u64 (ok:Int),.int .u64 0]).run Tryz.prog w = .ok (.value (.tuple #[.int .u64 (l2:Int),.int .u64 (m2':Int)])) w):=A2
   have e1:(m+ok+c) % 18446744073709551616=l2:=by omega
   have e2:(m+ok+c) / 18446744073709551616=hi+m1+m2':=by omega
   have b1:hi+m1+m2'<18446744073709551616:=by omega
   rw[e1,e2] at NX
   have NX':Hid (MulAt ys (zs.set (k+j) l2) zs0 k (j+1) x (hi+m1+m2') N):=NX
   clear NX e1 e2 A1 A2 MUL hhi hlo hl1 hm1 hl2' hm2' hm
   have i1:(j:Int)<(n2:Int):=by omega
   go_wp2_with (first|(simp only[A1'.out])|(simp only[A2'.out])|(go_at_call 156;with_reducible refine(M.out _).mono ?_;rintro e w' ⟨rfl,rfl⟩))
   go_roundw
   case rel=>exact⟨j+1,hi+m1+m2',_,by omega,b1,by go_num,by go_num,hown.out.set (k+j) l2,NX',hg.out.setCell rfl _⟩
   case measure=>simp only[intOf];omega
  ·have hk2:j=n2:=by omega
   subst hk2
   go_wp2
   go_ret
   exact⟨c,zs,rfl,hc,hA,hown,hg⟩
end Go.Proofs.YtnhekagmdniokaaGreatDoor
