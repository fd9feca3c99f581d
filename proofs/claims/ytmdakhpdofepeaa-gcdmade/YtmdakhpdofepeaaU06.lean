import Derived.Test.YtmdakhpdofepeaaU05
import Derived.Test.YtmdakhpdofepeaaU01
import Derived.Test.YtmdakhpdofepeaaU02
import Derived.Orders
namespace Go.Proofs.Ytmdakhpdofepeaa
open Go.RowKit
set_option linter.unusedVariables false
set_option linter.unusedSimpArgs false
theorem any_inv {P:Program} {ops:Array Oper} {Q:Exit->Act->World->Prop} (Inv:Array Bool->Act->World->Prop)
  (step:∀listed a w i,Inv listed a w->i∈Region.ready .any ops listed->wpOp P ops Q i (Inv (listed.setIfInBounds i true)) a w)
  (fin:∀listed a w,Inv listed a w->Region.ready .any ops listed=[]->Q .normal a w) :
  ∀fuel listed a w,listed.toList.count false<=fuel->Inv listed a w->wpAny P .any ops Q fuel listed a w:=by
 intro fuel
 induction fuel with
 | zero =>
  intro listed a w hc hI
  have hr:Region.ready .any ops listed=[]:=by
   refine List.eq_nil_iff_forall_not_mem.2 fun i hi=>?_
   have h1:=(mem_ready.1 hi).1
   have h2:listed.toList.count false=0:=by omega
   rw[List.count_eq_zero] at h2
   rcases Nat.lt_or_ge i listed.size with h'|h'
   ·simp[h'] at h1
    exact h2 (h1 ▸ Array.getElem_mem_toList h')
   ·simp[Array.getD,Nat.not_lt.2 h'] at h1
  exact⟨hr,fin _ _ _ hI hr⟩
 | succ fuel ih =>
  intro listed a w hc hI
  refine⟨fun h=>fin _ _ _ hI h,fun i hi=>wpOp_mono (fun a' w' h'=>ih _ _ _ ?_ h') (step _ _ _ _ hI hi)⟩
  have h1:=(mem_ready.1 hi).1
  rcases Nat.lt_or_ge i listed.size with h'|h'
  ·simp[h'] at h1
   have h2:false∈listed.toList:=h1 ▸ Array.getElem_mem_toList h'
   have h3:=List.count_pos_iff.2 h2
   have h5:i<listed.toList.length:=by simpa using h'
   have h6:listed.toList[i]=false:=by simpa using h1
   have h4:=List.count_set (a:=true) (b:=false) (l:=listed.toList) (i:=i) h5
   rw[h6] at h4
   rw[Array.toList_setIfInBounds,h4,if_pos (by rfl),if_neg (by simp)]
   omega
  ·simp[Array.getD,Nat.not_lt.2 h'] at h1
theorem wpOp_value {P:Program} {ops:Array Oper} {Q:Exit->Act->World->Prop} {i:Nat} {o:Oper} {K:Act->World->Prop} {a:Act} {w w':World} {v:Value} (hi:ops[i]? = some o) (hg:o.guard=none)
  (hr:(execOp a.eval o).run P w = .ok (.value v) w') (h:K (a.put o.dst v) w'):wpOp P ops Q i K a w:=by
 have hw:Region.wanted o (yielded ops a.tmps)=true:=by simp[Region.wanted,hg]
 unfold Go.wpOp
 simp only[hi,hw,if_true,Oper.wp,hr,Oper.upon]
 exact .inl h
theorem wpOp_skip {P:Program} {ops:Array Oper} {Q:Exit->Act->World->Prop} {i:Nat} {o:Oper} {K:Act->World->Prop} {a:Act} {w w':World} (hi:ops[i]? = some o) (hg:o.guard=none)
  (hr:(execOp a.eval o).run P w = .ok .skip w') (h:K (a.put o.dst undef) w'):wpOp P ops Q i K a w:=by
 have hw:Region.wanted o (yielded ops a.tmps)=true:=by simp[Region.wanted,hg]
 unfold Go.wpOp
 simp only[hi,hw,if_true,Oper.wp,hr,Oper.upon]
 exact .inl h
theorem wpOp_call {P:Program} {ops:Array Oper} {Q:Exit->Act->World->Prop} {i:Nat} {o:Oper} {K:Act->World->Prop} {a:Act} {w:World} {f:FuncId} {args:Array Value} (hi:ops[i]? = some o) (hg:o.guard=none)
  (hr:(execOp a.eval o).run P w = .ok (.enter f args) w) (h:Calls P f args w fun e w'=>∃v,e = .returned v/\K (a.put o.dst v) w'):wpOp P ops Q i K a w:=by
 have hw:Region.wanted o (yielded ops a.tmps)=true:=by simp[Region.wanted,hg]
 unfold Go.wpOp
 simp only[hi,hw,if_true,Oper.wp,hr,Oper.upon]
 refine .inl (h.mono ?_)
 rintro e w' ⟨v,rfl,hk⟩
 exact hk
theorem eval_tmp {a:Act} {p:Nat} {v:Value} (h:a.tmps[p]? = some v):a.eval (.tmp p)=v:=by simp[Act.eval,Array.getD_eq_getD_getElem?,h]
theorem run_al {a:Act} {w:World} {l ty:Nat} {ps:String} {af:Array Edge} :
  (execOp a.eval ({dst:=some l,op:=Op.alloc 24,type:=ty,pos:=ps,after:=af,guard:=none}:Oper)).run Try.prog w = .ok (.value (.pointer (some ⟨w.heap.size,0,none⟩))) (w.alloc (.cells #[.bool false,.slice none 0 0] 24)):=by
 first|(go_simp;done)|(go_simp;with_reducible rfl)
theorem run_st {a:Act} {w:World} {p x ty:Nat} {ps:String} {af:Array Edge} {g:Nat} {u0 u1:Value} {t:Bool} {b:Option Addr} {c d:Nat} (hp:a.tmps[p]? = some (.pointer (some ⟨g,0,none⟩))) (hx:a.tmps[x]? = some (.agg #[.bool t,.slice b c d])) (h:w.heap[g]? = some (.cells #[u0,u1] 24)) :
  (execOp a.eval ({dst:=none,op:=Op.store 24 (Operand.tmp p) (Operand.tmp x),type:=ty,pos:=ps,after:=af,guard:=none}:Oper)).run Try.prog w = .ok .skip ((w.setCell ⟨g,0,none⟩ (.bool t)).setCell ⟨g,1,none⟩ (.slice b c d)):=by
 have e:=eval_tmp hp
 have e2:=eval_tmp hx
 have c0:w.cell? ⟨g,0,none⟩=some u0:=by simp[World.cell?,h]
 have c1:w.cell? ⟨g,1,none⟩=some u1:=by simp[World.cell?,h]
 have f0:w.frozen? ⟨g,0,none⟩=false:=by simp[World.frozen?,h]
 have f1:w.frozen? ⟨g,1,none⟩=false:=by simp[World.frozen?,h]
 simp only[execOp,e,e2]
 first|(go_simp;done)|(go_simp;with_reducible rfl)
end Go.Proofs.Ytmdakhpdofepeaa
namespace Go.Proofs.Ytmdakhpdofepeaa
set_option linter.unusedVariables false
theorem dig_out {q r y1 y0 u u0:Nat} (h:q*y1+r=u) (hq:(u*4294967296+u0) / (y1*4294967296+y0)<=q) (hy:0<y1) (hc:q*y0<=4294967296*r+u0):q=(u*4294967296+u0) / (y1*4294967296+y0):=by
 refine Nat.le_antisymm ((Nat.le_div_iff_mul_le (by omega)).2 ?_) hq
 rw[Nat.mul_add,<-Nat.mul_assoc,<-h]
 generalize q*y1=A at *
 generalize q*y0=C at *
 omega
theorem dig_more {q r y1 y0 u u0:Nat} (h:q*y1+r=u) (hy:0<y1) (hlt:u<y1*4294967296+y0) (h0:u0<4294967296) (hc:4294967296<=q\/4294967296*r+u0<q*y0):(u*4294967296+u0) / (y1*4294967296+y0)<q:=by
 refine(Nat.div_lt_iff_lt_mul (by omega)).2 ?_
 rcases hc with hc|hc
 ·have:=Nat.mul_le_mul hc hlt
  generalize q*(y1*4294967296+y0)=A at *
  omega
 ·rw[Nat.mul_add,<-Nat.mul_assoc,<-h]
  generalize q*y1=A at *
  generalize q*y0=C at *
  omega
theorem dig_break {q r y1 y0 u u0:Nat} (h:q*y1+r=u) (hq:(u*4294967296+u0) / (y1*4294967296+y0)<=q) (hy:0<y1) (hb:q<=4294967296) (hr:4294967296<=r) (h0:y0<4294967296):q=(u*4294967296+u0) / (y1*4294967296+y0):=by
 refine dig_out h hq hy ?_
 have:=Nat.mul_le_mul hb (show y0<=4294967295 by omega)
 omega
theorem dig_first {u y1 y0:Nat} (h1:2147483648<=y1) (h0:y0<4294967296) (hu:u<y1*4294967296+y0):u / y1<=4294967297:=by
 have h2:0<y1:=by omega
 have:u / y1<4294967298:=(Nat.div_lt_iff_lt_mul h2).2 (by omega)
 omega
theorem dig_start {u u0 y1 y0:Nat} (h1:0<y1) (h0:u0<4294967296):(u*4294967296+u0) / (y1*4294967296+y0)<=u / y1:=by
 have h2:(u*4294967296+u0) / (y1*4294967296+y0)<=(u*4294967296+u0) / (y1*4294967296):=Nat.div_le_div_left (by omega) (by omega)
 rw[Nat.mul_comm y1 4294967296] at h2 ⊢
 rw[<-Nat.div_div_eq_div_mul,show(u*4294967296+u0) / 4294967296=u by omega] at h2
 exact h2
theorem div_whole {N y s H u1 u0 q1 r1 q0 r0:Nat} (hN:N*2 ^ s=(H*4294967296+u1)*4294967296+u0) (y0:0<y) (h1:q1=(H*4294967296+u1) / (y*2 ^ s)) (h2:r1=(H*4294967296+u1) % (y*2 ^ s)) (h3:q0=(r1*4294967296+u0) / (y*2 ^ s)) (h4:r0=(r1*4294967296+u0) % (y*2 ^ s)) :
  q1*4294967296+q0=N / y/\r0 / 2 ^ s=N % y:=by
 have hs:0<2 ^ s:=Nat.two_pow_pos s
 have hY:0<y*2 ^ s:=Nat.mul_pos y0 hs
 have e1:=Nat.div_add_mod (H*4294967296+u1) (y*2 ^ s)
 have e2:=Nat.div_add_mod (r1*4294967296+u0) (y*2 ^ s)
 rw[<-h1,<-h2] at e1
 rw[<-h3,<-h4] at e2
 have l2:r0<y*2 ^ s:=h4 ▸ Nat.mod_lt _ hY
 have key:N*2 ^ s=((q1*4294967296+q0)*y)*2 ^ s+r0:=by
  rw[hN,<-e1]
  have:(q1*4294967296+q0)*y*2 ^ s=y*2 ^ s*q1*4294967296+y*2 ^ s*q0:=by
   rw[Nat.mul_assoc,Nat.add_mul,Nat.mul_comm q0,Nat.mul_right_comm,Nat.mul_comm q1]
  rw[this]
  generalize y*2 ^ s*q1=A at *
  generalize y*2 ^ s*q0=C at *
  omega
 clear e1 e2 h1 h2 h3 h4 hN
 obtain⟨Q,hQ⟩:∃Q,Q=q1*4294967296+q0:=⟨_,rfl⟩
 rw[<-hQ] at key ⊢
 clear hQ
 have hle:Q*y<=N:=by
  refine Nat.le_of_mul_le_mul_right (c:=2 ^ s) ?_ hs
  omega
 obtain⟨R,rfl⟩:=Nat.exists_eq_add_of_le hle
 have e3:r0=R*2 ^ s:=by rw[Nat.add_mul] at key;omega
 have e4:R<y:=by
  rw[e3] at l2
  exact Nat.lt_of_mul_lt_mul_right l2
 constructor
 ·rw[Nat.mul_comm,Nat.mul_add_div y0,Nat.div_eq_of_lt e4,Nat.add_zero]
 ·rw[e3,Nat.mul_div_cancel _ hs,Nat.mul_comm,Nat.mul_add_mod,Nat.mod_eq_of_lt e4]
theorem norm_lt {y:Nat} (h:y<18446744073709551616) (h0:0<y):y*2 ^ (64-bl y)<18446744073709551616/\9223372036854775808<=y*2 ^ (64-bl y):=by
 have hb:bl y<=64:=bl_le_of_lt h
 have e:(2:Nat) ^ bl y*2 ^ (64-bl y)=18446744073709551616:=by rw[<-Nat.pow_add,show bl y+(64-bl y)=64 by omega]
 have h1:y*2 ^ (64-bl y)<2 ^ bl y*2 ^ (64-bl y):=Nat.mul_lt_mul_of_pos_right (bl_lt y) (Nat.two_pow_pos _)
 have h2:2 ^ bl y*2 ^ (64-bl y)<=2*y*2 ^ (64-bl y):=Nat.mul_le_mul_right _ (bl_le h0)
 rw[Nat.mul_assoc] at h2
 generalize y*2 ^ (64-bl y)=A at *
 generalize 2 ^ bl y*2 ^ (64-bl y)=C at *
 omega
theorem nv_drop_at (B:Nat) {xs:List Nat} {i:Nat} (h:i<xs.length):nv B (xs.drop i)=xs.getD i 0+B*nv B (xs.drop (i+1)):=by
 rw[List.drop_eq_getElem_cons h,nv,List.getD_eq_getElem?_getD,List.getElem?_eq_getElem h]
 rfl
theorem nv_drop_set (B:Nat) {zs:List Nat} {i v:Nat} (h:i<zs.length):nv B ((zs.set i v).drop i)=v+B*nv B (zs.drop (i+1)):=by
 rw[nv_drop_at B (by rw[List.length_set];exact h)]
 congr 1
 ·rw[List.getD_eq_getElem?_getD,List.getElem?_set_self h];rfl
 ·rw[List.drop_set_of_lt (by omega)]
theorem sq_lt {B d r x:Nat} (hr:r<d) (hx:x<B):(r*B+x) / d<B:=by
 refine(Nat.div_lt_iff_lt_mul (by omega)).2 ?_
 have:=Nat.mul_le_mul_right B (show r+1<=d by omega)
 rw[Nat.add_mul,Nat.one_mul,Nat.mul_comm d] at this
 omega
theorem nv_ge (B:Nat) {xs:List Nat} {i:Nat} (h:i<xs.length):B ^ i*xs.getD i 0<=nv B xs:=by
 have h1:=nv_take_succ B xs i
 have h2:=nv_append B (xs.take (i+1)) (xs.drop (i+1))
 rw[List.take_append_drop] at h2
 omega
theorem upper_zero {B m:Nat} (hB:0<B) {xs:List Nat} (h:nv B xs<B ^ m) (i:Nat) (hi:m<=i):xs.getD i 0=0:=by
 by_cases hl:i<xs.length
 ·refine Nat.eq_zero_of_not_pos fun hp=>?_
  have h1:=nv_ge B hl
  have h2:B ^ m<=B ^ i:=Nat.pow_le_pow_right hB hi
  have h3:B ^ i*1<=B ^ i*xs.getD i 0:=Nat.mul_le_mul_left _ hp
  omega
 ·rw[List.getD_eq_getElem?_getD,List.getElem?_eq_none (by omega)];rfl
theorem upper_lt {B m:Nat} {xs:List Nat} (hx:∀x∈xs,x<B) (h:∀i,m<=i->xs.getD i 0=0) (hm:m<=xs.length):nv B xs<B ^ m:=by
 rw[<-nv_take_zeros B xs m (fun i h1 _=>h i h1)]
 have:=nv_lt B (xs.take m) (fun x hx'=>hx x (List.mem_of_mem_take hx'))
 rwa [List.length_take,Nat.min_eq_left hm] at this
theorem three_le {B P U V a b:Nat} (hP:0<P) (hU:U<(a+1)*P) (hV:b*P<=V) (hb:0<b):U / V<=a / b:=by
 have hV0:0<V:=Nat.lt_of_lt_of_le (Nat.mul_pos hb hP) hV
 refine Nat.le_of_lt_succ ((Nat.div_lt_iff_lt_mul hV0).2 ?_)
 have h1:a<(a / b+1)*b:=by
  have:=Nat.lt_div_mul_add (a:=a) hb
  rw[Nat.add_mul,Nat.one_mul];exact this
 have h2:(a+1)*P<=(a / b+1)*b*P:=Nat.mul_le_mul_right _ h1
 rw[Nat.mul_assoc] at h2
 have h3:(a / b+1)*(b*P)<=(a / b+1)*V:=Nat.mul_le_mul_left _ hV
 exact Nat.lt_of_lt_of_le hU (Nat.le_trans h2 h3)
theorem limb_done {P R0 V x Z:Nat} (hP:0<P) (hV:0<V) (h:Z+P*(x*V)=R0) (hx:R0 / P / V<=x):x=R0 / P / V/\Z<P*V:=by
 have h1:x*V<=R0 / P:=(Nat.le_div_iff_mul_le hP).2 (by rw[Nat.mul_comm];omega)
 have h2:x<=R0 / P / V:=(Nat.le_div_iff_mul_le hV).2 h1
 have h3:x=R0 / P / V:=Nat.le_antisymm h2 hx
 refine⟨h3,?_⟩
 have h4:R0 / P<(x+1)*V:=by
  have:=Nat.lt_div_mul_add (a:=R0 / P) hV
  rw[<-h3] at this
  rw[Nat.add_mul,Nat.one_mul];exact this
 have h5:R0<P*((x+1)*V):=by
  have:=Nat.lt_div_mul_add (a:=R0) hP
  have h6:P*(R0 / P+1)<=P*((x+1)*V):=Nat.mul_le_mul_left _ h4
  rw[Nat.mul_add,Nat.mul_one,Nat.mul_comm P (R0 / P)] at h6
  omega
 rw[Nat.add_mul,Nat.one_mul,Nat.mul_add] at h5
 omega
theorem limb_less {P Q R0 V x Z:Nat} (hP:0<P) (hV:0<V) (hZ:Z<Q) (h:Z+P*(x*V)=R0+Q):R0 / P / V<x:=by
 refine(Nat.div_lt_iff_lt_mul hV).2 ((Nat.div_lt_iff_lt_mul hP).2 ?_)
 rw[Nat.mul_comm (x*V)]
 omega
end Go.Proofs.Ytmdakhpdofepeaa
namespace Go.Proofs.Ytmdakhpdofepeaa
open Go.RowKit
set_option linter.unusedVariables false
theorem inner_step {zs zs' ys:List Nat} {k j c x y o s P:Nat} (hj:k+j<zs.length) (h:nv 18446744073709551616 zs+18446744073709551616 ^ (k+j)*c=P+18446744073709551616 ^ k*(x*nv 18446744073709551616 (ys.take j))) (ho:o=zs.getD (k+j) 0) (hy:y=ys.getD j 0) (hs:s=x*y+o+c) (hz:zs'=zs.set (k+j) (s % 18446744073709551616)) :
  nv 18446744073709551616 zs'+18446744073709551616 ^ (k+(j+1))*(s / 18446744073709551616)=P+18446744073709551616 ^ k*(x*nv 18446744073709551616 (ys.take (j+1))):=by
 have h1:=nv_set 18446744073709551616 zs (k+j) (s % 18446744073709551616) hj
 rw[<-hz,<-ho,hs] at h1
 have h2:=mul_step h h1
 rw[<-Nat.add_assoc,Nat.pow_succ,hs,h2,nv_take_succ,<-hy,Nat.mul_add,Nat.mul_add,Nat.pow_add,<-Nat.add_assoc]
 congr 1
 ac_rfl
structure MulAt (ys zs zs0:List Nat) (k j x c N:Nat):Prop where
 len:zs.length=N
 lt:∀x∈zs,x<18446744073709551616
 val:nv 18446744073709551616 zs+18446744073709551616 ^ (k+j)*c=nv 18446744073709551616 zs0+18446744073709551616 ^ k*(x*nv 18446744073709551616 (ys.take j))
 rest:∀i,k+j<=i->zs.getD i 0=zs0.getD i 0
theorem MulAt.next {ys zs zs0:List Nat} {k j x c N y o:Nat} (h:MulAt ys zs zs0 k j x c N) (hj:k+j<N) (ho:o=zs.getD (k+j) 0) (hy:y=ys.getD j 0) :
  MulAt ys (zs.set (k+j) ((x*y+o+c) % 18446744073709551616)) zs0 k (j+1) x ((x*y+o+c) / 18446744073709551616) N:=by
 have hl:=h.len
 refine⟨by rw[List.length_set];exact hl,set_lt h.lt (Nat.mod_lt _ (by omega)),inner_step (by omega) h.val ho hy rfl rfl,?_⟩
 intro i hi
 rw[getD_set _ _ _ _ (by omega),if_neg (by omega)]
 exact h.rest i (by omega)
theorem prod_le {x y:Nat} (hx:x<18446744073709551616) (hy:y<18446744073709551616):x*y<=340282366920938463426481119284349108225:=by
 have:=Nat.mul_le_mul (show x<=18446744073709551615 by omega) (show y<=18446744073709551615 by omega)
 omega
structure TimAt (xs zs:List Nat) (k n2 Y N:Nat):Prop where
 len:zs.length=N
 lt:∀x∈zs,x<18446744073709551616
 val:nv 18446744073709551616 zs=nv 18446744073709551616 (xs.take k)*Y
 zero:∀j,k+n2<=j->zs.getD j 0=0
theorem TimAt.start {xs:List Nat} {n2 Y N:Nat}:TimAt xs (List.replicate N 0) 0 n2 Y N:=
 ⟨by simp,(fun x hx=>by rw[List.mem_replicate] at hx;omega),by simp[nv,nv_zeros],(fun j _=>by rw[List.getD_eq_getElem?_getD,List.getElem?_replicate];split <;> rfl)⟩
theorem TimAt.next {xs ys zs zs0:List Nat} {k n2 Y N x c:Nat} (h:TimAt xs zs0 k n2 Y N) (m:MulAt ys zs zs0 k n2 x c N) (hk:k+n2<N) (dy:Dg 18446744073709551616 Y ys) (hn:ys.length=n2) (hx:x=xs.getD k 0) (hc:c<18446744073709551616) :
  TimAt xs (zs.set (k+n2) c) (k+1) n2 Y N:=by
 have hl:=m.len
 refine⟨by rw[List.length_set];exact hl,set_lt m.lt hc,?_,?_⟩
 ·have h1:=nv_set 18446744073709551616 zs (k+n2) c (by omega)
  rw[m.rest _ (Nat.le_refl _),h.zero _ (Nat.le_refl _),Nat.mul_zero,Nat.add_zero,m.val,h.val,nv_take_all _ ys _ (by omega),dy.1] at h1
  rw[h1,nv_take_succ,Nat.add_mul,<-hx,Nat.mul_assoc]
 ·intro j hj
  rw[getD_set _ _ _ _ (by omega),if_neg (by omega),m.rest j (by omega)]
  exact h.zero j (by omega)
structure Gx (g:Nat) (w w':World):Prop where
 os:w'.os=w.os
 output:w'.output=w.output
 size:w.heap.size<=w'.heap.size
 block:∀k,k<w.heap.size->k≠g->w'.heap[k]? = w.heap[k]?
theorem Gx.refl (g:Nat) (w:World):Gx g w w:=⟨rfl,rfl,Nat.le_refl _,fun _ _ _=>rfl⟩
theorem Gx.trans {g:Nat} {a b c:World} (h:Gx g a b) (k:Gx g b c):Gx g a c:=
 ⟨k.os.trans h.os,k.output.trans h.output,Nat.le_trans h.size k.size,fun i hi hn=>(k.block i (Nat.lt_of_lt_of_le hi h.size) hn).trans (h.block i hi hn)⟩
theorem Gx.of_gr {g:Nat} {w w':World} (h:Gr w w'):Gx g w w':=⟨h.os,h.output,h.size,fun k hk _=>h.block k hk⟩
theorem Gx.setCell {g:Nat} {a w:World} (h:Gx g a w) {p:Addr} (hp:p.block=g) (u:Value):Gx g a (w.setCell p u):=
 ⟨h.os,h.output,by simpa [World.setCell] using h.size,fun k hk hn=>(Below.heap_setCell _ _ _ _ (by omega)).trans (h.block k hk hn)⟩
theorem Gx.owns {g:Nat} {w w':World} (h:Gx g w w') {base:Nat} {e:TypeId} {size:Nat} {f:Nat} {m c:Nat} {n:Nat} {xs:List Value} (hf:f≠g) (ho:w.ownsRow base e size (.slice (some ⟨f,0,none⟩) m c) n xs):w'.ownsRow base e size (.slice (some ⟨f,0,none⟩) m c) n xs:=by
 refine⟨ho.1,?_⟩
 rcases ho.2 with hn|⟨g',cap,cur,e1,hb,hgg,rest⟩
 ·exact .inl hn
 ·refine .inr ⟨g',cap,cur,e1,hb,?_,rest⟩
  have:g'=f:=by
   simp only[Value.slice.injEq,Option.some.injEq,Addr.mk.injEq] at e1
   exact e1.1.1.symm
  rw[h.block g' ?_ (by omega)]
  ·exact hgg
  ·refine Nat.lt_of_not_le fun hle=>?_
   rw[Array.getElem?_eq_none hle] at hgg
   cases hgg
structure TakAt (ys zs zs0:List Nat) (k j x c N:Nat):Prop where
 len:zs.length=N
 lt:∀z∈zs,z<18446744073709551616
 val:nv 18446744073709551616 zs+18446744073709551616 ^ k*(x*nv 18446744073709551616 (ys.take j))=nv 18446744073709551616 zs0+18446744073709551616 ^ (k+j)*c
 rest:∀i,k+j<=i->zs.getD i 0=zs0.getD i 0
theorem tak_step {B P Q Z Z' Z0 A x y o c lo hi new bo:Nat} (h:Z+A=Z0+P*c) (hz:Z'+P*o=Z+P*new) (hn:new+lo=o+B*bo) (hs:x*y+c=lo+B*hi) (hQ:Q=P*B):Z'+(A+P*(x*y))=Z0+Q*(hi+bo):=by
 have h1:P*new+P*lo=P*o+P*(B*bo):=by rw[<-Nat.mul_add,hn,Nat.mul_add]
 have h2:P*(x*y)+P*c=P*lo+P*(B*hi):=by rw[<-Nat.mul_add,hs,Nat.mul_add]
 have h3:Q*(hi+bo)=P*(B*hi)+P*(B*bo):=by rw[hQ,Nat.mul_assoc,Nat.mul_add,Nat.mul_add]
 omega
theorem TakAt.next {ys zs zs0:List Nat} {k j x c N y o lo hi new bo:Nat} (h:TakAt ys zs zs0 k j x c N) (hj:k+j<N) (ho:o=zs.getD (k+j) 0) (hy:y=ys.getD j 0) (hn:new+lo=o+18446744073709551616*bo) (hs:x*y+c=lo+18446744073709551616*hi) (hb:new<18446744073709551616) :
  TakAt ys (zs.set (k+j) new) zs0 k (j+1) x (hi+bo) N:=by
 have hl:=h.len
 refine⟨by rw[List.length_set];exact hl,set_lt h.lt hb,?_,?_⟩
 ·have s1:=nv_set 18446744073709551616 zs (k+j) new (by omega)
  rw[<-ho] at s1
  have:=tak_step h.val s1 hn hs (Q:=18446744073709551616 ^ (k+(j+1))) (by rw[<-Nat.add_assoc,Nat.pow_succ])
  rw[nv_take_succ,<-hy,Nat.mul_add,Nat.mul_add]
  rw[Nat.pow_add,Nat.mul_assoc] at this
  rw[<-this]
  congr 2
  ac_rfl
 ·intro i hi
  rw[getD_set _ _ _ _ (by omega),if_neg (by omega)]
  exact h.rest i (by omega)
theorem TakAt.last {ys zs zs0:List Nat} {k j x c N o new bo:Nat} (h:TakAt ys zs zs0 k j x c N) (hj:k+j<N) (ho:o=zs.getD (k+j) 0) (hn:new+c=o+18446744073709551616*bo) (hl:ys.length<=j) (hb:new<18446744073709551616) :
  (zs.set (k+j) new).length=N/\(∀z∈zs.set (k+j) new,z<18446744073709551616)/\nv 18446744073709551616 (zs.set (k+j) new)+18446744073709551616 ^ k*(x*nv 18446744073709551616 ys)=nv 18446744073709551616 zs0+18446744073709551616 ^ (k+j+1)*bo/\∀i,k+j+1<=i->(zs.set (k+j) new).getD i 0=zs0.getD i 0:=by
 have hz:=h.len
 refine⟨by rw[List.length_set];exact hz,set_lt h.lt hb,?_,?_⟩
 ·have s1:=nv_set 18446744073709551616 zs (k+j) new (by omega)
  rw[<-ho] at s1
  have:=tak_step (x:=0) (y:=0) (lo:=c) (hi:=0) h.val s1 hn (by omega) (Q:=18446744073709551616 ^ (k+j+1)) (by rw[Nat.pow_succ])
  rw[nv_take_all _ _ _ hl,Nat.zero_mul,Nat.mul_zero,Nat.add_zero,Nat.zero_add] at this
  exact this
 ·intro i hi
  rw[getD_set _ _ _ _ (by omega),if_neg (by omega)]
  exact h.rest i (by omega)
structure PutAt (ys zs zs0:List Nat) (k j c N:Nat):Prop where
 len:zs.length=N
 lt:∀z∈zs,z<18446744073709551616
 val:nv 18446744073709551616 zs+18446744073709551616 ^ (k+j)*c=nv 18446744073709551616 zs0+18446744073709551616 ^ k*nv 18446744073709551616 (ys.take j)
 rest:∀i,k+j<=i->zs.getD i 0=zs0.getD i 0
theorem PutAt.next {ys zs zs0:List Nat} {k j c N y o:Nat} (h:PutAt ys zs zs0 k j c N) (hj:k+j<N) (ho:o=zs.getD (k+j) 0) (hy:y=ys.getD j 0) :
  PutAt ys (zs.set (k+j) ((o+y+c) % 18446744073709551616)) zs0 k (j+1) ((o+y+c) / 18446744073709551616) N:=by
 have hl:=h.len
 refine⟨by rw[List.length_set];exact hl,set_lt h.lt (Nat.mod_lt _ (by omega)),?_,?_⟩
 ·have s1:=nv_set 18446744073709551616 zs (k+j) ((o+y+c) % 18446744073709551616) (by omega)
  rw[<-ho] at s1
  have h1:=mul_step (B:=18446744073709551616) (x:=y) (y:=1) (o:=o) (c:=c) h.val (by rw[Nat.mul_one,Nat.add_comm y o];exact s1)
  rw[Nat.mul_one,Nat.add_comm y o] at h1
  rw[<-Nat.add_assoc,Nat.pow_succ,h1,nv_take_succ,<-hy,Nat.mul_add,Nat.pow_add,<-Nat.add_assoc,Nat.mul_assoc]
 ·intro i hi
  rw[getD_set _ _ _ _ (by omega),if_neg (by omega)]
  exact h.rest i (by omega)
theorem PutAt.start {ys zs:List Nat} {k N:Nat} (hl:zs.length=N) (h:∀z∈zs,z<18446744073709551616):PutAt ys zs zs k 0 0 N:=⟨hl,h,by simp[nv],fun _ _=>rfl⟩
theorem TakAt.start {ys zs:List Nat} {k x N:Nat} (hl:zs.length=N) (h:∀z∈zs,z<18446744073709551616):TakAt ys zs zs k 0 x 0 N:=⟨hl,h,by simp[nv],fun _ _=>rfl⟩
end Go.Proofs.Ytmdakhpdofepeaa
namespace Go.Proofs.Ytmdakhpdofepeaa.Gd
set_option linter.unusedVariables false
structure Pr (A B t r0 u0 v0 r1 u1 v1:Int):Prop where
 sg:t=1\/t = -1
 pA:0<=A
 pB:0<=B
 e0:r0=t*(u0*A-v0*B)
 e1:r1=t*(v1*B-u1*A)
 det:u0*v1-v0*u1=t
 n0:0<=r0
 n1:0<=r1
 m0:0<=u0
 m1:0<=v0
 m2:0<=u1
 m3:0<=v1
 ord:r1<r0\/(t=1/\u0=1/\v0=0/\u1=0/\v1=1)
 fin:r1=0->B≠0->u0<u1/\(u0=0\/v0<=v1)
theorem tt {t:Int} (h:t=1\/t = -1):t*t=1:=by rcases h with rfl|rfl <;> rfl
theorem Pr.start {A B:Int} (hA:0<=A) (hB:0<=B):Pr A B 1 A 1 0 B 0 1:=
 ⟨Or.inl rfl,hA,hB,by omega,by omega,by decide,hA,hB,by decide,by decide,by decide,by decide,Or.inr ⟨rfl,rfl,rfl,rfl,rfl⟩,fun h h2=>absurd h h2⟩
theorem Pr.idB {A B t r0 u0 v0 r1 u1 v1:Int} (h:Pr A B t r0 u0 v0 r1 u1 v1):r0*u1+r1*u0=B:=by
 have h1:=tt h.sg
 have e0:=h.e0
 have e1:=h.e1
 have d:=h.det
 grind
theorem Pr.idA {A B t r0 u0 v0 r1 u1 v1:Int} (h:Pr A B t r0 u0 v0 r1 u1 v1):r0*v1+r1*v0=A:=by
 have h1:=tt h.sg
 have e0:=h.e0
 have e1:=h.e1
 have d:=h.det
 grind
theorem le_of_mul {r u s v B:Int} (h:r*u+s*v=B) (hr:1<=r) (hu:0<=u) (hs:0<=s) (hv:0<=v):u<=B:=by
 have h1:0<=s*v:=Int.mul_nonneg hs hv
 have h2:1*u<=r*u:=Int.mul_le_mul_of_nonneg_right hr hu
 omega
theorem Pr.mod {A B t r0 u0 v0 r1 u1 v1:Int} (h:Pr A B t r0 u0 v0 r1 u1 v1) (h1:0<r1):Pr A B (-t) r1 u1 v1 (r0-r0 / r1*r1) (u0+r0 / r1*u1) (v0+r0 / r1*v1):=by
 have ht:=tt h.sg
 have hq:0<=r0 / r1:=Int.ediv_nonneg h.n0 (by omega)
 have hm:r0-r0 / r1*r1=r0 % r1:=by have:=Int.mul_ediv_add_emod r0 r1;rw[Int.mul_comm] at this;omega
 have hm0:=Int.emod_nonneg r0 (show r1≠0 by omega)
 have hm1:=Int.emod_lt_of_pos r0 h1
 rw[<-hm] at hm0 hm1
 have e0:=h.e0
 have e1:=h.e1
 have d:=h.det
 have q1:0<=r0 / r1*u1:=Int.mul_nonneg hq h.m2
 have q2:0<=r0 / r1*v1:=Int.mul_nonneg hq h.m3
 have hf:r0-r0 / r1*r1=0->(1<=r0 / r1/\(2<=r0 / r1\/(t=1/\u0=1/\v0=0/\u1=0/\v1=1)))\/r0=0:=by
  intro hz
  by_cases hr:r0=0
  ·exact Or.inr hr
  have hn:=h.n0
  have a1:1<=r0 / r1:=by
   refine Int.not_lt.1 fun hlt=>?_
   have:r0 / r1=0:=by omega
   rw[this] at hz
   omega
  refine Or.inl ⟨a1,?_⟩
  rcases h.ord with ho|ho
  ·left
   refine Int.not_lt.1 fun hlt=>?_
   have:r0 / r1=1:=by omega
   rw[this] at hz
   omega
  ·exact Or.inr ho
 generalize r0 / r1=q at *
 refine⟨by rcases h.sg with rfl|rfl <;> simp,h.pA,h.pB,by grind,by grind,by grind,h.n1,hm0,h.m2,h.m3,by have:=h.m0;omega,by have:=h.m1;omega,Or.inl hm1,fun hz hB=>?_⟩
 rcases hf hz with ⟨a1,a2⟩|a0
 ·have c2:v1<=v0+q*v1:=by
   have:1*v1<=q*v1:=Int.mul_le_mul_of_nonneg_right a1 h.m3
   have:=h.m1
   omega
  refine⟨?_,Or.inr c2⟩
  rcases a2 with a2|⟨_,a3,_,a4,_⟩
  ·have:2*u1<=q*u1:=Int.mul_le_mul_of_nonneg_right a2 h.m2
   have:=h.m0
   have:=h.m2
   by_cases hu:u1=0
   ·subst hu
    have:u0≠0:=by
     rintro rfl
     have:=h.sg
     simp at d
     omega
    omega
   ·omega
  ·subst a3 a4
   omega
 ·rcases h.ord with ho|⟨_,a3,_,a4,_⟩
  ·have:=h.n1;omega
  ·subst a3 a4
   refine⟨by omega,Or.inl rfl⟩
theorem Pr.leap {A B t r0 u0 v0 r1 u1 v1:Int} (h:Pr A B t r0 u0 v0 r1 u1 v1) {a b c d:Int} (ha:0<=a) (hb:0<=b) (hc:0<=c) (hd:0<=d) (hD:a*d=b*c+1) (h1:0<d*r1-c*r0) (h2:d*r1-c*r0<a*r0-b*r1) :
  Pr A B t (a*r0-b*r1) (a*u0+b*u1) (a*v0+b*v1) (d*r1-c*r0) (c*u0+d*u1) (c*v0+d*v1):=by
 have ht:=tt h.sg
 have e0:=h.e0
 have e1:=h.e1
 have dt:=h.det
 have p1:=Int.mul_nonneg ha h.m0
 have p2:=Int.mul_nonneg ha h.m1
 have p3:=Int.mul_nonneg hb h.m2
 have p4:=Int.mul_nonneg hb h.m3
 have p5:=Int.mul_nonneg hc h.m0
 have p6:=Int.mul_nonneg hc h.m1
 have p7:=Int.mul_nonneg hd h.m2
 have p8:=Int.mul_nonneg hd h.m3
 refine⟨h.sg,h.pA,h.pB,by grind,by grind,by grind,by omega,by omega,by omega,by omega,by omega,by omega,Or.inl h2,fun hz=>by omega⟩
theorem leap_less {r0 r1 a b c d:Int} (ha:1<=a) (hc:1<=c) (hD:a*d=b*c+1) (h1:0<d*r1-c*r0) (h2:d*r1-c*r0<a*r0-b*r1):d*r1-c*r0<r1:=by
 have e:r1=c*(a*r0-b*r1)+a*(d*r1-c*r0):=by grind
 generalize d*r1-c*r0=y at *
 generalize a*r0-b*r1=x at *
 have k1:1*x<=c*x:=Int.mul_le_mul_of_nonneg_right hc (by omega)
 have k2:1*y<=a*y:=Int.mul_le_mul_of_nonneg_right ha (by omega)
 omega
theorem Pr.bd {A B t r0 u0 v0 r1 u1 v1:Int} (h:Pr A B t r0 u0 v0 r1 u1 v1) (h0:0<r0):u1<=B/\v1<=A:=
 ⟨le_of_mul h.idB (by omega) h.m2 h.n1 h.m0,le_of_mul h.idA (by omega) h.m3 h.n1 h.m1⟩
theorem Pr.bd0 {A B t r0 u0 v0 r1 u1 v1:Int} (h:Pr A B t r0 u0 v0 r1 u1 v1) (h0:0<r1):u0<=B/\v0<=A:=by
 have h1:=h.idB
 have h2:=h.idA
 rw[Int.add_comm] at h1 h2
 exact⟨le_of_mul h1 (by omega) h.m0 h.n0 h.m2,le_of_mul h2 (by omega) h.m1 h.n0 h.m3⟩
theorem Pr.gcd {A B t r0 u0 v0 u1 v1:Int} (h:Pr A B t r0 u0 v0 0 u1 v1):r0=(Int.gcd A B:Nat):=by
 have e0:=h.e0
 have eA:=h.idA
 have eB:=h.idB
 have h1:r0 ∣ A:=⟨v1,by omega⟩
 have h2:r0 ∣ B:=⟨u1,by omega⟩
 have h3:(Int.gcd A B:Int) ∣ r0:=by
  rw[e0]
  exact Int.dvd_mul_of_dvd_right (Int.dvd_sub (Int.dvd_mul_of_dvd_right (Int.gcd_dvd_left _ _)) (Int.dvd_mul_of_dvd_right (Int.gcd_dvd_right _ _)))
 have h4:r0 ∣ (Int.gcd A B:Int):=Int.dvd_coe_gcd h1 h2
 have n0:=h.n0
 exact Int.dvd_antisymm n0 (by omega) h4 h3
structure Bez (a b g x y:Int):Prop where
 sum:a*x+b*y=g
 lo:0<=x
 hi:x*g<b.natAbs
theorem Pr.bez {A B t g u0 v0 u1 v1:Int} (h:Pr A B t g u0 v0 0 u1 v1) (hB:B≠0) {sa sb:Int} (ha:sa=1\/sa = -1) (hb:sb=1\/sb = -1) {x y:Int}
  (hx:x=if t*sa = -1/\u0≠0 then u1-u0 else u0) (hy:y=if t*sa = -1/\u0≠0 then sb*t*(v1-v0) else -(sb*t*v0)):Bez (sa*A) (sb*B) g x y:=by
 have e0:=h.e0
 have eA:=h.idA
 have eB:=h.idB
 obtain⟨f1,f2⟩:=h.fin rfl hB
 have ht:=h.sg
 have pB:=h.pB
 have hg:0<g:=by
  have:=h.n0
  rcases Int.lt_or_eq_of_le this with h9|h9
  ·exact h9
  ·rw[<-h9] at eB;omega
 have abs:(((sb*B).natAbs:Nat):Int)=B:=by
  rcases hb with rfl|rfl
  ·omega
  ·omega
 have k1:u0*g<B:=by
  have:(u1-u0)*g>=1*g:=Int.mul_le_mul_of_nonneg_right (by omega) (by omega)
  rw[Int.sub_mul] at this
  rw[<-eB,Int.mul_comm g u1]
  omega
 by_cases hc:t*sa = -1/\u0≠0
 ·rw[if_pos hc] at hx hy
  obtain⟨c1,c2⟩:=hc
  have m0:=h.m0
  refine⟨?_,by omega,?_⟩
  ·subst hx hy
   have hh:=tt hb
   have hh2:=tt ha
   have hh3:=tt ht
   have:sa = -t:=by rcases ha with rfl|rfl <;> rcases ht with rfl|rfl <;> omega
   subst this
   have z:u1*A=v1*B:=by rw[<-eA,<-eB];grind
   grind
  ·rw[abs,hx]
   have:(u1-u0)*g=u1*g-u0*g:=Int.sub_mul ..
   have e:u1*g=B:=by rw[<-eB];grind
   have:1*g<=u0*g:=Int.mul_le_mul_of_nonneg_right (by omega) (by omega)
   omega
 ·rw[if_neg hc] at hx hy
  refine⟨?_,by rw[hx];exact h.m0,by rw[abs,hx];exact k1⟩
  rw[hx,hy]
  clear hx hy
  have hh:=tt hb
  have hh2:=tt ha
  have hh3:=tt ht
  by_cases hz:u0=0
  ·subst hz
   grind
  ·have:sa=t:=by rcases ha with rfl|rfl <;> rcases ht with rfl|rfl <;> first|rfl|exact absurd ⟨rfl,hz⟩ hc
   subst this
   grind
structure Fs (X Y r0 a b r1 c d:Nat):Prop where
 e0:r0+b*Y=a*X
 e1:r1+c*X=d*Y
 det:a*d=b*c+1
 le:r1<=r0
theorem Fs.start {X Y:Nat} (h:Y<=X):Fs X Y X 1 0 Y 0 1:=⟨by omega,by omega,rfl,h⟩
theorem Fs.idX {X Y r0 a b r1 c d:Nat} (h:Fs X Y r0 a b r1 c d):r0*d+r1*b=X:=by
 have:=h.e0
 have:=h.e1
 have:=h.det
 grind
theorem Fs.idY {X Y r0 a b r1 c d:Nat} (h:Fs X Y r0 a b r1 c d):r0*c+r1*a=Y:=by
 have:=h.e0
 have:=h.e1
 have:=h.det
 grind
structure Fo (X Y r0 a b r1 c d s o p:Nat):Prop where
 lt:s<r1
 e:s+p*Y=o*X
 det:o*d=p*c+1
 idX:r1*p+s*d=X
 idY:r1*o+s*c=Y
 ge:1<=p
 gc:1<=o
theorem Fs.next {X Y r0 a b r1 c d:Nat} (h:Fs X Y r0 a b r1 c d) (h1:0<r1):Fo X Y r0 a b r1 c d (r0 % r1) (a+r0 / r1*c) (b+r0 / r1*d):=by
 have x1:=h.idX
 have x2:=h.idY
 have e0:=h.e0
 have e1:=h.e1
 have dt:=h.det
 have hq:1<=r0 / r1:=(Nat.le_div_iff_mul_le h1).2 (by have:=h.le;omega)
 have hm:=Nat.mod_lt r0 h1
 have hd:=Nat.div_add_mod r0 r1
 generalize r0 / r1=q at *
 generalize r0 % r1=s at *
 have hdp:1<=d:=by
  rcases Nat.eq_zero_or_pos d with rfl|h9
  ·omega
  ·exact h9
 have hap:1<=a:=by
  rcases Nat.eq_zero_or_pos a with rfl|h9
  ·omega
  ·exact h9
 have:=Nat.mul_le_mul hq hdp
 exact⟨hm,by grind,by grind,by grind,by grind,by omega,by omega⟩
theorem fo_bd {X Y r0 a b r1 c d s o p:Nat} (h:Fo X Y r0 a b r1 c d s o p) (h1:0<r1):p<=X/\o<=Y:=by
 have e1:=h.idX
 have e2:=h.idY
 have a1:=Nat.le_mul_of_pos_left p h1
 have a2:=Nat.le_mul_of_pos_left o h1
 exact⟨by omega,by omega⟩
structure Fp (X Y r1 c d s o p s' o' p':Nat):Prop where
 lt:s'<s
 e:s'+o'*X=p'*Y
 det:o*p'=p*o'+1
 idX:s*p'+s'*p=X
 idY:s*o'+s'*o=Y
 ge:o<=o'
 gd:p<=p'
theorem Fo.next {X Y r0 a b r1 c d s o p:Nat} (f:Fs X Y r0 a b r1 c d) (h:Fo X Y r0 a b r1 c d s o p) (h1:0<s):Fp X Y r1 c d s o p (r1 % s) (c+r1 / s*o) (d+r1 / s*p):=by
 have x1:=h.idX
 have x2:=h.idY
 have e0:=h.e
 have e1:=f.e1
 have dt:=h.det
 have hq:1<=r1 / s:=(Nat.le_div_iff_mul_le h1).2 (by have:=h.lt;omega)
 have hm:=Nat.mod_lt r1 h1
 have hd:=Nat.div_add_mod r1 s
 generalize r1 / s=q at *
 generalize r1 % s=s' at *
 have k1:=Nat.mul_le_mul_right o hq
 have k2:=Nat.mul_le_mul_right p hq
 exact⟨hm,by grind,by grind,by grind,by grind,by omega,by omega⟩
theorem fp_bd {X Y r1 c d s o p s' o' p':Nat} (h:Fp X Y r1 c d s o p s' o' p') (h1:0<s):p'<=X/\o'<=Y:=by
 have e1:=h.idX
 have e2:=h.idY
 have a1:=Nat.le_mul_of_pos_left p' h1
 have a2:=Nat.le_mul_of_pos_left o' h1
 exact⟨by omega,by omega⟩
structure Sr (X Y s o p s' o' p':Nat):Prop where
 fs:Fs X Y s o p s' o' p'
 k1:o'<=s'
 k2:p+p'<=s-s'
 g0:1<=o
 g1:1<=p
 g2:1<=o'
 g3:1<=p'
 ge:o<=o'
 gd:p<=p'
theorem sq_lt {p s X:Nat} (h1:p<s) (h2:s*p<=X) (hX:X<18446744073709551616):p<4294967296:=by
 refine Nat.not_le.1 fun hle=>?_
 have:4294967296*4294967296<=s*p:=Nat.mul_le_mul (by omega) hle
 omega
theorem Sr.small {X Y s o p s' o' p':Nat} (h:Sr X Y s o p s' o' p') (hX:X<18446744073709551616) (hY:Y<18446744073709551616):o<4294967296/\p<4294967296/\o'<4294967296/\p'<4294967296:=by
 have x1:=h.fs.idX
 have x2:=h.fs.idY
 have b1:=h.k1
 have b2:=h.k2
 have g0:=h.g0
 have g1:=h.g1
 have g2:=h.g2
 have g3:=h.g3
 have dt:=h.fs.det
 have q2:o'<4294967296:=sq_lt (s:=s) (X:=Y) (by omega) (by omega) hY
 have q3:p'<4294967296:=sq_lt (s:=s) (X:=X) (by omega) (by omega) hX
 have:=h.ge
 have:=h.gd
 exact⟨by omega,by omega,q2,q3⟩
theorem fp_sum {X Y r1 c d s o p s' o' p':Nat} (h:Fp X Y r1 c d s o p s' o' p') (h1:o'<=s') (h2:1<=o'):p+p'<=X:=by
 have e:=h.idX
 have l:=h.lt
 have a1:2*p'<=s*p':=Nat.mul_le_mul_right _ (by omega)
 have a2:1*p<=s'*p:=Nat.mul_le_mul_right _ (by omega)
 omega
theorem sr_of {X Y r0 a b r1 c d s o p s' o' p':Nat} (f:Fo X Y r0 a b r1 c d s o p) (h:Fp X Y r1 c d s o p s' o' p') (k1:o'<=s') (k2:p+p'<=s-s'):Sr X Y s o p s' o' p':=by
 have:=h.ge
 have:=h.gd
 have:=f.ge
 have:=f.gc
 exact⟨⟨h.e |> fun _=>f.e,h.e,h.det,Nat.le_of_lt h.lt⟩,k1,k2,f.gc,f.ge,by omega,by omega,h.ge,h.gd⟩
structure Lp (x y:Int) (o p o' p':Nat):Prop where
 g0:1<=o
 g1:1<=p
 g2:1<=o'
 g3:1<=p'
 s0:o<4294967296
 s1:p<4294967296
 s2:o'<4294967296
 s3:p'<4294967296
 det:(o:Int)*p'=p*o'+1
 lo:0<(p':Int)*y-o'*x
 hi:(p':Int)*y-o'*x<o*x-p*y
theorem Sr.lp {X Y s o p s' o' p':Nat} (h:Sr X Y s o p s' o' p') (hX:X<18446744073709551616) (hY:Y<18446744073709551616) {x y U W xl yl:Nat} (hU:0<U) (e1:x*U=X*W+xl) (e2:y*U=Y*W+yl) (l1:xl<W) (l2:yl<W):Lp x y o p o' p':=by
 obtain⟨s0,s1,s2,s3⟩:=h.small hX hY
 have f0:=h.fs.e0
 have f1:=h.fs.e1
 have dt:=h.fs.det
 have k1:=h.k1
 have k2:=h.k2
 have g0:=h.g0
 have g1:=h.g1
 have g2:=h.g2
 have g3:=h.g3
 have A:o'*(x*U)<p'*(y*U):=by
  rw[e1,e2]
  have b1:o'*xl<o'*W:=Nat.mul_lt_mul_of_pos_left l1 (by omega)
  have b2:o'*W<=s'*W:=Nat.mul_le_mul_right _ k1
  have b3:(s'+o'*X)*W=(p'*Y)*W:=by rw[f1]
  have b4:o'*(X*W+xl)=o'*X*W+o'*xl:=by rw[Nat.mul_add,Nat.mul_assoc]
  have b5:p'*(Y*W+yl)=p'*Y*W+p'*yl:=by rw[Nat.mul_add,Nat.mul_assoc]
  rw[Nat.add_mul] at b3
  omega
 have A2:o'*x<p'*y:=by
  rw[<-Nat.mul_assoc,<-Nat.mul_assoc] at A
  exact Nat.lt_of_mul_lt_mul_right A
 have B:(p+p')*(y*U)<(o+o')*(x*U):=by
  rw[e1,e2]
  have b1:(p+p')*yl<(p+p')*W:=Nat.mul_lt_mul_of_pos_left l2 (by omega)
  have c2:p+p'+s'<=s:=by omega
  have b2:(p+p'+s')*W<=s*W:=Nat.mul_le_mul_right _ c2
  have b3:(s'+o'*X)*W=(p'*Y)*W:=by rw[f1]
  have b6:(s+p*Y)*W=(o*X)*W:=by rw[f0]
  have b4:(p+p')*(Y*W+yl)=p*Y*W+p'*Y*W+(p+p')*yl:=by rw[Nat.mul_add,<-Nat.mul_assoc,Nat.add_mul p p' Y,Nat.add_mul]
  have b5:(o+o')*(X*W+xl)=o*X*W+o'*X*W+(o+o')*xl:=by rw[Nat.mul_add,<-Nat.mul_assoc,Nat.add_mul o o' X,Nat.add_mul]
  rw[Nat.add_mul] at b3 b6 b2
  omega
 have B2:(p+p')*y<(o+o')*x:=by
  rw[<-Nat.mul_assoc,<-Nat.mul_assoc] at B
  exact Nat.lt_of_mul_lt_mul_right B
 have A3:(o':Int)*x<p'*y:=by exact_mod_cast A2
 have B3:((p:Int)+p')*y<(o+o')*x:=by exact_mod_cast B2
 rw[Int.add_mul,Int.add_mul] at B3
 have D3:(o:Int)*p'=p*o'+1:=by exact_mod_cast dt
 exact⟨g0,g1,g2,g3,s0,s1,s2,s3,D3,by omega,by omega⟩
end Go.Proofs.Ytmdakhpdofepeaa.Gd
