import Derived.Test.YtfbgckgemfkioaaY03
import Derived.Test.YtfbgckgemfkioaaY04
import Derived.Test.YtfbgckgemfkioaaY02
namespace Go.Proofs.Ytfbgckgemfkioaa
open Go.RowKit Go.Shelf
set_option linter.unusedVariables false
set_option linter.unusedSimpArgs false
theorem trimI (ad:Option Addr) (n cap:Nat) (xs:List Int) (w:World) (h:RI w ad n cap xs) :
  Calls Try.prog 42 #[.slice ad n cap] w fun e w'=>∃k:Nat,e = .returned (.slice ad k cap)/\k<=n/\(∀i,k<=i->i<n->xs.getD i 0=0)/\(k=0\/xs.getD (k-1) 0≠0)/\w'=w:=by
 have h1:=h.le
 have h2:=h.max
 have h3:cap<=9223372036854775807:=by unfold maxLen at h2;omega
 have H:Hid (RI w ad n cap xs):=h
 clear h h2
 go_enter Try.func42,Try.ntmps42
 go_wp2
 go_loop [3] (fun t=>∃k:Nat,k<=n/\t = .int .i64 k/\Hid (∀i,k<=i->i<n->xs.getD i 0=0)) (fun t=>(intOf t).toNat)
 case atStart=>exact⟨n,Nat.le_refl _,rfl,fun i a b=>absurd b (by omega)⟩
 case round =>
  obtain⟨k,hk,rfl,hz⟩:=hrel
  by_cases hk0:k=0
  ·subst hk0
   go_wp2
   go_ret
   exact⟨0,rfl,by omega,hz.out,Or.inl rfl,rfl⟩
  ·cases had:ad with
   | none=>have:=(H.out.nil had).1;omega
   | some b =>
    have hcell:=(H.out.cell b had (k-1) (by omega)).2
    subst had
    by_cases hx:xs.getD (k-1) 0=0
    ·rw[hx] at hcell
     go_wp2
     go_round
     case rel=>exact⟨k-1,by omega,by go_num,fun i a b=>if e:i=k-1 then e ▸ hx else hz.out i (by omega) b⟩
     case measure=>simp[intOf];omega
    ·have HX:Hid (xs.getD (k-1) 0≠0):=hx
     generalize hv:xs.getD (k-1) 0=v at hcell hx
     have hv0:(v==0)=false:=by simpa using hx
     clear hv hx
     go_wp2
     go_ret
     exact⟨k,rfl,hk,hz.out,Or.inr HX.out,rfl⟩
theorem trimU (ad:Option Addr) (n cap:Nat) (xs:List Nat) (w:World) (h:Row w ad n cap xs) :
  Calls Try.prog 48 #[.slice ad n cap] w fun e w'=>∃k,e = .returned (.slice ad k cap)/\k<=n/\(∀i,k<=i->i<n->xs.getD i 0=0)/\(k=0\/xs.getD (k-1) 0≠0)/\w'=w:=by
 have h1:=h.le
 have h2:=h.max
 have H:Hid (Row w ad n cap xs):=h
 clear h
 go_enter Try.func48,Try.ntmps48
 go_wp2
 go_loop [3] (fun t=>∃k:Nat,k<=n/\t = .int .i64 k/\Hid (∀i,k<=i->i<n->xs.getD i 0=0)) (fun t=>(intOf t).toNat)
 case atStart=>exact⟨n,Nat.le_refl _,rfl,fun i a b=>absurd b (by omega)⟩
 case round =>
  obtain⟨k,hk,rfl,hz⟩:=hrel
  by_cases hk0:k=0
  ·subst hk0
   go_wp2
   go_ret
   exact⟨0,rfl,by omega,hz.out,Or.inl rfl,rfl⟩
  ·obtain⟨b,off,rfl,hb,hc⟩:=H.out.cells (by omega)
   have hcell:=hc (k-1) (by omega)
   clear hc
   by_cases hx:xs.getD (k-1) 0=0
   ·rw[hx] at hcell
    go_wp2
    go_round
    case rel=>exact⟨k-1,by omega,by go_num,fun i a b=>if e:i=k-1 then e ▸ hx else hz.out i (by omega) b⟩
    case measure=>simp[intOf];omega
   ·have HX:Hid (xs.getD (k-1) 0≠0):=hx
    generalize hv:xs.getD (k-1) 0=v at hcell hx
    have hv0:(((v:Nat):Int)==0)=false:=by simp;omega
    clear hv hx
    go_wp2
    go_ret
    exact⟨k,rfl,hk,hz.out,Or.inr HX.out,rfl⟩
theorem runC_append (B l:Int) (xs ys:List Int) (c:Int):runC B l (xs++ys) c=runC B l ys (runC B l xs c):=by
 induction xs generalizing c with
 | nil=>rfl
 | cons x xs ih=>exact ih _
theorem cS_half {h c:Int} (hh:2<=h) {t:Nat} (hc:c.natAbs<2 ^ (t+1)):(cS (2*h) (-h) 0 c).natAbs<2 ^ t:=by
 unfold cS
 have e:=Int.emod_add_mul_ediv (0+c - -h) (2*h)
 have h1:=Int.emod_nonneg (0+c - -h) (show 2*h≠0 by omega)
 have h2:=Int.emod_lt_of_pos (0+c - -h) (show 0<2*h by omega)
 generalize (0+c - -h) / (2*h)=q at *
 generalize (0+c - -h) % (2*h)=r at *
 rw[Nat.pow_succ] at hc
 have hp:=Nat.two_pow_pos t
 by_cases hq:0<=q
 ·by_cases h0:q=0
  ·subst h0;simpa using hp
  ·have h6:2*h*1+4*(q-1)<=2*h*q:=by
    have:4*(q-1)<=2*h*(q-1):=Int.mul_le_mul_of_nonneg_right (by omega) (by omega)
    have:2*h*q=2*h*1+2*h*(q-1):=by rw[<-Int.mul_add];congr 1;omega
    omega
   omega
 ·have h4:2*h*1+4*(-q-1)<=2*h*(-q):=by
   have:4*(-q-1)<=2*h*(-q-1):=Int.mul_le_mul_of_nonneg_right (by omega) (by omega)
   have:2*h*(-q)=2*h*1+2*h*(-q-1):=by rw[<-Int.mul_add];congr 1;omega
   omega
  have h5:2*h*(-q) = -(2*h*q):=by rw[Int.mul_neg]
  omega
theorem ends {h:Int} (hh:2<=h):∀(t:Nat) (c:Int),c.natAbs<2 ^ t->∃j,j<=t/\runC (2*h) (-h) (List.replicate j 0) c=0/\∀i,i<j->runC (2*h) (-h) (List.replicate i 0) c≠0/\(cS (2*h) (-h) 0 (runC (2*h) (-h) (List.replicate i 0) c)).natAbs<(runC (2*h) (-h) (List.replicate i 0) c).natAbs:=by
 intro t
 induction t with
 | zero=>intro c hc;exact⟨0,Nat.le_refl _,by simp at hc;subst hc;rfl,fun i hi=>absurd hi (by omega)⟩
 | succ t ih =>
  intro c hc
  by_cases h0:c=0
  ·exact⟨0,by omega,by subst h0;rfl,fun i hi=>absurd hi (by omega)⟩
  ·obtain⟨j,h1,h2,h3⟩:=ih _ (cS_half hh hc)
   refine⟨j+1,by omega,by rw[List.replicate_succ];exact h2,fun i hi=>?_⟩
   cases i with
   | zero=>exact⟨h0,cS_less rfl hh h0⟩
   | succ i=>rw[List.replicate_succ];exact h3 i (by omega)
theorem run_bd {B l:Int} (hB:4<=B) (l1 : -536870912<=l) (l2:l<=0) (vs:List Int) (hv:∀v∈vs,-9223372036854775808<=v/\v<=9223372036854775807) (c:Int) (c1 : -4611686018427387904<=c) (c2:c<=4611686018427387904) : -4611686018427387904<=runC B l vs c/\runC B l vs c<=4611686018427387904:=by
 induction vs generalizing c with
 | nil=>exact⟨c1,c2⟩
 | cons v vs ih =>
  have h0:=hv v (by simp)
  obtain⟨d1,d2⟩:=cS_bd hB l1 l2 h0.1 h0.2 c1 c2
  exact ih (fun x hx=>hv x (by simp[hx])) _ d1 d2
set_option maxHeartbeats 2000000 in
theorem rowC (gf b:Nat) (lb:Array Value) (vs:List Int) (w:World) (h:Int) (hb1:2<=b) (hb2:b<=30) (hB:(2:Int) ^ b=2*h) (hh:2<=h) (hh2:h<=536870912) (hhb:h=2 ^ (b-1)) (eg:∀args w,(callFunc gf args).run Try.prog w = .ok (.enter gf args) w)
  (hseq:∀n₁ w₁,w.heap.size<=n₁->Gr w w₁->SeqQ Try.prog gf lb (fun k=>n₁<=k) 0 vs w₁) (hv:∀v∈vs,-9223372036854775808<=v/\v<=9223372036854775807) (hlen:vs.length<=2199023255552) :
  Calls Try.prog 25 #[.func (.func gf) #[] lb,.int .i64 (b:Int)] w fun e w'=>∃ad k cap ds,e = .returned (.slice ad k cap)/\w'.ownsRow w.heap.size 2 1 (.slice ad k cap) k (iz ds)/\(∀d∈ds,-h<=d/\d<h)/\NT ds/\dv (2*h) ds=dv (2*h) vs/\k<=vs.length+63/\Gr w w':=by
 have hcb:=run_bd (B:=2*h) (l:=-h) (by omega) (by omega) (by omega) vs hv 0 (by omega) (by omega)
 obtain⟨j,hj,hj1,hj2⟩:=ends hh 63 (runC (2*h) (-h) vs 0) (by omega)
 obtain⟨w1,hw1⟩:∃w1,((w.alloc (.cells #[.func (.func gf) #[] lb] 51)).alloc (.cells #[.int .i64 (b:Int)] 3)).alloc (.cells #[.int .i64 (-h)] 2)=w1:=⟨_,rfl⟩
 have G1:Gr w w1:=by rw[<-hw1];exact(((Gr.refl w).alloc _).alloc _).alloc _
 have s1:w1.heap.size=w.heap.size+3:=by rw[<-hw1];simp
 have HS:=settledC gf lb (b:Int) (-h) w
 rw[hw1] at HS
 have c0:w1.cell? ⟨w.heap.size,0,none⟩=some (.func (.func gf) #[] lb):=by rw[<-hw1];exact(((Boxed.new w _ _).alloc _).alloc _).cell
 have c1:w1.cell? ⟨w.heap.size+1,0,none⟩=some (.int .i64 (b:Int)):=by
  rw[<-hw1]
  have:=Boxed.new (w.alloc (.cells #[.func (.func gf) #[] lb] 51)) 3 (.int .i64 (b:Int))
  rw[World.size_alloc] at this
  exact(this.alloc _).cell
 have c2:w1.cell? ⟨w.heap.size+2,0,none⟩=some (.int .i64 (-h)):=by
  rw[<-hw1]
  have:=Boxed.new ((w.alloc (.cells #[.func (.func gf) #[] lb] 51)).alloc (.cells #[.int .i64 (b:Int)] 3)) 2 (.int .i64 (-h))
  simp only[World.size_alloc] at this
  exact this.cell
 have SQ:=settledQ (w.heap.size+1) (w.heap.size+2) w.heap.size (fun k=>w1.heap.size<=k) b j gf lb (-h) vs w1 hb1 hb2 (by omega) (by omega) hv (by omega) (by omega) (by omega) (fun k hk=>hk) c1 c2 c0 eg (hseq _ _ (by omega) G1) (by rw[hB,runC_append];exact hj1) (by intro i hi;rw[hB,runC_append];exact hj2 i hi)
 obtain⟨ds,hds⟩:∃ds,runD (2 ^ b) (-h) (vs++List.replicate j 0) 0=ds:=⟨_,rfl⟩
 have dlen:ds.length=vs.length+j:=by rw[<-hds,runD_len];simp
 have din:∀d∈ds,-h<=d/\d<h:=by
  intro d hd
  rw[<-hds,hB] at hd
  have:=runD_in (B:=2*h) (by omega) (-h) _ _ d hd
  omega
 have dval:dv (2*h) ds=dv (2*h) vs:=by
  have e:=run_eq (2*h) (-h) (vs++List.replicate j 0) 0
  rw[<-hB,hds,hB,runC_append,hj1,dv_append,dv_zeros] at e
  simp only[Int.mul_zero,Int.add_zero] at e
  exact e.symm
 rw[hds] at SQ
 have CC:=hide (collectC 59 6 _ ds w1 (enters_of Try.func59 (by kernel_rfl) rfl) SQ (by omega))
 have HS2:Hid (Calls Try.prog 44 #[.func (.func gf) #[] lb,.int .i64 (b:Int),.int .i64 (wrap64 (-2 ^ (b-1)))] w fun e w'=>e = .returned (.func (.func 59) #[] #[.pointer (some ⟨w.heap.size+1,0,none⟩),.pointer (some ⟨w.heap.size+2,0,none⟩),.pointer (some ⟨w.heap.size,0,none⟩)])/\w'=w1):=by rw[<-hhb,w64 (x:=-h) (by omega) (by omega)];exact HS
 have G1:=hide G1
 have hbm:(b:Int)-1=((b-1:Nat):Int):=by omega
 have ODS:=hide (And.intro din (And.intro dval dlen))
 clear SQ HS c0 c1 c2 hseq eg hj1 hj2 hcb hv hds din dval dlen hw1 hhb
 go_enter Try.func25,Try.ntmps25
 go_wp2_with (first|(go_at_call 44;with_reducible refine HS2.out.mono ?_;rintro e w' ⟨rfl,rfl⟩)|(go_at_call 43;with_reducible refine CC.out.mono ?_;rintro e w2 ⟨v,rfl,ho,g2⟩;obtain⟨ad,cap,rfl,hri,hge⟩:=RI.of_owns ho;have HO:=hide ho;have G2:=hide g2;clear ho g2)|(go_at_call 42;with_reducible refine(trimI _ _ _ _ _ hri).mono ?_;rintro e w3 ⟨k,rfl,hk,hk1,hk2,rfl⟩))
 go_ret
 obtain⟨din,dval,dlen⟩:=ODS.out
 refine⟨ad,k,cap,ds.take k,rfl,?_,fun d hd=>din d (List.mem_of_mem_take hd),NT.take hk hk2,?_,by omega,G1.out.trans G2.out⟩
 ·have e:iz (ds.take k)=(iz ds).take k:=by simp[iz]
  rw[e]
  cases ad with
  | none =>
   have h0:=(hri.nil rfl)
   obtain⟨e1,e2⟩:=h0
   subst e2
   have:k=0:=by omega
   subst this
   exact World.ownsRow_nil _ _ _ _
  | some a =>
   have hx:=HO.out
   rcases hx.2 with ⟨h1,_⟩|⟨g,cap',cur,h1,_⟩
   ·cases h1
   ·injection h1 with e1 e2 e3
    injection e1 with e1
    subst e1
    exact owns_low (owns_take hx hk) (by omega)
 ·rw[dv_take (fun i h1 h2=>hk1 i h1 h2)]
  exact dval
attribute [local go_sem] Oper.semAt_some
theorem iz_set (xs:List Int) (j:Nat) (x:Int):(iz xs).set j (.int .i64 x)=iz (xs.set j x):=by simp[iz]
theorem getD_setI (xs:List Int) (j k:Nat) (v:Int) (h:j<xs.length):(xs.set j v).getD k 0=if j=k then v else xs.getD k 0:=by
 simp only[List.getD_eq_getElem?_getD,List.getElem?_set]
 split
 ·rename_i e;subst e;simp[h]
 ·rfl
theorem extI {xs ys:List Int} (hl:xs.length=ys.length) (h:∀j,j<xs.length->xs.getD j 0=ys.getD j 0):xs=ys:=by
 refine List.ext_getElem hl fun i h1 h2=>?_
 have:=h i h1
 simpa [List.getD_eq_getElem?_getD,List.getElem?_eq_getElem h1,List.getElem?_eq_getElem h2] using this
set_option maxHeartbeats 1000000 in
theorem turnC (base g n cap:Nat) (ds:List Int) (w:World) (ho:w.ownsRow base 2 1 (.slice (some ⟨g,0,none⟩) n cap) n (iz ds)) (hd:∀d∈ds,-1073741824<=d/\d<=1073741824) :
  Calls Try.prog 33 #[.slice (some ⟨g,0,none⟩) n cap] w fun e w'=>(∃v,e = .returned v)/\w'.ownsRow base 2 1 (.slice (some ⟨g,0,none⟩) n cap) n (iz (ds.map fun d=>-d))/\GrE (fun k=>k=g) w w':=by
 have hlen:=own_len ho
 have hcap:n<=cap/\cap<=maxLen:=by
  rcases ho.2 with ⟨h1,_⟩|⟨g',cap',cur,h1,_,_,h2,h3,_⟩
  ·cases h1
  ·injection h1 with e1 e2 e3;subst e3;exact⟨h2,h3⟩
 have hcap2:n<=9223372036854775807:=by have:=hcap.2;unfold maxLen at this;omega
 have HO:=hide ho
 have HD:=hide hd
 clear ho hd
 go_enter Try.func33,Try.ntmps33
 go_wp2
 go_loopw [5] (fun i wr=>∃(k:Nat) (es:List Int),k<=n/\i = .int .i64 (k:Int)/\Hid (wr.ownsRow base 2 1 (.slice (some ⟨g,0,none⟩) n cap) n (iz es))/\Hid (∀j,j<n->es.getD j 0=if j<k then -ds.getD j 0 else ds.getD j 0)/\Hid (GrE (fun k=>k=g) w wr)) (fun i _=>n-(intOf i).toNat)
 case atStart=>exact⟨0,ds,by omega,rfl,HO.out,fun j hj=>by rw[if_neg (by omega)],GrE.refl _ _⟩
 case round =>
  obtain⟨k,es,hk,rfl,ho,he,hg⟩:=hrel
  have hel:=own_len ho.out
  by_cases hlt:k<n
  ·have hc:=ho.out.cellAt k (by omega)
   rw[iz_get (by omega),he.out k hlt,if_neg (by omega)] at hc
   have hf:=ho.out.frozenAt k
   have hb:=HD.out (ds.getD k 0) (by rw[List.getD_eq_getElem?_getD,List.getElem?_eq_getElem (by omega)];simp)
   have hlt':(k:Int)<(n:Int):=by omega
   have ew:wrap64 (-(ds.getD k 0)) = -(ds.getD k 0):=w64 (by omega) (by omega)
   have NX:Hid ((wr.setCell ⟨g,k,none⟩ (.int .i64 (-(ds.getD k 0)))).ownsRow base 2 1 (.slice (some ⟨g,0,none⟩) n cap) n (iz (es.set k (-(ds.getD k 0))))):=by
    rw[<-iz_set];exact(ho.out.stored k _).1
   have NE:Hid (∀j,j<n->(es.set k (-(ds.getD k 0))).getD j 0=if j<k+1 then -ds.getD j 0 else ds.getD j 0):=by
    intro j hj
    rw[getD_setI _ _ _ _ (by omega)]
    by_cases e:k=j
    ·subst e;rw[if_pos rfl,if_pos (by omega)]
    ·rw[if_neg e,he.out j hj]
     by_cases h:j<k
     ·rw[if_pos h,if_pos (by omega)]
     ·rw[if_neg h,if_neg (by omega)]
   clear hb
   generalize ds.getD k 0=d at *
   go_wp2
   go_roundw
   case rel=>exact⟨k+1,_,by omega,by go_num,NX.out,NE.out,hg.out.setCell (p:=⟨g,k,none⟩) (Or.inr rfl) _⟩
   case measure=>simp only[intOf];omega
  ·have hkn:k=n:=by omega
   subst hkn
   have e:es=ds.map fun d=>-d:=by
    refine extI (by simp;omega) fun j hj=>?_
    rw[he.out j (by omega),if_pos (by omega)]
    simp[List.getD_eq_getElem?_getD,List.getElem?_eq_getElem (show j<ds.length by omega)]
   subst e
   go_wp2
   go_end0
   exact⟨⟨_,rfl⟩,ho.out,hg.out⟩
end Go.Proofs.Ytfbgckgemfkioaa
namespace Go.Proofs.Ytfbgckgemfkioaa
open Go.RowKit Go.Shelf
set_option linter.unusedVariables false
def noDefer (o:Oper):Bool:=match o.op with|.defer _=>false|_=>true
theorem noDefer_spec {o:Oper} (h:noDefer o=true):∀c,o.op ≠ .defer c:=by
 intro c e
 unfold noDefer at h
 rw[e] at h
 cases h
theorem uponIn_inR {n l:Nat} {P:Program} {o:Oper} {a:Act} {K K':Act->World->Prop} {Q:Exit->Act->World->Prop} (hK:∀a w,K a w->K' a w):∀{r:Result Next},o.uponIn Fence.wide n P a K Q r->o.uponIn (Fence.wide.inRound l) n P a K' Q r:=by
 intro r h
 cases r with
 | ok x w =>
  cases x with
  | value v=>exact hK _ _ h
  | skip=>exact hK _ _ h
  | defer d=>exact hK _ _ h
  | enter f args =>
   refine⟨h.1,(CallsIn.inRound l h.2).mono ?_⟩
   intro e w' he
   cases e with
   | returned v=>exact hK _ _ he
   | panicked c=>exact he
   | outgrown=>exact he
  | row row args=>exact⟨h.1,h.2.mono fun v w' he=>hK _ _ he⟩
  | round l' f tmps assign body =>
   refine⟨h.1,(RoundIn.inR h.2).mono ?_⟩
   intro e w' he
   cases e with
   | returned v=>exact hK _ _ he
   | panicked c=>exact he
   | outgrown=>exact he
  | _=>exact h
 | halt x w =>
  cases x with
  | panic v=>exact h
  | _=>exact h
theorem wpAnyIn_inR {n l:Nat} {P:Program} {md:Region.Mode} {ops:Array Oper} {Q:Exit->Act->World->Prop} (hnd:ops.all noDefer=true) :
  ∀(fuel:Nat) (listed:Array Bool) (a:Act) (w:World),wpAnyIn Fence.wide n P md ops Q fuel listed a w->wpAnyIn (Fence.wide.inRound l) n P md ops Q fuel listed a w:=by
 intro fuel
 induction fuel with
 | zero=>intro listed a w h;exact h
 | succ fuel ih =>
  intro listed a w h
  refine⟨h.1,fun i hi=>?_⟩
  have h2:=h.2 i hi
  unfold wpOpIn at h2 ⊢
  cases ho:ops[i]? with
  | none=>rw[ho] at h2;exact ih _ _ _ h2
  | some o =>
   rw[ho] at h2
   simp only at h2 ⊢
   have hn:noDefer o=true:=by
    rw[Array.all_eq_true_iff_forall_mem] at hnd
    exact hnd o (Array.mem_of_getElem? ho)
   split
   ·rename_i hw
    rw[if_pos hw] at h2
    refine⟨h2.1,?_⟩
    have h3:=h2.2
    rw[show Fence.wide.round=none from rfl,Oper.semAt_none] at h3
    rw[show(Fence.wide.inRound l).round=some l from rfl,Oper.semAt_some _ _ _ (noDefer_spec hn)]
    exact uponIn_inR (fun a w=>ih _ a w) h3
   ·rename_i hw
    rw[if_neg hw] at h2
    exact⟨h2.1,ih _ _ _ h2.2⟩
theorem region_inR {n l id:Nat} {P:Program} {ops:Array Oper} {Q:Exit->Act->World->Prop} {a:Act} {w:World} (hm:P.follows .mixedOrders=true) (hnd:ops.all noDefer=true)
  (h:wpAnyIn Fence.wide n P .any ops Q ops.size (Array.replicate ops.size false) a w.drew):(Code.region id ops true).wpIn (Fence.wide.inRound l) n P Q a w:=
 wpIn_region_any hm (wpAnyIn_inR hnd _ _ _ _ h)
end Go.Proofs.Ytfbgckgemfkioaa
