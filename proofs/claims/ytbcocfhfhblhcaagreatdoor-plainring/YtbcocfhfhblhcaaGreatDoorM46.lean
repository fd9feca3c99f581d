import Derived.Test.YtbcocfhfhblhcaaGreatDoorM45
namespace Go.Proofs.YtbcocfhfhblhcaaGreatDoor.Fl
open Go.RowKit
open Ieee
open Go.Proofs.YtbcocfhfhblhcaaGreatDoor.Jx (cvI cv_le pv Sup cv_pv pv_sup si si_tail si_pv si_zero si_congr ah ah_sup pv_comm pv_add pv_assoc pv_ah pv_ah_low)
set_option linter.unusedVariables false
set_option linter.unusedSimpArgs false
theorem cf_self {F:Nat->Int} {n:Nat} (h:Sup F n):cf n F=F:=by
 funext i
 unfold cf
 by_cases hi:i<n
 ·rw [if_pos hi]
 ·rw [if_neg hi,h i (by omega)]
theorem gl_sup {xs:List Int} {n:Nat} (h:xs.length=n):Sup (gl xs) n:=fun i hi=>by
 unfold gl;rw [List.getD_eq_getElem?_getD,List.getElem?_eq_none (by omega)];rfl
theorem ArgI.congr {w:World} {ad:Option Addr} {n cap:Nat} {f g:Nat->Int} (h:ArgI w ad n cap f) (hh:∀ i,i<n->f i=g i):ArgI w ad n cap g:=
 ⟨h.1,h.2.1,fun hp=>by
  obtain ⟨a,e,hb,hc⟩:=h.2.2 hp
  exact ⟨a,e,hb,fun i hi=>by rw [<-hh i hi];exact hc i hi⟩⟩
theorem add_add (a:Addr) (p i:Nat):(a.add p).add i=a.add (p+i):=by
 obtain ⟨b,o,q⟩:=a
 unfold Addr.add
 by_cases h1:p=0 <;> by_cases h2:i=0 <;> simp [h1,h2,Nat.add_assoc]
theorem ArgI.drop {w:World} {a:Addr} {n cap p:Nat} {f:Nat->Int} (h:ArgI w (some a) n cap f) (hp:p<=n):ArgI w (some (a.add p)) (n-p) (cap-p) (fun i=>f (p+i)):=by
 have h1:=h.1
 have h2:=h.2.1
 refine ⟨by omega,by omega,fun h0=>?_⟩
 obtain ⟨b,e,hb,hc⟩:=h.2.2 (by omega)
 obtain rfl:a=b:=by simpa using e
 exact ⟨a.add p,rfl,by unfold Addr.add;split <;> exact hb,fun i hi=>by rw [add_add];exact hc (p+i) (by omega)⟩
theorem cf_b {len:Nat} {f:Nat->Int} {B:Nat} (h:∀ i,(f i).natAbs<=B) (i:Nat):(cf len f i).natAbs<=B:=by
 unfold cf;split
 ·exact h i
 ·simp
theorem ArgI.cut2 {w:World} {ad:Option Addr} {len cap m:Nat} {f:Nat->Int} (h:ArgI w ad len cap f) (hm:m<=len):ArgI w ad m cap f:=
 ⟨Nat.le_trans hm h.1,h.2.1,fun hp=>by
  obtain ⟨a,e,hb,hc⟩:=h.2.2 (by omega)
  exact ⟨a,e,hb,fun i hi=>hc i (by omega)⟩⟩
theorem pv_supn {la lb:Nat} {F G:Nat->Int} (hF:Sup F la) (hG:Sup G lb):Sup (pv F G) (pn la lb):=fun l hl=>by
 unfold pn at hl
 split at hl
 ·rename_i z
  unfold pv
  rw [si_congr (g:=fun _=>0) (fun i hi=>?_),si_zero]
  rcases z with z | z
  ·rw [hF i (by omega),Int.zero_mul]
  ·rw [hG (l-i) (by omega),Int.mul_zero]
 ·exact pv_sup hF hG l hl
theorem pv_b {F G:Nat->Int} {n a b:Nat} (hs:Sup (pv F G) n) (hn:n<=128) (hF:∀ i,(F i).natAbs<=a) (hG:∀ i,(G i).natAbs<=b) (l:Nat):(pv F G l).natAbs<=128*(a*b):=by
 by_cases hl:l<128
 ·refine Nat.le_trans (Jx.si_le (f:=fun m=>F m*G (l-m)) (B:=a*b) (fun i=>?_) (l+1)) (Nat.mul_le_mul_right _ (by omega))
  rw [Int.natAbs_mul]
  exact Nat.mul_le_mul (hF i) (hG _)
 ·rw [hs l (by omega)];simp
theorem pn_comm (a b:Nat):pn b a=pn a b:=by unfold pn;split <;> split <;> omega
theorem pn_assoc (a b c:Nat):pn (pn a b) c=pn a (pn b c):=by unfold pn;split <;> split <;> split <;> split <;> omega
theorem pn_le {a b:Nat}:pn a b<=a+b:=by unfold pn;split <;> omega
theorem timesF (la ca lb cb n:Nat) (aa ab:Option Addr) (F G:Nat->Int) (w:World) (h:la+lb<=129) (hT:TabAt 2 Lib.deBruijn64tab w) (hF:TabF w) (A1:ArgI w aa la ca F) (A2:ArgI w ab lb cb G) (sF:Sup F la) (sG:Sup G lb) (bF:∀ i,(F i).natAbs<=16384) (bG:∀ i,(G i).natAbs<=16384) (hn:n=pn la lb) :
  Calls Tryz.prog 11 #[.slice aa la ca,.slice ab lb cb] w fun e w'=>∃ ad N,e = .returned (.tuple #[.slice ad n N,.int .i64 0])/\Hid (ArgI w' ad n N (pv F G))/\Hid (Gr w w'):=by
 subst hn
 refine (timesS la ca lb cb aa ab F G w h hT hF A1 A2 (fun i _=>bF i) (fun i _=>bG i)).mono ?_
 rintro e w' ⟨ad,N,rfl,F1,G1⟩
 obtain ⟨f1,f2,f3⟩:=F1.out
 rw [cf_self sF,cf_self sG] at f3
 exact ⟨ad,N,rfl,f3.arg f1 (by omega),G1⟩
theorem slowlyG (la ca lb cb n:Nat) (aa ab:Option Addr) (F G:Nat->Int) (w:World) (h:la+lb<=129) (hT:TabAt 2 Lib.deBruijn64tab w) (A1:ArgI w aa la ca F) (A2:ArgI w ab lb cb G) (sF:Sup F la) (sG:Sup G lb) (a b:Nat) (bF:∀ i,(F i).natAbs<=a) (bG:∀ i,(G i).natAbs<=b) (hab:128*(a*b)<=4611686018427387904) (hn:n=pn la lb) :
  Calls Tryz.prog 15 #[.slice aa la ca,.slice ab lb cb] w fun e w'=>∃ ad N,e = .returned (.tuple #[.slice ad n N,.int .i64 0])/\Hid (ArgI w' ad n N (pv F G))/\Hid (Gr w w'):=by
 subst hn
 have hp:pn la lb<=128:=by unfold pn;split <;> omega
 refine (slowlyS la ca lb cb aa ab F G w (by omega) hT A1 A2 (fun l _=>?_)).mono ?_
 ·rw [cf_self sF,cf_self sG]
  have:=pv_b (pv_supn sF sG) hp bF bG l
  unfold In64;omega
 ·rintro e w' ⟨ad,N,rfl,F1,G1⟩
  obtain ⟨f1,f2,f3⟩:=F1.out
  rw [cf_self sF,cf_self sG] at f3
  exact ⟨ad,N,rfl,f3.arg f1 (by omega),G1⟩
theorem wpList_catI {w:World} {ops:Array Oper} {rest:List Oper} {o:Oper} {a:Act} {Q:Exit->Act->World->Prop} (hgd:o.guard=none) (s x:Operand)
  (ho:o.op = .call {callee:=.builtin .append,args:=#[s,x],argTypes:=#[22,22]}) {base:Nat} {v:Value} {n m cap:Nat} {ad:Option Addr} {xs ys:List Int} (hown:w.ownsRow base 2 1 v n (iz xs))
  (A:ArgI w ad m cap (gl ys)) (hy:ys.length=m) (hnil:ad=none->m=0/\cap=0)
  (hs:a.eval s=v) (hx:a.eval x = .slice ad m cap) (hn:n<=16384) (hm:m<=16384) (hb:base<=w.heap.size)
  (h:∀ v' w',w'.ownsRow base 2 1 v' (n+m) (iz (xs++ys))->(∀ a0,Gr a0 w->a0.heap.size<=base->Gr a0 w')->wpList Tryz.prog ops Q rest (a.put o.dst v') w') :
  wpList Tryz.prog ops Q (o :: rest) a w:=by
 obtain ⟨i0,hi,hz0,hz1,hz2⟩:=info_parts infoI
 cases ad with
 | none =>
  obtain ⟨rfl,rfl⟩:=hnil rfl
  refine wpList_append_own_none hgd s x 22 ho base 2 i0 1 Tryz.underlying22 hi v n (iz xs) hs hown hx ?_
  refine h v w ?_ (fun a0 hg _=>hg)
  rw [List.eq_nil_of_length_eq_zero hy,List.append_nil];exact hown
 | some ad =>
  refine wpList_append_own _ hgd s x 22 ho base 2 i0 (.int .i64 0) 1 8 Tryz.underlying22 hi hz0 hz1 hz2 rfl (by decide) v n (iz xs) hs hown ad m cap (iz ys) hx (by rw [iz_length];omega) ?_ (iz_one _) (by unfold maxLen;omega) (by omega) hb ?_
  ·intro j u hj
   have hjl:j<ys.length:=by
    refine Nat.lt_of_not_le fun hle=>?_
    rw [List.getElem?_eq_none (by rw [iz_length];exact hle)] at hj
    cases hj
   rw [iz_get hjl] at hj
   obtain ⟨b,e,_,hc⟩:=A.2.2 (by omega)
   obtain rfl:ad=b:=by simpa using e
   rw [<-hj]
   exact (hc j (by omega)).1
  ·intro v' w' hown' hgr _
   refine h v' w' (by rw [iz_append];exact hown') ?_
   intro a0 hg hle
   exact hg.grown hgr (fun k hk=>Nat.le_trans hle (hown.lt k hk).1)
theorem gl_ah (p:Nat) (xs:List Int) (i:Nat):gl (List.replicate p 0++xs) i=ah p (gl xs) i:=by
 unfold gl ah
 rw [List.getD_eq_getElem?_getD]
 by_cases h:i<p
 ·rw [if_pos h,List.getElem?_append_left (by simpa using h),List.getElem?_replicate,if_pos h];rfl
 ·rw [if_neg h,List.getElem?_append_right (by simpa using h),List.length_replicate]
  exact (List.getD_eq_getElem?_getD).symm
theorem ah_b {p B:Nat} {F:Nat->Int} (h:∀ i,(F i).natAbs<=B) (i:Nat):(ah p F i).natAbs<=B:=by
 unfold ah;split
 ·simp
 ·exact h _
theorem sum_pn {la lb:Nat} {F G:Nat->Int} (hF:Sup F la) (hG:Sup G lb):si (pv F G) (pn la lb)=si F la*si G lb:=by
 rw [<-si_pv hG la hF,si_tail (a:=pn la lb) (la+lb) pn_le (fun i hi _=>pv_supn hF hG i hi)]
theorem pickD (n:Nat) (x:Int) (h0:0<n) (hn:n<=16384):∃ p:Nat,p<n/\∀ w,Calls Tryz.prog 25 #[.int .i64 x,.int .i64 (n:Int)] w fun r w'=>r = .returned (.int .i64 (p:Int))/\w=w':=by
 have b1 : -(n:Int)<x.tmod n:=by have:=Int.lt_tmod_of_pos x (by omega:(0:Int)<n);omega
 have b2:x.tmod n<n:=Int.tmod_lt_of_pos x (by omega)
 have h8:((n:Int)==0)=false:=by simp;omega
 have h9:¬ (n:Int)=0:=by omega
 have h7:¬ (n:Int)<1:=by omega
 generalize hy:x.tmod n=y at *
 by_cases hn:y<0
 ·refine ⟨(y+n).toNat,by omega,fun w=>?_⟩
  go_enter Tryz.func25,Tryz.ntmps25
  go_wp2
  go_ret
  exact ⟨by go_num,rfl⟩
 ·refine ⟨y.toNat,by omega,fun w=>?_⟩
  go_enter Tryz.func25,Tryz.ntmps25
  go_wp2
  go_ret
  exact ⟨by go_num,rfl⟩
theorem sum0 (p N:Nat) (ad:Option Addr) (A B:Nat->Int) (w:World) (h:ArgI w ad p N (pv (ah p A) B)):Calls Tryz.prog 24 #[.slice ad p N] w fun r w'=>r = .returned (.int .i64 0)/\w=w':=by
 have e:si (pv (ah p A) B) p=0:=by rw [si_congr (g:=fun _=>0) (fun i hi=>pv_ah_low A B hi),si_zero]
 have k:=sumQ p N ad _ 0 w h (fun i hi=>by rw [pv_ah_low A B hi];simp) (by omega)
 rw [e] at k
 exact k
theorem rep_b {p B:Nat} {xs:List Int} (h:∀ x∈xs,x.natAbs<=B):∀ x∈List.replicate p 0++xs,x.natAbs<=B:=fun x hx=>by
 rcases List.mem_append.1 hx with h1 | h1
 ·rw [(List.mem_replicate.1 h1).2];simp
 ·exact h x h1
end Go.Proofs.YtbcocfhfhblhcaaGreatDoor.Fl
