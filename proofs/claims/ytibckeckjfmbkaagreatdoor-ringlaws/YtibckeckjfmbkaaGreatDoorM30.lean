import Derived.Test.YtibckeckjfmbkaaGreatDoorM29
import Derived.Test.YtibckeckjfmbkaaGreatDoorM16
namespace Go.Proofs.YtibckeckjfmbkaaGreatDoor.Fl
open Go.RowKit
open Ieee
set_option linter.unusedVariables false
def hw (H:Nat->Nat) (x:Nat):Nat:=if x<9223372036854775808 then H x else 9223372036854775808+H (x-9223372036854775808)
theorem hw_W (H:Nat->Nat) (s:Bool) (r:Nat) (h:r<9223372036854775808):hw H (W s r)=W s (H r):=by
 unfold hw
 cases s
 ·rw[W_false,if_pos h,W_false]
 ·have e:∀q,W true q=9223372036854775808+q:=fun q=>rfl
  rw[e,if_neg (by omega),e,Nat.add_sub_cancel_left]
theorem LdH.lt {e:Int} {H:Nat->Nat} (h:LdH e H) {r:Nat} (hr:r<9223372036854775808):H r<9223372036854775808:=by
 by_cases h1:r<=9218868437227405312
 ·have:=h.fin r h1;omega
 ·rw[h.nan r (by omega)];exact hr
theorem LdH.hwlt {e:Int} {H:Nat->Nat} (h:LdH e H) {x:Nat} (hx:x<18446744073709551616):hw H x<18446744073709551616:=by
 obtain⟨s,r,rfl,hr⟩:=W_split x hx
 rw[hw_W H s r hr]
 exact W_lt _ _ (h.lt hr)
theorem LdH.hng {e:Int} {H:Nat->Nat} (h:LdH e H) {x:Nat} (hx:x<18446744073709551616):hw H (ng x)=ng (hw H x):=by
 obtain⟨s,r,rfl,hr⟩:=W_split x hx
 rw[ng_W s r hr,hw_W H _ r hr,hw_W H s r hr,ng_W s _ (h.lt hr)]
theorem LdH.nanb {e:Int} {H:Nat->Nat} (h:LdH e H) {x:Nat} (hx:x<18446744073709551616):nanB (hw H x)=nanB x:=by
 obtain⟨s,r,rfl,hr⟩:=W_split x hx
 rw[hw_W H s r hr,nanB_W s r hr,nanB_W s _ (h.lt hr)]
 by_cases h1:r<=9218868437227405312
 ·rw[decide_eq_false (show ¬9218868437227405312<H r by have:=h.fin r h1;omega),decide_eq_false (show ¬9218868437227405312<r by omega)]
 ·rw[h.nan r (by omega)]
theorem LdH.hcn {e:Int} {H:Nat->Nat} (h:LdH e H) {x:Nat} (hx:x<18446744073709551616):cn (hw H (cn x))=cn (hw H x):=by
 cases hn:nanB x
 ·rw[cn_num hn]
 ·rw[cn_nan hn,cn_nan (x:=hw H x) (by rw[h.nanb hx];exact hn),cn_nan (x:=hw H QN) (by rw[h.nanb QN_lt];exact nan_QN)]
def hl (H:Nat->Nat) (x:Nat):Nat:=cl (hw H x)
def scZ (H:Nat->Nat) (z:Nat × Nat):Nat × Nat:=(cn (hw H z.1),cn (hw H z.2))
theorem scalePartP (e:Int) (H:Nat->Nat) (x:Nat) (w:World) (h:LdH e H) (hx:x<18446744073709551616):Calls Tryz.prog 81 #[.float .f64 x,.int .i64 e] w fun r w'=>r = .returned (.float .f64 (hw H x))/\w'=w:=by
 have LD:Hid (∀w,Calls Tryz.prog 43 #[.float .f64 x,.int .i64 e] w fun r w'=>r = .returned (.float .f64 (hw H x))/\w'=w):=fun w=>by
  obtain⟨s,r,rfl,hr⟩:=W_split x hx
  rw[hw_W H s r hr]
  exact h.calls s r hr w
 generalize hw H x=y at *
 clear h
 go_enter Tryz.func81,Tryz.ntmps81
 go_wp2_with (go_at_call 43;(with_reducible refine(LD.out _).mono ?_);rintro r w1 ⟨rfl,rfl⟩)
 go_ret
 exact⟨rfl,rfl⟩
theorem scaleP (e:Int) (H:Nat->Nat) (x y:Nat) (a:Nat × Nat) (w:World) (h:LdH e H) (he1 : -14<=e) (he2:e<=0) (ha:IsZ a x y):Calls Tryz.prog 53 #[.complex .f64 x y,.int .i64 e] w fun r w'=>∃p q,r = .returned (.complex .f64 p q)/\Hid (IsZ (scZ H a) p q)/\w'=w:=by
 obtain⟨a1,a2,a3,a4⟩:=ha
 have LX:=hide (fun w=>scalePartP e H x w h a3)
 have LY:=hide (fun w=>scalePartP e H y w h a4)
 have Z:Hid (IsZ (scZ H a) (hw H x) (hw H y)):=⟨by show Fl.cn _=Fl.cn (hw H a.1);rw[<-a1,h.hcn a3],by show Fl.cn _=Fl.cn (hw H a.2);rw[<-a2,h.hcn a4],h.hwlt a3,h.hwlt a4⟩
 have e1:max e (-2200)=e:=by omega
 have e2:min e 2200=e:=by omega
 clear h a1 a2 a3 a4
 generalize hw H x=x' at *
 generalize hw H y=y' at *
 go_enter Tryz.func53,Tryz.ntmps53
 go_wp2_with (go_at_call 81;first|((with_reducible refine(LX.out _).mono ?_);rintro r w1 ⟨rfl,rfl⟩)|((with_reducible refine(LY.out _).mono ?_);rintro r w1 ⟨rfl,rfl⟩))
 go_ret
 exact⟨_,_,rfl,Z,rfl⟩
theorem TR.other {w:World} {g N:Nat} {F:Nat->Nat × Nat} (h:TR w g N F) {b:Nat} (hb:g≠b) (o:Nat) (v:Value):TR (w.setCell ⟨b,o,none⟩ v) g N F:=h.gx ((Gx.refl b w).setCell rfl v) hb
def PF (i:Nat) (F:Nat->Nat × Nat):Nat->Nat × Nat:=fun j=>if j<i then F j else (0,0)
theorem tr_new {w:World} {g n:Nat} (F:Nat->Nat × Nat) (h:w.ownsRow g 60 1 (.slice (some ⟨g,0,none⟩) n n) n (cz (List.replicate n (0,0)))):TR w g n (PF 0 F):=by
 refine⟨_,h,fun i hi=>?_⟩
 have e:(List.replicate n ((0:Nat),(0:Nat))).getD i (0,0)=(0,0):=by
  rw[List.getD_eq_getElem?_getD,List.getElem?_replicate,if_pos hi];rfl
 rw[e]
 show IsZ (if i<0 then F i else (0,0)) 0 0
 rw[if_neg (by omega)]
 exact⟨by decide +kernel,by decide +kernel,by decide,by decide⟩
theorem PF_next (i:Nat) (F:Nat->Nat × Nat) (j:Nat):PF (i+1) F j=if j=i then F i else PF i F j:=by
 unfold PF
 by_cases h:j=i
 ·subst h;rw[if_pos (by omega),if_pos rfl]
 ·rw[if_neg h]
  by_cases h2:j<i
  ·rw[if_pos h2,if_pos (by omega)]
  ·rw[if_neg h2,if_neg (by omega)]
theorem PF_all (n:Nat) (F:Nat->Nat × Nat) (j:Nat) (h:j<n):F j=PF n F j:=by unfold PF;rw[if_pos h]
def RF (w:World) (ad:Option Addr) (n:Nat) (G:Nat->Nat):Prop:=0<n->∃b,ad=some ⟨b,0,none⟩/\b<w.heap.size/\∀j,j<n->∃p,w.cell? ⟨b,j,none⟩=some (.float .f64 p)/\cn p=G j/\p<18446744073709551616
theorem RF.gr {w w':World} {ad:Option Addr} {n:Nat} {G:Nat->Nat} (h:RF w ad n G) (g:Gr w w'):RF w' ad n G:=fun hp=>by
 obtain⟨b,e,hb,hc⟩:=h hp
 refine⟨b,e,Nat.lt_of_lt_of_le hb g.size,fun j hj=>?_⟩
 obtain⟨p,h1,h2⟩:=hc j hj
 exact⟨p,g.keep h1,h2⟩
def QF (i:Nat) (F G:Nat->Nat × Nat):Nat->Nat × Nat:=fun j=>if j<i then G j else F j
theorem QF_zero (F G:Nat->Nat × Nat) (j:Nat):QF 0 F G j=F j:=by unfold QF;rw[if_neg (by omega)]
theorem QF_next (i:Nat) (F G:Nat->Nat × Nat) (j:Nat):QF (i+1) F G j=if j=i then G i else QF i F G j:=by
 unfold QF
 by_cases h:j=i
 ·subst h;rw[if_pos (by omega),if_pos rfl]
 ·rw[if_neg h]
  by_cases h2:j<i
  ·rw[if_pos h2,if_pos (by omega)]
  ·rw[if_neg h2,if_neg (by omega)]
theorem QF_at (i:Nat) (F G:Nat->Nat × Nat):QF i F G i=F i:=by unfold QF;rw[if_neg (by omega)]
theorem QF_all (n:Nat) (F G:Nat->Nat × Nat) (j:Nat) (h:j<n):G j=QF n F G j:=by unfold QF;rw[if_pos h]
def bkS (k:Nat) (H:Nat->Nat) (f:Nat->Nat × Nat):Nat->Nat × Nat:=fun i=>scZ H (fwS k (fun j=>conjZ (RT k j)) f k i)
set_option maxHeartbeats 8000000 in
theorem backP (H:Nat->Nat) (k n cap:Nat) (ad:Option Addr) (zs:List (Nat × Nat)) (w:World) (hH:LdH (-(k:Int)) H) (hT:TabAt 2 Lib.deBruijn64tab w) (hF:TabF w) (hk:k<=7) (hn':n=2 ^ k) (hz:CR w ad n cap zs) (hw:∀i,WfZ (zs.getD i (0,0))) :
  Calls Tryz.prog 35 #[.slice ad n cap] w fun r w'=>∃g,w.heap.size<=g/\r = .returned (.tuple #[.slice (some ⟨g,0,none⟩) n n,.int .i64 0])/\Hid (TR w' g n (bkS k H (fun i=>cnZ (zs.getD i (0,0)))))/\Hid (Gr w w'):=by
 have HW:=hide (halfWheelP k (n:Int) w hk (by rw[hn']) hT)
 have hle:n<=128:=by rw[hn'];exact Nat.pow_le_pow_right (n:=2) (by omega) hk
 have hm:n / 2<=hn k/\hn k<=16384:=by unfold hn;rw[<-hn'];omega
 have TP:Hid (∀g w1,Gr w w1->TR w1 g (hn k) (fun j=>conjZ (RT k j))->Calls Tryz.prog 52 #[.slice ad n cap,.slice (some ⟨g,0,none⟩) (hn k) (hn k)] w1 fun r w'=>∃g,w1.heap.size<=g/\r = .returned (.tuple #[.slice (some ⟨g,0,none⟩) n n,.int .i64 0])/\Hid (TR w' g n (fwS k (fun j=>conjZ (RT k j)) (fun i=>cnZ (zs.getD i (0,0))) k))/\Hid (Gr w1 w')):=fun g w1 hg ht=>turnedP k n cap g (hn k) ad zs _ w1 (hF.gr hg) (by omega) hn' (hz.gr hg) hw ht hm.1 hm.2
 have hc:=hz.max
 have HH:=hide hH
 have kk:(k:Int)<=7:=by omega
 clear hT hF hz hw hn' hH
 have hm2:=hm.2
 clear hm
 unfold bkS
 generalize fwS k (fun j=>conjZ (RT k j)) (fun i=>cnZ (zs.getD i (0,0))) k=Y at *
 generalize hn k=m at *
 go_enter Tryz.func35,Tryz.ntmps35
 go_wp2_with (go_at_call 50;(with_reducible refine HW.out.mono ?_);rintro r w1 ⟨gr,h1,rfl,h2,h3⟩)
 go_loopw [22] (fun i wr=>∃j:Nat,j<=m/\i = .int .i64 (j:Int)/\Hid (TR wr gr m (QF j (RT k) (fun j=>conjZ (RT k j))))/\Hid (Gr w wr)) (fun i _=>m-(intOf i).toNat)
 case atStart=>exact⟨0,by omega,rfl,h2.out.congr fun i hi=>QF_zero _ _ i,h3⟩
 case round =>
  clear h2 h3
  obtain⟨j,hj,rfl,hR,hg⟩:=hrel
  by_cases hlt:j<m
  ·have i1:(j:Int)<(m:Int):=by omega
   obtain⟨x,y,c1,z1⟩:=hR.out.cell hlt
   rw[QF_at] at z1
   have f1:=hR.out.frozen j
   have CJ:=hide (fun w=>conjP x y _ w z1.out)
   clear z1
   generalize hng:ng y=y' at *
   go_wp2_with (go_at_call 51;(with_reducible refine(CJ.out _).mono ?_);rintro r w3 ⟨rfl,hz,rfl⟩)
   go_roundw
   case rel=>exact⟨j+1,by omega,by go_num,(TR.set hR.out hlt hz.out).congr fun i hi=>by rw[QF_next],hg.out.setCell (p:=⟨gr,j,none⟩) h1 _⟩
   case measure=>simp only[intOf];omega
  ·have hjn:j=m:=by omega
   subst hjn
   have i1:¬(j:Int)<(j:Int):=by omega
   have TP1:=hide (TP.out gr _ hg.out (hR.out.congr fun i hi=>QF_all j (RT k) (fun j=>conjZ (RT k j)) i hi))
   have hsz:=hg.out.size
   clear TP hR HW
   go_wp2_with (go_at_call 52;(with_reducible refine TP1.out.mono ?_);rintro r w4 ⟨g,h4,rfl,h5,h6⟩)
   have T0:Hid (TR w4 g n (QF 0 Y (fun i=>scZ H (Y i)))):=h5.out.congr fun i hi=>QF_zero _ _ i
   have G0:Hid (Gr w w4):=hg.out.trans h6.out
   clear h5 h6 TP1 hg
   have hgw:w.heap.size<=g:=by omega
   go_loopw [42] (fun i wq=>∃q:Nat,q<=n/\i = .int .i64 (q:Int)/\Hid (TR wq g n (QF q Y (fun i=>scZ H (Y i))))/\Hid (Gr w wq)) (fun i _=>n-(intOf i).toNat)
   case atStart=>exact⟨0,by omega,rfl,T0,G0⟩
   case round =>
    clear T0 G0
    obtain⟨q,hq,rfl,hT,hg⟩:=hrel
    by_cases hql:q<n
    ·have i2:(q:Int)<(n:Int):=by omega
     obtain⟨x,y,c1,z1⟩:=hT.out.cell hql
     rw[QF_at] at z1
     have f1:=hT.out.frozen q
     have SC:=hide (fun w=>scaleP (-(k:Int)) H x y _ w HH.out (by omega) (by omega) z1.out)
     clear z1
     go_wp2_with (go_at_call 53;(with_reducible refine(SC.out _).mono ?_);rintro r w5 ⟨p',q',rfl,hz,rfl⟩)
     go_roundw
     case rel=>exact⟨q+1,by omega,by go_num,(TR.set hT.out hql hz.out).congr fun i hi=>by rw[QF_next],hg.out.setCell (p:=⟨g,q,none⟩) hgw _⟩
     case measure=>simp only[intOf];omega
    ·have hqn:q=n:=by omega
     subst hqn
     have i2:¬(q:Int)<(q:Int):=by omega
     go_wp2
     go_ret2
     exact⟨g,hgw,rfl,hT.out.congr fun i hi=>QF_all q Y (fun i=>scZ H (Y i)) i hi,hg⟩
@[go_sem] theorem run_store_flt (P:Program) (w:World) (a:Addr) (m:Mode) (x:Nat):(store a (.float .f64 x) m).run P w=stored P w a (.float .f64 x) m:=run_store P w a _ m rfl
theorem made_f (n:Nat):(madeCells (Value.float .f64 0).cells (n*1)).toList=fz (List.replicate n 0):=by
 rw[Nat.mul_one]
 refine List.ext_getElem (by rw[Array.length_toList,size_madeCells,fz_length,List.length_replicate]) fun i h1 h2=>?_
 simp[madeCells,fz,Value.cells,Nat.mod_one]
theorem wpList_madeF {w:World} {ops:Array Oper} {rest:List Oper} {o:Oper} {a:Act} {Q:Exit->Act->World->Prop} (hgd:o.guard=none) (l c:Operand)
  (hop:o.op=Op.makeSlice 56 l c) (n:Nat) (L:Int) (hl:a.eval l = .int .i64 L) (hc:a.eval c = .int .i64 L) (hL:L=(n:Int)) (hn:n<=4398046511104)
  (hK:∀w',w'.ownsRow w.heap.size 32 1 (.slice (some ⟨w.heap.size,0,none⟩) n n) n (fz (List.replicate n 0))->Gr w w'->wpList Tryz.prog ops Q rest (a.put o.dst (.slice (some ⟨w.heap.size,0,none⟩) n n)) w') :
  wpList Tryz.prog ops Q (o :: rest) a w:=by
 obtain⟨i0,hi,hz0,hz1,hz2⟩:=info_parts infoF
 refine wpList_make_full w hgd l c 56 hop w.heap.size 32 i0 (.float .f64 0) 1 Tryz.underlying56 hi hz0 hz1 .i64 .i64 L L n hl hc hL hL (by rw[hz2];omega) (by unfold maxLen;omega) (Nat.le_refl _) ?_
 intro w' hown hgr
 rw[made_f] at hown
 exact hK w' hown ((Gr.refl w).grown hgr (fun k h=>by cases h))
theorem ownsF_cell {w:World} {base:Nat} {g N:Nat} {xs:List Nat} (h:w.ownsRow base 32 1 (.slice (some ⟨g,0,none⟩) N N) N (fz xs)) (j:Nat) (hj:j<N):w.cell? ⟨g,j,none⟩=some (.float .f64 (xs.getD j 0)):=by
 have hl:xs.length=N:=by have:=h.1;rw[fz_length] at this;omega
 rw[h.cellAt j (by omega),fz_get (by omega)]
theorem ownsF_set {w:World} {base:Nat} {g N:Nat} {xs:List Nat} (h:w.ownsRow base 32 1 (.slice (some ⟨g,0,none⟩) N N) N (fz xs)) (j x:Nat):(w.setCell ⟨g,j,none⟩ (.float .f64 x)).ownsRow base 32 1 (.slice (some ⟨g,0,none⟩) N N) N (fz (xs.set j x)):=by
 have:=(h.stored j (.float .f64 x)).1
 rw[show fz (xs.set j x)=(fz xs).set j (.float .f64 x) by simp[fz]]
 exact this
def OF (w:World) (g n i:Nat) (G:Nat->Nat):Prop:=∃xs,w.ownsRow g 32 1 (.slice (some ⟨g,0,none⟩) n n) n (fz xs)/\∀j,j<i->j<n->cn (xs.getD j 0)=G j/\xs.getD j 0<18446744073709551616
theorem OF.next {w:World} {g n i p:Nat} {G:Nat->Nat} (h:OF w g n i G) (hi:i<n) (h1:cn p=G i) (h2:p<18446744073709551616):OF (w.setCell ⟨g,i,none⟩ (.float .f64 p)) g n (i+1) G:=by
 obtain⟨xs,h3,h4⟩:=h
 have hl:xs.length=n:=by have:=h3.1;rw[fz_length] at this;omega
 refine⟨xs.set i p,ownsF_set h3 i p,fun j hj hn=>?_⟩
 rw[List.getD_eq_getElem?_getD,List.getElem?_set]
 by_cases e:i=j
 ·subst e
  rw[if_pos rfl,if_pos (by omega)]
  exact⟨h1,h2⟩
 ·rw[if_neg e,<-List.getD_eq_getElem?_getD]
  exact h4 j (by omega) hn
theorem OF.gr {w w':World} {g n i:Nat} {G:Nat->Nat} (h:OF w g n i G) (k:Gr w w'):OF w' g n i G:=by
 obtain⟨xs,h3,h4⟩:=h
 exact⟨xs,k.owns h3,h4⟩
theorem OF.free {w:World} {g n i:Nat} {G:Nat->Nat} (h:OF w g n i G) (j:Nat) (hj:j<n):(∃x,w.cell? ⟨g,j,none⟩=some (.float .f64 x))/\w.frozen? ⟨g,j,none⟩=false:=by
 obtain⟨xs,h3,h4⟩:=h
 exact⟨⟨_,ownsF_cell h3 j hj⟩,h3.frozenAt j⟩
theorem ctz_pow (k:Nat) (h:k<=14):Lib.ctz 64 (2 ^ k)=k:=by
 have key:(List.range 15).all (fun k=>decide (Lib.ctz 64 (2 ^ k)=k))=true:=by decide +kernel
 have:=List.all_eq_true.1 key k (List.mem_range.2 (by omega))
 simpa using this
theorem tzR (k:Nat) (w:World) (hk:k<=14) (hT:TabAt 2 Lib.deBruijn64tab w):Calls Tryz.prog 39 #[.int .u64 ((2 ^ k:Nat):Int)] w fun e w'=>e = .returned (.int .i64 (k:Int))/\w'=w:=by
 have hle:2 ^ k<=16384:=Nat.pow_le_pow_right (n:=2) (by omega) hk
 have TZ:Hid (Calls Tryz.prog 64 #[.int .u64 ((2 ^ k:Nat):Int)] w fun e w'=>e = .returned (.int .i64 (k:Int))/\w'=w):=by
  have:=tz76 (2 ^ k) (by omega) (Nat.two_pow_pos k) w hT
  rw[ctz_pow k hk] at this
  exact this
 clear hT
 generalize ((2 ^ k:Nat):Int)=x at *
 go_enter Tryz.func39,Tryz.ntmps39
 go_wp2_with (go_at_call 64;(with_reducible refine TZ.out.mono ?_);rintro r w1 ⟨rfl,rfl⟩)
 go_ret
 exact⟨rfl,rfl⟩
theorem and_pow (k:Nat) (h:k<=14):bits .and .i64 ((2 ^ k:Nat):Int) (((2 ^ k:Nat):Int)-1)=0:=by
 have key:(List.range 15).all (fun k=>decide (bits .and .i64 ((2 ^ k:Nat):Int) (((2 ^ k:Nat):Int)-1)=0))=true:=by decide +kernel
 have:=List.all_eq_true.1 key k (List.mem_range.2 (by omega))
 simpa using this
theorem orderOfR (k n c1 c2:Nat) (a1 a2:Option Addr) (w:World) (hk:k<=14) (hn:n=2 ^ k) (hT:TabAt 2 Lib.deBruijn64tab w) :
  Calls Tryz.prog 27 #[.slice a1 n c1,.slice a2 n c2] w fun e w'=>e = .returned (.tuple #[.int .i64 (k:Int),.bool true])/\w'=w:=by
 have hle:n<=16384:=by rw[hn];exact Nat.pow_le_pow_right (n:=2) (by omega) hk
 have hpos:0<n:=by rw[hn];exact Nat.two_pow_pos k
 have e1:bits .and .i64 (n:Int) ((n:Int)-1)=0:=by rw[hn];exact and_pow k hk
 have e2:IntKind.u64.wrap (n:Int)=(n:Int):=by rw[u64w];omega
 have e3:¬(n:Int)=0:=by omega
 have e4:¬(n:Int)>16384:=by omega
 have TZ:Hid (Calls Tryz.prog 39 #[.int .u64 (n:Int)] w fun e w'=>e = .returned (.int .i64 (k:Int))/\w'=w):=by rw[hn];exact tzR k w hk hT
 clear hn hT
 go_enter Tryz.func27,Tryz.ntmps27
 go_wp2_with (go_at_call 39;(with_reducible refine TZ.out.mono ?_);rintro r w1 ⟨rfl,rfl⟩)
 go_ret2
 exact⟨rfl,rfl⟩
def fiW (n:Int):Nat:=W (decide (n<0)) (ofN n.natAbs)
theorem fiW_lt (n:Int) (h:n.natAbs<=9007199254740992):fiW n<18446744073709551616:=by
 obtain⟨_,h2,_⟩:=ofN_spec n.natAbs h
 exact W_lt _ _ (by omega)
theorem floatsR (n cap:Nat) (ad:Option Addr) (f:Nat->Int) (w:World) (h:IR w ad n f) (hn:n<=16384) (hs:∀i,i<n->(f i).natAbs<=9007199254740992) :
  Calls Tryz.prog 33 #[.slice ad n cap] w fun r w'=>∃g,w.heap.size<=g/\r = .returned (.slice (some ⟨g,0,none⟩) n n)/\Hid (∃xs,w'.ownsRow g 32 1 (.slice (some ⟨g,0,none⟩) n n) n (fz xs)/\∀j,j<n->xs.getD j 0=fiW (f j))/\Hid (Gr w w'):=by
 have hn4:n<=4398046511104:=by omega
 have H:=hide h
 have HS:=hide hs
 clear h hs
 go_enter Tryz.func33,Tryz.ntmps33
 go_wp2_with (at_make;refine wpList_madeF rfl _ _ rfl n _ rfl rfl rfl hn4 ?_;intro w2 hown0 hg2)
 have OW:Hid (∃xs,w2.ownsRow w.heap.size 32 1 (.slice (some ⟨w.heap.size,0,none⟩) n n) n (fz xs)/\∀j,j<0->j<n->xs.getD j 0=fiW (f j)):=⟨_,hown0,fun j hj=>absurd hj (by omega)⟩
 have G2:=hide hg2
 clear hown0 hg2
 generalize hsz:w.heap.size=g at *
 go_loopw [4,5,11] (fun m x i wr=>∃j:Nat,j<=n/\i = .int .i64 (j:Int)/\Hid (∃xs,wr.ownsRow g 32 1 (.slice (some ⟨g,0,none⟩) n n) n (fz xs)/\∀i,i<j->i<n->xs.getD i 0=fiW (f i))/\Hid (Gr w wr)) (fun _ _ i _=>n-(intOf i).toNat)
 case atStart=>exact⟨0,by omega,rfl,OW,G2⟩
 case round =>
  clear OW G2
  obtain⟨j,hj,rfl,hO,hg⟩:=hrel
  by_cases hlt:j<n
  ·have i1:(j:Int)<(n:Int):=by omega
   obtain⟨b,rfl,hb,hc⟩:=(H.out.gr hg.out) (by omega)
   obtain⟨c1,c2,c3⟩:=hc j hlt
   obtain⟨xs,ho,hx⟩:=hO.out
   have c4:=ownsF_cell ho j hlt
   have f4:=ho.frozenAt j
   have F1:Hid (floatOfInt .f64 (f j)=fiW (f j)):=floatOfInt_W (f j) (HS.out j hlt)
   have NX:Hid (∃ys,(wr.setCell ⟨g,j,none⟩ (.float .f64 (floatOfInt .f64 (f j)))).ownsRow g 32 1 (.slice (some ⟨g,0,none⟩) n n) n (fz ys)/\∀i,i<j+1->i<n->ys.getD i 0=fiW (f i)):=by
    refine⟨_,ownsF_set ho j _,fun i h1 h2=>?_⟩
    have hl:xs.length=n:=by have:=ho.1;rw[fz_length] at this;omega
    by_cases e:i=j
    ·subst e;rw[List.getD_eq_getElem?_getD,List.getElem?_set_self (by omega)];exact F1.out
    ·rw[List.getD_eq_getElem?_getD,List.getElem?_set_ne (by omega),<-List.getD_eq_getElem?_getD];exact hx i (by omega) h2
   have GN:Hid (Gr w (wr.setCell ⟨g,j,none⟩ (.float .f64 (floatOfInt .f64 (f j))))):=hg.out.setCell (p:=⟨g,j,none⟩) (by show w.heap.size<=g;omega) _
   clear hO hx ho hc c2 c3 F1
   generalize xs.getD j 0=d at *
   generalize hF:floatOfInt .f64 (f j)=z at *
   go_wp2
   go_roundw
   case rel=>exact⟨j+1,by omega,by go_num,NX,GN⟩
   case measure=>simp only[intOf];omega
  ·have hjn:j=n:=by omega
   subst hjn
   have i1:¬(j:Int)<(j:Int):=by omega
   go_wp2
   go_ret
   refine⟨g,by omega,rfl,?_,hg⟩
   obtain⟨xs,ho,hx⟩:=hO.out
   exact⟨xs,ho,fun i hi=>hx i hi hi⟩
theorem m3 (motive:Array Value->Type) (x y z:Nat) (h1:(x y z:Nat)->motive #[.float .f64 x,.float .f64 y,.float .f64 z]) (h2:(x:Array Value)->motive x):Extern.MathFMA.fma.match_3 motive #[.float .f64 x,.float .f64 y,.float .f64 z] h1 h2=h1 x y z:=rfl
theorem fma70 (x y z r:Nat) (w:World) (h:double.fma x y z=some r):(callFunc 93 #[.float .f64 x,.float .f64 y,.float .f64 z]).run Tryz.prog w = .ok (.value (.float .f64 r)) w:=by
 have h1:Extern.MathFMA.fma #[.float .f64 x,.float .f64 y,.float .f64 z]=pure (.float .f64 r):=by
  unfold Extern.MathFMA.fma
  have h2:FloatKind.f64.format.fma x y z=some r:=h
  rw[m3 (fun _=>Sem Value),h2]
 have h3:(callFunc 93 #[.float .f64 x,.float .f64 y,.float .f64 z]).run Tryz.prog w=((Extern.MathFMA.fma #[.float .f64 x,.float .f64 y,.float .f64 z]).run Tryz.prog w).andThen fun v w'=>.ok (.value v) w':=
  run_callFunc_extern Tryz.func93 (by kernel_rfl) (by kernel_rfl) (by kernel_rfl) (by kernel_rfl) _ w
 rw[h3,h1]
 rfl
theorem nearest_tiny (neg:Bool) (mag:Nat) (place:Int) (k:Nat) (hk:0<=place+1074+k) (h:2*(mag*2 ^ (place+1074+k).toNat)<2 ^ k):double.nearest neg mag place=W neg 0:=by
 unfold Format.nearest
 by_cases h0:mag=0
 ·rw[if_pos h0,word_W]
 rw[if_neg h0,d_frac,d_least,d_binade,d_inf]
 simp only[]
 have hl:=Nat.log2_self_le h0
 have h1:2 ^ (mag.log2+(place+1074+k).toNat+1)<2 ^ k:=by
  refine Nat.lt_of_le_of_lt ?_ h
  rw[Nat.pow_succ,Nat.pow_add,Nat.mul_comm]
  exact Nat.mul_le_mul_left _ (Nat.mul_le_mul_right _ hl)
 have h2:=(Nat.pow_lt_pow_iff_right (by omega:1<2)).1 h1
 have e1:max (place+(mag.log2:Int)-(52:Nat)) (-1074) = -1074:=by omega
 rw[e1]
 have e2:(place - -1074).toNat=0:=by omega
 have e3:((-1074:Int) - -1074).toNat=0:=by omega
 rw[e2,e3,Nat.shiftLeft_zero,Nat.zero_mul,Nat.zero_add,cut_even]
 have h3:2*mag<2 ^ ((-1074:Int)-place).toNat:=by
  refine Nat.lt_of_mul_lt_mul_right (a:=2 ^ (place+1074+k).toNat) ?_
  rw[Nat.mul_assoc,<-Nat.pow_add]
  have:((-1074:Int)-place).toNat+(place+1074+k).toNat=k:=by omega
  rw[this]
  exact h
 generalize 2 ^ ((-1074:Int)-place).toNat=g at *
 have h4:mag / g=0:=Nat.div_eq_of_lt (by omega)
 have h5:mag % g=mag:=Nat.mod_eq_of_lt (by omega)
 rw[h4,h5]
 unfold evenUp
 rw[decide_eq_false (by omega),show(0 % 2==1)=false from rfl,Bool.and_false,word_W]
 rfl
theorem M_dbl {c:Nat} (h:0<c):M (c+1)<=2*M c:=by
 rw[M_succ]
 have:2 ^ ex c<=M c:=by
  by_cases he:0<ex c
  ·have:=M_lower c he
   have:=Nat.two_pow_pos (ex c)
   omega
  ·have:ex c=0:=by omega
   rw[this]
   have:=M_pos h
   simp
   omega
 omega
theorem mul_range (ma mb mc Pa Pb Pc N C:Nat) (ha:4503599627370496<=ma) (ha':ma<9007199254740992) (hb:4503599627370496<=mb) (hb':mb<9007199254740992) (hc:4503599627370496<=mc) (hc':mc<9007199254740992)
  (hN:N*2 ^ 104=ma*mb*2 ^ (Pa+Pb)) (hC:C*2 ^ 104=mc*2 ^ (Pc+1126)) (h1:N<=2*C) (h2:C<=2*N):Pa+Pb<=Pc+1075/\Pc+1072<=Pa+Pb:=by
 have p52:(4503599627370496:Nat)=2 ^ 52:=rfl
 have p53:(9007199254740992:Nat)=2 ^ 53:=rfl
 have l1:2 ^ 52*2 ^ 52<=ma*mb:=Nat.mul_le_mul (by omega) (by omega)
 have l2:ma*mb<2 ^ 53*2 ^ 53:=Nat.mul_lt_mul'' (by omega) (by omega)
 rw[<-Nat.pow_add] at l1 l2
 constructor
 ·have q1:2 ^ (52+52+(Pa+Pb))<2 ^ (1+53+(Pc+1126)):=by
   calc 2 ^ (52+52+(Pa+Pb))=2 ^ (52+52)*2 ^ (Pa+Pb):=by rw[Nat.pow_add]
    _<=ma*mb*2 ^ (Pa+Pb):=Nat.mul_le_mul_right _ l1
    _=N*2 ^ 104:=hN.symm
    _<=2*C*2 ^ 104:=Nat.mul_le_mul_right _ h1
    _=2*(mc*2 ^ (Pc+1126)):=by rw[Nat.mul_assoc,hC]
    _<2*(2 ^ 53*2 ^ (Pc+1126)):=Nat.mul_lt_mul_of_pos_left (Nat.mul_lt_mul_of_pos_right (by omega) (Nat.two_pow_pos _)) (by omega)
    _=2 ^ (1+53+(Pc+1126)):=by rw[Nat.pow_add 2 (1+53),Nat.pow_add 2 1,Nat.pow_one,Nat.mul_assoc]
  have:=(Nat.pow_lt_pow_iff_right (by omega:1<2)).1 q1
  omega
 ·have q1:2 ^ (52+(Pc+1126))<2 ^ (1+(53+53)+(Pa+Pb)):=by
   calc 2 ^ (52+(Pc+1126))=2 ^ 52*2 ^ (Pc+1126):=by rw[Nat.pow_add]
    _<=mc*2 ^ (Pc+1126):=Nat.mul_le_mul_right _ (by omega)
    _=C*2 ^ 104:=hC.symm
    _<=2*N*2 ^ 104:=Nat.mul_le_mul_right _ h2
    _=2*(ma*mb*2 ^ (Pa+Pb)):=by rw[Nat.mul_assoc,hN]
    _<2*(2 ^ (53+53)*2 ^ (Pa+Pb)):=Nat.mul_lt_mul_of_pos_left (Nat.mul_lt_mul_of_pos_right l2 (Nat.two_pow_pos _)) (by omega)
    _=2 ^ (1+(53+53)+(Pa+Pb)):=by rw[Nat.pow_add 2 (1+(53+53)),Nat.pow_add 2 1,Nat.pow_one,Nat.mul_assoc]
  have:=(Nat.pow_lt_pow_iff_right (by omega:1<2)).1 q1
  omega
theorem prod49 (a b p fa fb q nq o:Nat) (ea eb:Int) (w:World) (h1 : -3000<=ea) (h2:ea<=3000) (h3 : -3000<=eb) (h4:eb<=3000)
  (hA:∀w,Calls Tryz.prog 92 #[.float .f64 a] w fun e w'=>e = .returned (.tuple #[.float .f64 fa,.int .i64 ea])/\w'=w)
  (hB:∀w,Calls Tryz.prog 92 #[.float .f64 b] w fun e w'=>e = .returned (.tuple #[.float .f64 fb,.int .i64 eb])/\w'=w)
  (hQ:∀w,Calls Tryz.prog 43 #[.float .f64 p,.int .i64 (-ea-eb)] w fun e w'=>e = .returned (.float .f64 q)/\w'=w)
  (hq:negN q=nq) (hf:double.fma fa fb nq=some o) :
  Calls Tryz.prog 96 #[.float .f64 a,.float .f64 b,.float .f64 p] w fun e w'=>e = .returned (.float .f64 o)/\w'=w:=by
 have HA:Hid (∀w,Calls Tryz.prog 92 #[.float .f64 a] w fun e w'=>e = .returned (.tuple #[.float .f64 fa,.int .i64 ea])/\w'=w):=hA
 have HB:Hid (∀w,Calls Tryz.prog 92 #[.float .f64 b] w fun e w'=>e = .returned (.tuple #[.float .f64 fb,.int .i64 eb])/\w'=w):=hB
 have HQ:Hid (∀w,Calls Tryz.prog 43 #[.float .f64 p,.int .i64 (-ea-eb)] w fun e w'=>e = .returned (.float .f64 q)/\w'=w):=hQ
 clear hA hB hQ
 have g1:∀w,(Op.unary .neg (.float .f64 q)).run Tryz.prog w = .ok (.float .f64 nq) w:=by
  intro w;rw[<-hq];exact neg_run _ w
 have g2:=fun w=>fma70 _ _ _ _ w hf
 clear hq hf
 go_enter Tryz.func96,Tryz.ntmps96
 go_wp2_with (first|(go_at_call 92;with_reducible refine(HA.out _).mono ?_;rintro e w' ⟨rfl,rfl⟩)|(go_at_call 92;with_reducible refine(HB.out _).mono ?_;rintro e w' ⟨rfl,rfl⟩)|(go_at_call 43;refine(HQ.out _).mono ?_;rintro e w' ⟨rfl,rfl⟩))
 go_ret
 exact⟨rfl,rfl⟩
end Go.Proofs.YtibckeckjfmbkaaGreatDoor.Fl
