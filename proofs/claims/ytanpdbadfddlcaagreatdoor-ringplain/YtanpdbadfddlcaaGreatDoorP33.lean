import Derived.Test.YtanpdbadfddlcaaGreatDoorP32
import Derived.Test.YtanpdbadfddlcaaGreatDoorP15
namespace Go.Proofs.YtanpdbadfddlcaaGreatDoor.Fl
open Go.RowKit
open Ieee
set_option linter.unusedVariables false
def RF (w:World) (ad:Option Addr) (n:Nat) (G:Nat->Nat):Prop:=0<n->∃b,ad=some ⟨b,0,none⟩/\b<w.heap.size/\∀j,j<n->∃p,w.cell? ⟨b,j,none⟩=some (.float .f64 p)/\cn p=G j/\p<18446744073709551616
theorem RF.gr {w w':World} {ad:Option Addr} {n:Nat} {G:Nat->Nat} (h:RF w ad n G) (g:Gr w w'):RF w' ad n G:=fun hp=>by
 obtain⟨b,e,hb,hc⟩:=h hp
 refine⟨b,e,Nat.lt_of_lt_of_le hb g.size,fun j hj=>?_⟩
 obtain⟨p,h1,h2⟩:=hc j hj
 exact⟨p,g.keep h1,h2⟩
def QF (i:Nat) (F G:Nat->Nat × Nat):Nat->Nat × Nat:=fun j=>if j<i then G j else F j
theorem QF_zero (F G:Nat->Nat × Nat) (j:Nat):QF 0 F G j=F j:=by unfold QF;rw[if_neg (by omega)]
theorem QF_next (i:Nat) (F G:Nat->Nat × Nat) (j:Nat):QF (i+1) F G j=if j=i then G i else QF i F G j:=by
 unfold QF
 by_cases h:j=i
 ·subst h;rw[if_pos (by omega),if_pos rfl]
 ·rw[if_neg h]
  by_cases h2:j<i
  ·rw[if_pos h2,if_pos (by omega)]
  ·rw[if_neg h2,if_neg (by omega)]
theorem QF_at (i:Nat) (F G:Nat->Nat × Nat):QF i F G i=F i:=by unfold QF;rw[if_neg (by omega)]
theorem QF_all (n:Nat) (F G:Nat->Nat × Nat) (j:Nat) (h:j<n):G j=QF n F G j:=by unfold QF;rw[if_pos h]
def bkS (k:Nat) (H:Nat->Nat) (f:Nat->Nat × Nat):Nat->Nat × Nat:=fun i=>scZ H (fwS k (fun j=>conjZ (RT k j)) f k i)
set_option maxHeartbeats 8000000 in
theorem backP (H:Nat->Nat) (k n cap:Nat) (ad:Option Addr) (zs:List (Nat × Nat)) (w:World) (hH:LdH (-(k:Int)) H) (hT:TabAt 2 Lib.deBruijn64tab w) (hF:TabF w) (hk:k<=7) (hn':n=2 ^ k) (hz:CR w ad n cap zs) (hw:∀i,WfZ (zs.getD i (0,0))) :
  Calls Tryz.prog 51 #[.slice ad n cap] w fun r w'=>∃g,w.heap.size<=g/\r = .returned (.tuple #[.slice (some ⟨g,0,none⟩) n n,.int .i64 0])/\Hid (TR w' g n (bkS k H (fun i=>cnZ (zs.getD i (0,0)))))/\Hid (Gr w w'):=by
 have HW:=hide (halfWheelP k (n:Int) w hk (by rw[hn']) hT)
 have hle:n<=128:=by rw[hn'];exact Nat.pow_le_pow_right (n:=2) (by omega) hk
 have hm:n / 2<=hn k/\hn k<=16384:=by unfold hn;rw[<-hn'];omega
 have TP:Hid (∀g w1,Gr w w1->TR w1 g (hn k) (fun j=>conjZ (RT k j))->Calls Tryz.prog 80 #[.slice ad n cap,.slice (some ⟨g,0,none⟩) (hn k) (hn k)] w1 fun r w'=>∃g,w1.heap.size<=g/\r = .returned (.tuple #[.slice (some ⟨g,0,none⟩) n n,.int .i64 0])/\Hid (TR w' g n (fwS k (fun j=>conjZ (RT k j)) (fun i=>cnZ (zs.getD i (0,0))) k))/\Hid (Gr w1 w')):=fun g w1 hg ht=>turnedP k n cap g (hn k) ad zs _ w1 (hF.gr hg) (by omega) hn' (hz.gr hg) hw ht hm.1 hm.2
 have hc:=hz.max
 have HH:=hide hH
 have kk:(k:Int)<=7:=by omega
 clear hT hF hz hw hn' hH
 have hm2:=hm.2
 clear hm
 unfold bkS
 generalize fwS k (fun j=>conjZ (RT k j)) (fun i=>cnZ (zs.getD i (0,0))) k=Y at *
 generalize hn k=m at *
 go_enter Tryz.func51,Tryz.ntmps51
 go_wp2_with (go_at_call 78;(with_reducible refine HW.out.mono ?_);rintro r w1 ⟨gr,h1,rfl,h2,h3⟩)
 go_loopw [22] (fun i wr=>∃j:Nat,j<=m/\i = .int .i64 (j:Int)/\Hid (TR wr gr m (QF j (RT k) (fun j=>conjZ (RT k j))))/\Hid (Gr w wr)) (fun i _=>m-(intOf i).toNat)
 case atStart=>exact⟨0,by omega,rfl,h2.out.congr fun i hi=>QF_zero _ _ i,h3⟩
 case round =>
  clear h2 h3
  obtain⟨j,hj,rfl,hR,hg⟩:=hrel
  by_cases hlt:j<m
  ·have i1:(j:Int)<(m:Int):=by omega
   obtain⟨x,y,c1,z1⟩:=hR.out.cell hlt
   rw[QF_at] at z1
   have f1:=hR.out.frozen j
   have CJ:=hide (fun w=>conjP x y _ w z1.out)
   clear z1
   generalize hng:ng y=y' at *
   go_wp2_with (go_at_call 79;(with_reducible refine(CJ.out _).mono ?_);rintro r w3 ⟨rfl,hz,rfl⟩)
   go_roundw
   case rel=>exact⟨j+1,by omega,by go_num,(TR.set hR.out hlt hz.out).congr fun i hi=>by rw[QF_next],hg.out.setCell (p:=⟨gr,j,none⟩) h1 _⟩
   case measure=>simp only[intOf];omega
  ·have hjn:j=m:=by omega
   subst hjn
   have i1:¬(j:Int)<(j:Int):=by omega
   have TP1:=hide (TP.out gr _ hg.out (hR.out.congr fun i hi=>QF_all j (RT k) (fun j=>conjZ (RT k j)) i hi))
   have hsz:=hg.out.size
   clear TP hR HW
   go_wp2_with (go_at_call 80;(with_reducible refine TP1.out.mono ?_);rintro r w4 ⟨g,h4,rfl,h5,h6⟩)
   have T0:Hid (TR w4 g n (QF 0 Y (fun i=>scZ H (Y i)))):=h5.out.congr fun i hi=>QF_zero _ _ i
   have G0:Hid (Gr w w4):=hg.out.trans h6.out
   clear h5 h6 TP1 hg
   have hgw:w.heap.size<=g:=by omega
   go_loopw [42] (fun i wq=>∃q:Nat,q<=n/\i = .int .i64 (q:Int)/\Hid (TR wq g n (QF q Y (fun i=>scZ H (Y i))))/\Hid (Gr w wq)) (fun i _=>n-(intOf i).toNat)
   case atStart=>exact⟨0,by omega,rfl,T0,G0⟩
   case round =>
    clear T0 G0
    obtain⟨q,hq,rfl,hT,hg⟩:=hrel
    by_cases hql:q<n
    ·have i2:(q:Int)<(n:Int):=by omega
     obtain⟨x,y,c1,z1⟩:=hT.out.cell hql
     rw[QF_at] at z1
     have f1:=hT.out.frozen q
     have SC:=hide (fun w=>scaleP (-(k:Int)) H x y _ w HH.out (by omega) (by omega) z1.out)
     clear z1
     go_wp2_with (go_at_call 81;(with_reducible refine(SC.out _).mono ?_);rintro r w5 ⟨p',q',rfl,hz,rfl⟩)
     go_roundw
     case rel=>exact⟨q+1,by omega,by go_num,(TR.set hT.out hql hz.out).congr fun i hi=>by rw[QF_next],hg.out.setCell (p:=⟨g,q,none⟩) hgw _⟩
     case measure=>simp only[intOf];omega
    ·have hqn:q=n:=by omega
     subst hqn
     have i2:¬(q:Int)<(q:Int):=by omega
     go_wp2
     go_ret2
     exact⟨g,hgw,rfl,hT.out.congr fun i hi=>QF_all q Y (fun i=>scZ H (Y i)) i hi,hg⟩
@[go_sem] theorem run_store_flt (P:Program) (w:World) (a:Addr) (m:Mode) (x:Nat):(store a (.float .f64 x) m).run P w=stored P w a (.float .f64 x) m:=run_store P w a _ m rfl
theorem made_f (n:Nat):(madeCells (Value.float .f64 0).cells (n*1)).toList=fz (List.replicate n 0):=by
 rw[Nat.mul_one]
 refine List.ext_getElem (by rw[Array.length_toList,size_madeCells,fz_length,List.length_replicate]) fun i h1 h2=>?_
 simp[madeCells,fz,Value.cells,Nat.mod_one]
theorem wpList_madeF {w:World} {ops:Array Oper} {rest:List Oper} {o:Oper} {a:Act} {Q:Exit->Act->World->Prop} (hgd:o.guard=none) (l c:Operand)
  (hop:o.op=Op.makeSlice 72 l c) (n:Nat) (L:Int) (hl:a.eval l = .int .i64 L) (hc:a.eval c = .int .i64 L) (hL:L=(n:Int)) (hn:n<=4398046511104)
  (hK:∀w',w'.ownsRow w.heap.size 25 1 (.slice (some ⟨w.heap.size,0,none⟩) n n) n (fz (List.replicate n 0))->Gr w w'->wpList Tryz.prog ops Q rest (a.put o.dst (.slice (some ⟨w.heap.size,0,none⟩) n n)) w') :
  wpList Tryz.prog ops Q (o :: rest) a w:=by
 obtain⟨i0,hi,hz0,hz1,hz2⟩:=info_parts infoF
 refine wpList_make_full w hgd l c 72 hop w.heap.size 25 i0 (.float .f64 0) 1 Tryz.underlying72 hi hz0 hz1 .i64 .i64 L L n hl hc hL hL (by rw[hz2];omega) (by unfold maxLen;omega) (Nat.le_refl _) ?_
 intro w' hown hgr
 rw[made_f] at hown
 exact hK w' hown ((Gr.refl w).grown hgr (fun k h=>by cases h))
theorem ownsF_cell {w:World} {base:Nat} {g N:Nat} {xs:List Nat} (h:w.ownsRow base 25 1 (.slice (some ⟨g,0,none⟩) N N) N (fz xs)) (j:Nat) (hj:j<N):w.cell? ⟨g,j,none⟩=some (.float .f64 (xs.getD j 0)):=by
 have hl:xs.length=N:=by have:=h.1;rw[fz_length] at this;omega
 rw[h.cellAt j (by omega),fz_get (by omega)]
theorem ownsF_set {w:World} {base:Nat} {g N:Nat} {xs:List Nat} (h:w.ownsRow base 25 1 (.slice (some ⟨g,0,none⟩) N N) N (fz xs)) (j x:Nat):(w.setCell ⟨g,j,none⟩ (.float .f64 x)).ownsRow base 25 1 (.slice (some ⟨g,0,none⟩) N N) N (fz (xs.set j x)):=by
 have:=(h.stored j (.float .f64 x)).1
 rw[show fz (xs.set j x)=(fz xs).set j (.float .f64 x) by simp[fz]]
 exact this
def OF (w:World) (g n i:Nat) (G:Nat->Nat):Prop:=∃xs,w.ownsRow g 25 1 (.slice (some ⟨g,0,none⟩) n n) n (fz xs)/\∀j,j<i->j<n->cn (xs.getD j 0)=G j/\xs.getD j 0<18446744073709551616
theorem OF.next {w:World} {g n i p:Nat} {G:Nat->Nat} (h:OF w g n i G) (hi:i<n) (h1:cn p=G i) (h2:p<18446744073709551616):OF (w.setCell ⟨g,i,none⟩ (.float .f64 p)) g n (i+1) G:=by
 obtain⟨xs,h3,h4⟩:=h
 have hl:xs.length=n:=by have:=h3.1;rw[fz_length] at this;omega
 refine⟨xs.set i p,ownsF_set h3 i p,fun j hj hn=>?_⟩
 rw[List.getD_eq_getElem?_getD,List.getElem?_set]
 by_cases e:i=j
 ·subst e
  rw[if_pos rfl,if_pos (by omega)]
  exact⟨h1,h2⟩
 ·rw[if_neg e,<-List.getD_eq_getElem?_getD]
  exact h4 j (by omega) hn
theorem OF.gr {w w':World} {g n i:Nat} {G:Nat->Nat} (h:OF w g n i G) (k:Gr w w'):OF w' g n i G:=by
 obtain⟨xs,h3,h4⟩:=h
 exact⟨xs,k.owns h3,h4⟩
theorem OF.free {w:World} {g n i:Nat} {G:Nat->Nat} (h:OF w g n i G) (j:Nat) (hj:j<n):(∃x,w.cell? ⟨g,j,none⟩=some (.float .f64 x))/\w.frozen? ⟨g,j,none⟩=false:=by
 obtain⟨xs,h3,h4⟩:=h
 exact⟨⟨_,ownsF_cell h3 j hj⟩,h3.frozenAt j⟩
theorem ctz_pow (k:Nat) (h:k<=14):Lib.ctz 64 (2 ^ k)=k:=by
 have key:(List.range 15).all (fun k=>decide (Lib.ctz 64 (2 ^ k)=k))=true:=by decide +kernel
 have:=List.all_eq_true.1 key k (List.mem_range.2 (by omega))
 simpa using this
theorem tzR (k:Nat) (w:World) (hk:k<=14) (hT:TabAt 2 Lib.deBruijn64tab w):Calls Tryz.prog 35 #[.int .u64 ((2 ^ k:Nat):Int)] w fun e w'=>e = .returned (.int .i64 (k:Int))/\w'=w:=by
 have hle:2 ^ k<=16384:=Nat.pow_le_pow_right (n:=2) (by omega) hk
 have TZ:Hid (Calls Tryz.prog 61 #[.int .u64 ((2 ^ k:Nat):Int)] w fun e w'=>e = .returned (.int .i64 (k:Int))/\w'=w):=by
  have:=tz76 (2 ^ k) (by omega) (Nat.two_pow_pos k) w hT
  rw[ctz_pow k hk] at this
  exact this
 clear hT
 generalize ((2 ^ k:Nat):Int)=x at *
 go_enter Tryz.func35,Tryz.ntmps35
 go_wp2_with (go_at_call 61;(with_reducible refine TZ.out.mono ?_);rintro r w1 ⟨rfl,rfl⟩)
 go_ret
 exact⟨rfl,rfl⟩
theorem and_pow (k:Nat) (h:k<=14):bits .and .i64 ((2 ^ k:Nat):Int) (((2 ^ k:Nat):Int)-1)=0:=by
 have key:(List.range 15).all (fun k=>decide (bits .and .i64 ((2 ^ k:Nat):Int) (((2 ^ k:Nat):Int)-1)=0))=true:=by decide +kernel
 have:=List.all_eq_true.1 key k (List.mem_range.2 (by omega))
 simpa using this
theorem orderOfR (k n c1 c2:Nat) (a1 a2:Option Addr) (w:World) (hk:k<=14) (hn:n=2 ^ k) (hT:TabAt 2 Lib.deBruijn64tab w) :
  Calls Tryz.prog 21 #[.slice a1 n c1,.slice a2 n c2] w fun e w'=>e = .returned (.tuple #[.int .i64 (k:Int),.bool true])/\w'=w:=by
 have hle:n<=16384:=by rw[hn];exact Nat.pow_le_pow_right (n:=2) (by omega) hk
 have hpos:0<n:=by rw[hn];exact Nat.two_pow_pos k
 have e1:bits .and .i64 (n:Int) ((n:Int)-1)=0:=by rw[hn];exact and_pow k hk
 have e2:IntKind.u64.wrap (n:Int)=(n:Int):=by rw[u64w];omega
 have e3:¬(n:Int)=0:=by omega
 have e4:¬(n:Int)>16384:=by omega
 have TZ:Hid (Calls Tryz.prog 35 #[.int .u64 (n:Int)] w fun e w'=>e = .returned (.int .i64 (k:Int))/\w'=w):=by rw[hn];exact tzR k w hk hT
 clear hn hT
 go_enter Tryz.func21,Tryz.ntmps21
 go_wp2_with (go_at_call 35;(with_reducible refine TZ.out.mono ?_);rintro r w1 ⟨rfl,rfl⟩)
 go_ret2
 exact⟨rfl,rfl⟩
def NoFit (n m:Nat):Prop:=¬(n=m/\0<n/\n<=16384/\bits .and .i64 (n:Int) ((n:Int)-1)=0)
theorem orderOfN (n m c1 c2:Nat) (a1 a2:Option Addr) (w:World) (h:NoFit n m) (hn:n<=4611686018427387904) (hm:m<=4611686018427387904) :
  Calls Tryz.prog 21 #[.slice a1 n c1,.slice a2 m c2] w fun e w'=>e = .returned (.tuple #[.int .i64 0,.bool false])/\w'=w:=by
 by_cases h1:n=m
 ·subst h1
  by_cases h2:n=0
  ·subst h2
   clear h
   go_enter Tryz.func21,Tryz.ntmps21
   go_wp2
   go_ret2
   exact⟨rfl,rfl⟩
  ·have e3:¬(n:Int)=0:=by omega
   by_cases h3:n<=16384
   ·have e4:¬(n:Int)>16384:=by omega
    have e1:(bits .and .i64 (n:Int) ((n:Int)-1) != 0)=true:=by
     rw[bne_iff_ne];exact fun e=>h ⟨rfl,by omega,h3,e⟩
    clear h
    go_enter Tryz.func21,Tryz.ntmps21
    go_wp2
    go_ret2
    exact⟨rfl,rfl⟩
   ·have e4:(n:Int)>16384:=by omega
    clear h
    go_enter Tryz.func21,Tryz.ntmps21
    go_wp2
    go_ret2
    exact⟨rfl,rfl⟩
 ·have e1:¬(n:Int)=(m:Int):=by omega
  clear h
  go_enter Tryz.func21,Tryz.ntmps21
  go_wp2
  go_ret2
  exact⟨rfl,rfl⟩
def fiW (n:Int):Nat:=W (decide (n<0)) (ofN n.natAbs)
theorem fiW_lt (n:Int) (h:n.natAbs<=9007199254740992):fiW n<18446744073709551616:=by
 obtain⟨_,h2,_⟩:=ofN_spec n.natAbs h
 exact W_lt _ _ (by omega)
theorem floatsR (n cap:Nat) (ad:Option Addr) (f:Nat->Int) (w:World) (h:IR w ad n f) (hn:n<=16384) (hs:∀i,i<n->(f i).natAbs<=9007199254740992) :
  Calls Tryz.prog 49 #[.slice ad n cap] w fun r w'=>∃g,w.heap.size<=g/\r = .returned (.slice (some ⟨g,0,none⟩) n n)/\Hid (∃xs,w'.ownsRow g 25 1 (.slice (some ⟨g,0,none⟩) n n) n (fz xs)/\∀j,j<n->xs.getD j 0=fiW (f j))/\Hid (Gr w w'):=by
 have hn4:n<=4398046511104:=by omega
 have H:=hide h
 have HS:=hide hs
 clear h hs
 go_enter Tryz.func49,Tryz.ntmps49
 go_wp2_with (at_make;refine wpList_madeF rfl _ _ rfl n _ rfl rfl rfl hn4 ?_;intro w2 hown0 hg2)
 have OW:Hid (∃xs,w2.ownsRow w.heap.size 25 1 (.slice (some ⟨w.heap.size,0,none⟩) n n) n (fz xs)/\∀j,j<0->j<n->xs.getD j 0=fiW (f j)):=⟨_,hown0,fun j hj=>absurd hj (by omega)⟩
 have G2:=hide hg2
 clear hown0 hg2
 generalize hsz:w.heap.size=g at *
 go_loopw [4,5,11] (fun m x i wr=>∃j:Nat,j<=n/\i = .int .i64 (j:Int)/\Hid (∃xs,wr.ownsRow g 25 1 (.slice (some ⟨g,0,none⟩) n n) n (fz xs)/\∀i,i<j->i<n->xs.getD i 0=fiW (f i))/\Hid (Gr w wr)) (fun _ _ i _=>n-(intOf i).toNat)
 case atStart=>exact⟨0,by omega,rfl,OW,G2⟩
 case round =>
  clear OW G2
  obtain⟨j,hj,rfl,hO,hg⟩:=hrel
  by_cases hlt:j<n
  ·have i1:(j:Int)<(n:Int):=by omega
   obtain⟨b,rfl,hb,hc⟩:=(H.out.gr hg.out) (by omega)
   obtain⟨c1,c2,c3⟩:=hc j hlt
   obtain⟨xs,ho,hx⟩:=hO.out
   have c4:=ownsF_cell ho j hlt
   have f4:=ho.frozenAt j
   have F1:Hid (floatOfInt .f64 (f j)=fiW (f j)):=floatOfInt_W (f j) (HS.out j hlt)
   have NX:Hid (∃ys,(wr.setCell ⟨g,j,none⟩ (.float .f64 (floatOfInt .f64 (f j)))).ownsRow g 25 1 (.slice (some ⟨g,0,none⟩) n n) n (fz ys)/\∀i,i<j+1->i<n->ys.getD i 0=fiW (f i)):=by
    refine⟨_,ownsF_set ho j _,fun i h1 h2=>?_⟩
    have hl:xs.length=n:=by have:=ho.1;rw[fz_length] at this;omega
    by_cases e:i=j
    ·subst e;rw[List.getD_eq_getElem?_getD,List.getElem?_set_self (by omega)];exact F1.out
    ·rw[List.getD_eq_getElem?_getD,List.getElem?_set_ne (by omega),<-List.getD_eq_getElem?_getD];exact hx i (by omega) h2
   have GN:Hid (Gr w (wr.setCell ⟨g,j,none⟩ (.float .f64 (floatOfInt .f64 (f j))))):=hg.out.setCell (p:=⟨g,j,none⟩) (by show w.heap.size<=g;omega) _
   clear hO hx ho hc c2 c3 F1
   generalize xs.getD j 0=d at *
   generalize hF:floatOfInt .f64 (f j)=z at *
   go_wp2
   go_roundw
   case rel=>exact⟨j+1,by omega,by go_num,NX,GN⟩
   case measure=>simp only[intOf];omega
  ·have hjn:j=n:=by omega
   subst hjn
   have i1:¬(j:Int)<(j:Int):=by omega
   go_wp2
   go_ret
   refine⟨g,by omega,rfl,?_,hg⟩
   obtain⟨xs,ho,hx⟩:=hO.out
   exact⟨xs,ho,fun i hi=>hx i hi hi⟩
theorem m3 (motive:Array Value->Type) (x y z:Nat) (h1:(x y z:Nat)->motive #[.float .f64 x,.float .f64 y,.float .f64 z]) (h2:(x:Array Value)->motive x):Extern.MathFMA.fma.match_3 motive #[.float .f64 x,.float .f64 y,.float .f64 z] h1 h2=h1 x y z:=rfl
theorem fma70 (x y z r:Nat) (w:World) (h:double.fma x y z=some r):(callFunc 101 #[.float .f64 x,.float .f64 y,.float .f64 z]).run Tryz.prog w = .ok (.value (.float .f64 r)) w:=by
 have h1:Extern.MathFMA.fma #[.float .f64 x,.float .f64 y,.float .f64 z]=pure (.float .f64 r):=by
  unfold Extern.MathFMA.fma
  have h2:FloatKind.f64.format.fma x y z=some r:=h
  rw[m3 (fun _=>Sem Value),h2]
 have h3:(callFunc 101 #[.float .f64 x,.float .f64 y,.float .f64 z]).run Tryz.prog w=((Extern.MathFMA.fma #[.float .f64 x,.float .f64 y,.float .f64 z]).run Tryz.prog w).andThen fun v w'=>.ok (.value v) w':=
  run_callFunc_extern Tryz.func101 (by kernel_rfl) (by kernel_rfl) (by kernel_rfl) (by kernel_rfl) _ w
 rw[h3,h1]
 rfl
theorem nearest_tiny (neg:Bool) (mag:Nat) (place:Int) (k:Nat) (hk:0<=place+1074+k) (h:2*(mag*2 ^ (place+1074+k).toNat)<2 ^ k):double.nearest neg mag place=W neg 0:=by
 unfold Format.nearest
 by_cases h0:mag=0
 ·rw[if_pos h0,word_W]
 rw[if_neg h0,d_frac,d_least,d_binade,d_inf]
 simp only[]
 have hl:=Nat.log2_self_le h0
 have h1:2 ^ (mag.log2+(place+1074+k).toNat+1)<2 ^ k:=by
  refine Nat.lt_of_le_of_lt ?_ h
  rw[Nat.pow_succ,Nat.pow_add,Nat.mul_comm]
  exact Nat.mul_le_mul_left _ (Nat.mul_le_mul_right _ hl)
 have h2:=(Nat.pow_lt_pow_iff_right (by omega:1<2)).1 h1
 have e1:max (place+(mag.log2:Int)-(52:Nat)) (-1074) = -1074:=by omega
 rw[e1]
 have e2:(place - -1074).toNat=0:=by omega
 have e3:((-1074:Int) - -1074).toNat=0:=by omega
 rw[e2,e3,Nat.shiftLeft_zero,Nat.zero_mul,Nat.zero_add,cut_even]
 have h3:2*mag<2 ^ ((-1074:Int)-place).toNat:=by
  refine Nat.lt_of_mul_lt_mul_right (a:=2 ^ (place+1074+k).toNat) ?_
  rw[Nat.mul_assoc,<-Nat.pow_add]
  have:((-1074:Int)-place).toNat+(place+1074+k).toNat=k:=by omega
  rw[this]
  exact h
 generalize 2 ^ ((-1074:Int)-place).toNat=g at *
 have h4:mag / g=0:=Nat.div_eq_of_lt (by omega)
 have h5:mag % g=mag:=Nat.mod_eq_of_lt (by omega)
 rw[h4,h5]
 unfold evenUp
 rw[decide_eq_false (by omega),show(0 % 2==1)=false from rfl,Bool.and_false,word_W]
 rfl
theorem M_dbl {c:Nat} (h:0<c):M (c+1)<=2*M c:=by
 rw[M_succ]
 have:2 ^ ex c<=M c:=by
  by_cases he:0<ex c
  ·have:=M_lower c he
   have:=Nat.two_pow_pos (ex c)
   omega
  ·have:ex c=0:=by omega
   rw[this]
   have:=M_pos h
   simp
   omega
 omega
theorem mul_range (ma mb mc Pa Pb Pc N C:Nat) (ha:4503599627370496<=ma) (ha':ma<9007199254740992) (hb:4503599627370496<=mb) (hb':mb<9007199254740992) (hc:4503599627370496<=mc) (hc':mc<9007199254740992)
  (hN:N*2 ^ 104=ma*mb*2 ^ (Pa+Pb)) (hC:C*2 ^ 104=mc*2 ^ (Pc+1126)) (h1:N<=2*C) (h2:C<=2*N):Pa+Pb<=Pc+1075/\Pc+1072<=Pa+Pb:=by
 have p52:(4503599627370496:Nat)=2 ^ 52:=rfl
 have p53:(9007199254740992:Nat)=2 ^ 53:=rfl
 have l1:2 ^ 52*2 ^ 52<=ma*mb:=Nat.mul_le_mul (by omega) (by omega)
 have l2:ma*mb<2 ^ 53*2 ^ 53:=Nat.mul_lt_mul'' (by omega) (by omega)
 rw[<-Nat.pow_add] at l1 l2
 constructor
 ·have q1:2 ^ (52+52+(Pa+Pb))<2 ^ (1+53+(Pc+1126)):=by
   calc 2 ^ (52+52+(Pa+Pb))=2 ^ (52+52)*2 ^ (Pa+Pb):=by rw[Nat.pow_add]
    _<=ma*mb*2 ^ (Pa+Pb):=Nat.mul_le_mul_right _ l1
    _=N*2 ^ 104:=hN.symm
    _<=2*C*2 ^ 104:=Nat.mul_le_mul_right _ h1
    _=2*(mc*2 ^ (Pc+1126)):=by rw[Nat.mul_assoc,hC]
    _<2*(2 ^ 53*2 ^ (Pc+1126)):=Nat.mul_lt_mul_of_pos_left (Nat.mul_lt_mul_of_pos_right (by omega) (Nat.two_pow_pos _)) (by omega)
    _=2 ^ (1+53+(Pc+1126)):=by rw[Nat.pow_add 2 (1+53),Nat.pow_add 2 1,Nat.pow_one,Nat.mul_assoc]
  have:=(Nat.pow_lt_pow_iff_right (by omega:1<2)).1 q1
  omega
 ·have q1:2 ^ (52+(Pc+1126))<2 ^ (1+(53+53)+(Pa+Pb)):=by
   calc 2 ^ (52+(Pc+1126))=2 ^ 52*2 ^ (Pc+1126):=by rw[Nat.pow_add]
    _<=mc*2 ^ (Pc+1126):=Nat.mul_le_mul_right _ (by omega)
    _=C*2 ^ 104:=hC.symm
    _<=2*N*2 ^ 104:=Nat.mul_le_mul_right _ h2
    _=2*(ma*mb*2 ^ (Pa+Pb)):=by rw[Nat.mul_assoc,hN]
    _<2*(2 ^ (53+53)*2 ^ (Pa+Pb)):=Nat.mul_lt_mul_of_pos_left (Nat.mul_lt_mul_of_pos_right l2 (Nat.two_pow_pos _)) (by omega)
    _=2 ^ (1+(53+53)+(Pa+Pb)):=by rw[Nat.pow_add 2 (1+(53+53)),Nat.pow_add 2 1,Nat.pow_one,Nat.mul_assoc]
  have:=(Nat.pow_lt_pow_iff_right (by omega:1<2)).1 q1
  omega
theorem prod49 (a b p fa fb q nq o:Nat) (ea eb:Int) (w:World) (h1 : -3000<=ea) (h2:ea<=3000) (h3 : -3000<=eb) (h4:eb<=3000)
  (hA:∀w,Calls Tryz.prog 100 #[.float .f64 a] w fun e w'=>e = .returned (.tuple #[.float .f64 fa,.int .i64 ea])/\w'=w)
  (hB:∀w,Calls Tryz.prog 100 #[.float .f64 b] w fun e w'=>e = .returned (.tuple #[.float .f64 fb,.int .i64 eb])/\w'=w)
  (hQ:∀w,Calls Tryz.prog 39 #[.float .f64 p,.int .i64 (-ea-eb)] w fun e w'=>e = .returned (.float .f64 q)/\w'=w)
  (hq:negN q=nq) (hf:double.fma fa fb nq=some o) :
  Calls Tryz.prog 105 #[.float .f64 a,.float .f64 b,.float .f64 p] w fun e w'=>e = .returned (.float .f64 o)/\w'=w:=by
 have HA:Hid (∀w,Calls Tryz.prog 100 #[.float .f64 a] w fun e w'=>e = .returned (.tuple #[.float .f64 fa,.int .i64 ea])/\w'=w):=hA
 have HB:Hid (∀w,Calls Tryz.prog 100 #[.float .f64 b] w fun e w'=>e = .returned (.tuple #[.float .f64 fb,.int .i64 eb])/\w'=w):=hB
 have HQ:Hid (∀w,Calls Tryz.prog 39 #[.float .f64 p,.int .i64 (-ea-eb)] w fun e w'=>e = .returned (.float .f64 q)/\w'=w):=hQ
 clear hA hB hQ
 have g1:∀w,(Op.unary .neg (.float .f64 q)).run Tryz.prog w = .ok (.float .f64 nq) w:=by
  intro w;rw[<-hq];exact neg_run _ w
 have g2:=fun w=>fma70 _ _ _ _ w hf
 clear hq hf
 go_enter Tryz.func105,Tryz.ntmps105
 go_wp2_with (first|(go_at_call 100;with_reducible refine(HA.out _).mono ?_;rintro e w' ⟨rfl,rfl⟩)|(go_at_call 100;with_reducible refine(HB.out _).mono ?_;rintro e w' ⟨rfl,rfl⟩)|(go_at_call 39;refine(HQ.out _).mono ?_;rintro e w' ⟨rfl,rfl⟩))
 go_ret
 exact⟨rfl,rfl⟩
theorem fmaX_dvd (s t u:Bool) (a b c:Nat) (h:U ∣ M a*M b):fmaX s t u a b c=0\/U<=(fmaX s t u a b c).natAbs:=by
 have h1:(U:Int) ∣ ((M a*M b:Nat):Int):=Int.natCast_dvd_natCast.2 h
 have h2:(U:Int) ∣ fmaX s t u a b c:=by
  unfold fmaX
  refine Int.dvd_add ?_ (Int.dvd_mul_left ..)
  split
  ·exact Int.dvd_neg.2 h1
  ·exact h1
 obtain⟨k,hk⟩:=h2
 by_cases hz:k=0
 ·left;rw[hk,hz,Int.mul_zero]
 ·right
  rw[hk,Int.natAbs_mul,Int.natAbs_natCast]
  exact Nat.le_mul_of_pos_right _ (by omega)
theorem scaled {a b c d K1 K2:Nat} (h1:0<K1) (h2:0<K2) (e1:a*K1=b*K2) (e2:c*K1=d*K2):(a<c ↔ b<d)/\(c<a ↔ d<b):=by
 constructor
 ·constructor
  ·intro h
   have:=Nat.mul_lt_mul_of_pos_right h h1
   rw[e1,e2] at this
   exact Nat.lt_of_mul_lt_mul_right this
  ·intro h
   have:=Nat.mul_lt_mul_of_pos_right h h2
   rw[<-e1,<-e2] at this
   exact Nat.lt_of_mul_lt_mul_right this
 ·constructor
  ·intro h
   have:=Nat.mul_lt_mul_of_pos_right h h1
   rw[e1,e2] at this
   exact Nat.lt_of_mul_lt_mul_right this
  ·intro h
   have:=Nat.mul_lt_mul_of_pos_right h h2
   rw[<-e1,<-e2] at this
   exact Nat.lt_of_mul_lt_mul_right this
theorem pick_out (x:Bool) (z y n k c:Nat) (hc:c<9218868437227405312) (k1:z<y ↔ n<k) (k2:y<z ↔ k<n) :
  (if x then decide ((if x then (y:Int)-(z:Int) else (z:Int)-(y:Int))<0) else decide (0<(if x then (y:Int)-(z:Int) else (z:Int)-(y:Int))))=decide (c<9218868437227405312/\k<n):=by
 cases x <;> simp only[Bool.false_eq_true,if_false,if_true] <;> exact decide_eq_decide.2 (by omega)
theorem pick_in (x:Bool) (z y n k c:Nat) (hc:c<9218868437227405312) (k1:z<y ↔ n<k) (k2:y<z ↔ k<n) :
  (if x then decide (0<(if x then (y:Int)-(z:Int) else (z:Int)-(y:Int))) else decide ((if x then (y:Int)-(z:Int) else (z:Int)-(y:Int))<0))=decide (c=9218868437227405312\/n<k):=by
 cases x <;> simp only[Bool.false_eq_true,if_false,if_true] <;> exact decide_eq_decide.2 (by omega)
theorem M_frac (m:Nat) (h:4503599627370496<=m) (h':m<9007199254740992):M (1021*4503599627370496+m)=m*2 ^ E21:=M_at E21 m (Or.inl ⟨h,by omega⟩)
theorem frac_dvd (m n:Nat) (h:4503599627370496<=m) (h':m<9007199254740992) (g:4503599627370496<=n) (g':n<9007199254740992):U ∣ M (1021*4503599627370496+m)*M (1021*4503599627370496+n):=by
 rw[M_frac m h h',M_frac n g g',Nat.mul_mul_mul_comm,<-Nat.pow_add]
 unfold U
 exact Nat.dvd_trans (Nat.pow_dvd_pow 2 (by decide)) (Nat.dvd_mul_left ..)
theorem fma_inf (s t u:Bool) (a b:Nat) (ha:a<9218868437227405312) (hb:b<9218868437227405312):double.fma (W s a) (W t b) (W u 9218868437227405312)=some (W u 9218868437227405312):=by
 unfold Format.fma
 rw[read_fin s a ha,read_fin t b hb,read_inf]
 cases u <;> rfl
theorem frexp_any (s:Bool) (r:Nat) (hr:r<9218868437227405312):∃f,∃e:Int,f<9218868437227405312/\-3000<=e/\e<=3000/\(r=0->f=0) /\
  ∀w,Calls Tryz.prog 100 #[.float .f64 (W s r)] w fun e' w'=>e' = .returned (.tuple #[.float .f64 (W s f),.int .i64 e])/\w'=w:=by
 by_cases h0:r=0
 ·subst h0
  exact⟨0,0,by omega,by omega,by omega,fun _=>rfl,fun w=>frexp69 _ _ _ w fun w=>frexp85z _ w (by rw[zeroB_W s 0 (by omega)];rfl)⟩
 ·obtain⟨m,P,h1,h2,h3,h4,h5⟩:=frexp_spec s r (by omega) hr
  exact⟨_,_,by omega,by omega,by omega,fun h=>absurd h h0,h5⟩
theorem mul_err (s t:Bool) (a b c:Nat) (ha:a<9218868437227405312) (hb:b<9218868437227405312) (hn:Near (M a*M b) U c) (hhalf:0<c->c<9218868437227405312->M c*U<=2*(M a*M b)) :
  ∃o,(∀w,Calls Tryz.prog 105 #[.float .f64 (W s a),.float .f64 (W t b),.float .f64 (W (s ^^ t) c)] w fun e w'=>e = .returned (.float .f64 o)/\w'=w) /\
   (if (s ^^ t) then negB o else posB o)=decide (c<9218868437227405312/\M c*U<M a*M b) /\
   (if (s ^^ t) then posB o else negB o)=decide (c=9218868437227405312\/M a*M b<M c*U):=by
 have hU:=U_pos
 obtain⟨hn1,hn2,hn3⟩:=hn
 by_cases hz:a=0\/b=0
 ·have hN:M a*M b=0:=by
   rcases hz with h|h
   ·rw[h,M_zero,Nat.zero_mul]
   ·rw[h,M_zero,Nat.mul_zero]
  have hc:c=0:=by
   refine Nat.eq_zero_of_not_pos fun hp=>?_
   have:=hn3 hp
   omega
  subst hc
  obtain⟨fa,ea,a1,a2,a3,a4,a5⟩:=frexp_any s a ha
  obtain⟨fb,eb,b1,b2,b3,b4,b5⟩:=frexp_any t b hb
  have hP:M fa*M fb=0:=by
   rcases hz with h|h
   ·rw[a4 h,M_zero,Nat.zero_mul]
   ·rw[b4 h,M_zero,Nat.mul_zero]
  have hX:fmaX s t (!(s ^^ t)) fa fb 0=0:=by
   unfold fmaX
   rw[hP,val_zero]
   simp
  obtain⟨sg,d,g1,g2,g3,g4⟩:=fma_sign s t (!(s ^^ t)) fa fb 0 a1 b1 (by omega) (Or.inl hX)
  rw[hX] at g3 g4
  refine⟨_,fun w=>prod49 _ _ _ _ _ _ _ _ ea eb w a2 a3 b2 b3 a5 b5 (fun w=>ldexp_same _ _ w (by rw[zeroB_W _ 0 (by omega)];rfl)) (neg_W _ 0 (by omega)) g2,?_,?_⟩
  ·rw[g3,g4,hN,M_zero,Nat.zero_mul]
   cases (s ^^ t) <;> rfl
  ·rw[g3,g4,hN,M_zero,Nat.zero_mul]
   cases (s ^^ t) <;> rfl
 ·have ha0:0<a:=by omega
  have hb0:0<b:=by omega
  have hNpos:0<M a*M b:=Nat.mul_pos (M_pos ha0) (M_pos hb0)
  obtain⟨ma,Pa,a1,a2,a3,a4,a5⟩:=frexp_spec s a ha0 ha
  obtain⟨mb,Pb,b1,b2,b3,b4,b5⟩:=frexp_spec t b hb0 hb
  have hdv:=frac_dvd ma mb a1 a2 b1 b2
  have hfpos:0<M (1021*4503599627370496+ma)*M (1021*4503599627370496+mb):=Nat.mul_pos (M_pos (by omega)) (M_pos (by omega))
  by_cases hcI:c=9218868437227405312
  ·subst hcI
   refine⟨_,fun w=>prod49 _ _ _ _ _ _ _ _ _ _ w (by omega) (by omega) (by omega) (by omega) a5 b5 (fun w=>ldexp_same _ _ w (by
     rw[abs_W _ _ (by omega)]
     have:=pinfB_W false 9218868437227405312 (by omega)
     rw[show W false 9218868437227405312=9218868437227405312 from rfl] at this
     rw[this,Bool.or_eq_true]
     exact Or.inr rfl)) (neg_W _ _ (by omega)) (fma_inf s t _ _ _ (by omega) (by omega)),?_,?_⟩
   ·rw[negB_W _ _ (by omega),posB_W _ _ (by omega),decide_eq_false (p:=9218868437227405312<9218868437227405312/\_) (by omega)]
    cases (s ^^ t) <;> rfl
   ·rw[negB_W _ _ (by omega),posB_W _ _ (by omega),decide_eq_true (p:=9218868437227405312=9218868437227405312\/_) (Or.inl rfl)]
    cases (s ^^ t) <;> rfl
  ·by_cases hc0:c=0
   ·subst hc0
    have hX:fmaX s t (!(s ^^ t)) (1021*4503599627370496+ma) (1021*4503599627370496+mb) 0=if (s ^^ t) then -((M (1021*4503599627370496+ma)*M (1021*4503599627370496+mb):Nat):Int) else ((M (1021*4503599627370496+ma)*M (1021*4503599627370496+mb):Nat):Int):=by
     unfold fmaX
     rw[val_zero,Int.zero_mul,Int.add_zero]
    obtain⟨sg,d,g1,g2,g3,g4⟩:=fma_sign s t (!(s ^^ t)) (1021*4503599627370496+ma) (1021*4503599627370496+mb) 0 (by omega) (by omega) (by omega) (fmaX_dvd _ _ _ _ _ _ hdv)
    rw[hX] at g3 g4
    refine⟨_,fun w=>prod49 _ _ _ _ _ _ _ _ _ _ w (by omega) (by omega) (by omega) (by omega) a5 b5 (fun w=>ldexp_same _ _ w (by rw[zeroB_W _ 0 (by omega)];rfl)) (neg_W _ 0 (by omega)) g2,?_,?_⟩
    ·rw[g3,g4,M_zero,Nat.zero_mul,decide_eq_true (p:=0<9218868437227405312/\_) ⟨by omega,hNpos⟩]
     generalize M (1021*4503599627370496+ma)*M (1021*4503599627370496+mb)=z at *
     cases (s ^^ t) <;> simp only[Bool.false_eq_true,if_false,if_true] <;> exact decide_eq_true (by omega)
    ·rw[g3,g4,M_zero,Nat.zero_mul,decide_eq_false (p:=0=9218868437227405312\/_) (by omega)]
     generalize M (1021*4503599627370496+ma)*M (1021*4503599627370496+mb)=z at *
     cases (s ^^ t) <;> simp only[Bool.false_eq_true,if_false,if_true] <;> exact decide_eq_false (by omega)
   ·obtain⟨mc,Pc,c1,c2,c3,c4,c5⟩:=ldexp_spec (s ^^ t) c (by omega) (by omega)
    have hN:M a*M b*2 ^ 104=ma*mb*2 ^ (Pa+Pb):=by
     rw[show(104:Nat)=52+52 from rfl,Nat.pow_add,Nat.mul_mul_mul_comm,a4,b4,Nat.pow_add,Nat.mul_mul_mul_comm]
    have hC:M c*U*2 ^ 104=mc*2 ^ (Pc+1126):=by
     have e:Pc+1126=Pc+(52+E74):=rfl
     rw[show(104:Nat)=52+52 from rfl,Nat.pow_add,e,Nat.pow_add,Nat.pow_add,<-Nat.mul_assoc mc,<-c4]
     unfold U
     rw[Nat.mul_mul_mul_comm,Nat.mul_comm (2 ^ E74) (2 ^ 52)]
    have r1:M a*M b<2*(M c*U):=by
     refine Nat.lt_of_lt_of_le (hn2 (by omega)) ?_
     rw[<-Nat.mul_assoc]
     exact Nat.mul_le_mul_right _ (M_dbl (by omega))
    obtain⟨q1,q2⟩:=mul_range ma mb mc Pa Pb Pc _ _ a1 a2 b1 b2 c1 c2 hN hC (Nat.le_of_lt r1) (hhalf (by omega) (by omega))
    obtain⟨Q,hQ⟩:∃Q:Nat,Q+(Pa+Pb)=2094+Pc:=⟨2094+Pc-(Pa+Pb),by omega⟩
    have hL:=c5 (-((Pa:Int)-1073)-((Pb:Int)-1073)) Q (by omega) (by omega) (by omega) (by omega)
    have hMq:M (Q*4503599627370496+mc)=mc*2 ^ Q:=M_at Q mc (Or.inl ⟨c1,by omega⟩)
    have e1:M (1021*4503599627370496+ma)*M (1021*4503599627370496+mb)*2 ^ (Pa+Pb)=M a*M b*(2 ^ 104*2 ^ (E21+E21)):=by
     rw[M_frac ma a1 a2,M_frac mb b1 b2,Nat.mul_mul_mul_comm,<-Nat.pow_add,<-Nat.mul_assoc,hN,Nat.mul_right_comm]
    have e2:M (Q*4503599627370496+mc)*U*2 ^ (Pa+Pb)=M c*U*(2 ^ 104*2 ^ (E21+E21)):=by
     rw[hMq,<-Nat.mul_assoc (M c*U),hC]
     unfold U
     rw[Nat.mul_assoc mc,<-Nat.pow_add,Nat.mul_assoc mc,<-Nat.pow_add,Nat.mul_assoc mc,<-Nat.pow_add]
     have e:Q+E74+(Pa+Pb)=Pc+1126+(E21+E21):=by
      have h1:E74=1074:=rfl
      have h2:E21=1021:=rfl
      omega
     rw[e]
    obtain⟨k1,k2⟩:=scaled (Nat.two_pow_pos _) (Nat.mul_pos (Nat.two_pow_pos _) (Nat.two_pow_pos _)) e1 e2
    have hX:fmaX s t (!(s ^^ t)) (1021*4503599627370496+ma) (1021*4503599627370496+mb) (Q*4503599627370496+mc)=if (s ^^ t) then ((M (Q*4503599627370496+mc)*U:Nat):Int)-((M (1021*4503599627370496+ma)*M (1021*4503599627370496+mb):Nat):Int) else ((M (1021*4503599627370496+ma)*M (1021*4503599627370496+mb):Nat):Int)-((M (Q*4503599627370496+mc)*U:Nat):Int):=by
     unfold fmaX
     rw[val_not,Int.neg_mul]
     unfold val
     rw[Int.natCast_mul (M (Q*4503599627370496+mc)) U]
     generalize (M (Q*4503599627370496+mc):Int)=y
     generalize ((M (1021*4503599627370496+ma)*M (1021*4503599627370496+mb):Nat):Int)=z
     cases (s ^^ t) <;> simp only[Bool.false_eq_true,if_false,if_true]
     ·rfl
     ·rw[Int.neg_mul,Int.neg_neg,Int.sub_eq_add_neg,Int.add_comm]
    obtain⟨sg,d,g1,g2,g3,g4⟩:=fma_sign s t (!(s ^^ t)) (1021*4503599627370496+ma) (1021*4503599627370496+mb) (Q*4503599627370496+mc) (by omega) (by omega) (by omega) (fmaX_dvd _ _ _ _ _ _ hdv)
    rw[hX] at g3 g4
    refine⟨_,fun w=>prod49 _ _ _ _ _ _ _ _ _ _ w (by omega) (by omega) (by omega) (by omega) a5 b5 hL (neg_W _ _ (by omega)) g2,?_,?_⟩
    ·rw[g3,g4];exact pick_out _ _ _ _ _ c (by omega) k1 k2
    ·rw[g3,g4];exact pick_in _ _ _ _ _ c (by omega) k1 k2
theorem near_half {N D c:Nat} (hn:Near N D c) (h1:c=1->D<=2*N):0<c->c<9218868437227405312->M c*D<=2*N:=by
 intro h0 _
 by_cases hc:c=1
 ·subst hc
  rw[M_one,Nat.one_mul]
  exact h1 rfl
 ·have h2:=hn.2.2 h0
  have h3:=M_dbl (c:=c-1) (by omega)
  rw[show c-1+1=c from by omega] at h3
  have h4:M c*D<=2*M (c-1)*D:=Nat.mul_le_mul_right _ h3
  rw[Nat.mul_assoc] at h4
  omega
theorem mul15 (a b s o:Nat) (sg:Bool) (r:Nat) (up:Bool) (w:World) (ha:finB a=true) (hb:finB b=true) (h1:double.mul a b=some s) (hs:s=W sg r) (hr:r<9223372036854775808)
  (he:∀w,Calls Tryz.prog 105 #[.float .f64 a,.float .f64 b,.float .f64 s] w fun e w'=>e = .returned (.float .f64 o)/\w'=w) :
  Calls Tryz.prog 69 #[.float .f64 a,.float .f64 b,.bool up] w fun e w'=>e = .returned (.float .f64 (sideW sg r o up))/\w'=w:=by
 have g1:=mul_run w _ _ _ h1
 clear h1
 have hS:=fun w=>side20 sg r o up w hr
 rw[<-hs] at hS
 have HE:Hid (∀w,Calls Tryz.prog 105 #[.float .f64 a,.float .f64 b,.float .f64 s] w fun e w'=>e = .returned (.float .f64 o)/\w'=w):=he
 have HS:Hid (∀w,Calls Tryz.prog 65 #[.float .f64 s,.float .f64 o,.bool up] w fun e w'=>e = .returned (.float .f64 (sideW sg r o up))/\w'=w):=hS
 clear he hS hs hr
 generalize sideW sg r o up=res at *
 go_enter Tryz.func69,Tryz.ntmps69
 go_wp2_with (first|(go_at_call 64;refine(fin15 _ _).mono ?_;rintro e w' ⟨rfl,rfl⟩)|(go_at_call 105;refine(HE.out _).mono ?_;rintro e w' ⟨rfl,rfl⟩)|(go_at_call 65;refine(HS.out _).mono ?_;rintro e w' ⟨rfl,rfl⟩))
 go_ret
 exact⟨rfl,rfl⟩
theorem mul_tiny (s t:Bool) (a b:Nat) (ha:a<9218868437227405312) (hb:b<9218868437227405312) (h:2*(M a*M b)<U):double.mul (W s a) (W t b)=some (W (s ^^ t) 0):=by
 rw[mul_W s t a b ha hb]
 refine congrArg some (nearest_tiny _ _ _ E74 (mul_place a b) ?_)
 rw[mul_mag]
 exact h
theorem W_inj {s:Bool} {a b:Nat} (h:W s a=W s b):a=b:=by
 unfold W at h
 cases s <;> simp at h <;> omega
theorem mul_sem (s t:Bool) (a b:Nat) (up:Bool) (ha:a<9218868437227405312) (hb:b<9218868437227405312) :
  ∃r,Dir (up != (s ^^ t)) (M a*M b) U r /\
   ∀w,Calls Tryz.prog 69 #[.float .f64 (W s a),.float .f64 (W t b),.bool up] w fun e w'=>e = .returned (.float .f64 (W (s ^^ t) r))/\w'=w:=by
 obtain⟨r,c,h1,h2,h3,h4⟩:=mul_faithful s t a b ha hb
 have hfa:finB (W s a)=true:=by rw[finB_W s a (by omega)];exact decide_eq_true ha
 have hfb:finB (W t b)=true:=by rw[finB_W t b (by omega)];exact decide_eq_true hb
 have hnear:Near (M a*M b) U (min c 9218868437227405312):=near_of_faithful (r:=r) U_pos h1 h2 h3
 have hhalf:=near_half hnear (by
  intro hc
  refine Nat.le_of_not_lt fun hlt=>?_
  have:=mul_tiny s t a b ha hb hlt
  rw[h4,hc] at this
  injection this with this
  have:=W_inj this
  omega)
 obtain⟨o,g1,g2,g3⟩:=mul_err s t a b _ ha hb hnear hhalf
 obtain⟨r',k1,k2⟩:=side_ok _ _ U _ o up U_pos hnear g2 g3
 refine⟨r',k2,fun w=>?_⟩
 have:=mul15 _ _ _ o _ _ up w hfa hfb h4 rfl (by omega) g1
 rw[k1] at this
 exact this
end Go.Proofs.YtanpdbadfddlcaaGreatDoor.Fl
