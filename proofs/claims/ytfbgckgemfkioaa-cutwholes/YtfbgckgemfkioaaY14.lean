import Derived.Test.YtfbgckgemfkioaaY13
import Derived.Test.YtfbgckgemfkioaaY04
import Derived.Test.YtfbgckgemfkioaaY02
import Derived.Test.YtfbgckgemfkioaaY08
import Derived.Deep.RegionHeld3
import Derived.BigRegion
import Derived.Laws.AppendOwnNone
import Derived.LoopTactic
import Derived.Laws.CopyOwn
namespace Go.Proofs.Ytfbgckgemfkioaa.Fl
open Go.RowKit
open Ieee
set_option linter.unusedVariables false
set_option linter.unusedSimpArgs false
def p1T:List Nat:=[4386506037058863104,4397378688358759373,4406772235382030336,4415393086868241357,4423660733984669696,4431815222459591898,4439423332680466432,4446918284259834829,4454622981422841856,4462021346060077761,4469259680211795968,4476851218733296858,4483896379000750080,4491158149074474068,4498533077789704192]
def rgW (j:Nat):Nat:=4607182418800017408+(j+1)*4503599627370496
def duB (N D r:Nat):Bool:=decide (r<=9218868437227405312) && decide (N<=M r*D) && decide (M (r-1)*D<N)
theorem duB_spec {N D r:Nat} (h:duB N D r=true):DirUp N D r:=by
 unfold duB at h
 simp only[Bool.and_eq_true,decide_eq_true_eq] at h
 exact⟨h.1.1,fun _=>h.1.2,fun _=>h.2⟩
def chkW (k j:Nat):Bool:=duB (M (uB.getD k 0)*M (sqT.getD k 0)) U (p1T.getD k 0) && duB (M (p1T.getD k 0)*M (rgW j)) U (p1T.getD k 0+(j+1)*4503599627370496) && duB (M (p1T.getD k 0+(j+1)*4503599627370496)*M (rgW j)) U (p1T.getD k 0+2*(j+1)*4503599627370496) && duB (M (p1T.getD k 0+2*(j+1)*4503599627370496)+M 103582791429521408) 1 (p1T.getD k 0+2*(j+1)*4503599627370496+1) && decide (p1T.getD k 0+2*(j+1)*4503599627370496+1<9218868437227405312)
theorem chk_all:(List.range 15).all (fun k=>(List.range 29).all fun j=>chkW k j)=true:=by decide +kernel
theorem chk_at {k j:Nat} (hk:k<=14) (hj:j<29):chkW k j=true:=by
 have h:=chk_all
 rw[List.all_eq_true] at h
 have h1:=h k (List.mem_range.2 (by omega))
 rw[List.all_eq_true] at h1
 exact h1 j (List.mem_range.2 hj)
theorem dirUp_one {N D r r':Nat} (hD:0<D) (h:DirUp N D r) (h':DirUp N D r'):r=r':=dir_unique (out:=true) hD h h'
def r2W (k j:Nat):Nat:=p1T.getD k 0+2*(j+1)*4503599627370496+1
def okW (k j:Nat):Bool:=decide (r2W k j<4598175219545276416)
theorem ringW (k j:Nat) (w:World) (hk:k<=14) (hj:j<29) :
  Calls Try.prog 57 #[.int .i64 (k:Int),.float .f64 (rgW j),.float .f64 (rgW j)] w fun e w'=>e = .returned (.tuple #[.float .f64 (r2W k j),.int .i64 0])/\Gr w w':=by
 have hc:=chk_at hk hj
 unfold chkW at hc
 simp only[Bool.and_eq_true,decide_eq_true_eq] at hc
 obtain⟨⟨⟨⟨c1,c2⟩,c3⟩,c4⟩,c5⟩:=hc
 have hr:rgW j<=8660422083433463808:=by unfold rgW;omega
 refine(ringP k false false (rgW j) (rgW j) w hk hr (fun h=>by cases h) hr (fun h=>by cases h)).mono ?_
 rintro e w' ⟨⟨p,r2,⟨p1,p2,h1,h2,h3,_,_⟩,h4,rfl⟩,hg⟩
 have e1:=dirUp_one U_pos h1 (duB_spec c1)
 subst e1
 have e2:=dirUp_one U_pos h2 (duB_spec c2)
 subst e2
 have e3:=dirUp_one U_pos h3 (duB_spec c3)
 subst e3
 have e4:=dirUp_one (by omega) h4 (duB_spec c4)
 subst e4
 refine⟨?_,hg⟩
 have hne:¬(p1T.getD k 0+2*(j+1)*4503599627370496+1=9218868437227405312):=by omega
 rw[if_neg hne,if_neg hne]
 rfl
theorem quart (k j:Nat) (hk:k<=14) (hj:j<29):(FloatKind.f64.format.order (r2W k j) 4598175219545276416==some .lt)=okW k j:=by
 have hc:=chk_at hk hj
 unfold chkW at hc
 simp only[Bool.and_eq_true,decide_eq_true_eq] at hc
 have c5:=hc.2
 have h:=B_lt false false (r2W k j) 4598175219545276416 (by unfold r2W;omega) (by omega)
 rw[show W false (r2W k j)=r2W k j from rfl,show W false 4598175219545276416=4598175219545276416 from rfl] at h
 rw[h]
 unfold okW val
 simp only[Bool.false_eq_true,if_false]
 refine decide_eq_decide.2 ⟨fun h=>?_,fun h=>?_⟩
 ·refine Nat.lt_of_not_le fun hle=>?_
  have:=M_le hle
  omega
 ·have:=M_lt h
  omega
theorem lenC (v:Nat) (w:World) (hv:v<18446744073709551616):Calls Try.prog 56 #[.int .u64 (v:Int)] w fun e w'=>e = .returned (.int .i64 (bl v:Int))/\w'=w:=by
 have HL:Hid (Calls Try.prog 67 #[.int .u64 (v:Int)] w fun e w'=>e = .returned (.int .i64 (bl v:Int))/\w'=w):=by
  have:=Try.bits_Len64 (v:Int) w (by omega) (by omega)
  rw[Int.toNat_natCast,show Lib.bitLen v=bl v from bitLenAux_bl 64 v hv] at this
  exact this
 go_enter Try.func56,Try.ntmps56
 go_wp2_with (go_at_call 67;with_reducible refine HL.out.mono ?_;rintro e w' ⟨rfl,rfl⟩)
 go_ret
 exact⟨rfl,rfl⟩
theorem fl_tab:(List.range 29).all (fun j=>decide (floatOfInt FloatKind.f64 (wrap64 (2 ^ (j+1)))=rgW j))=true:=by decide +kernel
theorem fl_at {j:Nat} (hj:j<29):floatOfInt FloatKind.f64 (wrap64 (2 ^ (j+1)))=rgW j:=by
 have h:=fl_tab
 rw[List.all_eq_true] at h
 exact of_decide_eq_true (h j (List.mem_range.2 hj))
def fitB (L j:Nat):Bool:=decide (bl (2*(L*64 / (j+2)+2)-1)<=14) && okW (bl (2*(L*64 / (j+2)+2)-1)) j
set_option maxHeartbeats 1000000 in
theorem fitsC (L j:Nat) (w:World) (hL1:1<=L) (hL:L<=4096) (hj:j<29) :
  Calls Try.prog 41 #[.int .i64 (L:Int),.int .i64 ((j+2:Nat):Int)] w fun e w'=>e = .returned (.bool (fitB L j))/\Gr w w':=by
 unfold fitB
 obtain⟨d,hd⟩:∃d,L*64 / (j+2)+2=d:=⟨_,rfl⟩
 have hd2:2<=d/\d<=131074:=by
  have h1:L*64 / (j+2)<=131072:=Nat.le_trans (Nat.div_le_div_left (show 2<=j+2 by omega) (by omega)) (by omega)
  rw[<-hd]
  generalize L*64 / (j+2)=t at *
  omega
 rw[hd]
 have LC:=fun w=>lenC (2*d-1) w (by omega)
 simp only[show((2*d-1:Nat):Int)=2*(d:Int)-1 by omega] at LC
 have LC:=hide LC
 have ed:(L:Int)*64 / ((j+2:Nat):Int)+2=(d:Int):=by
  rw[<-hd]
  have:((L*64 / (j+2):Nat):Int)=(L:Int)*64 / ((j+2:Nat):Int):=by
   rw[Int.natCast_ediv,Int.natCast_mul];rfl
  omega
 have ew:((j+2:Nat):Int)≠0:=by omega
 obtain⟨wd,hwd⟩:∃wd,j+2=wd:=⟨_,rfl⟩
 rw[hwd] at ed ew ⊢
 have hwd2:2<=wd/\wd<=30:=by omega
 obtain⟨k,hk⟩:∃k,bl (2*d-1)=k:=⟨_,rfl⟩
 rw[hk] at LC ⊢
 by_cases hk14:k<=14
 ·rw[decide_eq_true hk14]
  have RW:=hide (fun w=>ringW k j w hk14 hj)
  have QU:=quart k j hk14 hj
  have hfl:=fl_at hj
  rw[show j+1=wd-1 by omega] at hfl
  have hk15:¬(14:Int)<(k:Int):=by omega
  clear ew hd hk
  generalize rgW j=rw1 at *
  generalize r2W k j=rw2 at *
  generalize okW k j=ob at *
  go_enter Try.func41,Try.ntmps41
  go_wp2_with (first|(go_at_call 56;with_reducible refine(LC.out _).mono ?_;rintro e w' ⟨rfl,rfl⟩)|(go_at_call 57;with_reducible refine(RW.out _).mono ?_;rintro e w2 ⟨rfl,g2⟩))
  go_ret
  exact⟨by simp,g2⟩
 ·rw[decide_eq_false hk14]
  have hk15:(14:Int)<(k:Int):=by omega
  clear ew hd hk
  go_enter Try.func41,Try.ntmps41
  go_wp2_with (first|(go_at_call 56;with_reducible refine(LC.out _).mono ?_;rintro e w' ⟨rfl,rfl⟩))
  go_ret
  exact⟨rfl,Gr.refl _⟩
def widF (L:Nat):Nat->Option Nat
 | 0=>none
 | j+1=>if fitB L j then some j else widF L j
def widV (L:Nat):Value:=match widF L 29 with
 | some j=>.tuple #[.int .i64 ((j+2:Nat):Int),.int .i64 0]
 | none=>.tuple #[.int .i64 0,.int .i64 3]
set_option maxHeartbeats 1000000 in
theorem widthC (L:Nat) (w:World) (hL1:1<=L) (hL:L<=4096) :
  Calls Try.prog 22 #[.int .i64 (L:Int)] w fun e w'=>e = .returned (widV L)/\Gr w w':=by
 have FC:=hide (fun j w (hj:j<29)=>fitsC L j w hL1 hL hj)
 have h1:¬(L:Int)<1:=by omega
 have h2:¬(4096:Int)<(L:Int):=by omega
 go_enter Try.func22,Try.ntmps22
 go_wp2
 go_loopw [4] (fun t wr=>∃j:Nat,j<=29/\t = .int .i64 ((j:Int)+1)/\Hid (widF L 29=widF L j)/\Hid (Gr w wr)) (fun t _=>(intOf t).toNat)
 case atStart=>exact⟨29,by omega,rfl,rfl,Gr.refl _⟩
 case round =>
  obtain⟨j,hj,rfl,hw,hg⟩:=hrel
  cases j with
  | zero =>
   have hV:widV L = .tuple #[.int .i64 0,.int .i64 3]:=by unfold widV;rw[hw.out];rfl
   go_wp2
   go_ret2
   exact⟨by rw[hV];rfl,hg.out⟩
  | succ j =>
   have FF:=FC.out j wr (by omega)
   have e2:((j+1:Nat):Int)+1=((j+2:Nat):Int):=by omega
   rw[e2]
   have h3:(2:Int)<=((j+2:Nat):Int):=by omega
   have h4:((j+2:Nat):Int)<=30:=by omega
   cases hf:fitB L j with
   | true =>
    rw[hf] at FF
    have FF:=hide FF
    have hV:widV L = .tuple #[.int .i64 ((j+2:Nat):Int),.int .i64 0]:=by unfold widV;rw[hw.out];show(match (if fitB L j then some j else widF L j) with|some j=>_|none=>_)=_;rw[hf];rfl
    generalize ((j+2:Nat):Int)=t at *
    go_wp2_with (go_at_call 41;with_reducible refine FF.out.mono ?_;rintro e w2 ⟨rfl,g2⟩)
    go_ret2
    exact⟨by rw[hV];rfl,hg.out.trans g2⟩
   | false =>
    rw[hf] at FF
    have FF:=hide FF
    have e3:Hid (((j+2:Nat):Int)-1=(j:Int)+1):=by show _=_;omega
    have hn:Hid (widF L 29=widF L j):=by show _=_;rw[hw.out];show(if fitB L j then some j else widF L j)=_;rw[hf];rfl
    have e4:Hid (((j+2:Nat):Int)=(j:Int)+2):=by show _=_;omega
    clear e2
    generalize ((j+2:Nat):Int)=t at *
    go_wp2_with (go_at_call 41;with_reducible refine FF.out.mono ?_;rintro e w2 ⟨rfl,g2⟩)
    go_roundw
    case rel=>exact⟨j,by omega,by rw[e3.out],hn.out,hg.out.trans g2⟩
    case measure=>have:=e4.out;have:=e3.out;simp only[intOf];omega
def fitK (L j:Nat):Bool:=decide (Lib.bitLenAux 20 (2*(L*64 / (j+2)+2)-1)<=14) && okW (Lib.bitLenAux 20 (2*(L*64 / (j+2)+2)-1)) j
theorem fit_k {L j:Nat} (hL:L<=4096):fitB L j=fitK L j:=by
 have h1:L*64 / (j+2)<=131072:=Nat.le_trans (Nat.div_le_div_left (show 2<=j+2 by omega) (by omega)) (by omega)
 unfold fitB fitK
 rw[bitLenAux_bl 20 _ (by generalize L*64 / (j+2)=t at *;omega)]
def widK (L:Nat):Nat->Option Nat
 | 0=>none
 | j+1=>if fitK L j then some j else widK L j
theorem wid_k {L:Nat} (hL:L<=4096):∀j,widF L j=widK L j
 | 0=>rfl
 | j+1=>by
  show(if fitB L j then some j else widF L j)=if fitK L j then some j else widK L j
  rw[fit_k hL,wid_k hL j]
theorem wid1535:widV 1535 = .tuple #[.int .i64 12,.int .i64 0]:=by
 have h:widF 1535 29=some 10:=by rw[wid_k (by omega)];decide +kernel
 unfold widV
 rw[h];rfl
end Go.Proofs.Ytfbgckgemfkioaa.Fl
namespace Go.Proofs.Ytfbgckgemfkioaa
open Go.RowKit
set_option linter.unusedVariables false
def cellV (w:World) (b o:Nat):Value:=(w.cell? ⟨b,o,none⟩).getD undef
theorem cellV_some {w:World} {b o:Nat} {v:Value} (h:w.cell? ⟨b,o,none⟩=some v):w.cell? ⟨b,o,none⟩=some (cellV w b o):=by
 unfold cellV;rw[h];rfl
theorem keepF2 {wo wn:World} (g:Gr wo wn) {b o:Nat} (hb:b<wo.heap.size) (h:wo.frozen? ⟨b,o,none⟩=false):wn.frozen? ⟨b,o,none⟩=false:=
 (g.frozen (p:=⟨b,o,none⟩) hb).trans h
theorem far2 {wo:World} {B b o:Nat} {v0 v1 v:Value} (hb:B≠b) (h:wo.cell? ⟨b,o,none⟩=some v):((wo.setCell ⟨B,0,none⟩ v0).setCell ⟨B,1,none⟩ v1).cell? ⟨b,o,none⟩=some v:=by
 rw[World.cell?_setCell_other _ _ _ _ (ne_block hb),World.cell?_setCell_other _ _ _ _ (ne_block hb)]
 exact h
theorem set_some {wo:World} {p q:Addr} {x v:Value} (h:wo.cell? q=some v):∃v',(wo.setCell p x).cell? q=some v':=by
 by_cases e:p=q
 ·subst e;exact⟨x,World.cell?_setCell_same _ _ _ h⟩
 ·exact⟨v,by rw[World.cell?_setCell_other _ _ _ _ e];exact h⟩
theorem set2_some {wo:World} {p0 p1 q:Addr} {v0 v1 v:Value} (h:wo.cell? q=some v):∃v',((wo.setCell p0 v0).setCell p1 v1).cell? q=some v':=by
 obtain⟨u,hu⟩:=set_some (p:=p0) (x:=v0) h
 exact set_some hu
theorem at2 {wo:World} {b:Nat} {v0 v1 a0 a1:Value} (h0:wo.cell? ⟨b,0,none⟩=some a0) (h1:wo.cell? ⟨b,1,none⟩=some a1) :
  ((wo.setCell ⟨b,0,none⟩ v0).setCell ⟨b,1,none⟩ v1).cell? ⟨b,0,none⟩=some v0/\((wo.setCell ⟨b,0,none⟩ v0).setCell ⟨b,1,none⟩ v1).cell? ⟨b,1,none⟩=some v1:=by
 have ne:∀i j:Nat,i≠j->(⟨b,i,none⟩:Addr)≠⟨b,j,none⟩:=fun i j hij e=>hij (by injection e)
 refine⟨?_,?_⟩
 ·rw[World.cell?_setCell_other _ _ _ _ (ne 1 0 (by omega))]
  exact World.cell?_setCell_same _ _ _ h0
 ·refine World.cell?_setCell_same _ _ _ (u:=a1) ?_
  rw[World.cell?_setCell_other _ _ _ _ (ne 0 1 (by omega))]
  exact h1
set_option maxHeartbeats 800000 in
theorem sameLimbsT (ad1 ad2:Option Addr) (n c1 c2:Nat) (xs:List Nat) (w:World) (rx:Row w ad1 n c1 xs) (ry:Row w ad2 n c2 xs) :
  Calls Try.prog 39 #[.slice ad1 n c1,.slice ad2 n c2] w fun e w'=>e = .returned (.bool true)/\Gr w w':=by
 have RX:Hid (Row w ad1 n c1 xs):=rx
 have RY:Hid (Row w ad2 n c2 xs):=ry
 have hmax:=rx.max
 have hle:=rx.le
 clear rx ry
 go_enter Try.func39,Try.ntmps39
 go_wp2
 go_loopw [5] (fun i wr=>∃k:Nat,k<=n/\i = .int .i64 (k:Int)/\Hid (Gr w wr)) (fun i _=>n-(intOf i).toNat)
 case atStart=>exact⟨0,by omega,rfl,Gr.refl _⟩
 case round =>
  obtain⟨k,hk,rfl,hg⟩:=hrel
  by_cases hlt:k<n
  ·obtain⟨p1,o1,rfl,hb1,hc1⟩:=RX.out.lt (by omega)
   obtain⟨p2,o2,rfl,hb2,hc2⟩:=RY.out.lt (by omega)
   have hcell1:=hc1 wr hg.out k hlt
   have hcell2:=hc2 wr hg.out k hlt
   generalize xs.getD k 0=xk at *
   have i1:(k:Int)<(n:Int):=by omega
   clear hc1 hc2
   go_wp2
   go_quiet (fail)
   go_wp2
   go_roundw
   case rel=>exact⟨k+1,by omega,by go_num,by first|exact hg.out|exact hg.out.drewN _|exact(hg.out.drewN _).drewN _⟩
   case measure=>simp only[intOf];omega
  ·have hkn:k=n:=by omega
   subst hkn
   go_wp2
   go_ret
   exact⟨rfl,hg.out⟩
set_option maxHeartbeats 800000 in
theorem sameLimbsF (ad1 ad2:Option Addr) (n1 n2 c1 c2:Nat) (xs ys:List Nat) (w:World) (rx:Row w ad1 n1 c1 xs) (ry:Row w ad2 n2 c2 ys) (hne:xs≠ys) :
  Calls Try.prog 39 #[.slice ad1 n1 c1,.slice ad2 n2 c2] w fun e w'=>e = .returned (.bool false)/\Gr w w':=by
 by_cases hn:n1=n2
 ·subst hn
  have RX:Hid (Row w ad1 n1 c1 xs):=rx
  have RY:Hid (Row w ad2 n1 c2 ys):=ry
  have hmax:=rx.max
  have hle:=rx.le
  have HNE:Hid (xs≠ys):=hne
  clear rx ry hne
  go_enter Try.func39,Try.ntmps39
  go_wp2
  go_loopw [5] (fun i wr=>∃k:Nat,k<=n1/\i = .int .i64 (k:Int)/\Hid (∀j,j<k->xs.getD j 0=ys.getD j 0)/\Hid (Gr w wr)) (fun i _=>n1-(intOf i).toNat)
  case atStart=>exact⟨0,by omega,rfl,(fun j hj=>absurd hj (by omega)),Gr.refl _⟩
  case round =>
   obtain⟨k,hk,rfl,he,hg⟩:=hrel
   by_cases hlt:k<n1
   ·obtain⟨p1,o1,rfl,hb1,hc1⟩:=RX.out.lt (by omega)
    obtain⟨p2,o2,rfl,hb2,hc2⟩:=RY.out.lt (by omega)
    have hcell1:=hc1 wr hg.out k hlt
    have hcell2:=hc2 wr hg.out k hlt
    have i1:(k:Int)<(n1:Int):=by omega
    clear hc1 hc2
    by_cases h:xs.getD k 0=ys.getD k 0
    ·have HE:Hid (∀j,j<k+1->xs.getD j 0=ys.getD j 0):=fun j hj=>if e:j=k then e ▸ h else he.out j (by omega)
     rw[h] at hcell1
     clear h
     generalize ys.getD k 0=yk at *
     go_wp2
     go_quiet (fail)
     go_wp2
     go_roundw
     case rel=>exact⟨k+1,by omega,by go_num,HE.out,by first|exact hg.out|exact hg.out.drewN _|exact(hg.out.drewN _).drewN _⟩
     case measure=>simp only[intOf];omega
    ·generalize xs.getD k 0=xk at *
     generalize ys.getD k 0=yk at *
     have h':((xk:Int) != (yk:Int))=true:=by simp;omega
     clear h
     go_wp2
     go_quiet (fail)
     go_wp2
     go_ret
     exact⟨rfl,by first|exact hg.out|exact hg.out.drewN _|exact(hg.out.drewN _).drewN _⟩
   ·have hkn:k=n1:=by omega
    subst hkn
    exact absurd (ext_getD (by rw[RX.out.len,RY.out.len]) (fun j hj=>he.out j (by rw[<-RX.out.len];exact hj))) HNE.out
 ·have hne':((n1:Int) != (n2:Int))=true:=by simp;omega
  clear rx ry hne
  go_enter Try.func39,Try.ntmps39
  go_wp2
  go_ret
  exact⟨rfl,Gr.refl _⟩
def eqI (X Y:Int):Bool:=decide (X=Y)
theorem eqI_t {X Y:Int} (h:X=Y):eqI X Y=true:=decide_eq_true h
theorem eqI_f {X Y:Int} (h:X≠Y):eqI X Y=false:=decide_eq_false h
set_option maxHeartbeats 800000 in
theorem sameIntL (s t:Bool) (ad1 ad2:Option Addr) (n1 n2 c1 c2:Nat) (X Y:Int) (w:World) (hx:Wh w s ad1 n1 c1 X) (hy:Wh w t ad2 n2 c2 Y) :
  Calls Try.prog 16 #[.agg #[.bool s,.slice ad1 n1 c1],.agg #[.bool t,.slice ad2 n2 c2]] w fun r w'=>r = .returned (.bool (eqI X Y))/\Gr w w':=by
 have GA:Gr w ((w.alloc (.cells #[.bool s,.slice ad1 n1 c1] 24)).alloc (.cells #[.bool t,.slice ad2 n2 c2] 24)):=((Gr.refl w).alloc _).alloc _
 by_cases hst:(s==t)=true
 ·have e:s=t:=by simpa using hst
  have SL:Hid (∀w1,Gr w w1->Calls Try.prog 39 #[.slice ad1 n1 c1,.slice ad2 n2 c2] w1 fun r w'=>r = .returned (.bool (eqI X Y))/\Gr w1 w'):=fun w1 g=>by
   obtain⟨xs,rx,dx⟩:=hx.lim
   obtain⟨ys,ry,dy⟩:=hy.lim
   by_cases h:X=Y
   ·rw[eqI_t h]
    subst h
    have e2:=dx.unique (by omega) dy
    subst e2
    obtain rfl:n1=n2:=rx.len.symm.trans ry.len
    exact sameLimbsT ad1 ad2 n1 c1 c2 xs w1 (rx.gr g) (ry.gr g)
   ·rw[eqI_f h]
    refine sameLimbsF ad1 ad2 n1 n2 c1 c2 xs ys w1 (rx.gr g) (ry.gr g) (fun e2=>h ?_)
    have h1:X.natAbs=Y.natAbs:=by rw[<-dx.1,<-dy.1,e2]
    rw[hx.val,hy.val,h1,e]
  clear hx hy e
  generalize eqI X Y=q at *
  go_enter Try.func16,Try.ntmps16
  go_wp2_with (go_at_call 39;(with_reducible refine(SL.out _ GA).mono ?_);rintro r w1 ⟨rfl,g1⟩)
  go_ret
  exact⟨rfl,GA.trans g1⟩
 ·have hst':(s==t)=false:=by simpa using hst
  have h:X≠Y:=fun e=>by
   have h1:=hx.neg_iff
   have h2:=hy.neg_iff
   rw[e] at h1
   have:s=t:=by cases s <;> cases t <;> simp_all <;> omega
   rw[this] at hst'
   simp at hst'
  rw[eqI_f h]
  clear hx hy hst
  go_enter Try.func16,Try.ntmps16
  go_wp2
  go_ret
  exact⟨rfl,GA⟩
end Go.Proofs.Ytfbgckgemfkioaa
namespace Go.Proofs.Ytfbgckgemfkioaa
open Go.RowKit
set_option linter.unusedVariables false
set_option linter.unusedSimpArgs false
theorem wholeC (ad:Option Addr) (n cap b:Nat) (ls:List Int) (h:Int) (w:World) (hr:RI w ad n cap ls) (hb1:2<=b) (hb2:b<=30) (hB:(2:Int) ^ b=2*h) (hh:2<=h) (hh2:h<=536870912) (hhb:h=2 ^ (b-1)) (hv:∀v∈ls,-9223372036854775808<=v/\v<=9223372036854775807) (hn:n<=1073741824) :
  Calls Try.prog 14 #[.slice ad n cap,.int .i64 (b:Int)] w fun e w'=>∃a b' c d g,e = .returned (.tuple #[.agg #[.bool a,.slice b' c d],.int .i64 g])/\Hid (Tol w.heap.size w' a b' c d g (dv (2*h) ls))/\Gr w w':=by
 rcases Int.lt_trichotomy (dv (2*h) ls) 0 with h0|h0|h0
 ·by_cases hT:(dv (2*h) ls).natAbs<TopN
  ·exact whole_mr ad n cap b ls h w hr hb1 hb2 hB hh hh2 hhb hv hn h0 hT
  ·exact whole_ml ad n cap b ls h w hr hb1 hb2 hB hh hh2 hhb hv hn h0 hT
 ·exact whole_zr ad n cap b ls h w hr hb1 hb2 hB hh hh2 hhb hv hn h0 (by rw[h0];exact topN_pos)
 ·by_cases hT:(dv (2*h) ls).natAbs<TopN
  ·exact whole_pr ad n cap b ls h w hr hb1 hb2 hB hh hh2 hhb hv hn h0 hT
  ·exact whole_pl ad n cap b ls h w hr hb1 hb2 hB hh hh2 hhb hv hn h0 hT
theorem sameC (n c1 c2:Nat) (a1 a2:Option Addr) (xs:List Int) (w:World) (h1:RI w a1 n c1 xs) (h2:RI w a2 n c2 xs) :
  Calls Try.prog 11 #[.slice a1 n c1,.slice a2 n c2] w fun e w'=>e = .returned (.bool true)/\Gr w w':=by
 have H1:=hide h1
 have H2:=hide h2
 have hn:n<=9223372036854775807:=by have:=h1.le;have:=h1.max;unfold maxLen at this;omega
 clear h1 h2
 go_enter Try.func11,Try.ntmps11
 go_wp2
 go_loopw [5] (fun i wr=>∃j:Nat,j<=n/\i = .int .i64 (j:Int)/\Hid (Gr w wr)) (fun i _=>n-(intOf i).toNat)
 case atStart=>exact⟨0,by omega,rfl,Gr.refl _⟩
 case round =>
  obtain⟨j,hj,rfl,hg⟩:=hrel
  by_cases hlt:j<n
  ·have i1:(j:Int)<(n:Int):=by omega
   have R1:=H1.out.gr hg.out
   have R2:=H2.out.gr hg.out
   cases hd1:a1 with
   | none=>have:=(R1.nil hd1).1;omega
   | some b1 =>
    cases hd2:a2 with
    | none=>have:=(R2.nil hd2).1;omega
    | some b2 =>
     have k1:=(R1.cell b1 hd1 j hlt).2
     have k2:=(R2.cell b2 hd2 j hlt).2
     subst hd1 hd2
     clear R1 R2
     generalize xs.getD j 0=x at *
     go_wp2
     go_region
     all_goals go_wp2
     all_goals go_roundw
     all_goals first|exact⟨j+1,by omega,by go_num,hg.out.drew⟩|(simp only[intOf];omega)
  ·have hjn:j=n:=by omega
   subst hjn
   have i1:¬(j:Int)<(j:Int):=by omega
   go_wp2
   go_ret
   exact⟨rfl,hg.out⟩
theorem sameTC {s t:Bool} {ad1 ad2:Option Addr} {n1 n2 c1 c2:Nat} {X Y:Int} {w:World} (e:X=Y) (hx:Wh w s ad1 n1 c1 X) (hy:Wh w t ad2 n2 c2 Y) :
  Calls Try.prog 16 #[.agg #[.bool s,.slice ad1 n1 c1],.agg #[.bool t,.slice ad2 n2 c2]] w fun r w'=>r = .returned (.bool true)/\Gr w w':=by
 have:=sameIntL s t ad1 ad2 n1 n2 c1 c2 X Y w hx hy
 rw[eqI_t e] at this
 exact this
theorem oneRow (w:World) (m:Nat) (T:TypeId) (o1:Obj):Row ((w.alloc o1).alloc (.cells #[.int .u64 (m:Int)] T)) (some ⟨w.heap.size+1,0,none⟩) 1 1 [m]:=by
 refine⟨rfl,Nat.le_refl _,by omega,(fun h=>by cases h),fun _=>⟨w.heap.size+1,0,rfl,by simp,fun j hj=>?_⟩⟩
 obtain rfl:j=0:=by omega
 have:=Boxed.new (w.alloc o1) T (.int .u64 (m:Int))
 rw[World.size_alloc] at this
 simp only[Nat.add_zero]
 exact this.cell
theorem smallC (s:Bool) (m:Nat) (w:World) (hm:0<m) (hm2:m<18446744073709551616) :
  Calls Try.prog 21 #[.bool s,.int .u64 (m:Int)] w fun r w'=>∃ad,r = .returned (.agg #[.bool s,.slice ad 1 1])/\Hid (Wh w' s ad 1 1 (iv s m))/\Gr w w':=by
 have hb:=bx2 (blk2 w (.cells #[.bool s,.slice (some ⟨w.heap.size+1,0,none⟩) 1 1] 24) (.cells #[.int .u64 (m:Int)] 44)).1
 have hrow:=oneRow w m 44 (.cells #[.bool s,.slice (some ⟨w.heap.size+1,0,none⟩) 1 1] 24)
 have hW:Wh ((w.alloc (.cells #[.bool s,.slice (some ⟨w.heap.size+1,0,none⟩) 1 1] 24)).alloc (.cells #[.int .u64 (m:Int)] 44)) s (some ⟨w.heap.size+1,0,none⟩) 1 1 (iv s m):=by
  have:=Wh.of (s:=s) hrow (by simpa using hm2) (Or.inr ⟨by simp,by simp,by simp;omega⟩)
  simpa [nv] using this
 have HW:=hide hW
 have HB:=hide hb
 clear hrow hW hb
 go_enter Try.func21,Try.ntmps21
 go_wp2
 obtain⟨t0,t1⟩:=HB.out
 refine bodyPost_ret (v:=.agg #[.bool s,.slice (some ⟨w.heap.size+1,0,none⟩) 1 1]) ?_ rfl ⟨_,rfl,HW.out,((Gr.refl w).alloc _).alloc _⟩
 simp[results,Try.results21,go_sem,t0,t1]
theorem Row.other {w:World} {ad:Option Addr} {n cap:Nat} {xs:List Nat} (h:Row w ad n cap xs) {B i:Nat} {s:Bool} {a':Option Addr} {n' c':Nat} {T:TypeId} (hb:w.heap[B]? = some (.cells #[.bool s,.slice a' n' c'] T)) (v:Value):Row (w.setCell ⟨B,i,none⟩ v) ad n cap xs:=by
 refine⟨h.len,h.le,h.max,h.nil,fun hp=>?_⟩
 obtain⟨b,off,e,hlt,hc⟩:=h.cells hp
 have hne:b≠B:=by
  rintro rfl
  have h0:=hc 0 hp
  simp only[World.cell?,hb] at h0
  rcases (show off+0=0\/off+0=1\/2<=off+0 by omega) with e|e|e
  ·rw[e] at h0;simp at h0
  ·rw[e] at h0;simp at h0
  ·rw[Array.getElem?_eq_none (by simpa using e)] at h0;cases h0
 exact⟨b,off,e,by simpa [World.setCell] using hlt,fun j hj=>(World.cell?_setCell_other _ _ _ _ (ne_block (Ne.symm hne))).trans (hc j hj)⟩
theorem digitsW {w:World} {s:Bool} {ad:Option Addr} {n cap:Nat} {X:Int} (hw:Wh w s ad n cap X) (b:Nat) (h:Int) (hb1:2<=b) (hb2:b<=30) (hB:(2:Int) ^ b=2*h) (hh:2<=h) (hh2:h<=536870912) (hhb:h=2 ^ (b-1)) :
  Calls Try.prog 9 #[.agg #[.bool s,.slice ad n cap],.int .i64 (b:Int)] w fun e w'=>Digs w.heap.size w' h X e/\Gr w w':=by
 obtain⟨xs,rx,dx,hR⟩:=hw.right
 have:=digitsC s ad n cap xs b h w rx dx.2.1 hR hb1 hb2 hB hh hh2 hhb
 rw[dx.1,<-hw.val] at this
 exact this
theorem Digs.one {B:Nat} {w:World} {h X:Int} {e:Ending} (hd:Digs B w h X e) (hh:2<=h) (ds:List Int) (h1:∀d∈ds,-h<=d/\d<h) (h2:NT ds) (h3:dv (2*h) ds=X):∃ad cap,e = .returned (.tuple #[.slice ad ds.length cap,.int .i64 0])/\w.ownsRow B 2 1 (.slice ad ds.length cap) ds.length (iz ds):=by
 obtain⟨ad,k,cap,es,rfl,ho,e1,e2,e3⟩:=hd
 have:es=ds:=dv_one (by omega) es ds e1 h1 e2 h2 (e3.trans h3.symm)
 subst this
 have hl:=own_len ho
 subst hl
 exact⟨ad,cap,rfl,ho⟩
theorem rowLit (w:World) (vs:List Int) (n:Nat) (cs:Array Value) (T:TypeId) (hcs:cs=(iz vs).toArray) (hn:vs.length=n) (hm:n<=maxLen):RI (w.alloc (.cells cs T)) (some ⟨w.heap.size,0,none⟩) n n vs:=by
 refine⟨hn,Nat.le_refl _,hm,(fun h=>by cases h),fun b e j hj=>?_⟩
 cases e
 refine⟨by simp,?_⟩
 rw[show(⟨w.heap.size,0,none⟩:Addr).add j=⟨w.heap.size,j,none⟩ by simp[Addr.add];omega]
 have hb:(w.alloc (.cells cs T)).heap[w.heap.size]? = some (.cells cs T):=blk1 w _
 simp only[World.cell?,hb]
 rw[hcs,List.getElem?_toArray,iz_get (by omega)]
 rfl
theorem gr_ad' (w:World) (o:Obj):Gr w.drew (w.alloc o).drew:=(Gr.refl w.drew).alloc o
theorem keepC2 {w wo wn:World} {b0 b1 o0 o1:Nat} {v0 v1:Value} (g:Gr wo wn) (h:(wo.cell? ⟨b0,o0,none⟩=some v0/\wo.cell? ⟨b1,o1,none⟩=some v1)/\Gr w wo):(wn.cell? ⟨b0,o0,none⟩=some v0/\wn.cell? ⟨b1,o1,none⟩=some v1)/\Gr w wn:=⟨⟨keepG g h.1.1,keepG g h.1.2⟩,h.2.trans g⟩
theorem dv_a:dv (2*128) [127,-1] = -129:=by decide
theorem dv_b:dv (2*2) [3,3,3]=63:=by decide
theorem nt_a:NT [127,-1]:=by
 intro k hk
 obtain rfl:k=1:=by simpa using hk.symm
 decide
set_option maxRecDepth 10000 in
set_option maxHeartbeats 3200000 in
theorem awakeC (w:World):Calls Try.prog 7 #[] w fun r w'=>r = .returned (.bool true)/\Gr w w':=by
 have S1:Hid (Calls Try.prog 21 #[.bool true,.int .u64 129] w fun r w'=>∃ad,r = .returned (.agg #[.bool true,.slice ad 1 1])/\Hid (Wh w' true ad 1 1 (iv true 129))/\Gr w w'):=smallC true 129 w (by omega) (by omega)
 have D1:Hid (∀w1 ad,Wh w1 true ad 1 1 (iv true 129)->Calls Try.prog 9 #[.agg #[.bool true,.slice ad 1 1],.int .i64 8] w1 fun e w'=>∃a c,e = .returned (.tuple #[.slice a 2 c,.int .i64 0])/\Hid (w'.ownsRow w1.heap.size 2 1 (.slice a 2 c) 2 (iz [127,-1]))/\Hid (Gr w1 w')):=fun w1 ad hw=>by
  refine(digitsW hw 8 128 (by omega) (by omega) rfl (by omega) (by omega) rfl).mono ?_
  rintro e w' ⟨hd,hg⟩
  obtain⟨a,c,h1,h2⟩:=hd.one (by omega) [127,-1] (by intro d hd;simp at hd;omega) nt_a dv_a
  exact⟨a,c,h1,h2,hg⟩
 have W1:Hid (∀w1,Calls Try.prog 14 #[.slice (some ⟨w1.heap.size,0,none⟩) 3 3,.int .i64 2] (w1.alloc (.cells #[.int .i64 3,.int .i64 3,.int .i64 3] 2)) fun e w'=>∃a b c d,e = .returned (.tuple #[.agg #[.bool a,.slice b c d],.int .i64 0])/\Hid (Wh w' a b c d 63)/\Hid (Gr w1 w')):=fun w1=>by
  have hr:=rowLit w1 [3,3,3] 3 #[.int .i64 3,.int .i64 3,.int .i64 3] 2 rfl rfl (by unfold maxLen;omega)
  refine(wholeC _ 3 3 2 [3,3,3] 2 _ hr (by omega) (by omega) rfl (by omega) (by omega) rfl (by intro v hv;simp at hv;omega) (by omega)).mono ?_
  rintro e w' ⟨a,b,c,d,g,h1,h2,h3⟩
  rw[dv_b] at h2
  obtain⟨e1,e2,e3⟩:=h2.out.fits (Nat.lt_of_lt_of_le (show(63:Int).natAbs<2 ^ 6 by decide) (topN_pow (k:=6) (by omega)))
  subst e1
  exact⟨a,b,c,d,h1,e2,((Gr.refl w1).alloc _).trans h3⟩
 have WD:Hid (∀w1,Calls Try.prog 22 #[.int .i64 1535] w1 fun e w'=>e = .returned (.tuple #[.int .i64 12,.int .i64 0])/\Gr w1 w'):=fun w1=>by
  have:=Fl.widthC 1535 w1 (by omega) (by omega)
  rw[Fl.wid1535] at this
  exact this
 have S2:Hid (∀w1,Calls Try.prog 21 #[.bool false,.int .u64 63] w1 fun r w'=>∃ad,r = .returned (.agg #[.bool false,.slice ad 1 1])/\Hid (Wh w' false ad 1 1 63)/\Gr w1 w'):=fun w1=>smallC false 63 w1 (by omega) (by omega)
 go_enter Try.func7,Try.ntmps7
 go_wp2_with (first|(go_at_call 21;(with_reducible refine S1.out.mono ?_);rintro r w1 ⟨ad1,rfl,h1,g1⟩)|(go_at_call 9;(with_reducible refine(D1.out _ _ h1.out).mono ?_);rintro r w2 ⟨a2,c2,rfl,h2,g2⟩)|(go_at_call 14;(with_reducible refine(W1.out _).mono ?_);rintro r w3 ⟨a3,b3,c3,d3,rfl,h3,g3⟩)|(go_at_call 22;(with_reducible refine(WD.out _).mono ?_);rintro r w4 ⟨rfl,g4⟩))
 have BB:=blk1 w3 (.cells #[.bool a3,.slice b3 c3 d3] 24)
 have C0:=keepG g4 (bx2 BB).1
 have C1:=keepG g4 (bx2 BB).2
 have GA4:Gr w3 w4:=((Gr.refl w3).alloc _).trans g4
 have GW:Hid (Gr w w4):=(g1.trans g2.out).trans (g3.out.trans GA4)
 have GW2:Gr w2 w4:=g3.out.trans GA4
 obtain⟨ad2,cap2,hEq,hri,hge⟩:=RI.of_owns (GW2.owns h2.out)
 simp only[Value.slice.injEq,true_and] at hEq
 obtain⟨rfl,rfl⟩:=hEq
 have VA:Hid (Wh w4 a3 b3 c3 d3 63):=h3.out.gr GA4
 have SL:Hid (Calls Try.prog 11 #[.slice a2 2 c2,.slice (some ⟨w4.heap.size,0,none⟩) 2 2] (w4.alloc (.cells #[.int .i64 127,.int .i64 (-1)] 2)).drew fun e w'=>e = .returned (.bool true)/\Gr (w4.alloc (.cells #[.int .i64 127,.int .i64 (-1)] 2)).drew w'):=
  sameC 2 c2 2 a2 _ [127,-1] _ (hri.gr ((Gr.refl w4).alloc _).drew) ((rowLit w4 [127,-1] 2 #[.int .i64 127,.int .i64 (-1)] 2 rfl rfl (by unfold maxLen;omega)).gr (Gr.refl _).drew)
 have SI:Hid (∀w1,Gr w4 w1->∀ad,Wh w1 false ad 1 1 63->Calls Try.prog 16 #[.agg #[.bool a3,.slice b3 c3 d3],.agg #[.bool false,.slice ad 1 1]] w1 fun r w'=>r = .returned (.bool true)/\Gr w1 w'):=fun w1 g ad h=>sameTC rfl (VA.out.gr g) h
 generalize w3.heap.size=pa at *
 have S0:(w4.drew.cell? ⟨pa,0,none⟩=some (.bool a3)/\w4.drew.cell? ⟨pa,1,none⟩=some (.slice b3 c3 d3))/\Gr w4 w4.drew:=⟨⟨C0,C1⟩,(Gr.refl w4).drew⟩
 clear BB C0 C1 GA4 GW2 hri hge h1 h2 h3 g1 g2 g3 g4 S1 D1 W1 WD
 go_region_held3 (fun w'=>(w'.cell? ⟨pa,0,none⟩=some (.bool a3)/\w'.cell? ⟨pa,1,none⟩=some (.slice b3 c3 d3))/\Gr w4 w') (first|(with_reducible assumption)|(apply keepC2;(with_reducible assumption);(with_reducible assumption))|(refine keepC2 ((Gr.refl _).alloc _) ?_;(with_reducible assumption))|(refine keepC2 (gr_ad' _ _) ?_;(with_reducible assumption))) (first|(go_at_call 11;(with_reducible refine SL.out.mono ?_);rintro r w5 ⟨rfl,g5⟩)|(go_at_call 21;(with_reducible refine(S2.out _).mono ?_);rintro r w6 ⟨b6,rfl,h6,g6⟩)|(go_at_call 16;(with_reducible refine(SI.out _ ?gg _ h6.out).mono ?_);(case gg=>exact And.right ‹_/\Gr w4 _›);rintro r w7 ⟨rfl,g7⟩))
 all_goals go_wp2
 all_goals go_ret
 all_goals exact⟨rfl,((((GW.out.trans (Gr.refl w4).drew).trans (gr_ad' _ _)).trans g5).trans g6).trans g7⟩
def LastAt (ds:List Int) (k:Nat):Prop:=k<=ds.length/\(∀i,k<=i->i<ds.length->ds.getD i 0=0)/\(k=0\/ds.getD (k-1) 0≠0)
theorem LastAt.nil:LastAt [] 0:=⟨by simp,fun i _ h=>by simp at h,Or.inl rfl⟩
theorem LastAt.push {ds:List Int} {d:Int} (hd:d≠0):LastAt (ds++[d]) (ds.length+1):=by
 refine⟨by simp,fun i h1 h2=>by simp at h2;omega,Or.inr ?_⟩
 simp[List.getD_eq_getElem?_getD,hd]
theorem LastAt.dv {ds:List Int} {k:Nat} (h:LastAt ds k) (B:Int):dv B (ds.take k)=dv B ds:=dv_take h.2.1
theorem RI.takeR {w:World} {ad:Option Addr} {n cap k:Nat} {xs:List Int} (h:RI w ad n cap xs) (hk:k<=n):RI w ad k cap (xs.take k):=by
 obtain⟨h1,h2,h3,h4,h5⟩:=h
 refine⟨by rw[List.length_take];omega,by omega,h3,fun e=>⟨by have:=(h4 e).1;omega,(h4 e).2⟩,fun b e j hj=>?_⟩
 have:=h5 b e j (by omega)
 refine⟨this.1,?_⟩
 rw[this.2]
 simp[List.getD_eq_getElem?_getD,List.getElem?_take,hj]
theorem half_tab:(List.range 29).all (fun p=>decide ((2:Int)<=2 ^ (1+p)/\(2:Int) ^ (1+p)<=536870912/\wrap64 (2 ^ (1+p))=2 ^ (1+p)))=true:=by decide +kernel
theorem half_at {p:Nat} (hp:p<29):(2:Int)<=2 ^ (1+p)/\(2:Int) ^ (1+p)<=536870912/\wrap64 (2 ^ (1+p))=2 ^ (1+p):=by
 have t:=half_tab
 rw[List.all_eq_true] at t
 exact of_decide_eq_true (t p (List.mem_range.2 hp))
theorem getD_memI {ls:List Int} {j:Nat} (h:j<ls.length):ls.getD j 0∈ls:=by
 simp[List.getD_eq_getElem?_getD,List.getElem?_eq_getElem h]
end Go.Proofs.Ytfbgckgemfkioaa
namespace Go.Proofs.Ytfbgckgemfkioaa
open Go.RowKit
set_option linter.unusedVariables false
theorem newBx (w:World) (a:Bool) (b:Option Addr) (c d:Nat):(w.alloc (.cells #[.bool a,.slice b c d] 24)).cell? ⟨w.heap.size,0,none⟩=some (.bool a)/\(w.alloc (.cells #[.bool a,.slice b c d] 24)).cell? ⟨w.heap.size,1,none⟩=some (.slice b c d):=bx2 (blk1 w _)
structure Bw (w:World) (p:Nat) (s:Bool) (ad:Option Addr) (n cap:Nat) (X:Int):Prop where
 c0:w.cell? ⟨p,0,none⟩=some (.bool s)
 c1:w.cell? ⟨p,1,none⟩=some (.slice ad n cap)
 v:Wh w s ad n cap X
theorem Bw.gr {w w':World} {p:Nat} {s:Bool} {ad:Option Addr} {n cap:Nat} {X:Int} (h:Bw w p s ad n cap X) (g:Gr w w'):Bw w' p s ad n cap X:=⟨keepG g h.c0,keepG g h.c1,h.v.gr g⟩
theorem Bw.new {w:World} {s:Bool} {ad:Option Addr} {n cap:Nat} {X:Int} (h:Wh w s ad n cap X):Bw (w.alloc (.cells #[.bool s,.slice ad n cap] 24)) w.heap.size s ad n cap X:=
 ⟨(newBx w s ad n cap).1,(newBx w s ad n cap).2,h.gr ((Gr.refl w).alloc _)⟩
end Go.Proofs.Ytfbgckgemfkioaa
