import Derived.Test.YtfbgckgemfkioaaDoorV14
import Derived.Test.YtfbgckgemfkioaaDoorV06
import Derived.Test.YtfbgckgemfkioaaDoorV02
namespace Go.Proofs.YtfbgckgemfkioaaDoor.Fl
open Go.RowKit
open Ieee
set_option linter.unusedVariables false
set_option linter.unusedSimpArgs false
def p1T:List Nat:=[4386506037058863104,4397378688358759373,4406772235382030336,4415393086868241357,4423660733984669696,4431815222459591898,4439423332680466432,4446918284259834829,4454622981422841856,4462021346060077761,4469259680211795968,4476851218733296858,4483896379000750080,4491158149074474068,4498533077789704192]
def rgW (j:Nat):Nat:=4607182418800017408+(j+1)*4503599627370496
def duB (N D r:Nat):Bool:=decide (r<=9218868437227405312) && decide (N<=M r*D) && decide (M (r-1)*D<N)
theorem duB_spec {N D r:Nat} (h:duB N D r=true):DirUp N D r:=by
 unfold duB at h
 simp only[Bool.and_eq_true,decide_eq_true_eq] at h
 exact⟨h.1.1,fun _=>h.1.2,fun _=>h.2⟩
def chkW (k j:Nat):Bool:=duB (M (uB.getD k 0)*M (sqT.getD k 0)) U (p1T.getD k 0) && duB (M (p1T.getD k 0)*M (rgW j)) U (p1T.getD k 0+(j+1)*4503599627370496) && duB (M (p1T.getD k 0+(j+1)*4503599627370496)*M (rgW j)) U (p1T.getD k 0+2*(j+1)*4503599627370496) && duB (M (p1T.getD k 0+2*(j+1)*4503599627370496)+M 103582791429521408) 1 (p1T.getD k 0+2*(j+1)*4503599627370496+1) && decide (p1T.getD k 0+2*(j+1)*4503599627370496+1<9218868437227405312)
theorem chk_all:(List.range 15).all (fun k=>(List.range 29).all fun j=>chkW k j)=true:=by decide +kernel
theorem chk_at {k j:Nat} (hk:k<=14) (hj:j<29):chkW k j=true:=by
 have h:=chk_all
 rw[List.all_eq_true] at h
 have h1:=h k (List.mem_range.2 (by omega))
 rw[List.all_eq_true] at h1
 exact h1 j (List.mem_range.2 hj)
theorem dirUp_one {N D r r':Nat} (hD:0<D) (h:DirUp N D r) (h':DirUp N D r'):r=r':=dir_unique (out:=true) hD h h'
def r2W (k j:Nat):Nat:=p1T.getD k 0+2*(j+1)*4503599627370496+1
def okW (k j:Nat):Bool:=decide (r2W k j<4598175219545276416)
theorem ringW (k j:Nat) (w:World) (hk:k<=14) (hj:j<29) :
  Calls Tryd.prog 46 #[.int .i64 (k:Int),.float .f64 (rgW j),.float .f64 (rgW j)] w fun e w'=>e = .returned (.tuple #[.float .f64 (r2W k j),.int .i64 0])/\Gr w w':=by
 have hc:=chk_at hk hj
 unfold chkW at hc
 simp only[Bool.and_eq_true,decide_eq_true_eq] at hc
 obtain⟨⟨⟨⟨c1,c2⟩,c3⟩,c4⟩,c5⟩:=hc
 have hr:rgW j<=8660422083433463808:=by unfold rgW;omega
 refine(ringP k false false (rgW j) (rgW j) w hk hr (fun h=>by cases h) hr (fun h=>by cases h)).mono ?_
 rintro e w' ⟨⟨p,r2,⟨p1,p2,h1,h2,h3,_,_⟩,h4,rfl⟩,hg⟩
 have e1:=dirUp_one U_pos h1 (duB_spec c1)
 subst e1
 have e2:=dirUp_one U_pos h2 (duB_spec c2)
 subst e2
 have e3:=dirUp_one U_pos h3 (duB_spec c3)
 subst e3
 have e4:=dirUp_one (by omega) h4 (duB_spec c4)
 subst e4
 refine⟨?_,hg⟩
 have hne:¬(p1T.getD k 0+2*(j+1)*4503599627370496+1=9218868437227405312):=by omega
 rw[if_neg hne,if_neg hne]
 rfl
theorem quart (k j:Nat) (hk:k<=14) (hj:j<29):(FloatKind.f64.format.order (r2W k j) 4598175219545276416==some .lt)=okW k j:=by
 have hc:=chk_at hk hj
 unfold chkW at hc
 simp only[Bool.and_eq_true,decide_eq_true_eq] at hc
 have c5:=hc.2
 have h:=B_lt false false (r2W k j) 4598175219545276416 (by unfold r2W;omega) (by omega)
 rw[show W false (r2W k j)=r2W k j from rfl,show W false 4598175219545276416=4598175219545276416 from rfl] at h
 rw[h]
 unfold okW val
 simp only[Bool.false_eq_true,if_false]
 refine decide_eq_decide.2 ⟨fun h=>?_,fun h=>?_⟩
 ·refine Nat.lt_of_not_le fun hle=>?_
  have:=M_le hle
  omega
 ·have:=M_lt h
  omega
theorem lenC (v:Nat) (w:World) (hv:v<18446744073709551616):Calls Tryd.prog 45 #[.int .u64 (v:Int)] w fun e w'=>e = .returned (.int .i64 (bl v:Int))/\w'=w:=by
 have HL:Hid (Calls Tryd.prog 39 #[.int .u64 (v:Int)] w fun e w'=>e = .returned (.int .i64 (bl v:Int))/\w'=w):=by
  have:=Tryd.bits_Len64 (v:Int) w (by omega) (by omega)
  rw[Int.toNat_natCast,show Lib.bitLen v=bl v from bitLenAux_bl 64 v hv] at this
  exact this
 go_enter Tryd.func45,Tryd.ntmps45
 go_wp2_with (go_at_call 39;with_reducible refine HL.out.mono ?_;rintro e w' ⟨rfl,rfl⟩)
 go_ret
 exact⟨rfl,rfl⟩
theorem fl_tab:(List.range 29).all (fun j=>decide (floatOfInt FloatKind.f64 (wrap64 (2 ^ (j+1)))=rgW j))=true:=by decide +kernel
theorem fl_at {j:Nat} (hj:j<29):floatOfInt FloatKind.f64 (wrap64 (2 ^ (j+1)))=rgW j:=by
 have h:=fl_tab
 rw[List.all_eq_true] at h
 exact of_decide_eq_true (h j (List.mem_range.2 hj))
def fitB (L j:Nat):Bool:=decide (bl (2*(L*64 / (j+2)+2)-1)<=14) && okW (bl (2*(L*64 / (j+2)+2)-1)) j
set_option maxHeartbeats 1000000 in
theorem fitsC (L j:Nat) (w:World) (hL1:1<=L) (hL:L<=4096) (hj:j<29) :
  Calls Tryd.prog 30 #[.int .i64 (L:Int),.int .i64 ((j+2:Nat):Int)] w fun e w'=>e = .returned (.bool (fitB L j))/\Gr w w':=by
 unfold fitB
 obtain⟨d,hd⟩:∃d,L*64 / (j+2)+2=d:=⟨_,rfl⟩
 have hd2:2<=d/\d<=131074:=by
  have h1:L*64 / (j+2)<=131072:=Nat.le_trans (Nat.div_le_div_left (show 2<=j+2 by omega) (by omega)) (by omega)
  rw[<-hd]
  generalize L*64 / (j+2)=t at *
  omega
 rw[hd]
 have LC:=fun w=>lenC (2*d-1) w (by omega)
 simp only[show((2*d-1:Nat):Int)=2*(d:Int)-1 by omega] at LC
 have LC:=hide LC
 have ed:(L:Int)*64 / ((j+2:Nat):Int)+2=(d:Int):=by
  rw[<-hd]
  have:((L*64 / (j+2):Nat):Int)=(L:Int)*64 / ((j+2:Nat):Int):=by
   rw[Int.natCast_ediv,Int.natCast_mul];rfl
  omega
 have ew:((j+2:Nat):Int)≠0:=by omega
 obtain⟨wd,hwd⟩:∃wd,j+2=wd:=⟨_,rfl⟩
 rw[hwd] at ed ew ⊢
 have hwd2:2<=wd/\wd<=30:=by omega
 obtain⟨k,hk⟩:∃k,bl (2*d-1)=k:=⟨_,rfl⟩
 rw[hk] at LC ⊢
 by_cases hk14:k<=14
 ·rw[decide_eq_true hk14]
  have RW:=hide (fun w=>ringW k j w hk14 hj)
  have QU:=quart k j hk14 hj
  have hfl:=fl_at hj
  rw[show j+1=wd-1 by omega] at hfl
  have hk15:¬(14:Int)<(k:Int):=by omega
  clear ew hd hk
  generalize rgW j=rw1 at *
  generalize r2W k j=rw2 at *
  generalize okW k j=ob at *
  go_enter Tryd.func30,Tryd.ntmps30
  go_wp2_with (first|(go_at_call 45;with_reducible refine(LC.out _).mono ?_;rintro e w' ⟨rfl,rfl⟩)|(go_at_call 46;with_reducible refine(RW.out _).mono ?_;rintro e w2 ⟨rfl,g2⟩))
  go_ret
  exact⟨by simp,g2⟩
 ·rw[decide_eq_false hk14]
  have hk15:(14:Int)<(k:Int):=by omega
  clear ew hd hk
  go_enter Tryd.func30,Tryd.ntmps30
  go_wp2_with (first|(go_at_call 45;with_reducible refine(LC.out _).mono ?_;rintro e w' ⟨rfl,rfl⟩))
  go_ret
  exact⟨rfl,Gr.refl _⟩
def widF (L:Nat):Nat->Option Nat
 | 0=>none
 | j+1=>if fitB L j then some j else widF L j
def widV (L:Nat):Value:=match widF L 29 with
 | some j=>.tuple #[.int .i64 ((j+2:Nat):Int),.int .i64 0]
 | none=>.tuple #[.int .i64 0,.int .i64 3]
set_option maxHeartbeats 1000000 in
theorem widthC (L:Nat) (w:World) (hL1:1<=L) (hL:L<=4096) :
  Calls Tryd.prog 13 #[.int .i64 (L:Int)] w fun e w'=>e = .returned (widV L)/\Gr w w':=by
 have FC:=hide (fun j w (hj:j<29)=>fitsC L j w hL1 hL hj)
 have h1:¬(L:Int)<1:=by omega
 have h2:¬(4096:Int)<(L:Int):=by omega
 go_enter Tryd.func13,Tryd.ntmps13
 go_wp2
 go_loopw [4] (fun t wr=>∃j:Nat,j<=29/\t = .int .i64 ((j:Int)+1)/\Hid (widF L 29=widF L j)/\Hid (Gr w wr)) (fun t _=>(intOf t).toNat)
 case atStart=>exact⟨29,by omega,rfl,rfl,Gr.refl _⟩
 case round =>
  obtain⟨j,hj,rfl,hw,hg⟩:=hrel
  cases j with
  | zero =>
   have hV:widV L = .tuple #[.int .i64 0,.int .i64 3]:=by unfold widV;rw[hw.out];rfl
   go_wp2
   go_ret2
   exact⟨by rw[hV];rfl,hg.out⟩
  | succ j =>
   have FF:=FC.out j wr (by omega)
   have e2:((j+1:Nat):Int)+1=((j+2:Nat):Int):=by omega
   rw[e2]
   have h3:(2:Int)<=((j+2:Nat):Int):=by omega
   have h4:((j+2:Nat):Int)<=30:=by omega
   cases hf:fitB L j with
   | true =>
    rw[hf] at FF
    have FF:=hide FF
    have hV:widV L = .tuple #[.int .i64 ((j+2:Nat):Int),.int .i64 0]:=by unfold widV;rw[hw.out];show(match (if fitB L j then some j else widF L j) with|some j=>_|none=>_)=_;rw[hf];rfl
    generalize ((j+2:Nat):Int)=t at *
    go_wp2_with (go_at_call 30;with_reducible refine FF.out.mono ?_;rintro e w2 ⟨rfl,g2⟩)
    go_ret2
    exact⟨by rw[hV];rfl,hg.out.trans g2⟩
   | false =>
    rw[hf] at FF
    have FF:=hide FF
    have e3:Hid (((j+2:Nat):Int)-1=(j:Int)+1):=by show _=_;omega
    have hn:Hid (widF L 29=widF L j):=by show _=_;rw[hw.out];show(if fitB L j then some j else widF L j)=_;rw[hf];rfl
    have e4:Hid (((j+2:Nat):Int)=(j:Int)+2):=by show _=_;omega
    clear e2
    generalize ((j+2:Nat):Int)=t at *
    go_wp2_with (go_at_call 30;with_reducible refine FF.out.mono ?_;rintro e w2 ⟨rfl,g2⟩)
    go_roundw
    case rel=>exact⟨j,by omega,by rw[e3.out],hn.out,hg.out.trans g2⟩
    case measure=>have:=e4.out;have:=e3.out;simp only[intOf];omega
def fitK (L j:Nat):Bool:=decide (Lib.bitLenAux 20 (2*(L*64 / (j+2)+2)-1)<=14) && okW (Lib.bitLenAux 20 (2*(L*64 / (j+2)+2)-1)) j
theorem fit_k {L j:Nat} (hL:L<=4096):fitB L j=fitK L j:=by
 have h1:L*64 / (j+2)<=131072:=Nat.le_trans (Nat.div_le_div_left (show 2<=j+2 by omega) (by omega)) (by omega)
 unfold fitB fitK
 rw[bitLenAux_bl 20 _ (by generalize L*64 / (j+2)=t at *;omega)]
def widK (L:Nat):Nat->Option Nat
 | 0=>none
 | j+1=>if fitK L j then some j else widK L j
theorem wid_k {L:Nat} (hL:L<=4096):∀j,widF L j=widK L j
 | 0=>rfl
 | j+1=>by
  show(if fitB L j then some j else widF L j)=if fitK L j then some j else widK L j
  rw[fit_k hL,wid_k hL j]
theorem wid1535:widV 1535 = .tuple #[.int .i64 12,.int .i64 0]:=by
 have h:widF 1535 29=some 10:=by rw[wid_k (by omega)];decide +kernel
 unfold widV
 rw[h];rfl
end Go.Proofs.YtfbgckgemfkioaaDoor.Fl
