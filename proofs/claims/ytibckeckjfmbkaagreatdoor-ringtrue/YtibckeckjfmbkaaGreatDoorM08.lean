import Derived.Test.YtibckeckjfmbkaaGreatDoorM07
import Derived.Test.YtibckeckjfmbkaaGreatDoorM05
import Derived.Test.YtibckeckjfmbkaaGreatDoorM06
import Derived.Test.YtibckeckjfmbkaaGreatDoorM02
import Derived.Deep.Draws
import Derived.Test.YtibckeckjfmbkaaGreatDoorChecked
import Derived.Laws.Bits128
namespace Go.Proofs.YtibckeckjfmbkaaGreatDoor.Fl
open Go.RowKit
open Ieee
set_option linter.unusedVariables false
theorem add11_not (a b v:Nat) (up:Bool) (w w2:World) (h:(finB a && finB b)=false) (h1:(binOp .add 32 (.float .f64 a) (.float .f64 b)).run Tryz.prog w = .ok (.float .f64 v) w2) :
  Calls Tryz.prog 72 #[.float .f64 a,.float .f64 b,.bool up] w fun e w'=>e = .returned (.float .f64 v)/\w'=w2:=by
 cases ha:finB a
 ·go_enter Tryz.func72,Tryz.ntmps72
  go_wp2_with (go_at_call 54;refine(fin15 _ _).mono ?_;rintro e w' ⟨rfl,rfl⟩)
  go_ret
  exact⟨rfl,rfl⟩
 ·have hb:finB b=false:=by rw[ha,Bool.true_and] at h;exact h
  clear h
  go_enter Tryz.func72,Tryz.ntmps72
  go_wp2_with (go_at_call 54;refine(fin15 _ _).mono ?_;rintro e w' ⟨rfl,rfl⟩)
  go_ret
  exact⟨rfl,rfl⟩
theorem add11_sem (s t:Bool) (a b:Nat) (up:Bool) (ha:a<9218868437227405312) (hb:b<9218868437227405312) (hT:val s a+val t b≠0) :
  ∃r,Dir (up != decide (val s a+val t b<0)) (val s a+val t b).natAbs 1 r /\
   ∀w,Calls Tryz.prog 72 #[.float .f64 (W s a),.float .f64 (W t b),.bool up] w fun e w'=>e = .returned (.float .f64 (W (decide (val s a+val t b<0)) r))/\w'=w:=by
 obtain⟨r,c,h1,h2,h3,h4⟩:=add_faithful s t a b ha hb
 rw[if_neg hT] at h4
 have hfa:finB (W s a)=true:=by rw[finB_W s a (by omega)];exact decide_eq_true ha
 have hfb:finB (W t b)=true:=by rw[finB_W t b (by omega)];exact decide_eq_true hb
 have hnear:Near (val s a+val t b).natAbs 1 (min c 9218868437227405312):=near_of_faithful (r:=r) (by omega) (by rw[Nat.mul_one];exact h1) (by rw[Nat.mul_one];exact h2) (by rw[Nat.mul_one];exact h3)
 have hr:0<r:=by
  refine Nat.pos_of_ne_zero fun h0=>?_
  subst h0
  rw[show 0+1=1 from rfl,M_one] at h2
  omega
 have hz:zeroB (W (decide (val s a+val t b<0)) (min c 9218868437227405312))=false:=by
  rw[zeroB_W _ _ (Nat.min_le_right ..)]
  exact decide_eq_false (by omega)
 have habs:=B_lt false false a b (by omega) (by omega)
 rw[show W false a=absN (W s a) from (abs_W s a (by omega)).symm,show W false b=absN (W t b) from (abs_W t b (by omega)).symm] at habs
 by_cases hab:b<=a
 ·obtain⟨y,o,g1,g2,g3,g4⟩:=err_says s t a b r c ha hab hT h1 h2 h3
  have hM:=M_le hab
  rw[decide_eq_false (by unfold val;simp;omega)] at habs
  obtain⟨r',k1,k2⟩:=side_ok _ _ 1 _ o up (by omega) hnear g3 g4
  refine⟨r',k2,fun w=>?_⟩
  have:=add10 _ _ _ o _ _ up w hfa hfb h4 hz rfl (by omega) (fun w=>err21_keep _ _ _ y o w habs g1 g2)
  rw[k1] at this
  exact this
 ·have hT':val t b+val s a≠0:=by rw[Int.add_comm];exact hT
  obtain⟨y,o,g1,g2,g3,g4⟩:=err_says t s b a r c hb (by omega) hT' (by rw[Int.add_comm];exact h1) (by rw[Int.add_comm];exact h2) (by rw[Int.add_comm];exact h3)
  rw[Int.add_comm (val t b)] at g1 g3 g4
  have hM:=M_lt (show a<b by omega)
  rw[decide_eq_true (by unfold val;simp;omega)] at habs
  obtain⟨r',k1,k2⟩:=side_ok _ _ 1 _ o up (by omega) hnear g3 g4
  refine⟨r',k2,fun w=>?_⟩
  have:=add10 _ _ _ o _ _ up w hfa hfb h4 hz rfl (by omega) (fun w=>err41_swap _ _ _ y o w habs g1 g2)
  rw[k1] at this
  exact this
theorem mul_W (s t:Bool) (a b:Nat) (ha:a<9218868437227405312) (hb:b<9218868437227405312) :
  double.mul (W s a) (W t b)=some (double.nearest (s ^^ t) (mant a*mant b) (-1074+(ex a:Int)+(-1074+(ex b:Int)))):=by
 unfold Format.mul
 rw[read_fin s a ha,read_fin t b hb]
 rfl
theorem mul_mag (a b:Nat):mant a*mant b*2 ^ (-1074+(ex a:Int)+(-1074+(ex b:Int))+1074+(E74:Nat)).toNat=M a*M b:=by
 have e:(-1074+(ex a:Int)+(-1074+(ex b:Int))+1074+(E74:Nat)).toNat=ex a+ex b:=by
  have:=E74_eq
  omega
 rw[e]
 unfold M
 rw[Nat.pow_add]
 exact Nat.mul_mul_mul_comm ..
theorem mul_place (a b:Nat):(0:Int) <= -1074+(ex a:Int)+(-1074+(ex b:Int))+1074+(E74:Nat):=by
 have:=E74_eq
 omega
theorem mul_exact (s t:Bool) (a b r:Nat) (ha:a<9218868437227405312) (hb:b<9218868437227405312) (hr:r<=9218868437227405312) (h:M a*M b=M r*U) :
  double.mul (W s a) (W t b)=some (W (s ^^ t) r):=by
 rw[mul_W s t a b ha hb]
 refine congrArg some (nearest_exact _ _ _ E74 r (mul_place a b) hr ?_)
 rw[mul_mag]
 exact h
theorem mul_faithful (s t:Bool) (a b:Nat) (ha:a<9218868437227405312) (hb:b<9218868437227405312) :
  ∃r c,M r*U<=M a*M b/\M a*M b<M (r+1)*U/\(c=r\/(c=r+1/\M a*M b≠M r*U))/\double.mul (W s a) (W t b)=some (W (s ^^ t) (min c 9218868437227405312)):=by
 obtain⟨r,c,h1,h2,h3,h4⟩:=nearest_faithful (s ^^ t) (mant a*mant b) (-1074+(ex a:Int)+(-1074+(ex b:Int))) E74 (mul_place a b)
 rw[mul_mag] at h1 h2 h4
 exact⟨r,c,h1,h2,h4,by rw[mul_W s t a b ha hb,h3]⟩
theorem mul_run (w:World) (x y r:Nat) (h:double.mul x y=some r):(binOp .mul 32 (.float .f64 x) (.float .f64 y)).run Tryz.prog w = .ok (.float .f64 r) w:=
 run_float_arith (P:=Tryz.prog) w .mul 32 .f64 x y r h
theorem W_eq (s:Bool) (r:Nat):W s r=s.toNat*2 ^ 63+r:=by
 cases s
 ·show r=_;simp
 ·show 9223372036854775808+r=_;simp
theorem bit_exp (s:Bool) (n:Nat) (h:n<9223372036854775808):bits BinOp.and IntKind.u64 ((W s n:Nat) / 4503599627370496:Int) 2047=((n / 4503599627370496:Nat):Int):=by
 have e:((W s n:Nat) / 4503599627370496:Int)=((W s n / 4503599627370496:Nat):Int):=by simp
 have hl:=W_lt s n h
 rw[e,show(2047:Int)=((2047:Nat):Int) from rfl,u64_and_nat _ _ (by omega) (by omega)]
 have h2:=Nat.and_two_pow_sub_one_eq_mod (W s n / 4503599627370496) 11
 rw[show(2047:Nat)=2 ^ 11-1 from rfl,h2,W_eq]
 congr 1
 cases s <;> simp <;> omega
theorem bit_cut (s:Bool) (n:Nat) (h:n<9223372036854775808):bits BinOp.andNot IntKind.u64 (W s n:Nat) 9218868437227405312=((W s (n % 4503599627370496):Nat):Int):=by
 have hl:=W_lt s n h
 rw[show(9218868437227405312:Int)=((9218868437227405312:Nat):Int) from rfl,u64_andNot_nat _ _ hl (by omega)]
 congr 1
 have e1:(18446744073709551615-9218868437227405312:Nat)=2 ^ 63 ||| (2 ^ 52-1):=by decide
 rw[e1,Nat.and_or_distrib_left,Nat.and_two_pow_sub_one_eq_mod]
 have e2:W s n &&& 2 ^ 63=s.toNat*2 ^ 63:=by
  apply Nat.eq_of_testBit_eq
  intro i
  rw[Nat.testBit_and,Nat.testBit_two_pow,W_eq]
  by_cases hi:63=i
  ·subst hi
   rw[decide_eq_true rfl,Bool.and_true]
   cases s
   ·simp only[Bool.toNat_false,Nat.zero_mul,Nat.zero_add,Nat.zero_testBit]
    exact Nat.testBit_lt_two_pow h
   ·simp only[Bool.toNat_true,Nat.one_mul]
    rw[Nat.testBit_two_pow_add_eq,Nat.testBit_lt_two_pow h,Nat.testBit_two_pow_self]
    rfl
  ·rw[decide_eq_false hi,Bool.and_false]
   cases s
   ·simp
   ·simp only[Bool.toNat_true,Nat.one_mul]
    rw[Nat.testBit_two_pow,decide_eq_false hi]
 have e3:W s n % 2 ^ 52=n % 4503599627370496:=by
  rw[W_eq];cases s <;> simp <;> omega
 rw[e2,e3]
 cases s
 ·simp[W]
 ·simp only[Bool.toNat_true,Nat.one_mul]
  have h6:=Nat.two_pow_add_eq_or_of_lt (i:=63) (b:=n % 4503599627370496) (by omega) 1
  rw[Nat.mul_one] at h6
  rw[<-h6]
  rfl
theorem bit_put (s:Bool) (y E:Nat) (hy:y<4503599627370496) (hE:E<2048):bits BinOp.or IntKind.u64 (W s y:Nat) ((E*4503599627370496:Nat):Int)=((W s (E*4503599627370496+y):Nat):Int):=by
 have hl:=W_lt s y (by omega)
 rw[u64_or_nat _ _ hl (by omega)]
 congr 1
 have e1:E*4503599627370496=E <<< 52:=by rw[Nat.shiftLeft_eq]
 have e2:W s y=(s.toNat*2048) <<< 52 ||| y:=by
  rw[<-Nat.shiftLeft_add_eq_or_of_lt (i:=52) (by omega),Nat.shiftLeft_eq,W_eq]
  cases s <;> simp
 have e3:s.toNat*2048 ||| E=s.toNat*2048+E:=by
  cases s
  ·simp
  ·simp only[Bool.toNat_true,Nat.one_mul]
   exact(Nat.two_pow_add_eq_or_of_lt (i:=11) (by omega) 1).symm ▸ rfl
 rw[e1,e2,Nat.or_assoc,Nat.or_comm y,<-Nat.or_assoc,<-Nat.shiftLeft_or_distrib,e3,<-Nat.shiftLeft_add_eq_or_of_lt (i:=52) (by omega),Nat.shiftLeft_eq,W_eq,Nat.shiftLeft_eq,Nat.add_mul,Nat.mul_assoc,Nat.add_assoc]
end Go.Proofs.YtibckeckjfmbkaaGreatDoor.Fl
namespace Go.Proofs.YtibckeckjfmbkaaGreatDoor
open Go.RowKit
open Ieee
set_option linter.unusedVariables false
def abW (x:Nat):Nat:=(bits BinOp.xor IntKind.u64 (x:Int) 9223372036854775808).toNat
theorem aboutE (x:Nat) (w:World):Calls Tryz.prog 78 #[.float .f64 x] w fun r w'=>r = .returned (.float .f64 (abW x))/\w'=w:=by
 have h1:=Fl.bits14
 have h2:=Fl.from13
 go_enter Tryz.func78,Tryz.ntmps78
 go_wp2
 go_ret
 exact⟨rfl,rfl⟩
def tW (q:Nat) (p:Nat × Nat):Nat × Nat:=if q=0 then p else if q=1 then (abW p.2,p.1) else if q=2 then (abW p.1,abW p.2) else (p.2,abW p.1)
theorem pturn (q x y:Nat) (w:World) (hq:q<=3):Calls Tryz.prog 132 #[.complex .f64 x y,.int .i64 (q:Int)] w fun r w'=>r = .returned (.complex .f64 (tW q (x,y)).1 (tW q (x,y)).2)/\w'=w:=by
 rcases (show q=0\/q=1\/q=2\/q=3 by omega) with rfl|rfl|rfl|rfl
 all_goals
  go_enter Tryz.func132,Tryz.ntmps132
  go_wp2_with (go_at_call 78;(with_reducible refine(aboutE _ _).mono ?_);rintro r w1 ⟨rfl,rfl⟩)
  go_ret
  exact⟨rfl,rfl⟩
theorem padd (x y x' y':Nat) (w:World) (h1:double.add x 0=some x') (h2:double.add y 0=some y'):Calls Tryz.prog 131 #[.complex .f64 x y,.complex .f64 0 0] w fun r w'=>r = .returned (.complex .f64 x' y')/\w'=w:=by
 have a1:∀w,(binOp .add 32 (.float .f64 x) (.float .f64 0)).run Tryz.prog w = .ok (.float .f64 x') w:=fun w=>run_float_arith (P:=Tryz.prog) w .add 32 .f64 x 0 x' h1
 have a2:∀w,(binOp .add 32 (.float .f64 y) (.float .f64 0)).run Tryz.prog w = .ok (.float .f64 y') w:=fun w=>run_float_arith (P:=Tryz.prog) w .add 32 .f64 y 0 y' h2
 clear h1 h2
 go_enter Tryz.func131,Tryz.ntmps131
 go_wp2
 go_ret
 exact⟨rfl,rfl⟩
theorem turnedE (q x y x' y':Nat) (w:World) (hq:q<=3) (h1:double.add (tW q (x,y)).1 0=some x') (h2:double.add (tW q (x,y)).2 0=some y'):Calls Tryz.prog 117 #[.complex .f64 x y,.int .i64 (q:Int)] w fun r w'=>r = .returned (.complex .f64 x' y')/\w'=w:=by
 have PT:=hide (fun w=>pturn q x y w hq)
 have PA:=hide (fun w=>padd _ _ x' y' w h1 h2)
 generalize (tW q (x,y)).1=u at *
 generalize (tW q (x,y)).2=v at *
 clear h1 h2
 go_enter Tryz.func117,Tryz.ntmps117
 go_wp2_with (first|(go_at_call 132;(with_reducible refine(PT.out _).mono ?_);rintro r w1 ⟨rfl,rfl⟩)|(go_at_call 131;(with_reducible refine(PA.out _).mono ?_);rintro r w1 ⟨rfl,rfl⟩))
 go_ret
 exact⟨rfl,rfl⟩
theorem acrossE (x y:Nat) (w:World):Calls Tryz.prog 130 #[.complex .f64 x y] w fun r w'=>r = .returned (.complex .f64 y x)/\w'=w:=by
 go_enter Tryz.func130,Tryz.ntmps130
 go_wp2
 go_ret
 exact⟨rfl,rfl⟩
@[go_sem] theorem run_store_cpx (P:Program) (w:World) (a:Addr) (m:Mode) (x y:Nat):(store a (.complex .f64 x y) m).run P w=stored P w a (.complex .f64 x y) m:=run_store P w a _ m rfl
def cz (zs:List (Nat × Nat)):List Value:=zs.map fun p=>Value.complex .f64 p.1 p.2
theorem cz_length (zs:List (Nat × Nat)):(cz zs).length=zs.length:=by simp[cz]
theorem cz_get {zs:List (Nat × Nat)} {j:Nat} (h:j<zs.length):(cz zs)[j]? = some (.complex .f64 (zs.getD j (0,0)).1 (zs.getD j (0,0)).2):=by
 unfold cz
 rw[List.getElem?_map,List.getElem?_eq_getElem h,List.getD_eq_getElem?_getD,List.getElem?_eq_getElem h]
 rfl
theorem infoC:(Tryz.prog.info? 60).map (fun i=>(i.zero,i.size,i.bytes))=some (some (.complex .f64 0 0),1,16):=by kernel_rfl
theorem made_c (n:Nat):(madeCells (Value.complex .f64 0 0).cells (n*1)).toList=cz (List.replicate n (0,0)):=by
 rw[Nat.mul_one]
 refine List.ext_getElem (by rw[Array.length_toList,size_madeCells,cz_length,List.length_replicate]) fun i h1 h2=>?_
 simp[madeCells,cz,Value.cells,Nat.mod_one]
theorem wpList_madeC {w:World} {ops:Array Oper} {rest:List Oper} {o:Oper} {a:Act} {Q:Exit->Act->World->Prop} (hgd:o.guard=none) (l c:Operand)
  (hop:o.op=Op.makeSlice 44 l c) (n:Nat) (L:Int) (hl:a.eval l = .int .i64 L) (hc:a.eval c = .int .i64 L) (hL:L=(n:Int)) (hn:n<=4398046511104)
  (hK:∀w',w'.ownsRow w.heap.size 60 1 (.slice (some ⟨w.heap.size,0,none⟩) n n) n (cz (List.replicate n (0,0)))->Gr w w'->wpList Tryz.prog ops Q rest (a.put o.dst (.slice (some ⟨w.heap.size,0,none⟩) n n)) w') :
  wpList Tryz.prog ops Q (o :: rest) a w:=by
 obtain⟨i0,hi,hz0,hz1,hz2⟩:=info_parts infoC
 refine wpList_make_full w hgd l c 44 hop w.heap.size 60 i0 (.complex .f64 0 0) 1 Tryz.underlying44 hi hz0 hz1 .i64 .i64 L L n hl hc hL hL (by rw[hz2];omega) (by unfold maxLen;omega) (Nat.le_refl _) ?_
 intro w' hown hgr
 rw[made_c] at hown
 exact hK w' hown ((Gr.refl w).grown hgr (fun k h=>by cases h))
theorem ownsC_cell {w:World} {base:Nat} {g N:Nat} {zs:List (Nat × Nat)} (h:w.ownsRow base 60 1 (.slice (some ⟨g,0,none⟩) N N) N (cz zs)) (j:Nat) (hj:j<N):w.cell? ⟨g,j,none⟩=some (.complex .f64 (zs.getD j (0,0)).1 (zs.getD j (0,0)).2):=by
 have hl:zs.length=N:=by have:=h.1;rw[cz_length] at this;omega
 rw[h.cellAt j (by omega),cz_get (by omega)]
theorem ownsC_set {w:World} {base:Nat} {g N:Nat} {zs:List (Nat × Nat)} (h:w.ownsRow base 60 1 (.slice (some ⟨g,0,none⟩) N N) N (cz zs)) (j x y:Nat):(w.setCell ⟨g,j,none⟩ (.complex .f64 x y)).ownsRow base 60 1 (.slice (some ⟨g,0,none⟩) N N) N (cz (zs.set j (x,y))):=by
 have:=(h.stored j (.complex .f64 x y)).1
 rw[show cz (zs.set j (x,y))=(cz zs).set j (.complex .f64 x y) by simp[cz]]
 exact this
end Go.Proofs.YtibckeckjfmbkaaGreatDoor
namespace Go.Proofs.YtibckeckjfmbkaaGreatDoor.Fl
open Go.RowKit
open Ieee
set_option linter.unusedVariables false
def nOf (x y:Nat) (w:World):Nat:=Question.cut (.nanBits .f64 x y) (w.tape w.drawn (.nanBits .f64 x y))
theorem nOf_form (x y:Nat) (w:World):∃s k,nOf x y w=s*2 ^ 63+0x7ff0000000000000+1+k/\k<4503599627370495/\s<2:=⟨_,_,rfl,by omega,by omega⟩
theorem nOf_nan (x y:Nat) (w:World):nanB (nOf x y w)=true/\nOf x y w<18446744073709551616:=by
 obtain⟨s,k,h,hk,hs⟩:=nOf_form x y w
 rw[h]
 have e:s*2 ^ 63+0x7ff0000000000000+1+k=W (s==1) (0x7ff0000000000000+1+k):=by
  have:s=0\/s=1:=by omega
  rcases this with rfl|rfl
  ·show 0*2 ^ 63+0x7ff0000000000000+1+k=0x7ff0000000000000+1+k
   omega
  ·show 1*2 ^ 63+0x7ff0000000000000+1+k=9223372036854775808+(0x7ff0000000000000+1+k)
   omega
 rw[e]
 exact⟨by rw[nanB_W _ _ (by omega)];exact decide_eq_true (by omega),W_lt _ _ (by omega)⟩
def frr (op:BinOp) (x y:Nat) (w:World):Nat:=(floatBits op .f64 x y).getD (nOf x y w)
def fnn (op:BinOp) (x y:Nat):Nat:=if (floatBits op .f64 x y).isSome then 0 else 1
theorem flt_run (op:BinOp) (hop:op = .add\/op = .sub\/op = .mul\/op = .quo) (t:TypeId) (x y:Nat) (w:World) :
  (binOp op t (.float .f64 x) (.float .f64 y)).run Tryz.prog w = .ok (.float .f64 (frr op x y w)) (w.drewN (fnn op x y)):=by
 unfold frr fnn
 cases h:floatBits op .f64 x y with
 | some r=>exact run_float_arith (P:=Tryz.prog) w op t .f64 x y r h
 | none =>
  show _=Result.ok (Value.float .f64 (nOf x y w)) (w.drewN 1)
  unfold nOf
  rcases hop with rfl|rfl|rfl|rfl <;> (unfold floatBits at h;simp only at h;simp[binOp,Op.floatArith,h])
  all_goals first|exact fun hf=>Bool.noConfusion (show false=true from hf)|(refine⟨?_,?_⟩ <;> first|rfl|exact fun hf=>Bool.noConfusion (show false=true from hf))|rfl
theorem frr_add (x y:Nat) (w:World):cn (frr .add x y w)=fA x y/\frr .add x y w<18446744073709551616:=by
 have k:=nOf_nan x y w
 unfold frr
 cases h:floatBits .add .f64 x y with
 | some r =>
  have h':double.add x y=some r:=h
  have e:fA x y=r:=by unfold fA;rw[h'];rfl
  exact⟨by show cn r=_;rw[<-e];exact cn_fA x y,by show r<_;rw[<-e];exact fA_lt x y⟩
 | none =>
  have h':double.add x y=none:=h
  exact⟨by show cn (nOf x y w)=_;rw[cn_nan k.1];unfold fA;rw[h'];rfl,k.2⟩
theorem frr_sub (x y:Nat) (w:World):cn (frr .sub x y w)=fS x y/\frr .sub x y w<18446744073709551616:=by
 have k:=nOf_nan x y w
 unfold frr
 cases h:floatBits .sub .f64 x y with
 | some r =>
  have h':double.sub x y=some r:=h
  have e:fS x y=r:=by unfold fS;rw[h'];rfl
  exact⟨by show cn r=_;rw[<-e];exact cn_fS x y,by show r<_;rw[<-e];exact fS_lt x y⟩
 | none =>
  have h':double.sub x y=none:=h
  exact⟨by show cn (nOf x y w)=_;rw[cn_nan k.1];unfold fS;rw[h'];rfl,k.2⟩
theorem frr_mul (x y:Nat) (w:World):cn (frr .mul x y w)=fP x y/\frr .mul x y w<18446744073709551616:=by
 have k:=nOf_nan x y w
 unfold frr
 cases h:floatBits .mul .f64 x y with
 | some r =>
  have h':double.mul x y=some r:=h
  have e:fP x y=r:=by unfold fP;rw[h'];rfl
  exact⟨by show cn r=_;rw[<-e];exact cn_fP x y,by show r<_;rw[<-e];exact fP_lt x y⟩
 | none =>
  have h':double.mul x y=none:=h
  exact⟨by show cn (nOf x y w)=_;rw[cn_nan k.1];unfold fP;rw[h'];rfl,k.2⟩
theorem frr_subs (X Y:Nat) (w:World) (hX:X<18446744073709551616) (hY:Y<18446744073709551616):cn (frr .sub X Y w)=fS (cn X) (cn Y):=by rw[fS_cn _ _ hX,fS_cn2 _ _ hY];exact(frr_sub X Y w).1
theorem frr_adds (X Y:Nat) (w:World) (hX:X<18446744073709551616) (hY:Y<18446744073709551616):cn (frr .add X Y w)=fA (cn X) (cn Y):=by rw[fA_cn _ _ hX,fA_cn2 _ _ hY];exact(frr_add X Y w).1
theorem frr_muls (X Y:Nat) (w:World) (hX:X<18446744073709551616) (hY:Y<18446744073709551616):cn (frr .mul X Y w)=fP (cn X) (cn Y):=by rw[fP_cn _ _ hX,fP_cn2 _ _ hY];exact(frr_mul X Y w).1
def IsZ (z:Nat × Nat) (p q:Nat):Prop:=cn p=z.1/\cn q=z.2/\p<18446744073709551616/\q<18446744073709551616
theorem mulP (x y u v:Nat) (a b:Nat × Nat) (w:World) (ha:IsZ a x y) (hb:IsZ b u v) :
  Calls Tryz.prog 49 #[.complex .f64 x y,.complex .f64 u v] w fun r w'=>∃p q n,r = .returned (.complex .f64 p q)/\Hid (IsZ (mulZ a b) p q)/\w'=w.drewN n:=by
 have r1:∀x y w,(binOp .mul 32 (.float .f64 x) (.float .f64 y)).run Tryz.prog w = .ok (.float .f64 (frr .mul x y w)) (w.drewN (fnn .mul x y)):=fun x y w=>flt_run .mul (by simp) _ x y w
 have r2:∀x y w,(binOp .sub 32 (.float .f64 x) (.float .f64 y)).run Tryz.prog w = .ok (.float .f64 (frr .sub x y w)) (w.drewN (fnn .sub x y)):=fun x y w=>flt_run .sub (by simp) _ x y w
 have r3:∀x y w,(binOp .add 32 (.float .f64 x) (.float .f64 y)).run Tryz.prog w = .ok (.float .f64 (frr .add x y w)) (w.drewN (fnn .add x y)):=fun x y w=>flt_run .add (by simp) _ x y w
 have HA:=hide ha
 have HB:=hide hb
 clear ha hb
 go_enter Tryz.func49,Tryz.ntmps49
 go_wp2
 go_ret
 refine⟨_,_,_,rfl,?_,rfl⟩
 obtain⟨a1,a2,a3,a4⟩:=HA.out
 obtain⟨b1,b2,b3,b4⟩:=HB.out
 refine⟨?_,?_,(frr_sub _ _ _).2,(frr_add _ _ _).2⟩
 ·rw[frr_subs _ _ _ (frr_mul _ _ _).2 (frr_mul _ _ _).2,frr_muls _ _ _ a3 b3,frr_muls _ _ _ a4 b4,a1,a2,b1,b2];rfl
 ·rw[frr_adds _ _ _ (frr_mul _ _ _).2 (frr_mul _ _ _).2,frr_muls _ _ _ a3 b4,frr_muls _ _ _ a4 b3,a1,a2,b1,b2];rfl
theorem abW_ng {x:Nat} (h:x<18446744073709551616):abW x=ng x:=by
 unfold abW
 have h1:=u64_xor_nat x 9223372036854775808 h (by omega)
 rw[show((9223372036854775808:Int))=((9223372036854775808:Nat):Int) from rfl,h1,Int.toNat_natCast]
 obtain⟨s,r,rfl,hr⟩:=W_split x h
 rw[ng_W s r hr]
 have h2:=xor_top r hr
 cases s
 ·show r ^^^ 2 ^ 63=_
  rw[h2];rfl
 ·show(2 ^ 63+r) ^^^ 2 ^ 63=_
  rw[<-h2,Nat.xor_assoc,Nat.xor_self,Nat.xor_zero];rfl
def conjZ (z:Nat × Nat):Nat × Nat:=(z.1,cn (ng z.2))
theorem conjP (x y:Nat) (a:Nat × Nat) (w:World) (ha:IsZ a x y) :
  Calls Tryz.prog 51 #[.complex .f64 x y] w fun r w'=>r = .returned (.complex .f64 x (ng y))/\Hid (IsZ (conjZ a) x (ng y))/\w'=w:=by
 have HA:Hid (IsZ (conjZ a) x (ng y)):=by
  obtain⟨a1,a2,a3,a4⟩:=ha
  exact⟨a1,by show cn (ng y)=cn (ng a.2);rw[<-a2,cn_ng a4],a3,ng_lt a4⟩
 have e:=abW_ng ha.2.2.2
 have AB:Hid (∀w,Calls Tryz.prog 78 #[.float .f64 y] w fun r w'=>r = .returned (.float .f64 (ng y))/\w'=w):=fun w=>by rw[<-e];exact aboutE y w
 clear ha e
 go_enter Tryz.func51,Tryz.ntmps51
 go_wp2_with (go_at_call 78;(with_reducible refine(AB.out _).mono ?_);rintro r w1 ⟨rfl,rfl⟩)
 go_ret
 exact⟨rfl,HA,rfl⟩
end Go.Proofs.YtibckeckjfmbkaaGreatDoor.Fl
namespace Go.Proofs.YtibckeckjfmbkaaGreatDoor
open Go.RowKit
set_option linter.unusedVariables false
def fours:List Nat:=[0,8,4,12,2,10,6,14,1,9,5,13,3,11,7,15]
def rt:Nat->Nat->Nat
 | 0,_=>0
 | k+1,p=>2*rt k p+p / 2 ^ k % 2
theorem rt_lt (k p:Nat):rt k p<2 ^ k:=by
 induction k with
 | zero=>simp[rt]
 | succ k ih=>rw[rt,Nat.pow_succ];omega
theorem rt4 (q:Nat):rt 4 q=fours.getD (q % 16) 0:=by
 have h:∀r,r<16->2*(2*(2*(2*0+r / 1 % 2)+r / 2 % 2)+r / 4 % 2)+r / 8 % 2=fours.getD r 0:=by decide
 rw[<-h (q % 16) (by omega)]
 have e1:q % 16 / 1 % 2=q / 1 % 2:=by omega
 have e2:q % 16 / 2 % 2=q / 2 % 2:=by omega
 have e4:q % 16 / 4 % 2=q / 4 % 2:=by omega
 have e8:q % 16 / 8 % 2=q / 8 % 2:=by omega
 rw[e1,e2,e4,e8]
 rfl
theorem rt_add4 (k p:Nat):rt (k+4) p=16*rt k p+rt 4 (p / 2 ^ k):=by
 have e:∀j,p / 2 ^ k / 2 ^ j=p / 2 ^ (k+j):=fun j=>by rw[Nat.div_div_eq_div_mul,<-Nat.pow_add]
 show 2*(2*(2*(2*rt k p+p / 2 ^ k % 2)+p / 2 ^ (k+1) % 2)+p / 2 ^ (k+2) % 2)+p / 2 ^ (k+3) % 2=16*rt k p+(2*(2*(2*(2*0+p / 2 ^ k / 2 ^ 0 % 2)+p / 2 ^ k / 2 ^ 1 % 2)+p / 2 ^ k / 2 ^ 2 % 2)+p / 2 ^ k / 2 ^ 3 % 2)
 rw[e 0,e 1,e 2,e 3]
 show _=16*rt k p+(2*(2*(2*(2*0+p / 2 ^ k % 2)+p / 2 ^ (k+1) % 2)+p / 2 ^ (k+2) % 2)+p / 2 ^ (k+3) % 2)
 generalize p / 2 ^ k % 2=a
 generalize p / 2 ^ (k+1) % 2=b
 generalize p / 2 ^ (k+2) % 2=c
 generalize p / 2 ^ (k+3) % 2=d
 omega
theorem rt_up (o j p:Nat) (hp:p<2 ^ o):rt (o+j) p=rt o p*2 ^ j:=by
 induction j with
 | zero=>simp
 | succ j ih =>
  show 2*rt (o+j) p+p / 2 ^ (o+j) % 2=_
  rw[ih,Nat.div_eq_of_lt (Nat.lt_of_lt_of_le hp (Nat.pow_le_pow_right (by omega) (by omega))),Nat.pow_succ]
  simp only[Nat.zero_mod,Nat.add_zero]
  rw[Nat.mul_left_comm,Nat.mul_comm 2]
theorem rt_down (o p:Nat) (ho:o<=16) (hp:p<2 ^ o):rt 16 p / 2 ^ (16-o)=rt o p:=by
 have:=rt_up o (16-o) p hp
 rw[show o+(16-o)=16 by omega] at this
 rw[this,Nat.mul_div_cancel _ (Nat.two_pow_pos _)]
theorem and15 (n:Int):bits .and .i64 n 15=n % 16:=by
 have h15:(BitVec.ofInt 64 15).toNat=2 ^ 4-1:=by decide
 have key:(BitVec.ofInt 64 n &&& BitVec.ofInt 64 15).toNat=(n % ((2 ^ 64:Nat):Int)).toNat % 2 ^ 4:=by
  rw[BitVec.toNat_and,BitVec.toNat_ofInt,h15,Nat.and_two_pow_sub_one_eq_mod]
 show IntKind.i64.wrap ((BitVec.ofInt 64 n &&& BitVec.ofInt 64 15).toNat:Nat)=n % 16
 rw[key,IntKind.wrap_i64]
 omega
theorem or16 (a f:Nat) (ha:a<1048576) (hf:f<16):bits .or .i64 ((16*a:Nat):Int) (f:Int)=((16*a+f:Nat):Int):=by
 rw[bits_join .i64 63 (by decide) (fun n h0 h1=>by rw[IntKind.wrap_i64];omega) 4 _ _ (by omega) (by omega) (by omega) (by omega) (by omega) (by omega)]
 omega
def TabF (w:World):Prop:=∀j,j<16->w.cell? ⟨3,j,none⟩=some (.int .i64 ((fours.getD j 0:Nat):Int))
theorem TabF.gr {w w':World} (h:TabF w) (g:Gr w w'):TabF w':=fun j hj=>g.keep (h j hj)
set_option maxHeartbeats 1000000 in
theorem turned9 (o p:Nat) (w:World) (ho:o<=14) (hp:p<2 ^ o) (hT:TabF w) :
  Calls Tryz.prog 101 #[.int .i64 (o:Int),.int .i64 (p:Int)] w fun r w'=>r = .returned (.int .i64 (rt o p:Int))/\w'=w:=by
 have hT':Hid (TabF w):=hT
 have hp':p<16384:=Nat.lt_of_lt_of_le hp (Nat.pow_le_pow_right (n:=2) (by omega) ho)
 have hD:Hid (rt 16 p / 2 ^ (16-o)=rt o p):=rt_down o p (by omega) hp
 clear hT hp
 go_enter Tryz.func101,Tryz.ntmps101
 go_wp2
 go_loopw [1,5,6] (fun x a i wr=>∃k:Nat,k<=4/\x = .int .i64 ((p / 2 ^ (4*k):Nat):Int)/\a = .int .i64 ((rt (4*k) p:Nat):Int)/\i = .int .i64 (k:Int)/\wr=w) (fun _ _ i _=>4-(intOf i).toNat)
 case atStart=>exact⟨0,by omega,by simp,rfl,rfl,rfl⟩
 case round =>
  obtain⟨k,hk,rfl,rfl,rfl,rfl⟩:=hrel
  by_cases hlt:k<4
  ·have i1:(k:Int)<4:=by omega
   have hx:p / 2 ^ (4*k)<16384:=Nat.lt_of_le_of_lt (Nat.div_le_self _ _) hp'
   have ha:rt (4*k) p<65536:=Nat.lt_of_lt_of_le (rt_lt _ _) (Nat.pow_le_pow_right (n:=2) (by omega) (show 4*k<=16 by omega))
   have hs:rt (4*(k+1)) p=16*rt (4*k) p+fours.getD (p / 2 ^ (4*k) % 16) 0:=by rw[show 4*(k+1)=4*k+4 by omega,rt_add4,rt4]
   have hd:p / 2 ^ (4*(k+1))=p / 2 ^ (4*k) / 16:=by rw[show 4*(k+1)=4*k+4 by omega,Nat.pow_add,<-Nat.div_div_eq_div_mul]
   have hf:fours.getD (p / 2 ^ (4*k) % 16) 0<16:=by rw[<-rt4];exact rt_lt 4 _
   have hc:=hT'.out (p / 2 ^ (4*k) % 16) (by omega)
   have hA:=and15 ((p / 2 ^ (4*k):Nat):Int)
   generalize p / 2 ^ (4*k)=x at *
   generalize rt (4*k) p=a at *
   have hAn:bits .and .i64 (x:Int) 15=((x % 16:Nat):Int):=by rw[hA];omega
   have hO:=or16 a (fours.getD (x % 16) 0) (by omega) hf
   generalize fours.getD (x % 16) 0=f at *
   generalize hm:x % 16=m at *
   have hm16:(m:Int)<16:=by omega
   clear hA
   rw[Nat.mul_comm] at hO
   have hO':bits .or .i64 ((a:Int)*16) (f:Int)=((a*16+f:Nat):Int):=by rw[<-hO];rfl
   clear hO
   go_wp2
   case roundEnd =>
    refine⟨⟨k+1,by omega,?_,?_,?_,trivial⟩,?_⟩
    ·rw[hd];rfl
    ·rw[hs,show((16*a+f:Nat):Int)=(a:Int)*16+(f:Int) by omega]
    ·rfl
    ·simp only[intOf];omega
  ·have hk4:k=4:=by omega
   subst hk4
   have hb:(16:Int)-(o:Int)=((16-o:Nat):Int):=by omega
   have hr:rt 16 p<65536:=rt_lt 16 p
   have ho':(o:Int)<=14:=by omega
   go_wp2
   go_ret
   refine⟨?_,rfl⟩
   show Ending.returned (.int .i64 (((rt 16 p:Nat):Int) / 2 ^ (16-o)))=_
   rw[<-hD.out,Int.natCast_ediv,Int.natCast_pow]
   rfl
theorem w64_pow {k:Nat} (hk:k<=14):wrap64 ((2:Int) ^ k)=((2 ^ k:Nat):Int):=by
 have hpw:2 ^ k<=16384:=Nat.pow_le_pow_right (n:=2) (by omega) hk
 have hcs:(2:Int) ^ k=((2 ^ k:Nat):Int):=by rw[Int.natCast_pow];rfl
 rw[hcs];unfold wrap64;have:=Nat.two_pow_pos k;omega
theorem pow_ne {j:Nat} {n:Int} (hj:j<=14) (h:((2 ^ j:Nat):Int)≠n):(wrap64 ((2:Int) ^ j)==n)=false/\(n==wrap64 ((2:Int) ^ j))=false:=by
 rw[w64_pow hj]
 exact⟨by simpa using h,by simpa using (Ne.symm h)⟩
theorem pow_eq {j:Nat} {n:Int} (hj:j<=14) (h:((2 ^ j:Nat):Int)=n):(wrap64 ((2:Int) ^ j)==n)=true/\(n==wrap64 ((2:Int) ^ j))=true:=by
 rw[w64_pow hj]
 exact⟨by simpa using h,by simpa using h.symm⟩
theorem two_pow_ne {j k:Nat} (h:j<k):((2 ^ j:Nat):Int)≠((2 ^ k:Nat):Int):=fun e=>by
 have h1:2 ^ j=2 ^ k:=Int.ofNat.inj e
 have h2:=Nat.pow_lt_pow_right (a:=2) (by omega) h
 omega
set_option maxHeartbeats 2000000 in
theorem order6_yes (k:Nat) (n:Int) (w:World) (hk:k<=14) (hn:((2 ^ k:Nat):Int)=n) (b1 : -9223372036854775808<=n) (b2:n<=9223372036854775807) :
  Calls Tryz.prog 76 #[.int .i64 n] w fun r w'=>r = .returned (.tuple #[.int .i64 (k:Int),.bool true])/\w'=w:=by
 have H:Hid (∀j:Nat,j<k->((2 ^ j:Nat):Int)≠n):=fun j hj=>hn ▸ two_pow_ne hj
 have HE:Hid (((2 ^ k:Nat):Int)=n):=hn
 clear hn
 go_enter Tryz.func76,Tryz.ntmps76
 go_wp2
 go_loopw [5] (fun i wr=>∃j:Nat,j<=k/\i = .int .i64 (j:Int)/\wr=w) (fun i _=>15-(intOf i).toNat)
 case atStart=>exact⟨0,by omega,rfl,rfl⟩
 case round =>
  obtain⟨j,hj,rfl,rfl⟩:=hrel
  have i1:(j:Int)<15:=by omega
  have i2:(j:Int)<=14:=by omega
  by_cases hlt:j<k
  ·obtain⟨hb,hb2⟩:=pow_ne (by omega:j<=14) (H.out j hlt)
   go_wp2
   case roundEnd =>
    refine⟨⟨j+1,by omega,rfl,trivial⟩,?_⟩
    simp only[intOf];omega
  ·have hk4:j=k:=by omega
   subst hk4
   obtain⟨hb,hb2⟩:=pow_eq hk HE.out
   go_wp2
   go_ret2
   exact⟨rfl,rfl⟩
structure CR (w:World) (ad:Option Addr) (n cap:Nat) (zs:List (Nat × Nat)):Prop where
 len:zs.length=n
 le:n<=cap
 max:cap<=9223372036854775807
 nil:ad=none->cap=0
 cells:0<n->∃b,ad=some ⟨b,0,none⟩/\b<w.heap.size/\∀j,j<n->w.cell? ⟨b,j,none⟩=some (.complex .f64 (zs.getD j (0,0)).1 (zs.getD j (0,0)).2)
theorem CR.gr {w w':World} {ad:Option Addr} {n cap:Nat} {zs:List (Nat × Nat)} (h:CR w ad n cap zs) (g:Gr w w'):CR w' ad n cap zs:=by
 refine⟨h.len,h.le,h.max,h.nil,fun hp=>?_⟩
 obtain⟨b,e,hb,hc⟩:=h.cells hp
 exact⟨b,e,Nat.lt_of_lt_of_le hb g.size,fun j hj=>g.keep (hc j hj)⟩
theorem CR.empty (w:World):CR w none 0 0 []:=⟨rfl,by omega,by omega,fun _=>rfl,fun h=>absurd h (by omega)⟩
theorem CR.of_owns {w:World} {base:Nat} {v:Value} {n:Nat} {zs:List (Nat × Nat)} (h:w.ownsRow base 60 1 v n (cz zs)):∃ad cap,v = .slice ad n cap/\CR w ad n cap zs:=by
 have hl:zs.length=n:=by have:=h.1;rw[cz_length] at this;omega
 rcases h.2 with ⟨rfl,rfl⟩|⟨g,cap,cur,rfl,hb,hg,h1,h2,h3,h4⟩
 ·exact⟨none,0,rfl,by rw[List.eq_nil_of_length_eq_zero hl];exact CR.empty w⟩
 ·refine⟨_,cap,rfl,hl,h1,h2,(fun h=>by cases h),fun hp=>⟨g,rfl,(h.lt g rfl).2,fun j hj=>?_⟩⟩
  rw[h.cellAt j (by omega),cz_get (by omega)]
def pz (o:Nat) (zs:List (Nat × Nat)) (n k:Nat):List (Nat × Nat):=(List.range n).map fun j=>if j<k then zs.getD (rt o j) (0,0) else (0,0)
theorem pz_0 (o:Nat) (zs:List (Nat × Nat)) (n:Nat):pz o zs n 0=List.replicate n (0,0):=by
 unfold pz
 refine List.ext_getElem (by simp) fun i h1 h2=>?_
 simp
theorem pz_set (o:Nat) (zs:List (Nat × Nat)) (n k:Nat) (hk:k<n):(pz o zs n k).set k (zs.getD (rt o k) (0,0))=pz o zs n (k+1):=by
 unfold pz
 refine List.ext_getElem (by simp) fun i h1 h2=>?_
 rw[List.getElem_set]
 simp only[List.getElem_map,List.getElem_range]
 by_cases e:k=i
 ·subst e
  rw[if_pos rfl,if_pos (by omega)]
 ·rw[if_neg e]
  by_cases h:i<k
  ·rw[if_pos h,if_pos (by omega)]
  ·rw[if_neg h,if_neg (by omega)]
def tz (o:Nat) (zs:List (Nat × Nat)) (n:Nat):List (Nat × Nat):=(List.range n).map fun j=>zs.getD (rt o j) (0,0)
theorem pz_all (o:Nat) (zs:List (Nat × Nat)) (n:Nat):pz o zs n n=tz o zs n:=by
 unfold pz tz
 refine List.map_congr_left fun i hi=>?_
 rw[if_pos (List.mem_range.1 hi)]
set_option maxHeartbeats 4000000 in
theorem shRow (o n cap:Nat) (ad:Option Addr) (zs:List (Nat × Nat)) (w:World) (hT:TabF w) (ho:o<=14) (hn:n=2 ^ o) (hr:CR w ad n cap zs) :
  Calls Tryz.prog 79 #[.slice ad n cap] w fun r w'=>r = .returned (.tuple #[.slice (some ⟨w.heap.size,0,none⟩) n n,.int .i64 0])/\w'.ownsRow w.heap.size 60 1 (.slice (some ⟨w.heap.size,0,none⟩) n n) n (cz (tz o zs n))/\Gr w w':=by
 have hpos:0<n:=by rw[hn];exact Nat.two_pow_pos o
 have hle:n<=16384:=by rw[hn];exact Nat.pow_le_pow_right (n:=2) (by omega) ho
 have l1:=hr.le
 have m1:=hr.max
 obtain⟨b,rfl,hb,hc⟩:=hr.cells hpos
 have HC:=hide hc
 have HO:Hid (∀w1,Calls Tryz.prog 76 #[.int .i64 (n:Int)] w1 fun r w'=>r = .returned (.tuple #[.int .i64 (o:Int),.bool true])/\w1=w'):=fun w1=>(order6_yes o (n:Int) w1 ho (by rw[hn]) (by omega) (by omega)).mono fun r w' h=>⟨h.1,h.2.symm⟩
 have HTU:Hid (∀(p:Nat) w1,Gr w w1->p<n->Calls Tryz.prog 101 #[.int .i64 (o:Int),.int .i64 (p:Int)] w1 fun r w'=>r = .returned (.int .i64 (rt o p:Int))/\w1=w'):=fun p w1 g hp=>(turned9 o p w1 ho (by rw[<-hn];exact hp) (hT.gr g)).mono fun r w' h=>⟨h.1,h.2.symm⟩
 have HRT:Hid (∀p,rt o p<n):=fun p=>by rw[hn];exact rt_lt o p
 have hst:∀(a:Addr) (x y:Nat) (w:World),(store a (.complex .f64 x y)).run Tryz.prog w=stored Tryz.prog w a (.complex .f64 x y) .plain:=fun a x y w=>run_store _ _ _ _ _ rfl
 clear hT hc hr hn
 go_enter Tryz.func79,Tryz.ntmps79
 go_wp2_with (first|(go_at_call 76;(with_reducible refine(HO.out _).mono ?_);rintro r w1 ⟨rfl,rfl⟩)|(at_make;refine wpList_madeC rfl _ _ rfl n _ rfl rfl ?_ ?_ ?_;rotate_right;intro w2 hown0 hg2))
 case' refine_1=>rfl
 case' refine_2=>omega
 have OW:Hid (w2.ownsRow w.heap.size 60 1 (.slice (some ⟨w.heap.size,0,none⟩) n n) n (cz (pz o zs n 0))):=by rw[pz_0];exact hown0
 have G2:=hide hg2
 clear hown0 hg2 HO
 go_loopw [21] (fun i wr=>∃k:Nat,k<=n/\i = .int .i64 (k:Int)/\Hid (wr.ownsRow w.heap.size 60 1 (.slice (some ⟨w.heap.size,0,none⟩) n n) n (cz (pz o zs n k)))/\Hid (Gr w wr)) (fun i _=>n-(intOf i).toNat)
 case atStart=>exact⟨0,by omega,rfl,OW,G2⟩
 case round =>
  obtain⟨k,hk,rfl,hown,hg⟩:=hrel
  by_cases hlt:k<n
  ·have TU:=hide (HTU.out k wr hg.out hlt)
   have hsrc:=hg.out.keep (HC.out (rt o k) (HRT.out k))
   have hdst:=ownsC_cell hown.out k hlt
   have hfz:=hown.out.frozenAt k
   have hrt:=HRT.out k
   have hst':=hide (pz_set o zs n k hlt)
   obtain⟨q,hq⟩:∃q,q=zs.getD (rt o k) (0,0):=⟨_,rfl⟩
   rw[<-hq] at hsrc hst'
   clear hq
   generalize rt o k=p at *
   generalize ((pz o zs n k).getD k (0,0)).1=d1 at *
   generalize ((pz o zs n k).getD k (0,0)).2=d2 at *
   obtain⟨q1,q2⟩:=q
   have i1:(k:Int)<(n:Int):=by omega
   have i2:(p:Int)<(n:Int):=by omega
   go_wp2_with (go_at_call 101;(with_reducible refine TU.out.mono ?_);rintro r w1 ⟨rfl,rfl⟩)
   go_roundw
   case rel =>
    refine⟨k+1,by omega,by go_num,?_,hg.out.setCell (Nat.le_refl _) _⟩
    have:=ownsC_set hown.out k q1 q2
    rw[hst'.out] at this
    exact this
   case measure=>simp only[intOf];omega
  ·have hkn:k=n:=by omega
   subst hkn
   go_wp2
   go_ret2
   refine⟨rfl,?_,hg.out⟩
   rw[<-pz_all]
   exact hown.out
end Go.Proofs.YtibckeckjfmbkaaGreatDoor
