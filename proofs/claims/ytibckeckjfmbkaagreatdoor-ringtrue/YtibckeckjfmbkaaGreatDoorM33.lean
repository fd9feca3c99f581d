import Derived.Test.YtibckeckjfmbkaaGreatDoorM32
import Derived.Test.YtibckeckjfmbkaaGreatDoorM30
import Derived.Test.YtibckeckjfmbkaaGreatDoorM02
namespace Go.Proofs.YtibckeckjfmbkaaGreatDoor.Fl
open Go.RowKit
open Ieee
set_option linter.unusedVariables false
theorem ringD (k:Nat) (x y:Nat) (P:Value->Prop) (u p2 sq:Nat) (w:World) (hk:k<=14) (HR:Hid (∀(w:World) ad,Fs w ad 2 (fun j=>if j=0 then x else y)->Calls Tryz.prog 41 #[.int .i64 (k:Int),.slice ad 2 2] w fun e w'=>e = .returned (.int .i64 0)/\w'=w))
  (HL:Hid (∀(w:World),Calls Tryz.prog 43 #[.float .f64 4607182418800017408,.int .i64 (k:Int)] w fun e w'=>e = .returned (.float .f64 p2)/\w'=w))
  (HS:Hid (∀(w:World),Calls Tryz.prog 42 #[.float .f64 p2,.bool true] w fun e w'=>e = .returned (.float .f64 sq)/\w'=w))
  (HU:Hid (∀(w:World),Calls Tryz.prog 45 #[.int .i64 (16*((k:Int)+1)),.int .i64 (k:Int)] w fun e w'=>e = .returned (.float .f64 u)/\w'=w))
  (HB:Hid (∀(w:World) ad,Fs w ad 3 (fun j=>if j=0 then sq else if j=1 then x else y)->Calls Tryz.prog 44 #[.float .f64 u,.slice ad 3 3] w fun e w'=>(∃a b,P (.tuple #[.float .f64 a,.int .i64 b])/\e = .returned (.tuple #[.float .f64 a,.int .i64 b]))/\w'=w)) :
  Calls Tryz.prog 29 #[.int .i64 (k:Int),.float .f64 x,.float .f64 y] w fun e w'=>(∃a b,P (.tuple #[.float .f64 a,.int .i64 b])/\e = .returned (.tuple #[.float .f64 a,.int .i64 b]))/\Gr w w':=by
 have F2:Fs ((w.alloc (.cells #[.float .f64 x,.float .f64 y] 32)).alloc (.cells #[.float .f64 sq,.float .f64 x,.float .f64 y] 32)) (some ⟨w.heap.size+1,0,none⟩) 3 (fun j=>if j=0 then sq else if j=1 then x else y):=by
  have:=fs3 (w.alloc (.cells #[.float .f64 x,.float .f64 y] 32)) sq x y 32
  rw[show(w.alloc (.cells #[.float .f64 x,.float .f64 y] 32)).heap.size=w.heap.size+1 by simp] at this
  exact this
 go_enter Tryz.func29,Tryz.ntmps29
 go_wp2_with (first|(go_at_call 41;with_reducible refine(HR.out _ _ (fs2 _ _ _ _)).mono ?_;rintro e w' ⟨rfl,rfl⟩)|(go_at_call 43;with_reducible refine(HL.out _).mono ?_;rintro e w' ⟨rfl,rfl⟩)|(go_at_call 42;with_reducible refine(HS.out _).mono ?_;rintro e w' ⟨rfl,rfl⟩)|(go_at_call 45;with_reducible refine(HU.out _).mono ?_;rintro e w' ⟨rfl,rfl⟩)|(go_at_call 44;with_reducible refine(HB.out _ _ F2).mono ?_;rintro e w' ⟨⟨a,b,hp,rfl⟩,rfl⟩))
 go_ret2
 exact⟨⟨_,_,hp,rfl⟩,((Gr.refl w).alloc _).alloc _⟩
theorem c24:M 4467570830351532032*M 4638707616191610880<=M 4499096027743125504*U:=by decide +kernel
theorem c876:M 4499096027743125504*M 8660422083433463808<=M 8552335692376571904*U:=by decide +kernel
def RingR (k a b p:Nat):Prop:=∃p1 p2,DirUp (M (uB.getD k 0)*M (sqT.getD k 0)) U p1/\DirUp (M p1*M a) U p2/\DirUp (M p2*M b) U p/\p1<9218868437227405312/\p2<9218868437227405312
theorem ringP (k:Nat) (s t:Bool) (a b:Nat) (w:World) (hk:k<=14) (ha:a<=8660422083433463808) (hs:s=true->a=0) (hb:b<=8660422083433463808) (ht:t=true->b=0) :
  Calls Tryz.prog 29 #[.int .i64 (k:Int),.float .f64 (W s a),.float .f64 (W t b)] w fun e w'=>(∃p r2,RingR k a b p/\DirUp (M p+M 103582791429521408) 1 r2/\e = .returned (.tuple #[.float .f64 (if r2=9218868437227405312 then 0 else r2),.int .i64 (if r2=9218868437227405312 then 6 else 0)]))/\Gr w w':=by
 obtain⟨u1,u2⟩:=uB_at k hk
 obtain⟨v1,v2,v3⟩:=p2_at k hk
 obtain⟨s1,s2,s3⟩:=sq_at k hk
 have hz:∀(s:Bool) (r:Nat),r<=8660422083433463808->(s=true->r=0)->sizeB (W s r)=true/\overB (W s r)=false:=fun s r hr hs=>by
  refine⟨?_,by rw[overB_W s r (by omega) hs];exact decide_eq_false (by omega)⟩
  rw[sizeB_W s r (by omega),decide_eq_true (show r<9218868437227405312 by omega)]
  cases s
  ·rfl
  ·rw[hs rfl];rfl
 have hAB:∀j,j<2->sizeB (if j=0 then W s a else W t b)=true/\overB (if j=0 then W s a else W t b)=false:=fun j hj=>by
  split
  ·exact hz s a ha hs
  ·exact hz t b hb ht
 refine(ringD k (W s a) (W t b) (fun v=>∃p r2,RingR k a b p/\DirUp (M p+M 103582791429521408) 1 r2/\v = .tuple #[.float .f64 (if r2=9218868437227405312 then 0 else r2),.int .i64 (if r2=9218868437227405312 then 6 else 0)]) (uB.getD k 0) (p2T.getD k 0) (sqT.getD k 0) w hk (fun w ad hF=>refusalD _ _ 2 2 _ w (by omega) (by omega) hF (fun j hj=>(hAB j hj).1) (fun j hj=>(hAB j hj).2)) (fun w=>ldexp_k k hk w) (fun w=>sqrt_k k hk w) (fun w=>?_) (fun w ad hF=>?_)).mono ?_
 ·have:=units26 (16*(k+1)) k (uB.getD k 0) w (by omega) hk u1 (by omega)
  rw[show((16*(k+1):Nat):Int)=16*((k:Int)+1) by omega] at this
  exact this
 ·have hP1:∀p1,DirUp (M (uB.getD k 0)*M (sqT.getD k 0)) U p1->p1<=4499096027743125504:=fun p1 h=>dirUp_le h U_pos (Nat.le_trans (Nat.mul_le_mul (M_le u2) (M_le s3)) c24)
  have hP2:∀p1 p2,p1<=4499096027743125504->DirUp (M p1*M a) U p2->p2<=8552335692376571904:=fun p1 p2 h1 h=>dirUp_le h U_pos (Nat.le_trans (Nat.mul_le_mul (M_le h1) (M_le ha)) c876)
  refine(bound25 (uB.getD k 0) ad 3 3 _ (fun j=>if j=0 then sqT.getD k 0 else if j=1 then a else b) w (by omega) hF (fun j hj=>?_) (by omega) (fun j hj q hq=>?_)).mono ?_
  ·rcases (show j=0\/j=1\/j=2 by omega) with rfl|rfl|rfl
   ·exact⟨false,rfl,by show sqT.getD k 0<_;omega,fun h=>by cases h⟩
   ·exact⟨s,rfl,by show a<_;omega,hs⟩
   ·exact⟨t,rfl,by show b<_;omega,ht⟩
  ·rcases (show j=0\/j=1\/j=2 by omega) with rfl|rfl|rfl
   ·have hq:q=uB.getD k 0:=hq
    omega
   ·obtain⟨p0,h0,_,h1⟩:=hq
    have h0:p0=uB.getD k 0:=h0
    subst h0
    have:=hP1 q h1
    omega
   ·obtain⟨p1,⟨p0,h0,_,h1⟩,_,h2⟩:=hq
    have h0:p0=uB.getD k 0:=h0
    subst h0
    have:=hP2 p1 q (hP1 p1 h1) h2
    omega
  ·rintro e w' ⟨⟨p,r2,⟨p2,⟨p1,⟨p0,h0,_,h1⟩,g1,h2⟩,g2,h3⟩,h4,rfl⟩,rfl⟩
   have h0:p0=uB.getD k 0:=h0
   subst h0
   exact⟨⟨_,_,⟨p,r2,⟨p1,p2,h1,h2,h3,g1,g2⟩,h4,rfl⟩,rfl⟩,rfl⟩
 ·rintro e w' ⟨⟨x,y,⟨p,r2,h1,h2,h3⟩,rfl⟩,hg⟩
  exact⟨⟨p,r2,h1,h2,by rw[h3]⟩,hg⟩
def iz (xs:List Int):List Value:=xs.map fun x=>Value.int .i64 x
theorem iz_length (xs:List Int):(iz xs).length=xs.length:=by simp[iz]
theorem iz_get {xs:List Int} {j:Nat} (h:j<xs.length):(iz xs)[j]? = some (.int .i64 (xs.getD j 0)):=by
 simp[iz,List.getElem?_map,List.getElem?_eq_getElem h,List.getD_eq_getElem?_getD]
theorem infoI:(Tryz.prog.info? 2).map (fun i=>(i.zero,i.size,i.bytes))=some (some (.int .i64 0),1,8):=by kernel_rfl
theorem made_i (n:Nat):(madeCells (Value.int .i64 0).cells (n*1)).toList=iz (List.replicate n 0):=by
 rw[Nat.mul_one]
 refine List.ext_getElem (by rw[Array.length_toList,size_madeCells,iz_length,List.length_replicate]) fun i h1 h2=>?_
 simp[madeCells,iz,Value.cells,Nat.mod_one]
theorem wpList_madeI {w:World} {ops:Array Oper} {rest:List Oper} {o:Oper} {a:Act} {Q:Exit->Act->World->Prop} (hgd:o.guard=none) (l c:Operand)
  (hop:o.op=Op.makeSlice 22 l c) (n:Nat) (L:Int) (hl:a.eval l = .int .i64 L) (hc:a.eval c = .int .i64 L) (hL:L=(n:Int)) (hn:n<=4398046511104)
  (hK:∀w',w'.ownsRow w.heap.size 2 1 (.slice (some ⟨w.heap.size,0,none⟩) n n) n (iz (List.replicate n 0))->Gr w w'->wpList Tryz.prog ops Q rest (a.put o.dst (.slice (some ⟨w.heap.size,0,none⟩) n n)) w') :
  wpList Tryz.prog ops Q (o :: rest) a w:=by
 obtain⟨i0,hi,hz0,hz1,hz2⟩:=info_parts infoI
 refine wpList_make_full w hgd l c 22 hop w.heap.size 2 i0 (.int .i64 0) 1 Tryz.underlying22 hi hz0 hz1 .i64 .i64 L L n hl hc hL hL (by rw[hz2];omega) (by unfold maxLen;omega) (Nat.le_refl _) ?_
 intro w' hown hgr
 rw[made_i] at hown
 exact hK w' hown ((Gr.refl w).grown hgr (fun k h=>by cases h))
theorem ownsI_cell {w:World} {base:Nat} {g N:Nat} {xs:List Int} (h:w.ownsRow base 2 1 (.slice (some ⟨g,0,none⟩) N N) N (iz xs)) (j:Nat) (hj:j<N):w.cell? ⟨g,j,none⟩=some (.int .i64 (xs.getD j 0)):=by
 have hl:xs.length=N:=by have:=h.1;rw[iz_length] at this;omega
 rw[h.cellAt j (by omega),iz_get (by omega)]
theorem ownsI_set {w:World} {base:Nat} {g N:Nat} {xs:List Int} (h:w.ownsRow base 2 1 (.slice (some ⟨g,0,none⟩) N N) N (iz xs)) (j:Nat) (x:Int):(w.setCell ⟨g,j,none⟩ (.int .i64 x)).ownsRow base 2 1 (.slice (some ⟨g,0,none⟩) N N) N (iz (xs.set j x)):=by
 have:=(h.stored j (.int .i64 x)).1
 rw[show iz (xs.set j x)=(iz xs).set j (.int .i64 x) by simp[iz]]
 exact this
def OI (w:World) (g n i:Nat) (f:Nat->Int):Prop:=∃xs,w.ownsRow g 2 1 (.slice (some ⟨g,0,none⟩) n n) n (iz xs)/\∀j,j<i->j<n->xs.getD j 0=f j
theorem OI.new {w:World} {g n:Nat} (h:w.ownsRow g 2 1 (.slice (some ⟨g,0,none⟩) n n) n (iz (List.replicate n 0))) (f:Nat->Int):OI w g n 0 f:=⟨_,h,fun j hj=>absurd hj (by omega)⟩
theorem OI.next {w:World} {g n i:Nat} {p:Int} {f:Nat->Int} (h:OI w g n i f) (hi:i<n) (h1:p=f i):OI (w.setCell ⟨g,i,none⟩ (.int .i64 p)) g n (i+1) f:=by
 obtain⟨xs,h3,h4⟩:=h
 have hl:xs.length=n:=by have:=h3.1;rw[iz_length] at this;omega
 refine⟨xs.set i p,ownsI_set h3 i p,fun j hj hn=>?_⟩
 rw[List.getD_eq_getElem?_getD,List.getElem?_set]
 by_cases e:i=j
 ·subst e
  rw[if_pos rfl,if_pos (by omega)]
  exact h1
 ·rw[if_neg e,<-List.getD_eq_getElem?_getD]
  exact h4 j (by omega) hn
theorem OI.gr {w w':World} {g n i:Nat} {f:Nat->Int} (h:OI w g n i f) (k:Gr w w'):OI w' g n i f:=by
 obtain⟨xs,h3,h4⟩:=h
 exact⟨xs,k.owns h3,h4⟩
theorem OI.free {w:World} {g n i:Nat} {f:Nat->Int} (h:OI w g n i f) (j:Nat) (hj:j<n):(∃x,w.cell? ⟨g,j,none⟩=some (.int .i64 x))/\w.frozen? ⟨g,j,none⟩=false:=by
 obtain⟨xs,h3,h4⟩:=h
 exact⟨⟨_,ownsI_cell h3 j hj⟩,h3.frozenAt j⟩
theorem OI.lt {w:World} {g n i:Nat} {f:Nat->Int} (h:OI w g n i f):g<w.heap.size:=by
 obtain⟨xs,h3,h4⟩:=h
 exact(h3.lt g rfl).2
theorem OI.ir {w:World} {g n:Nat} {f:Nat->Int} (h:OI w g n n f) (hs:∀i,i<n->-9223372036854775808<=f i/\f i<9223372036854775808):IR w (some ⟨g,0,none⟩) n f:=fun _=>by
 have hlt:=h.lt
 obtain⟨xs,h3,h4⟩:=h
 refine⟨g,rfl,hlt,fun j hj=>⟨?_,hs j hj⟩⟩
 rw[ownsI_cell h3 j hj,h4 j hj hj]
theorem ofN_le53 {c:Nat} (h:c<=9007199254740992):ofN c<=4845873199050653696:=by
 obtain⟨h1,_,_⟩:=ofN_spec c h
 refine Nat.le_of_not_lt fun hlt=>?_
 have m1:=M_lt hlt
 have m2:M 4845873199050653696=9007199254740992*U:=by
  have e1:mant 4845873199050653696=4503599627370496:=by decide
  have e2:ex 4845873199050653696=1+E74:=by decide
  unfold M
  rw[e1,e2,Nat.pow_add,show(2:Nat) ^ 1=2 from rfl,show 2 ^ E74=U from rfl]
  generalize U=V
  omega
 rw[h1,m2] at m1
 have:=Nat.lt_of_mul_lt_mul_right m1
 omega
theorem c929:M 8552335692376571904*M 4845873199050653696<=M 8795530072254578688*U:=by decide +kernel
theorem c930:M 8795530072254578688+M 103582791429521408<=M 8800033671881949184*1:=by decide +kernel
theorem ring_fin {k a b p r2:Nat} (hk:k<=14) (ha:a<=4845873199050653696) (hb:b<=4845873199050653696) (h:RingR k a b p) (h2:DirUp (M p+M 103582791429521408) 1 r2):r2<9218868437227405312:=by
 obtain⟨p1,p2,d1,d2,d3,f1,f2⟩:=h
 have u2:=(uB_at k hk).2
 have s2:=(sq_at k hk).2.2
 have q1:p1<=4499096027743125504:=dirUp_le d1 U_pos (Nat.le_trans (Nat.mul_le_mul (M_le u2) (M_le s2)) c24)
 have q2:p2<=8552335692376571904:=dirUp_le d2 U_pos (Nat.le_trans (Nat.mul_le_mul (M_le q1) (M_le (show a<=8660422083433463808 by omega))) c876)
 have q3:p<=8795530072254578688:=dirUp_le d3 U_pos (Nat.le_trans (Nat.mul_le_mul (M_le q2) (M_le hb)) c929)
 have q4:r2<=8800033671881949184:=dirUp_le h2 (by omega) (Nat.le_trans (Nat.add_le_add_right (M_le q3) _) c930)
 omega
theorem boundR (k n c1 c2:Nat) (a1 a2:Option Addr) (f g:Nat->Int) (w:World) (hk:k<=14) (hn:n=2 ^ k) (hT:TabAt 2 Lib.deBruijn64tab w) (h1:IR w a1 n f) (h2:IR w a2 n g) (ha:gm f n<=9007199254740992) (hb:gm g n<=9007199254740992) :
  Calls Tryz.prog 15 #[.slice a1 n c1,.slice a2 n c2] w fun e w'=>∃p r2,RingR k (ofN (gm f n)) (ofN (gm g n)) p/\DirUp (M p+M 103582791429521408) 1 r2/\r2<9218868437227405312/\e = .returned (.tuple #[.float .f64 r2,.int .i64 0])/\Hid (Gr w w'):=by
 have hle:n<=16384:=by rw[hn];exact Nat.pow_le_pow_right (n:=2) (by omega) hk
 have OO:=hide (orderOfR k n c1 c2 a1 a2 w hk hn hT)
 have GA:=hide (greatestR a1 n c1 f w h1 (by omega))
 have GB:=hide (greatestR a2 n c2 g w h2 (by omega))
 have oa:=ofN_le53 ha
 have ob:=ofN_le53 hb
 have RP:Hid (Calls Tryz.prog 29 #[.int .i64 (k:Int),.float .f64 (floatOfInt .f64 ((gm f n:Nat):Int)),.float .f64 (floatOfInt .f64 ((gm g n:Nat):Int))] w fun e w'=>∃p r2,RingR k (ofN (gm f n)) (ofN (gm g n)) p/\DirUp (M p+M 103582791429521408) 1 r2/\r2<9218868437227405312/\e = .returned (.tuple #[.float .f64 r2,.int .i64 0])/\Hid (Gr w w')):=by
  have e1:∀{c:Nat},c<=9007199254740992->floatOfInt .f64 ((c:Nat):Int)=W false (ofN c):=fun {c} h=>by
   have:=floatOfInt_W ((c:Nat):Int) (by omega)
   rw[this,Int.natAbs_natCast,decide_eq_false (by omega)]
  rw[e1 ha,e1 hb]
  refine(ringP k false false (ofN (gm f n)) (ofN (gm g n)) w hk (by omega) (by simp) (by omega) (by simp)).mono ?_
  rintro e w' ⟨⟨p,r2,q1,q2,rfl⟩,q3⟩
  have q4:=ring_fin hk oa ob q1 q2
  refine⟨p,r2,q1,q2,q4,?_,q3⟩
  rw[if_neg (by omega),if_neg (by omega)]
 have m1:¬(max ((gm f n:Nat):Int) ((gm g n:Nat):Int)>9007199254740992):=by omega
 have m2:¬((if ((gm g n:Nat):Int)>((gm f n:Nat):Int) then ((gm g n:Nat):Int) else ((gm f n:Nat):Int))>9007199254740992):=by split <;> omega
 clear hn hT h1 h2 oa ob
 generalize gm f n=A at *
 generalize gm g n=B at *
 go_enter Tryz.func15,Tryz.ntmps15
 go_wp2_with (first|(go_at_call 27;(with_reducible refine OO.out.mono ?_);rintro r w1 ⟨rfl,rfl⟩)|(go_at_call 28;(with_reducible refine GA.out.mono ?_);rintro r w1 ⟨rfl,rfl⟩)|(go_at_call 28;(with_reducible refine GB.out.mono ?_);rintro r w1 ⟨rfl,rfl⟩)|(go_at_call 29;(with_reducible refine RP.out.mono ?_);rintro r w1 ⟨p,r2,q1,q2,q3,rfl,q4⟩))
 go_ret2
 exact⟨p,r2,q1,q2,q3,rfl,q4⟩
end Go.Proofs.YtibckeckjfmbkaaGreatDoor.Fl
namespace Go.Proofs.YtibckeckjfmbkaaGreatDoor.Er
set_option linter.unusedVariables false
structure Cx where
 re:Rat
 im:Rat
theorem Cx.ext' {a b:Cx} (h1:a.re=b.re) (h2:a.im=b.im):a=b:=by cases a;cases b;simp_all
def cP (a:Cx):Nat->Cx
 | 0=>⟨1,0⟩
 | n+1=>⟨(cP a n).re*a.re-(cP a n).im*a.im,(cP a n).re*a.im+(cP a n).im*a.re⟩
instance:Add Cx:=⟨fun a b=>⟨a.re+b.re,a.im+b.im⟩⟩
instance:Sub Cx:=⟨fun a b=>⟨a.re-b.re,a.im-b.im⟩⟩
instance:Mul Cx:=⟨fun a b=>⟨a.re*b.re-a.im*b.im,a.re*b.im+a.im*b.re⟩⟩
instance:Neg Cx:=⟨fun a=>⟨-a.re,-a.im⟩⟩
instance:NatCast Cx:=⟨fun n=>⟨n,0⟩⟩
instance:IntCast Cx:=⟨fun n=>⟨n,0⟩⟩
instance (n:Nat):OfNat Cx n:=⟨⟨n,0⟩⟩
instance:HPow Cx Nat Cx:=⟨cP⟩
instance:SMul Nat Cx:=⟨fun n a=>⟨n*a.re,n*a.im⟩⟩
instance:SMul Int Cx:=⟨fun n a=>⟨n*a.re,n*a.im⟩⟩
theorem add_re (a b:Cx):(a+b).re=a.re+b.re:=rfl
theorem add_im (a b:Cx):(a+b).im=a.im+b.im:=rfl
theorem sub_re (a b:Cx):(a-b).re=a.re-b.re:=rfl
theorem sub_im (a b:Cx):(a-b).im=a.im-b.im:=rfl
theorem mul_re (a b:Cx):(a*b).re=a.re*b.re-a.im*b.im:=rfl
theorem mul_im (a b:Cx):(a*b).im=a.re*b.im+a.im*b.re:=rfl
theorem neg_re (a:Cx):(-a).re = -a.re:=rfl
theorem neg_im (a:Cx):(-a).im = -a.im:=rfl
theorem nat_re (n:Nat):((n:Cx)).re=n:=rfl
theorem nat_im (n:Nat):((n:Cx)).im=0:=rfl
theorem int_re (n:Int):((n:Cx)).re=n:=rfl
theorem int_im (n:Int):((n:Cx)).im=0:=rfl
theorem ofn_re (n:Nat):(OfNat.ofNat n:Cx).re=n:=rfl
theorem ofn_im (n:Nat):(OfNat.ofNat n:Cx).im=0:=rfl
theorem nsm_re (n:Nat) (a:Cx):(n • a).re=n*a.re:=rfl
theorem nsm_im (n:Nat) (a:Cx):(n • a).im=n*a.im:=rfl
theorem zsm_re (n:Int) (a:Cx):(n • a).re=n*a.re:=rfl
theorem zsm_im (n:Int) (a:Cx):(n • a).im=n*a.im:=rfl
theorem one_re:(1:Cx).re=1:=rfl
theorem one_im:(1:Cx).im=0:=rfl
theorem zero_re:(0:Cx).re=0:=rfl
theorem zero_im:(0:Cx).im=0:=rfl
abbrev crOf {C:Type->Type} (_:C Dyadic):Type->Type:=C
instance:crOf Dyadic.instCommRing Cx where
 natCast:=inferInstance
 ofNat:=inferInstance
 intCast:=inferInstance
 nsmul:=inferInstance
 zsmul:=inferInstance
 npow:=inferInstance
 add_zero a:=by apply Cx.ext' <;> simp only[add_re,add_im,zero_re,zero_im] <;> grind
 add_comm a b:=by apply Cx.ext' <;> simp only[add_re,add_im] <;> grind
 add_assoc a b c:=by apply Cx.ext' <;> simp only[add_re,add_im] <;> grind
 mul_assoc a b c:=by apply Cx.ext' <;> simp only[mul_re,mul_im] <;> grind
 mul_one a:=by apply Cx.ext' <;> simp only[mul_re,mul_im,one_re,one_im] <;> grind
 one_mul a:=by apply Cx.ext' <;> simp only[mul_re,mul_im,one_re,one_im] <;> grind
 left_distrib a b c:=by apply Cx.ext' <;> simp only[mul_re,mul_im,add_re,add_im] <;> grind
 right_distrib a b c:=by apply Cx.ext' <;> simp only[mul_re,mul_im,add_re,add_im] <;> grind
 zero_mul a:=by apply Cx.ext' <;> simp only[mul_re,mul_im,zero_re,zero_im] <;> grind
 mul_zero a:=by apply Cx.ext' <;> simp only[mul_re,mul_im,zero_re,zero_im] <;> grind
 pow_zero a:=rfl
 pow_succ a n:=rfl
 ofNat_succ n:=by
  apply Cx.ext' <;> simp only[add_re,add_im,ofn_re,ofn_im,one_re,one_im]
  ·exact Rat.natCast_add n 1
  ·grind
 ofNat_eq_natCast n:=rfl
 nsmul_eq_natCast_mul n a:=by apply Cx.ext' <;> simp only[nsm_re,nsm_im,mul_re,mul_im,nat_re,nat_im] <;> grind
 neg_add_cancel a:=by apply Cx.ext' <;> simp only[add_re,add_im,neg_re,neg_im,zero_re,zero_im] <;> grind
 sub_eq_add_neg a b:=by apply Cx.ext' <;> simp only[add_re,add_im,neg_re,neg_im,sub_re,sub_im] <;> grind
 neg_zsmul n a:=by apply Cx.ext' <;> simp only[zsm_re,zsm_im,neg_re,neg_im,Rat.intCast_neg] <;> grind
 zsmul_natCast_eq_nsmul n a:=by apply Cx.ext' <;> simp only[zsm_re,zsm_im,nsm_re,nsm_im] <;> rfl
 intCast_ofNat n:=by apply Cx.ext' <;> rfl
 intCast_neg n:=by apply Cx.ext' <;> simp only[int_re,int_im,neg_re,neg_im,Rat.intCast_neg] <;> grind
 mul_comm a b:=by apply Cx.ext' <;> simp only[mul_re,mul_im] <;> grind
theorem pow_s (z:Cx) (n:Nat):z ^ (n+1)=z ^ n*z:=rfl
theorem pow_z (z:Cx):z ^ 0=1:=rfl
theorem pow_a (z:Cx) (m n:Nat):z ^ (m+n)=z ^ m*z ^ n:=by
 induction n with
 | zero=>rw[Nat.add_zero,pow_z];grind
 | succ n ih=>rw[<-Nat.add_assoc,pow_s,pow_s,ih];grind
theorem pow_mul' (z:Cx) (m n:Nat):z ^ (m*n)=(z ^ m) ^ n:=by
 induction n with
 | zero=>rfl
 | succ n ih=>rw[Nat.mul_succ,pow_a,ih,pow_s]
theorem mul_pow' (y z:Cx) (n:Nat):(y*z) ^ n=y ^ n*z ^ n:=by
 induction n with
 | zero=>rw[pow_z,pow_z,pow_z];grind
 | succ n ih=>rw[pow_s,pow_s,pow_s,ih];grind
theorem one_pow' (n:Nat):(1:Cx) ^ n=1:=by
 induction n with
 | zero=>rfl
 | succ n ih=>rw[pow_s,ih];grind
def N (a:Cx):Rat:=a.re*a.re+a.im*a.im
theorem sq_nn (x:Rat):0<=x*x:=by
 rcases Rat.le_total (a:=0) (b:=x) with h|h
 ·exact Rat.mul_nonneg h h
 ·have:=Rat.mul_nonneg (a:=-x) (b:=-x) (by grind) (by grind);grind
theorem N_nn (a:Cx):0<=N a:=by have:=sq_nn a.re;have:=sq_nn a.im;unfold N;grind
theorem N_mul (a b:Cx):N (a*b)=N a*N b:=by unfold N;rw[mul_re,mul_im];grind
theorem N_neg (a:Cx):N (-a)=N a:=by unfold N;rw[neg_re,neg_im];grind
theorem N_one:N 1=1:=by unfold N;rw[one_re,one_im];grind
theorem N_zero:N 0=0:=by unfold N;rw[zero_re,zero_im];grind
theorem N_pow {a:Cx} (h:N a=1) (n:Nat):N (a ^ n)=1:=by
 induction n with
 | zero=>exact N_one
 | succ n ih=>rw[pow_s,N_mul,ih,h];grind
theorem sq_le {t b:Rat} (hb:0<=b) (h:t*t<=b*b):t<=b:=by
 refine Rat.not_lt.1 fun hlt=>?_
 have:=Rat.mul_pos (a:=t-b) (b:=t+b) (by grind) (by grind)
 grind
theorem mul_le {a b c d:Rat} (h0:0<=a) (h1:a<=b) (h2:0<=c) (h3:c<=d):a*c<=b*d:=by
 have:=Rat.mul_le_mul_of_nonneg_right h1 h2
 have:=Rat.mul_le_mul_of_nonneg_left h3 (Rat.le_trans h0 h1)
 grind
def Le (z:Cx) (a:Rat):Prop:=0<=a/\N z<=a*a
theorem Le.mono {z:Cx} {a b:Rat} (h:Le z a) (hab:a<=b):Le z b:=⟨Rat.le_trans h.1 hab,Rat.le_trans h.2 (mul_le h.1 hab h.1 hab)⟩
theorem Le.mul {z y:Cx} {a b:Rat} (h:Le z a) (k:Le y b):Le (z*y) (a*b):=by
 refine⟨Rat.mul_nonneg h.1 k.1,?_⟩
 rw[N_mul]
 have:=mul_le (N_nn z) h.2 (N_nn y) k.2
 grind
theorem N_cross (z y:Cx):(z.re*y.re+z.im*y.im)*(z.re*y.re+z.im*y.im)<=N z*N y:=by
 have:=sq_nn (z.re*y.im-z.im*y.re)
 unfold N
 grind
theorem Le.add {z y:Cx} {a b:Rat} (h:Le z a) (k:Le y b):Le (z+y) (a+b):=by
 have h1:=N_cross z y
 have h2:=mul_le (N_nn z) h.2 (N_nn y) k.2
 have h3:=sq_le (t:=z.re*y.re+z.im*y.im) (b:=a*b) (Rat.mul_nonneg h.1 k.1) (by grind)
 obtain⟨ha,h⟩:=h
 obtain⟨hb,k⟩:=k
 refine⟨by grind,?_⟩
 unfold N at *
 rw[add_re,add_im]
 grind
theorem Le.neg {z:Cx} {a:Rat} (h:Le z a):Le (-z) a:=⟨h.1,by rw[N_neg];exact h.2⟩
theorem Le.sub {z y:Cx} {a b:Rat} (h:Le z a) (k:Le y b):Le (z-y) (a+b):=by
 have:=h.add k.neg
 rw[show z-y=z + -y by grind];exact this
theorem Le.zero:Le 0 0:=⟨by grind,by rw[N_zero];grind⟩
theorem Le.unit {z:Cx} (h:N z=1):Le z 1:=⟨by grind,by rw[h];grind⟩
theorem cast_le {m n:Nat} (h:m<=n):(m:Rat)<=(n:Rat):=Rat.natCast_le_natCast.2 h
theorem cast_lt {m n:Nat} (h:m<n):(m:Rat)<(n:Rat):=Rat.natCast_lt_natCast.2 h
theorem cast_nn (n:Nat):(0:Rat)<=(n:Rat):=cast_le (Nat.zero_le n)
def sr (f:Nat->Rat):Nat->Rat
 | 0=>0
 | n+1=>sr f n+f n
def sc (f:Nat->Cx):Nat->Cx
 | 0=>0
 | n+1=>sc f n+f n
theorem sr_le {f g:Nat->Rat} {n:Nat} (h:∀i,i<n->f i<=g i):sr f n<=sr g n:=by
 induction n with
 | zero=>exact Rat.le_refl
 | succ n ih =>
  have h1:=ih fun i hi=>h i (by omega)
  have h2:=h n (by omega)
  show sr f n+f n<=sr g n+g n
  grind
theorem sr_congr {f g:Nat->Rat} {n:Nat} (h:∀i,i<n->f i=g i):sr f n=sr g n:=by
 induction n with
 | zero=>rfl
 | succ n ih =>
  have h1:=ih fun i hi=>h i (by omega)
  have h2:=h n (by omega)
  show sr f n+f n=sr g n+g n
  grind
theorem sc_congr {f g:Nat->Cx} {n:Nat} (h:∀i,i<n->f i=g i):sc f n=sc g n:=by
 induction n with
 | zero=>rfl
 | succ n ih =>
  have h1:=ih fun i hi=>h i (by omega)
  have h2:=h n (by omega)
  show sc f n+f n=sc g n+g n
  rw[h1,h2]
theorem sr_nn {f:Nat->Rat} {n:Nat} (h:∀i,i<n->0<=f i):0<=sr f n:=by
 induction n with
 | zero=>exact Rat.le_refl
 | succ n ih =>
  have h1:=ih fun i hi=>h i (by omega)
  have h2:=h n (by omega)
  show 0<=sr f n+f n
  grind
theorem sr_at {f:Nat->Rat} {n:Nat} (h:∀i,i<n->0<=f i) {i:Nat} (hi:i<n):f i<=sr f n:=by
 induction n with
 | zero=>omega
 | succ n ih =>
  show f i<=sr f n+f n
  have h2:=h n (by omega)
  have h3:=sr_nn (f:=f) (n:=n) fun i hi=>h i (by omega)
  by_cases e:i=n
  ·subst e;grind
  ·have h1:=ih (fun i hi=>h i (by omega)) (by omega);grind
theorem sr_lin (f g:Nat->Rat) (a b:Rat) (n:Nat):sr (fun i=>a*f i+b*g i) n=a*sr f n+b*sr g n:=by
 induction n with
 | zero=>show(0:Rat)=a*0+b*0;grind
 | succ n ih =>
  show sr (fun i=>a*f i+b*g i) n+(a*f n+b*g n)=a*(sr f n+f n)+b*(sr g n+g n)
  rw[ih];grind
theorem sr_const (a:Rat) (n:Nat):sr (fun _=>a) n=(n:Rat)*a:=by
 induction n with
 | zero=>show(0:Rat)=((0:Nat):Rat)*a;grind
 | succ n ih =>
  show sr (fun _=>a) n+a=((n+1:Nat):Rat)*a
  rw[ih,Rat.natCast_add];grind
theorem sr_app (f:Nat->Rat) (m n:Nat):sr f (m+n)=sr f m+sr (fun i=>f (m+i)) n:=by
 induction n with
 | zero=>show sr f m=sr f m+0;grind
 | succ n ih =>
  show sr f (m+n)+f (m+n)=sr f m+(sr (fun i=>f (m+i)) n+f (m+n))
  rw[ih];grind
theorem Le.sum {f:Nat->Cx} {g:Nat->Rat} {n:Nat} (h:∀i,i<n->Le (f i) (g i)):Le (sc f n) (sr g n):=by
 induction n with
 | zero=>exact Le.zero
 | succ n ih=>exact(ih fun i hi=>h i (by omega)).add (h n (by omega))
theorem sc_add (f g:Nat->Cx) (n:Nat):sc (fun i=>f i+g i) n=sc f n+sc g n:=by
 induction n with
 | zero=>show(0:Cx)=0+0;grind
 | succ n ih =>
  show sc (fun i=>f i+g i) n+(f n+g n)=sc f n+f n+(sc g n+g n)
  rw[ih];grind
theorem sc_sub (f g:Nat->Cx) (n:Nat):sc (fun i=>f i-g i) n=sc f n-sc g n:=by
 induction n with
 | zero=>show(0:Cx)=0-0;grind
 | succ n ih =>
  show sc (fun i=>f i-g i) n+(f n-g n)=sc f n+f n-(sc g n+g n)
  rw[ih];grind
theorem sc_mul (a:Cx) (f:Nat->Cx) (n:Nat):sc (fun i=>a*f i) n=a*sc f n:=by
 induction n with
 | zero=>show(0:Cx)=a*0;grind
 | succ n ih =>
  show sc (fun i=>a*f i) n+a*f n=a*(sc f n+f n)
  rw[ih];grind
theorem sc_zero (n:Nat):sc (fun _=>0) n=0:=by
 induction n with
 | zero=>rfl
 | succ n ih=>show sc (fun _=>0) n+0=0;rw[ih];grind
theorem sc_swap (f:Nat->Nat->Cx) (m n:Nat):sc (fun i=>sc (fun j=>f i j) n) m=sc (fun j=>sc (fun i=>f i j) m) n:=by
 induction m with
 | zero=>show(0:Cx)=sc (fun _=>0) n;rw[sc_zero]
 | succ m ih =>
  show sc (fun i=>sc (fun j=>f i j) n) m+sc (fun j=>f m j) n=sc (fun j=>sc (fun i=>f i j) m+f m j) n
  rw[ih,sc_add]
def nn (n:Nat) (f:Nat->Cx):Rat:=sr (fun i=>N (f i)) n
theorem nn_add {n:Nat} {f g:Nat->Cx} {a b Q:Rat} (ha:0<a) (hb:0<b) (hf:nn n f<=a*a*Q) (hg:nn n g<=b*b*Q):nn n (fun i=>f i+g i)<=(a+b)*(a+b)*Q:=by
 have hab:=Rat.mul_pos ha hb
 have h1:a*b*nn n (fun i=>f i+g i)<=b*(a+b)*nn n f+a*(a+b)*nn n g:=by
  unfold nn
  have e:=sr_lin (fun i=>N (f i+g i)) (fun _=>0) (a*b) 0 n
  have e2:=sr_lin (fun i=>N (f i)) (fun i=>N (g i)) (b*(a+b)) (a*(a+b)) n
  have h:=sr_le (f:=fun i=>a*b*N (f i+g i)+0*0) (g:=fun i=>b*(a+b)*N (f i)+a*(a+b)*N (g i)) (n:=n) fun i _=>by
   have h1:=sq_nn (b*(f i).re-a*(g i).re)
   have h2:=sq_nn (b*(f i).im-a*(g i).im)
   unfold N
   rw[add_re,add_im]
   grind
  rw[e,e2] at h
  grind
 have h2:=Rat.mul_le_mul_of_nonneg_left hf (Rat.le_of_lt (Rat.mul_pos hb (show 0<a+b by grind)))
 have h3:=Rat.mul_le_mul_of_nonneg_left hg (Rat.le_of_lt (Rat.mul_pos ha (show 0<a+b by grind)))
 refine Rat.not_lt.1 fun hlt=>?_
 have h4:=Rat.mul_lt_mul_of_pos_left hlt hab
 grind
theorem nn_congr {n:Nat} {f g:Nat->Cx} (h:∀i,i<n->f i=g i):nn n f=nn n g:=sr_congr fun i hi=>by rw[h i hi]
theorem nn_at {n:Nat} (f:Nat->Cx) {i:Nat} (hi:i<n):N (f i)<=nn n f:=sr_at (fun i _=>N_nn (f i)) hi
theorem cx_assoc (a b c:Cx):a*b*c=a*(b*c):=by apply Cx.ext' <;> simp only[mul_re,mul_im] <;> grind
end Go.Proofs.YtibckeckjfmbkaaGreatDoor.Er
namespace Go.Proofs.YtibckeckjfmbkaaGreatDoor.Jx
open Go.Proofs.YtibckeckjfmbkaaGreatDoor.Fl
open Ieee
open Go.Proofs.YtibckeckjfmbkaaGreatDoor.Er
set_option linter.unusedVariables false
theorem nearest_half (neg:Bool) (mag:Nat) (place:Int) (k:Nat) (hk:0<=place+1074+k) :
  ∃c,double.nearest neg mag place=W neg (min c 9218868437227405312)/\((2*(M c*2 ^ k)<=2*(mag*2 ^ (place+1074+k).toNat)+2 ^ k/\2*(mag*2 ^ (place+1074+k).toNat)<=2*(M c*2 ^ k)+2 ^ k) \/
   (9007199254740992*(M c*2 ^ k)<=9007199254740992*(mag*2 ^ (place+1074+k).toNat)+mag*2 ^ (place+1074+k).toNat/\9007199254740992*(mag*2 ^ (place+1074+k).toNat)<=9007199254740992*(M c*2 ^ k)+mag*2 ^ (place+1074+k).toNat)):=by
 by_cases h0:mag=0
 ·subst h0
  refine⟨0,?_,Or.inl (by rw[M_zero];simp)⟩
  unfold Format.nearest
  rw[if_pos rfl,word_W,Nat.zero_min]
 unfold Format.nearest
 rw[if_neg h0,d_frac,d_least,d_binade,d_inf]
 simp only[]
 obtain⟨q,hq⟩:∃q:Nat,max (place+(mag.log2:Int)-(52:Nat)) (-1074)=(q:Int)-1074:=⟨(max (place+(mag.log2:Int)-(52:Nat)) (-1074)+1074).toNat,by omega⟩
 rw[hq]
 have e0:((q:Int)-1074 - -1074).toNat=q:=by omega
 rw[e0,Nat.shiftLeft_eq,word_W]
 generalize hn:mag*2 ^ (place-((q:Int)-1074)).toNat=n
 generalize hd:((q:Int)-1074-place).toNat=d
 have hN:mag*2 ^ (place+1074+k).toNat*2 ^ d=n*2 ^ (q+k):=by
  rw[<-hn,Nat.mul_assoc,Nat.mul_assoc,<-Nat.pow_add,<-Nat.pow_add]
  congr 2
  omega
 have hlog:=lt_log2 mag
 have hlog':=Nat.log2_self_le h0
 have hf:(4503599627370496<=n / 2 ^ d/\n / 2 ^ d+1<=9007199254740992)\/(q=0/\n / 2 ^ d+1<=9007199254740992):=by
  have hup:n / 2 ^ d<9007199254740992:=by
   rw[Nat.div_lt_iff_lt_mul (Nat.two_pow_pos _)]
   have h1:n<2 ^ (mag.log2+1)*2 ^ (place-((q:Int)-1074)).toNat:=by
    rw[<-hn];exact Nat.mul_lt_mul_of_pos_right hlog (Nat.two_pow_pos _)
   rw[<-Nat.pow_add] at h1
   refine Nat.lt_of_lt_of_le h1 ?_
   rw[show(9007199254740992:Nat)=2 ^ 53 from rfl,<-Nat.pow_add]
   exact Nat.pow_le_pow_right (by omega) (by omega)
  by_cases hq0:q=0
  ·exact Or.inr ⟨hq0,by omega⟩
  ·left
   refine⟨?_,by omega⟩
   rw[Nat.le_div_iff_mul_le (Nat.two_pow_pos _),<-hn]
   refine Nat.le_trans ?_ (Nat.mul_le_mul_right _ hlog')
   rw[show(4503599627370496:Nat)=2 ^ 52 from rfl,<-Nat.pow_add,<-Nat.pow_add]
   exact Nat.pow_le_pow_right (by omega) (by omega)
 have hpd:=Nat.two_pow_pos d
 refine⟨q*4503599627370496+Toward.even.cut neg n d,rfl,?_⟩
 rw[cut_even]
 have hM:∀t,t<=1->M (q*4503599627370496+(n / 2 ^ d+t))=(n / 2 ^ d+t)*2 ^ q:=fun t ht=>M_at _ _ (by omega)
 have hT:M (q*4503599627370496+(n / 2 ^ d+(evenUp (n / 2 ^ d) (n % 2 ^ d) (2 ^ d)).toNat))*2 ^ k=(n / 2 ^ d+(evenUp (n / 2 ^ d) (n % 2 ^ d) (2 ^ d)).toNat)*2 ^ (q+k):=by
  rw[hM _ (by cases evenUp (n / 2 ^ d) (n % 2 ^ d) (2 ^ d) <;> decide),Nat.mul_assoc,<-Nat.pow_add]
 rw[hT]
 have hc:2*((n / 2 ^ d+(evenUp (n / 2 ^ d) (n % 2 ^ d) (2 ^ d)).toNat)*2 ^ d)<=2*n+2 ^ d/\2*n<=2*((n / 2 ^ d+(evenUp (n / 2 ^ d) (n % 2 ^ d) (2 ^ d)).toNat)*2 ^ d)+2 ^ d:=by
  have h1:=Nat.div_add_mod n (2 ^ d)
  have h2:=Nat.mod_lt n hpd
  cases hu:evenUp (n / 2 ^ d) (n % 2 ^ d) (2 ^ d)
  ·have h3:2*(n % 2 ^ d)<=2 ^ d:=by
    unfold evenUp at hu
    simp only[Bool.or_eq_false_iff,decide_eq_false_iff_not] at hu
    omega
   rw[Bool.toNat_false,Nat.add_zero,Nat.mul_comm (n / 2 ^ d)]
   omega
  ·have h3:2 ^ d<=2*(n % 2 ^ d):=by
    unfold evenUp at hu
    simp only[Bool.or_eq_true,decide_eq_true_eq,Bool.and_eq_true,beq_iff_eq] at hu
    omega
   rw[Bool.toNat_true,Nat.add_mul,Nat.one_mul,Nat.mul_comm (n / 2 ^ d)]
   omega
 have hpq:0<2 ^ (q+k):=Nat.two_pow_pos _
 generalize hX:mag*2 ^ (place+1074+k).toNat=X at *
 generalize hC:n / 2 ^ d+(evenUp (n / 2 ^ d) (n % 2 ^ d) (2 ^ d)).toNat=C at *
 have k1:2*(C*2 ^ (q+k))<=2*X+2 ^ (q+k):=by
  refine Nat.le_of_mul_le_mul_right (c:=2 ^ d) ?_ hpd
  rw[Nat.add_mul,Nat.mul_assoc 2 X,hN]
  have:=Nat.mul_le_mul_right (2 ^ (q+k)) hc.1
  rw[Nat.add_mul] at this
  calc 2*(C*2 ^ (q+k))*2 ^ d=2*(C*2 ^ d)*2 ^ (q+k):=by rw[Nat.mul_assoc,Nat.mul_assoc,Nat.mul_assoc,Nat.mul_assoc,Nat.mul_comm (2 ^ (q+k))]
   _<=_:=this
   _=_:=by rw[Nat.mul_assoc 2 n,Nat.mul_comm (2 ^ d)]
 have k2:2*X<=2*(C*2 ^ (q+k))+2 ^ (q+k):=by
  refine Nat.le_of_mul_le_mul_right (c:=2 ^ d) ?_ hpd
  rw[Nat.add_mul,Nat.mul_assoc 2 X,hN]
  have:=Nat.mul_le_mul_right (2 ^ (q+k)) hc.2
  rw[Nat.add_mul] at this
  calc 2*(n*2 ^ (q+k))=2*n*2 ^ (q+k):=by rw[Nat.mul_assoc]
   _<=_:=this
   _=_:=by rw[Nat.mul_comm (2 ^ d) (2 ^ (q+k)),Nat.mul_assoc 2,Nat.mul_assoc 2,Nat.mul_assoc C,Nat.mul_assoc C,Nat.mul_comm (2 ^ d) (2 ^ (q+k))]
 rcases hf with ⟨h1,_⟩|⟨h1,_⟩
 ·right
  have h3:4503599627370496*2 ^ (q+k)<=X:=by
   refine Nat.le_of_mul_le_mul_right (c:=2 ^ d) ?_ hpd
   rw[hN]
   have:=Nat.mul_le_mul_right (2 ^ (q+k)) ((Nat.le_div_iff_mul_le hpd).1 h1)
   calc 4503599627370496*2 ^ (q+k)*2 ^ d=4503599627370496*2 ^ d*2 ^ (q+k):=by rw[Nat.mul_assoc,Nat.mul_assoc,Nat.mul_comm (2 ^ d)]
    _<=_:=this
  generalize 2 ^ (q+k)=P at *
  generalize C*P=T at *
  omega
 ·left
  subst h1
  rw[Nat.zero_add] at k1 k2
  rw[Nat.zero_add]
  exact⟨k1,k2⟩
end Go.Proofs.YtibckeckjfmbkaaGreatDoor.Jx
