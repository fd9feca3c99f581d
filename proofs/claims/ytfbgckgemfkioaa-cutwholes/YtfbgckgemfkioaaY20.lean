import Derived.Test.YtfbgckgemfkioaaY18
import Derived.Test.YtfbgckgemfkioaaY19
import Derived.Laws.OwnMore
import Derived.ArgAppend
import Derived.OwnWalk
namespace Go.Proofs.Ytfbgckgemfkioaa
open Go.RowKit
set_option linter.unusedVariables false
set_option linter.unusedSimpArgs false
theorem Nx.mono {w:World} {s:Bool} {ad:Option Addr} {n cap:Nat} {e:Int} {E F:Nat} {X:Int} (h:Nx w s ad n cap e E X) (hf:E<=F):Nx w s ad n cap e F X:=by
 obtain⟨m,h1,h2,h3,h4⟩:=h
 exact⟨m,h1,h2,by omega,h4⟩
theorem sv_iv {s:Bool} {m:Nat} {e:Int} (h:0<=e):sv 0 s m e=iv s (m*2 ^ e.toNat):=by
 unfold sv iv
 rw[show(e+0).toNat=e.toNat by omega]
theorem dv_absW {h:Int} (hh:2<=h) (ds:List Int) {M:Nat} (hM:∀d∈ds,d.natAbs<=M):(dv (2*h) ds).natAbs+M<=M*((2*h) ^ ds.length).natAbs:=by
 induction ds with
 | nil=>simp[dv]
 | cons d ds ih =>
  have h1:=ih (fun x hx=>hM x (List.mem_cons_of_mem _ hx))
  have h2:=hM d (List.mem_cons_self ..)
  simp only[dv,List.length_cons,Int.pow_succ,Int.natAbs_mul ((2*h) ^ ds.length)]
  have h3:=Int.natAbs_add_le d (2*h*dv (2*h) ds)
  rw[Int.natAbs_mul] at h3
  have hB:2<=(2*h).natAbs:=by omega
  generalize ((2*h) ^ ds.length).natAbs=P at *
  generalize (d+2*h*dv (2*h) ds).natAbs=E at *
  generalize (2*h).natAbs=b at *
  generalize (dv (2*h) ds).natAbs=D at *
  have h4:b*(D+M)<=b*(M*P):=Nat.mul_le_mul_left b h1
  have h5:2*M<=b*M:=Nat.mul_le_mul_right M hB
  have e1:b*(D+M)=b*D+b*M:=Nat.mul_add ..
  have e2:M*(P*b)=b*(M*P):=by rw[<-Nat.mul_assoc,Nat.mul_comm]
  omega
theorem dv_bl {p:Nat} {h:Int} (hB:(2:Int) ^ (2+p)=2*h) (hh:2<=h) {ds:List Int} (hM:∀d∈ds,d.natAbs<=9223372036854775808):bl (dv (2*h) ds).natAbs<=63+(2+p)*ds.length:=by
 have h1:=dv_absW hh ds hM
 have h2:((2*h) ^ ds.length).natAbs=2 ^ ((2+p)*ds.length):=by
  rw[<-hB,<-Int.pow_mul,Int.natAbs_pow];rfl
 rw[h2] at h1
 refine bl_le_of_lt ?_
 rw[Nat.pow_add]
 have e63:(2:Nat) ^ 63=9223372036854775808:=by decide
 rw[e63]
 generalize 9223372036854775808*2 ^ ((2+p)*ds.length)=T at *
 omega
theorem x_bl {x:Int} {P:Nat} (h:x.natAbs<=9223372036854775808):bl (x*2 ^ P).natAbs<=64+P:=by
 refine bl_le_of_lt ?_
 rw[Int.natAbs_mul,Int.natAbs_pow,Nat.pow_add]
 refine Nat.mul_lt_mul_of_pos_right (Nat.lt_of_le_of_lt h (by decide)) (Nat.two_pow_pos _)
theorem wrapP {p j:Nat} (h:(2+p)*j<=8388608):IntKind.i64.wrap ((2+(p:Int))*(j:Int))=(((2+p)*j:Nat):Int):=by
 have e:(2+(p:Int))*(j:Int)=(((2+p)*j:Nat):Int):=by simp
 rw[e,IntKind.wrap_i64]
 omega
set_option maxRecDepth 8000 in
set_option maxHeartbeats 8000000 in
theorem rWhole (ad:Option Addr) (n cap:Nat) (ls:List Int) (p:Nat) (h:Int) (w:World) (hr:RI w ad n cap ls) (hv:∀v∈ls,-9223372036854775808<=v/\v<=9223372036854775807) (hp:p<29) (hB:(2:Int) ^ (2+p)=2*h) (hh:2<=h) (hn:(2+p)*n<=1000000) :
  Calls Try.prog 15 #[.slice ad n cap,.int .i64 (2+(p:Int))] w fun r w'=>∃a b c d e,r = .returned (.tuple #[.agg #[.bool a,.slice b c d],.int .i64 e])/\Hid (TolR w' a b c d e (dv (2*h) ls))/\Gr w w':=by
 have MC:=mayC (2+(p:Int))
 rw[show wdB (2+(p:Int))=true by unfold wdB;simp;omega] at MC
 replace MC:=hide MC
 have hnn:n<=500000:=by
  have:2*n<=(2+p)*n:=Nat.mul_le_mul_right n (by omega)
  omega
 have hlen:=hr.len
 have RR:=hide hr
 have HV:Hid (∀v∈ls,-9223372036854775808<=v/\v<=9223372036854775807):=hv
 clear hr hv
 replace hB:=hide hB
 have HO:Hid _:=blk1 w (.cells #[.bool false,.slice none 0 0] 24)
 have GA:Gr w (w.alloc (.cells #[.bool false,.slice none 0 0] 24)):=(Gr.refl w).alloc _
 have sA:(w.alloc (.cells #[.bool false,.slice none 0 0] 24)).heap.size=w.heap.size+1:=by simp
 go_enter Try.func15,Try.ntmps15
 go_wp2_with (go_at_call 28;with_reducible refine(MC.out _).mono ?_;rintro e w2 ⟨rfl,rfl⟩)
 generalize w.alloc (.cells #[.bool false,.slice none 0 0] 24)=wa at *
 go_loopw [7] (fun i wr=>∃j:Nat,j<=n/\i = .int .i64 (j:Int)/\Hid (∃s a m q e,wr.heap[w.heap.size+1]? = some (.cells #[.bool s,.slice a m q,.int .i64 e] 59)/\Nx wr s a m q e ((2+p)*n) (dv (2*h) (ls.take j)))/\Hid (Gr wa wr)) (fun i _=>n-(intOf i).toNat)
 case atStart=>exact⟨0,by omega,rfl,⟨false,none,0,0,0,(by have:=blk1 wa (.cells #[.bool false,.slice none 0 0,.int .i64 0] 59);rw[sA] at this;exact this),0,(Wh.nil _).lim,by omega,by omega,by simp[sv,dv]⟩,(Gr.refl wa).alloc _⟩
 case round =>
  obtain⟨j,hj,rfl,hN,hg⟩:=hrel
  obtain⟨s0,a0,m0,q0,e0,hb,hw⟩:=hN.out
  by_cases hlt:(j:Int)<(n:Int)
  ·cases had:ad with
   | none=>have:=(RR.out.nil had).1;omega
   | some qa =>
    obtain⟨hbl,hc0⟩:=RR.out.cell qa had j (by omega)
    have hcell:=keepAA (GA.trans hg.out) hc0
    have hvr:=HV.out (ls.getD j 0) (getD_memI (by omega))
    have hne:(qa.add j).block≠w.heap.size+1:=by rw[add_block];omega
    have hPj:(2+p)*j<=1000000:=Nat.le_trans (Nat.mul_le_mul_left _ hj) hn
    have hP2:(2+p)*j<=(2+p)*n:=Nat.mul_le_mul_left _ hj
    have bZ:=dv_bl hB.out hh (ds:=ls.take j) (fun d hd=>by have:=HV.out d (List.mem_of_mem_take hd);omega)
    rw[List.length_take,Nat.min_eq_left (by omega)] at bZ
    have eS:dv (2*h) (ls.take j)+ls.getD j 0*2 ^ ((2+p)*j)=dv (2*h) (ls.take (j+1)):=by
     rw[<-take_snoc (by omega),dv_snoc,List.length_take,Nat.min_eq_left (by omega),<-hB.out,<-Int.pow_mul,Int.mul_comm]
    subst had
    replace hc0:=hide hc0
    have eW:=wrapP (p:=p) (j:=j) (by omega)
    generalize ls.getD j 0=x at *
    have bX:=x_bl (x:=x) (P:=(2+p)*j) (by omega)
    replace eS:=hide eS
    generalize dv (2*h) (ls.take j)=Z at *
    have HX:Hid (∀t2 t3 t4 t5 t8 t9 t10 t11 t12 t13 t14 t15 t16 t17 t18 t19 t20 t21 t22 t23 t24 t25 t26 t27 t28 t29 t30 t31 t32 t33 t34 t35 t36 t37 t38 t39 t40:Value,_):=fun t2 t3 t4 t5 t8 t9 t10 t11 t12 t13 t14 t15 t16 t17 t18 t19 t20 t21 t22 t23 t24 t25 t26 t27 t28 t29 t30 t31 t32 t33 t34 t35 t36 t37 t38 t39 t40=>reg157 t2 t3 t4 t5 t8 t9 t10 t11 t12 t13 t14 t15 t16 t17 t18 t19 t20 t21 t22 t23 t24 t25 t26 t27 t28 t29 t30 t31 t32 t33 t34 t35 t36 t37 t38 t39 t40 qa (qa.add j) n cap (w.heap.size+1) j ((2+p)*j) m0 q0 ((2+p)*n) (2+(p:Int)) x Z e0 s0 a0 wa wr hb hw hcell hg.out (by omega) rfl eW hlt hne hvr.1 hvr.2 (by omega) (by omega) (by omega) (by omega)
    clear hb hw hcell eW hne bX bZ hN hc0 hvr hbl
    go_wp2
    refine Code.wp_mono ?_ (HX.out _ _ _ _ _ _ _ _ _ _ _ _ _ _ _ _ _ _ _ _ _ _ _ _ _ _ _ _ _ _ _ _ _ _ _ _ _)
    intro e a1 w9 hR
    cases e <;> first|(exact False.elim hR)|skip
    obtain⟨u21,u22,u23,u24,u25,u26,u27,u28,u29,u30,u31,s9,a9,n9,c9,e9,rfl,B9,W9,X9⟩:=hR
    rw[eS.out,Nat.max_eq_left hP2] at W9
    have NN:Hid (∃s a m q e,w9.heap[w.heap.size+1]? = some (.cells #[.bool s,.slice a m q,.int .i64 e] 59)/\Nx w9 s a m q e ((2+p)*n) (dv (2*h) (ls.take (j+1)))):=⟨_,_,_,_,_,B9,W9⟩
    have X2:Hid (Gr wa w9):=X9
    clear B9 W9 X9 HX eS
    go_wp2
    exact⟨⟨j+1,by omega,by go_num,NN,X2⟩,by simp only[intOf];omega⟩
  ·obtain rfl:j=n:=by omega
   rw[List.take_of_length_le (by omega)] at hw
   obtain⟨m,lm,e1,e2,eX⟩:=hw
   rw[sv_iv e1] at eX
   obtain⟨k,rfl⟩:∃k:Nat,e0=(k:Int):=⟨e0.toNat,by omega⟩
   rw[Int.toNat_natCast] at eX
   have bm:=dv_bl hB.out hh (ds:=ls) (fun d hd=>by have:=HV.out d hd;omega)
   rw[<-eX,iv_abs,hlen] at bm
   have bm1:bl m<=bl (m*2 ^ k):=bl_monoX (Nat.le_mul_of_pos_right _ (Nat.two_pow_pos _))
   have bm2:bl m<=16777216:=by omega
   have HO3:Hid _:=keepO hg.out HO.out
   have b3:=outF3 hb
   have y0:=b3.1
   have y1:=b3.2.1
   have y2:=b3.2.2.1
   have GW:Gr w wr:=GA.trans hg.out
   have hsz:=hg.out.size
   have EX:Hid (iv s0 (m*2 ^ k)=dv (2*h) ls):=eX
   by_cases hf:(iv s0 (m*2 ^ k)).natAbs<TopN
   ·have TL:Hid (Calls Try.prog 38 #[.agg #[.bool s0,.slice a0 m0 q0,.int .i64 (k:Int)]] wr fun r w'=>∃a b c d,r = .returned (.tuple #[.agg #[.bool a,.slice b c d],.bool true])/\Hid (Wh w' a b c d (iv s0 (m*2 ^ k)))/\Gr wr w'):=by
     refine(tellB s0 a0 m0 q0 m k wr lm bm2 (by omega)).mono ?_
     rintro r w' ⟨a,b,c,d,ok,h1,h2,h3⟩
     rcases h2.out with ⟨_,rfl,h4⟩|⟨h4,_⟩
     ·exact⟨a,b,c,d,h1,h4,h3⟩
     ·exact absurd hf (Nat.not_lt.2 h4)
    have HF:Hid ((iv s0 (m*2 ^ k)).natAbs<TopN):=hf
    clear lm hf eX bm bm1 bm2 hb b3 hN
    go_wp2_with (go_at_call 38;(with_reducible refine TL.out.mono ?_);rintro r w6 ⟨a6,b6,c6,d6,rfl,V6,g6⟩;have hb6:=keepO g6 HO3.out;have hb7:=keepO ((Gr.refl w6).alloc (.cells #[.bool a6,.slice b6 c6 d6] 24)) hb6;obtain⟨k0,k1,k2,k3⟩:=Out2.of hb7;have z0:=(bx2 (blk1 w6 (.cells #[.bool a6,.slice b6 c6 d6] 24))).1;have z1:=(bx2 (blk1 w6 (.cells #[.bool a6,.slice b6 c6 d6] 24))).2)
    have V7:Hid _:=(V6.out.gr ((Gr.refl w6).alloc (.cells #[.bool a6,.slice b6 c6 d6] 24))).out2 hb7 (.bool a6) (.slice b6 c6 d6)
    obtain⟨v0,v1⟩:=at2 (v0:=.bool a6) (v1:=.slice b6 c6 d6) k0 k1
    refine bodyPost_ret (v:=.tuple #[.agg #[.bool a6,.slice b6 c6 d6],.int .i64 0]) ?_ rfl ⟨_,_,_,_,_,rfl,Or.inl ⟨by rw[<-EX.out];exact HF.out,rfl,by rw[<-EX.out];exact V7.out⟩,(((GW.trans g6).alloc _).setCell (p:=⟨w.heap.size,0,none⟩) (by show _<=w.heap.size;omega) _).setCell (p:=⟨w.heap.size,1,none⟩) (by show _<=w.heap.size;omega) _⟩
    simp[results,Try.results15,go_sem,v0,v1]
   ·have TL:Hid (Calls Try.prog 38 #[.agg #[.bool s0,.slice a0 m0 q0,.int .i64 (k:Int)]] wr fun r w'=>r = .returned (.tuple #[.agg #[.bool false,.slice none 0 0],.bool false])/\Gr wr w'):=by
     refine(tellB s0 a0 m0 q0 m k wr lm bm2 (by omega)).mono ?_
     rintro r w' ⟨a,b,c,d,ok,h1,h2,h3⟩
     rcases h2.out with ⟨h4,_⟩|⟨_,rfl,rfl,rfl,rfl,rfl⟩
     ·exact absurd h4 hf
     ·exact⟨h1,h3⟩
    have HF:Hid (TopN<=(iv s0 (m*2 ^ k)).natAbs):=Nat.not_lt.1 hf
    clear lm hf eX bm bm1 bm2 hb b3 hN
    go_wp2_with (go_at_call 38;(with_reducible refine TL.out.mono ?_);rintro r w6 ⟨rfl,g6⟩;have hb6:=keepO g6 HO3.out;have hb7:=keepO ((Gr.refl w6).alloc (.cells #[.bool false,.slice none 0 0] 24)) hb6;obtain⟨k0,k1,k2,k3⟩:=Out2.of hb7)
    obtain⟨v0,v1⟩:=at2 (v0:=.bool false) (v1:=.slice none 0 0) k0 k1
    refine bodyPost_ret (v:=.tuple #[.agg #[.bool false,.slice none 0 0],.int .i64 3]) ?_ rfl ⟨_,_,_,_,_,rfl,Or.inr ⟨by rw[<-EX.out];exact HF.out,rfl,rfl,rfl,rfl,rfl⟩,(((GW.trans g6).alloc _).setCell (p:=⟨w.heap.size,0,none⟩) (by show _<=w.heap.size;omega) _).setCell (p:=⟨w.heap.size,1,none⟩) (by show _<=w.heap.size;omega) _⟩
    simp[results,Try.results15,go_sem,v0,v1]
theorem ownsI_cell {w:World} {base:Nat} {g N:Nat} {xs:List Int} (h:w.ownsRow base 2 1 (.slice (some ⟨g,0,none⟩) N N) N (iz xs)) (j:Nat) (hj:j<N):w.cell? ⟨g,j,none⟩=some (.int .i64 (xs.getD j 0)):=by
 have hl:xs.length=N:=by have:=h.1;rw[iz_length] at this;omega
 rw[h.cellAt j (by omega),iz_get (by omega)]
theorem bothWhole (ls:List Int) (p n:Nat) (h:Int) (hv:∀v∈ls,-9223372036854775808<=v/\v<=9223372036854775807) (hp:p<29) (hB:(2:Int) ^ (2+p)=2*h) (hh:2<=h) (hh2:h<=536870912) (hhb:h=2 ^ (2+p-1)) (hn:(2+p)*n<=1000000) :
  ∃(e X:Int),(∀w ad cap,RI w ad n cap ls->Calls Try.prog 14 #[.slice ad n cap,.int .i64 (2+(p:Int))] w fun r w'=>∃a b c d,r = .returned (.tuple #[.agg #[.bool a,.slice b c d],.int .i64 e])/\Hid (Wh w' a b c d X)/\Gr w w') /\
   (∀w ad cap,RI w ad n cap ls->Calls Try.prog 15 #[.slice ad n cap,.int .i64 (2+(p:Int))] w fun r w'=>∃a b c d,r = .returned (.tuple #[.agg #[.bool a,.slice b c d],.int .i64 e])/\Hid (Wh w' a b c d X)/\Gr w w'):=by
 have hnn:n<=500000:=by
  have:2*n<=(2+p)*n:=Nat.mul_le_mul_right n (by omega)
  omega
 have C1:∀w ad cap,RI w ad n cap ls->Calls Try.prog 14 #[.slice ad n cap,.int .i64 (2+(p:Int))] w fun e w'=>∃a b' c d g,e = .returned (.tuple #[.agg #[.bool a,.slice b' c d],.int .i64 g])/\Hid (Tol w.heap.size w' a b' c d g (dv (2*h) ls))/\Gr w w':=fun w ad cap hr=>by
  have:=wholeC ad n cap (2+p) ls h w hr (by omega) (by omega) hB hh hh2 hhb hv (by omega)
  rw[show((2+p:Nat):Int)=2+(p:Int) by omega] at this
  exact this
 by_cases hT:(dv (2*h) ls).natAbs<TopN
 ·refine⟨0,dv (2*h) ls,fun w ad cap hr=>?_,fun w ad cap hr=>?_⟩
  ·refine(C1 w ad cap hr).mono ?_
   rintro r w' ⟨a,b,c,d,g,h1,h2,h3⟩
   obtain⟨rfl,e2,_⟩:=h2.out.fits hT
   exact⟨a,b,c,d,h1,e2,h3⟩
  ·refine(rWhole ad n cap ls p h w hr hv hp hB hh hn).mono ?_
   rintro r w' ⟨a,b,c,d,g,h1,h2,h3⟩
   rcases h2.out with ⟨_,rfl,h4⟩|⟨h4,_⟩
   ·exact⟨a,b,c,d,h1,h4,h3⟩
   ·exact absurd hT (Nat.not_lt.2 h4)
 ·refine⟨3,0,fun w ad cap hr=>?_,fun w ad cap hr=>?_⟩
  ·refine(C1 w ad cap hr).mono ?_
   rintro r w' ⟨a,b,c,d,g,h1,h2,h3⟩
   rcases h2.out with ⟨h4,_⟩|⟨_,rfl,rfl,rfl,rfl,rfl⟩
   ·exact absurd h4 hT
   ·exact⟨_,_,_,_,h1,Wh.nil _,h3⟩
  ·refine(rWhole ad n cap ls p h w hr hv hp hB hh hn).mono ?_
   rintro r w' ⟨a,b,c,d,g,h1,h2,h3⟩
   rcases h2.out with ⟨h4,_⟩|⟨_,rfl,rfl,rfl,rfl,rfl⟩
   ·exact absurd h4 hT
   ·exact⟨_,_,_,_,h1,Wh.nil _,h3⟩
def mi (i:Nat):Int:=8000024+(i:Int)
theorem mi_lt {i:Nat} (h:i<=1000):0<=mi i/\mi i<=10000000000:=by unfold mi;omega
theorem markI (i:Nat) (w:World) (i1:i<=1000):Calls Try.prog 31 #[.int .i64 1,.int .i64 (i:Int)] w fun r w'=>r = .returned (.int .i64 (mi i))/\w=w':=by
 unfold mi
 go_enter Try.func31,Try.ntmps31
 go_wp2
 go_ret
 exact⟨by go_num,rfl⟩
def mli (n:Nat):List Int:=(List.range n).map mi
theorem mli_len (n:Nat):(mli n).length=n:=by simp[mli]
theorem mli_succ (n:Nat):mli (n+1)=mli n++[mi n]:=by
 unfold mli
 rw[List.range_succ,List.map_append]
 rfl
theorem mli_get (n j:Nat) (h:j<n):(mli n).getD j 0=mi j:=by
 rw[List.getD_eq_getElem?_getD,List.getElem?_eq_getElem (by rw[mli_len];exact h)]
 simp[mli]
set_option maxRecDepth 20000 in
set_option maxHeartbeats 4000000 in
theorem lentI (ad:Option Addr) (n c:Nat) (xs:List Int) (w:World) (hn:n<=17592186044416) (hr:RI w ad n c xs) :
  Calls Try.prog 13 #[.slice ad n c] w fun r w'=>∃g,w.heap.size<=g/\r = .returned (.slice (some ⟨g,0,none⟩) n (n+12))/\w'.ownsRow w.heap.size 2 1 (.slice (some ⟨g,0,none⟩) (n+12) (n+12)) (n+12) (iz (xs++mli 12))/\Gr w w':=by
 have l1:=hr.le
 have m1:=hr.max
 have hlen:=hr.len
 have HR:=hide hr
 have MK:Hid (∀(i:Nat) w1,i<=12->Calls Try.prog 31 #[.int .i64 1,.int .i64 (i:Int)] w1 fun r w'=>r = .returned (.int .i64 (mi i))/\w1=w'):=fun i w1 h=>markI i w1 (by omega)
 clear hr
 obtain⟨i0,hi,hz0,hz1,hz2⟩:=info_parts infoI
 go_enter Try.func13,Try.ntmps13
 go_wp2_with (at_make;refine wpList_make_own w rfl _ _ 27 rfl w.heap.size 2 i0 (.int .i64 0) 1 Try.underlying27 hi hz0 hz1 .i64 .i64 _ (n+12) rfl rfl ?c1 ?c2 ?c3 ?c4 ?_)
 case' c1=>omega
 case' c2=>rw[hz2];omega
 case' c3=>unfold maxLen;omega
 case' c4=>exact Nat.le_refl _
 intro w2 hown0 hgr0
 have g2:=hide ((Gr.refl w).grown hgr0 (fun k h=>by cases h))
 have HR2:=hide (HR.out.gr g2.out)
 clear hgr0
 go_wp2_with (at_builtin;refine wpList_append_fits_any w2 rfl _ _ 27 rfl w.heap.size 2 i0 1 Try.underlying27 hi hz1 w.heap.size 0 (n+12) [] rfl hown0 ad n c (iz xs) rfl ?d1 ?d5 ?d2 ?d3 ?d4 ?_)
 case' d1=>rw[iz_length,hlen];omega
 case' d5=>exact fun e=>HR.out.nil e
 case' d2=>exact HR2.out.at
 case' d3=>exact iz_one _
 case' d4=>omega
 intro w3 hown1 hgr1
 have g3:=hide (g2.out.grown hgr1 (fun k h=>by injection h with h;omega))
 have OW:Hid (w3.ownsRow w.heap.size 2 1 (.slice (some ⟨w.heap.size,0,none⟩) (n+0) (n+12)) (n+0) (iz (xs++mli 0))):=by
  rw[show mli 0=[] from rfl,List.append_nil]
  exact hown1
 clear g2 hown0 hown1 hgr1 HR HR2
 go_wp2
 go_loopw [3,4] (fun v i wr=>∃k:Nat,k<=12/\i = .int .i64 (k:Int)/\v = .slice (some ⟨w.heap.size,0,none⟩) (n+k) (n+12)/\Hid (wr.ownsRow w.heap.size 2 1 (.slice (some ⟨w.heap.size,0,none⟩) (n+k) (n+12)) (n+k) (iz (xs++mli k)))/\Hid (Gr w wr)) (fun _ i _=>12-(intOf i).toNat)
 case atStart=>exact⟨0,by omega,rfl,by simp,OW,g3⟩
 case round =>
  obtain⟨k,hk,rfl,rfl,hown,hg⟩:=hrel
  by_cases hlt:k<12
  ·have MKk:=hide (MK.out k wr hk)
   have hmu:0<=mi k/\mi k<=10000000000:=mi_lt (by omega)
   have HMS:=hide (mli_succ k)
   obtain⟨y,hy⟩:∃y,mi k=y:=⟨_,rfl⟩
   rw[hy] at MKk hmu HMS
   clear hy
   have hown':=hown.out.alloc (.cells #[.int .i64 y] 2)
   go_wp2_with (first|(go_at_call 31;(with_reducible refine MKk.out.mono ?_);rintro r w1 ⟨rfl,rfl⟩)|(at_builtin;refine wpList_append_fits (wr.alloc (.cells #[.int .i64 y] 2)) rfl _ _ 27 rfl w.heap.size 2 i0 1 Try.underlying27 hi hz1 w.heap.size (n+k) (n+12) (iz (xs++mli k)) rfl hown' ⟨wr.heap.size,0,none⟩ 1 1 (iz [y]) rfl ?f1 ?f2 ?f3 ?f4 ?_))
   case' f1=>rfl
   case' f2 =>
    intro j u hj
    match j,hj with
    | 0,hj=>simp[iz] at hj;subst hj;simp[Addr.add]
   case' f3=>exact iz_one _
   case' f4=>omega
   intro w5 hown2 hgr2
   have g5:=hide ((hg.out.alloc (.cells #[.int .i64 y] 2)).grown hgr2 (fun k h=>by injection h with h;omega))
   rw[<-iz_app,List.append_assoc,<-HMS.out] at hown2
   have OW2:=hide hown2
   clear hown2 hown' hgr2 MKk
   go_wp2
   go_roundw
   case rel=>exact⟨k+1,by omega,by go_num,by rw[Nat.add_assoc],OW2,g5⟩
   case measure=>simp only[intOf];omega
  ·have hkn:k=12:=by omega
   subst hkn
   go_wp2
   go_ret
   exact⟨_,Nat.le_refl _,rfl,hown.out,hg.out⟩
end Go.Proofs.Ytfbgckgemfkioaa
