import Derived.Test.YtfbgckgemfkioaaU15
namespace Go.Proofs.Ytfbgckgemfkioaa
open Go.RowKit
set_option linter.unusedVariables false
set_option linter.unusedSimpArgs false
theorem half_tab:(List.range 29).all (fun p=>decide ((2:Int)<=2 ^ (1+p)/\(2:Int) ^ (1+p)<=536870912/\wrap64 (2 ^ (1+p))=2 ^ (1+p)))=true:=by decide +kernel
theorem half_at {p:Nat} (hp:p<29):(2:Int)<=2 ^ (1+p)/\(2:Int) ^ (1+p)<=536870912/\wrap64 (2 ^ (1+p))=2 ^ (1+p):=by
 have t:=half_tab
 rw[List.all_eq_true] at t
 exact of_decide_eq_true (t p (List.mem_range.2 hp))
theorem getD_memI {ls:List Int} {j:Nat} (h:j<ls.length):ls.getD j 0∈ls:=by
 simp[List.getD_eq_getElem?_getD,List.getElem?_eq_getElem h]
theorem wpList_pushI {w0:World} {ops:Array Oper} {rest:List Oper} {o:Oper} {a:Act} {Q:Exit->Act->World->Prop} (hgd:o.guard=none) (s x:Operand)
  (ho:o.op = .call {callee:=.builtin .append,args:=#[s,x],argTypes:=#[27,27]}) {base:Nat} {v:Value} {n:Nat} {xs:List Int} (hown:w0.ownsRow base 2 1 v n (iz xs)) (y:Int)
  (hs:a.eval s=v) (hx:a.eval x = .slice (some ⟨w0.heap.size,0,none⟩) 1 1) (hn:n<=4398046511104) (hb:base<=w0.heap.size)
  (h:∀v' w',w'.ownsRow base 2 1 v' (n+1) (iz (xs++[y]))->(∀a0,Gr a0 w0->a0.heap.size<=base->Gr a0 w')->wpList Try.prog ops Q rest (a.put o.dst v') w') :
  wpList Try.prog ops Q (o :: rest) a (w0.alloc (.cells #[.int .i64 y] 2)):=by
 obtain⟨i0,hi,hz0,hz1,hz2⟩:=info_parts infoI
 refine wpList_append_own _ hgd s x 27 ho base 2 i0 (.int .i64 0) 1 8 Try.underlying27 hi hz0 hz1 hz2 rfl (by decide) v n (iz xs) hs (hown.alloc _) ⟨w0.heap.size,0,none⟩ 1 1 (iz [y]) hx rfl ?_ (iz_one _) (by unfold maxLen;omega) (by omega) (by simp;omega) ?_
 ·intro j u hj
  match j,hj with
  | 0,hj=>simp[iz] at hj;subst hj;simp[Addr.add]
 ·intro v' w' hown' hgr _
  refine h v' w' ?_ ?_
  ·rw[iz_app];exact hown'
  ·intro a0 hg hle
   exact(hg.alloc _).grown hgr (fun k hk=>Nat.le_trans hle (hown.lt k hk).1)
theorem backWhole {w:World} {p:Nat} {h:Int} {ra:Option Addr} {j rc:Nat} {ds:List Int} (hB:(2:Int) ^ (2+p)=2*h) (hp:p<29) (hh:2<=h) (hh2:h<=536870912) (hhb:h=2 ^ (2+p-1)) (hds:∀d∈ds,-h<=d/\d<h) (RR:RI w ra j rc ds) (hj:j<=1073741824) (hT:(dv (2*h) ds).natAbs<TopN) :
  Calls Try.prog 14 #[.slice ra j rc,.int .i64 (2+(p:Int))] w fun e w'=>∃a b' c d,e = .returned (.tuple #[.agg #[.bool a,.slice b' c d],.int .i64 0])/\Hid (Wh w' a b' c d (dv (2*h) ds))/\Gr w w':=by
 have:=wholeC ra j rc (2+p) ds h w RR (by omega) (by omega) hB hh hh2 hhb (fun v hv=>by have:=hds v hv;omega) (by omega)
 rw[show((2+p:Nat):Int)=2+(p:Int) by omega] at this
 refine this.mono ?_
 rintro e w' ⟨a,b,c,d,g,h1,h2,h3⟩
 obtain⟨e1,e2,e3⟩:=h2.out.fits hT
 subst e1
 exact⟨a,b,c,d,h1,e2,h3⟩
theorem backDigits {w:World} {p:Nat} {h:Int} {s:Bool} {ad:Option Addr} {n cap k:Nat} {ds:List Int} (hB:(2:Int) ^ (2+p)=2*h) (hp:p<29) (hh:2<=h) (hh2:h<=536870912) (hhb:h=2 ^ (2+p-1)) (hds:∀d∈ds,-h<=d/\d<h) (hl:LastAt ds k) (hw:Wh w s ad n cap (dv (2*h) ds)) :
  Calls Try.prog 9 #[.agg #[.bool s,.slice ad n cap],.int .i64 (2+(p:Int))] w fun e w'=>∃za zc,e = .returned (.tuple #[.slice za k zc,.int .i64 0])/\Hid (w'.ownsRow w.heap.size 2 1 (.slice za k zc) k (iz (ds.take k)))/\Gr w w':=by
 have:=digitsW hw (2+p) h (by omega) (by omega) hB hh hh2 hhb
 rw[show((2+p:Nat):Int)=2+(p:Int) by omega] at this
 refine this.mono ?_
 rintro e w' ⟨hd,hg⟩
 obtain⟨a,c,h1,h2⟩:=hd.one hh (ds.take k) (fun d hd=>hds d (List.mem_of_mem_take hd)) hl.nt (hl.dv _)
 rw[List.length_take,Nat.min_eq_left hl.1] at h1 h2
 exact⟨a,c,h1,h2,hg⟩
theorem backSame {w:World} {ra za:Option Addr} {j rc zc k B:Nat} {ds:List Int} (RR:RI w ra j rc ds) (hl:LastAt ds k) (ho:w.ownsRow B 2 1 (.slice za k zc) k (iz (ds.take k))) (hk:k<=j) :
  Calls Try.prog 11 #[.slice za k zc,.slice ra k rc] w fun e w'=>e = .returned (.bool true)/\Gr w w':=by
 obtain⟨a,c,hEq,hri,_⟩:=RI.of_owns ho
 simp only[Value.slice.injEq,true_and] at hEq
 obtain⟨rfl,rfl⟩:=hEq
 exact sameC k zc rc za ra (ds.take k) w hri (RR.takeR hk)
set_option maxRecDepth 8000 in
set_option maxHeartbeats 8000000 in
theorem backW (s:Bool) (ad:Option Addr) (n cap:Nat) (xs:List Nat) (aa:Option Addr) (la ca:Nat) (ls:List Int) (bits:Int) (w:World) (rx:Row w ad n cap xs) (hx:∀x∈xs,x<18446744073709551616) (hl:RI w aa la ca ls) (hv:∀v∈ls,-9223372036854775808<=v/\v<=9223372036854775807) :
  Calls Try.prog 6 #[.agg #[.bool s,.slice ad n cap],.slice aa la ca,.int .i64 bits] w fun r w'=>r = .returned (.bool true)/\Gr w w':=by
 obtain⟨p,hp,PK⟩:=pickD 29 bits (by omega) (by omega)
 rw[show((29:Nat):Int)=29 from rfl] at PK
 have PK:=hide PK
 have AW:=hide (fun w=>awakeC w)
 have GP:Gr w (w.alloc (.cells #[.bool s,.slice ad n cap] 24)):=(Gr.refl w).alloc _
 have hla:la<=9223372036854775807:=by have:=hl.le;have:=hl.max;unfold maxLen at this;omega
 have BX:=hide (bx2 (blk1 w (.cells #[.bool s,.slice ad n cap] 24)))
 by_cases h3:(300:Int)<(n:Int)
 ·clear rx hx hl hv
  go_enter Try.func6,Try.ntmps6
  go_wp2_with (first|(go_at_call 7;with_reducible refine(AW.out _).mono ?_;rintro e w1 ⟨rfl,g1⟩;have c0:=keepG g1 BX.out.1;have c1:=keepG g1 BX.out.2))
  go_ret
  exact⟨rfl,GP.trans g1⟩
 by_cases h4:(2000:Int)<(la:Int)
 ·clear rx hx hl hv
  go_enter Try.func6,Try.ntmps6
  go_wp2_with (first|(go_at_call 7;with_reducible refine(AW.out _).mono ?_;rintro e w1 ⟨rfl,g1⟩;have c0:=keepG g1 BX.out.1;have c1:=keepG g1 BX.out.2))
  go_ret
  exact⟨rfl,GP.trans g1⟩
 have LS:Hid (RI w aa la ca ls):=hl
 have RX:Hid (Row w ad n cap xs):=rx
 have HV:Hid (∀v∈ls,-9223372036854775808<=v/\v<=9223372036854775807):=hv
 have HX:Hid (∀x∈xs,x<18446744073709551616):=hx
 have CI:Hid (∀w1,Gr w w1->Calls Try.prog 19 #[.agg #[.bool s,.slice ad n cap]] w1 fun r w'=>∃ad' cap',r = .returned (.agg #[.bool s,.slice ad' n cap'])/\Hid (Row w' ad' n cap' xs)/\Gr w1 w'):=fun w1 g=>copyIntC s ad n cap xs w1 (rx.gr g) (by omega)
 clear rx hl hv hx
 go_enter Try.func6,Try.ntmps6
 go_wp2_with (first|(go_at_call 7;with_reducible refine(AW.out _).mono ?_;rintro e w1 ⟨rfl,g1⟩;have c0:=keepG g1 BX.out.1;have c1:=keepG g1 BX.out.2)|(go_at_call 18;with_reducible refine(PK.out _).mono ?_;rintro e w2 ⟨rfl,rfl⟩)|(go_at_call 19;(with_reducible refine(CI.out _ (GP.trans g1)).mono ?_);rintro e w3 ⟨ad3,cap3,rfl,R3,g3⟩))
 obtain⟨hh,hh2,hwr⟩:=half_at hp
 rw[hwr]
 clear hwr
 have hB:(2:Int) ^ (2+p)=2*2 ^ (1+p):=by rw[show 2+p=(1+p)+1 by omega,Int.pow_succ];omega
 have hhb:(2:Int) ^ (1+p)=2 ^ (2+p-1):=by rw[show 2+p-1=1+p by omega]
 obtain⟨h,hdef⟩:∃h:Int,(2:Int) ^ (1+p)=h:=⟨_,rfl⟩
 rw[hdef] at hh hh2 hB hhb ⊢
 clear hdef
 replace hB:=hide hB
 replace hhb:=hide hhb
 have c0:=keepG g3 c0
 have c1:=keepG g3 c1
 by_cases hR:RightN s xs
 ·have WX:Hid (∀w1,Gr w w1->Wh w1 s ad n cap (iv s (nv 18446744073709551616 xs))):=fun w1 g=>Wh.of (RX.out.gr g) HX.out hR
  have hlen:xs.length=n:=RX.out.len
  have XL:Hid ((iv s (nv 18446744073709551616 xs)).natAbs<2 ^ (64*n)):=by
   show _<_
   have h1:=nv_lt 18446744073709551616 xs HX.out
   rw[hlen,show(18446744073709551616:Nat)=2 ^ 64 by decide,<-Nat.pow_mul] at h1
   rw[iv_abs];rw[show(18446744073709551616:Nat)=2 ^ 64 by decide];exact h1
  have DC:=digitsC s ad3 n cap3 xs (2+p) h w3 R3.out HX.out hR (by omega) (by omega) hB.out hh hh2 hhb.out
  rw[show((2+p:Nat):Int)=2+(p:Int) by omega] at DC
  have XT:=hide (WX.out w (Gr.refl w)).lt
  generalize iv s (nv 18446744073709551616 xs)=X at *
  have RT:Hid (∀w1,Gr w w1->Calls Try.prog 20 #[.agg #[.bool s,.slice ad n cap]] w1 fun r w'=>r = .returned (.bool true)/\Gr w1 w'):=fun w1 g=>rightW (WX.out w1 g)
  refine DC.mono ?_
  clear DC
  rintro e w4 ⟨⟨da,k0,dc,es,rfl,OE,E1,E2,E3⟩,g4⟩
  obtain⟨da',dc',hEq,RE,_⟩:=RI.of_owns OE
  simp only[Value.slice.injEq,true_and] at hEq
  obtain⟨rfl,rfl⟩:=hEq
  have hk0:=len_digits (L:=n) (by omega) hB.out.symm RE.len (fun d hd=>⟨(E1 d hd).1,by have:=(E1 d hd).2;omega⟩) E2 E3 XL.out
  obtain⟨q,hq0⟩:∃q:Nat,64*n / (2+p)=q:=⟨_,rfl⟩
  rw[hq0] at hk0
  have hqn:q<=9600:=by rw[<-hq0];exact Nat.le_trans (Nat.div_le_div_left (show 2<=2+p by omega) (by omega)) (by omega)
  have hq:(64*(n:Int)).tdiv (2+(p:Int))=(q:Int):=by
   rw[<-hq0];rw[Int.tdiv_eq_ediv_of_nonneg (by omega)];simp
  have hkq:¬(q:Int)+2<(k0:Int):=by omega
  have p1:((2+(p:Int))==0)=false:=by simp;omega
  have p2:¬(2+(p:Int))=0:=by omega
  have hkk:k0<=dc:=RE.le
  replace RE:=hide RE
  replace E1:=hide E1
  replace E2:=hide E2
  replace E3:=hide E3
  clear OE XL hq0
  have c0:=keepG g4 c0
  have c1:=keepG g4 c1
  have GQ0:Gr w w4:=((GP.trans g1).trans g3).trans g4
  have R0:Hid (Gr w w4):=GQ0
  have WD:Hid (∀w1,Gr w4 w1->Calls Try.prog 14 #[.slice da k0 dc,.int .i64 (2+(p:Int))] w1 fun e w'=>∃a b' c d,e = .returned (.tuple #[.agg #[.bool a,.slice b' c d],.int .i64 0])/\Hid (Wh w' a b' c d X)/\Gr w1 w'):=fun w1 g=>by
   have:=backWhole (w:=w1) hB.out hp hh hh2 hhb.out E1.out (RE.out.gr g) (by omega) (by rw[E3.out];exact XT.out)
   rw[E3.out] at this
   exact this
  by_cases hk9:k0=0
  ·subst hk9
   go_wp2_with (go_at_call 20;(with_reducible refine(RT.out _ R0.out).mono ?_);rintro e w5 ⟨rfl,g5⟩;have c2:=keepG g5 c0;have c3:=keepG g5 c1)
   go_loop [11] (fun t=>∃j:Nat,j<=0/\t = .int .i64 (j:Int)) (fun t=>0-(intOf t).toNat)
   case atStart=>exact⟨0,by omega,rfl⟩
   case round =>
    obtain⟨j0,hj0,rfl⟩:=hrel
    by_cases hlt0:(j0:Int)<(0:Int)
    ·omega
    ·obtain rfl:j0=0:=by omega
     have GW5:Hid (Gr w w5):=R0.out.trans g5
     have SX:Hid (∀w1,Gr w5 w1->∀t b c d,Wh w1 t b c d X->Calls Try.prog 16 #[.agg #[.bool s,.slice ad n cap],.agg #[.bool t,.slice b c d]] w1 fun r w'=>r = .returned (.bool true)/\Gr w1 w'):=fun w1 g t b c d hw=>sameTC rfl (WX.out w1 (GW5.out.trans g)) hw
     go_wp2_with (first|(go_at_call 14;(with_reducible refine(WD.out _ g5).mono ?_);rintro e w9 ⟨va,vb,vc,vd,rfl,V9,g9⟩;have y0:=(bx2 (blk1 w9 (.cells #[.bool va,.slice vb vc vd] 24))).1;have y1:=(bx2 (blk1 w9 (.cells #[.bool va,.slice vb vc vd] 24))).2;have x0:=keepG (g9.alloc (.cells #[.bool va,.slice vb vc vd] 24)) c2;have x1:=keepG (g9.alloc (.cells #[.bool va,.slice vb vc vd] 24)) c3)|(go_at_call 16;(with_reducible refine(SX.out _ (g9.alloc _) _ _ _ _ (V9.out.gr ((Gr.refl w9).alloc _))).mono ?_);rintro e wq ⟨rfl,g10⟩;have GQ:Hid (Gr w wq):=(GW5.out.trans (g9.alloc _)).trans g10))
     have LQ:Hid (RI wq aa la ca ls):=LS.out.gr GQ.out
     go_wp2
     go_loopw [14,15,16] (fun v l i wr=>∃(j k:Nat) (ds:List Int),j<=la/\k<=j/\l = .int .i64 (k:Int)/\i = .int .i64 (j:Int)/\Hid (ds.length=j)/\Hid (wr.ownsRow w.heap.size 2 1 v j (iz ds))/\Hid (∀d∈ds,-h<=d/\d<h)/\Hid (LastAt ds k)/\Hid (Gr w wr)) (fun _ _ i _=>la-(intOf i).toNat)
     case atStart=>exact⟨0,0,[],by omega,by omega,rfl,rfl,rfl,World.ownsRow_nil _ _ _ _,(fun x hx=>by cases hx),LastAt.nil,GQ.out⟩
     case round =>
      obtain⟨j,k,ds,hj,hk,rfl,rfl,hdl,hown,hds,hlast,hg⟩:=hrel
      have hsz:=hg.out.size
      by_cases hlt:(j:Int)<(la:Int)
      ·cases haa:aa with
       | none=>have:=(LS.out.nil haa).1;omega
       | some ab =>
        have hcell:=((LS.out.gr hg.out).cell ab haa j (by omega)).2
        have hvr:=HV.out (ls.getD j 0) (getD_memI (by have:=LS.out.len;omega))
        subst haa
        generalize ls.getD j 0=v at *
        have T:=tm_bd hh v
        have d1:(2*h==0)=false:=by simp;omega
        have d2:¬2*h=0:=by omega
        have d3:¬h=0:=by omega
        by_cases t1:h<=v.tmod (2*h)
        ·have hy : -h<=v.tmod (2*h)-2*h/\v.tmod (2*h)-2*h<h:=by omega
         have t3:¬v.tmod (2*h)-2*h < -h:=by omega
         have t4:v.tmod (2*h)-2*h≠0:=by omega
         have t5:(v.tmod (2*h)-2*h==0)=false:=by simpa using t4
         go_wp2_with (at_builtin;refine wpList_pushI rfl _ _ rfl hown.out _ rfl rfl (by omega) (by omega) ?_)
         intro v' w' hown' hgr
         have HO:=hide hown'
         clear hown'
         go_wp2
         go_roundw
         case rel=>exact⟨j+1,j+1,ds++[v.tmod (2*h)-2*h],by omega,by omega,by go_num,by go_num,(by show _=_;rw[List.length_append,hdl.out];rfl),HO,dig_push hds.out hy,(by have:=LastAt.push (ds:=ds) t4;rw[hdl.out] at this;exact this),hgr w hg.out (Nat.le_refl _)⟩
         case measure=>simp only[intOf];omega
        ·by_cases t2:v.tmod (2*h) < -h
         ·have hy : -h<=v.tmod (2*h)+2*h/\v.tmod (2*h)+2*h<h:=by omega
          have t4:v.tmod (2*h)+2*h≠0:=by omega
          have t5:(v.tmod (2*h)+2*h==0)=false:=by simpa using t4
          go_wp2_with (at_builtin;refine wpList_pushI rfl _ _ rfl hown.out _ rfl rfl (by omega) (by omega) ?_)
          intro v' w' hown' hgr
          have HO:=hide hown'
          clear hown'
          go_wp2
          go_roundw
          case rel=>exact⟨j+1,j+1,ds++[v.tmod (2*h)+2*h],by omega,by omega,by go_num,by go_num,(by show _=_;rw[List.length_append,hdl.out];rfl),HO,dig_push hds.out hy,(by have:=LastAt.push (ds:=ds) t4;rw[hdl.out] at this;exact this),hgr w hg.out (Nat.le_refl _)⟩
          case measure=>simp only[intOf];omega
         ·have hy : -h<=v.tmod (2*h)/\v.tmod (2*h)<h:=by omega
          by_cases t4:v.tmod (2*h)=0
          ·have hy0 : -h<=(0:Int)/\(0:Int)<h:=by omega
           have t6:¬h<=(0:Int):=by omega
           have t7:¬(0:Int) < -h:=by omega
           go_wp2_with (at_builtin;refine wpList_pushI rfl _ _ rfl hown.out _ rfl rfl (by omega) (by omega) ?_)
           intro v' w' hown' hgr
           have HO:=hide hown'
           clear hown'
           go_wp2
           go_roundw
           case rel=>exact⟨j+1,k,_,by omega,by omega,rfl,by go_num,(by show _=_;rw[List.length_append,hdl.out];rfl),HO,dig_push hds.out (by first|exact hy0|exact hy),(by show LastAt _ _;first|exact hlast.out.push0|(rw[t4];exact hlast.out.push0)),hgr w hg.out (Nat.le_refl _)⟩
           case measure=>simp only[intOf];omega
          ·have t5:(v.tmod (2*h)==0)=false:=by simpa using t4
           go_wp2_with (at_builtin;refine wpList_pushI rfl _ _ rfl hown.out _ rfl rfl (by omega) (by omega) ?_)
           intro v' w' hown' hgr
           have HO:=hide hown'
           clear hown'
           go_wp2
           go_roundw
           case rel=>exact⟨j+1,j+1,ds++[v.tmod (2*h)],by omega,by omega,by go_num,by go_num,(by show _=_;rw[List.length_append,hdl.out];rfl),HO,dig_push hds.out hy,(by have:=LastAt.push (ds:=ds) t4;rw[hdl.out] at this;exact this),hgr w hg.out (Nat.le_refl _)⟩
           case measure=>simp only[intOf];omega
      ·obtain rfl:j=la:=by omega
       obtain⟨ra,rc,rfl,RR,_⟩:=RI.of_owns hown.out
       have RR:=hide RR
       have hrc:j<=rc:=RR.out.le
       have hrm:rc<=9223372036854775807:=by have:=RR.out.max;unfold maxLen at this;omega
       clear hown
       have WC:Hid (Calls Try.prog 14 #[.slice ra j rc,.int .i64 (2+(p:Int))] _ fun e w'=>∃a b' c d,e = .returned (.tuple #[.agg #[.bool a,.slice b' c d],.int .i64 0])/\Hid (Wh w' a b' c d (dv (2*h) ds))/\Gr _ w'):=backWhole hB.out hp hh hh2 hhb.out hds.out RR.out (by omega) (dv_fits hB.out (by omega) hh hds.out (by have:=hdl.out;omega))
       go_wp2_with (first|(go_at_call 14;(with_reducible refine WC.out.mono ?_);rintro e w6 ⟨ya,yb,yc,yd,rfl,Y6,g6⟩;have y0:=(bx2 (blk1 w6 (.cells #[.bool ya,.slice yb yc yd] 24))).1;have y1:=(bx2 (blk1 w6 (.cells #[.bool ya,.slice yb yc yd] 24))).2)|(go_at_call 9;fail))
       have DG:=hide (backDigits hB.out hp hh hh2 hhb.out hds.out hlast.out (Y6.out.gr ((Gr.refl w6).alloc (.cells #[.bool ya,.slice yb yc yd] 24))))
       refine DG.out.mono ?_
       rintro e w7 ⟨za,zc,rfl,O7,g7⟩
       have SC:=hide (backSame ((((RR.out.gr g6).gr ((Gr.refl _).alloc _)).gr g7)) hlast.out O7.out hk)
       go_wp2_with (go_at_call 11;(with_reducible refine SC.out.mono ?_);rintro e w8 ⟨rfl,g8⟩)
       go_ret
       exact⟨rfl,(((hg.out.trans g6).trans ((Gr.refl _).alloc _)).trans g7).trans g8⟩
  ·cases hda:da with
   | none=>have:=(RE.out.nil hda).1;omega
   | some db =>
    subst hda
    obtain⟨u9,hu9⟩:∃u,es.getD (k0-1) 0=u:=⟨_,rfl⟩
    have hu0:(u9==0)=false:=by
     have:=E2.out (k0-1) (by have:=RE.out.len;omega)
     rw[hu9] at this
     simpa using this
    have LC:Hid (∀w1,Gr w4 w1->w1.cell? (db.add (k0-1))=some (.int .i64 u9)):=fun w1 g=>by rw[<-hu9];exact((RE.out.gr g).cell db rfl (k0-1) (by omega)).2
    have hk8:(0:Int)<(k0:Int):=by omega
    clear hu9
    go_wp2_with (go_at_call 20;(with_reducible refine(RT.out _ R0.out).mono ?_);rintro e w5 ⟨rfl,g5⟩;have c2:=keepG g5 c0;have c3:=keepG g5 c1;have lc:=LC.out _ g5)
    go_loop [11] (fun t=>∃j:Nat,j<=k0/\t = .int .i64 (j:Int)) (fun t=>k0-(intOf t).toNat)
    case atStart=>exact⟨0,by omega,rfl⟩
    case round =>
     obtain⟨j0,hj0,rfl⟩:=hrel
     by_cases hlt0:(j0:Int)<(k0:Int)
     ·have hc:=((RE.out.gr g5).cell db rfl j0 (by omega)).2
      have hr:=E1.out (es.getD j0 0) (getD_memI (by have:=RE.out.len;omega))
      generalize es.getD j0 0=u at *
      have u1:¬u < -h:=by omega
      have u2:¬h<=u:=by omega
      go_wp2
      go_round
      case rel=>exact⟨j0+1,by omega,by go_num⟩
      case measure=>simp only[intOf];omega
     ·obtain rfl:j0=k0:=by omega
      have GW5:Hid (Gr w w5):=R0.out.trans g5
      have SX:Hid (∀w1,Gr w5 w1->∀t b c d,Wh w1 t b c d X->Calls Try.prog 16 #[.agg #[.bool s,.slice ad n cap],.agg #[.bool t,.slice b c d]] w1 fun r w'=>r = .returned (.bool true)/\Gr w1 w'):=fun w1 g t b c d hw=>sameTC rfl (WX.out w1 (GW5.out.trans g)) hw
      go_wp2_with (first|(go_at_call 14;(with_reducible refine(WD.out _ g5).mono ?_);rintro e w9 ⟨va,vb,vc,vd,rfl,V9,g9⟩;have y0:=(bx2 (blk1 w9 (.cells #[.bool va,.slice vb vc vd] 24))).1;have y1:=(bx2 (blk1 w9 (.cells #[.bool va,.slice vb vc vd] 24))).2;have x0:=keepG (g9.alloc (.cells #[.bool va,.slice vb vc vd] 24)) c2;have x1:=keepG (g9.alloc (.cells #[.bool va,.slice vb vc vd] 24)) c3)|(go_at_call 16;(with_reducible refine(SX.out _ (g9.alloc _) _ _ _ _ (V9.out.gr ((Gr.refl w9).alloc _))).mono ?_);rintro e wq ⟨rfl,g10⟩;have GQ:Hid (Gr w wq):=(GW5.out.trans (g9.alloc _)).trans g10))
      have LQ:Hid (RI wq aa la ca ls):=LS.out.gr GQ.out
      go_wp2
      go_loopw [14,15,16] (fun v l i wr=>∃(j k:Nat) (ds:List Int),j<=la/\k<=j/\l = .int .i64 (k:Int)/\i = .int .i64 (j:Int)/\Hid (ds.length=j)/\Hid (wr.ownsRow w.heap.size 2 1 v j (iz ds))/\Hid (∀d∈ds,-h<=d/\d<h)/\Hid (LastAt ds k)/\Hid (Gr w wr)) (fun _ _ i _=>la-(intOf i).toNat)
      case atStart=>exact⟨0,0,[],by omega,by omega,rfl,rfl,rfl,World.ownsRow_nil _ _ _ _,(fun x hx=>by cases hx),LastAt.nil,GQ.out⟩
      case round =>
       obtain⟨j,k,ds,hj,hk,rfl,rfl,hdl,hown,hds,hlast,hg⟩:=hrel
       have hsz:=hg.out.size
       by_cases hlt:(j:Int)<(la:Int)
       ·cases haa:aa with
        | none=>have:=(LS.out.nil haa).1;omega
        | some ab =>
         have hcell:=((LS.out.gr hg.out).cell ab haa j (by omega)).2
         have hvr:=HV.out (ls.getD j 0) (getD_memI (by have:=LS.out.len;omega))
         subst haa
         generalize ls.getD j 0=v at *
         have T:=tm_bd hh v
         have d1:(2*h==0)=false:=by simp;omega
         have d2:¬2*h=0:=by omega
         have d3:¬h=0:=by omega
         by_cases t1:h<=v.tmod (2*h)
         ·have hy : -h<=v.tmod (2*h)-2*h/\v.tmod (2*h)-2*h<h:=by omega
          have t3:¬v.tmod (2*h)-2*h < -h:=by omega
          have t4:v.tmod (2*h)-2*h≠0:=by omega
          have t5:(v.tmod (2*h)-2*h==0)=false:=by simpa using t4
          go_wp2_with (at_builtin;refine wpList_pushI rfl _ _ rfl hown.out _ rfl rfl (by omega) (by omega) ?_)
          intro v' w' hown' hgr
          have HO:=hide hown'
          clear hown'
          go_wp2
          go_roundw
          case rel=>exact⟨j+1,j+1,ds++[v.tmod (2*h)-2*h],by omega,by omega,by go_num,by go_num,(by show _=_;rw[List.length_append,hdl.out];rfl),HO,dig_push hds.out hy,(by have:=LastAt.push (ds:=ds) t4;rw[hdl.out] at this;exact this),hgr w hg.out (Nat.le_refl _)⟩
          case measure=>simp only[intOf];omega
         ·by_cases t2:v.tmod (2*h) < -h
          ·have hy : -h<=v.tmod (2*h)+2*h/\v.tmod (2*h)+2*h<h:=by omega
           have t4:v.tmod (2*h)+2*h≠0:=by omega
           have t5:(v.tmod (2*h)+2*h==0)=false:=by simpa using t4
           go_wp2_with (at_builtin;refine wpList_pushI rfl _ _ rfl hown.out _ rfl rfl (by omega) (by omega) ?_)
           intro v' w' hown' hgr
           have HO:=hide hown'
           clear hown'
           go_wp2
           go_roundw
           case rel=>exact⟨j+1,j+1,ds++[v.tmod (2*h)+2*h],by omega,by omega,by go_num,by go_num,(by show _=_;rw[List.length_append,hdl.out];rfl),HO,dig_push hds.out hy,(by have:=LastAt.push (ds:=ds) t4;rw[hdl.out] at this;exact this),hgr w hg.out (Nat.le_refl _)⟩
           case measure=>simp only[intOf];omega
          ·have hy : -h<=v.tmod (2*h)/\v.tmod (2*h)<h:=by omega
           by_cases t4:v.tmod (2*h)=0
           ·have hy0 : -h<=(0:Int)/\(0:Int)<h:=by omega
            have t6:¬h<=(0:Int):=by omega
            have t7:¬(0:Int) < -h:=by omega
            go_wp2_with (at_builtin;refine wpList_pushI rfl _ _ rfl hown.out _ rfl rfl (by omega) (by omega) ?_)
            intro v' w' hown' hgr
            have HO:=hide hown'
            clear hown'
            go_wp2
            go_roundw
            case rel=>exact⟨j+1,k,_,by omega,by omega,rfl,by go_num,(by show _=_;rw[List.length_append,hdl.out];rfl),HO,dig_push hds.out (by first|exact hy0|exact hy),(by show LastAt _ _;first|exact hlast.out.push0|(rw[t4];exact hlast.out.push0)),hgr w hg.out (Nat.le_refl _)⟩
            case measure=>simp only[intOf];omega
           ·have t5:(v.tmod (2*h)==0)=false:=by simpa using t4
            go_wp2_with (at_builtin;refine wpList_pushI rfl _ _ rfl hown.out _ rfl rfl (by omega) (by omega) ?_)
            intro v' w' hown' hgr
            have HO:=hide hown'
            clear hown'
            go_wp2
            go_roundw
            case rel=>exact⟨j+1,j+1,ds++[v.tmod (2*h)],by omega,by omega,by go_num,by go_num,(by show _=_;rw[List.length_append,hdl.out];rfl),HO,dig_push hds.out hy,(by have:=LastAt.push (ds:=ds) t4;rw[hdl.out] at this;exact this),hgr w hg.out (Nat.le_refl _)⟩
            case measure=>simp only[intOf];omega
       ·obtain rfl:j=la:=by omega
        obtain⟨ra,rc,rfl,RR,_⟩:=RI.of_owns hown.out
        have RR:=hide RR
        have hrc:j<=rc:=RR.out.le
        have hrm:rc<=9223372036854775807:=by have:=RR.out.max;unfold maxLen at this;omega
        clear hown
        have WC:Hid (Calls Try.prog 14 #[.slice ra j rc,.int .i64 (2+(p:Int))] _ fun e w'=>∃a b' c d,e = .returned (.tuple #[.agg #[.bool a,.slice b' c d],.int .i64 0])/\Hid (Wh w' a b' c d (dv (2*h) ds))/\Gr _ w'):=backWhole hB.out hp hh hh2 hhb.out hds.out RR.out (by omega) (dv_fits hB.out (by omega) hh hds.out (by have:=hdl.out;omega))
        go_wp2_with (first|(go_at_call 14;(with_reducible refine WC.out.mono ?_);rintro e w6 ⟨ya,yb,yc,yd,rfl,Y6,g6⟩;have y0:=(bx2 (blk1 w6 (.cells #[.bool ya,.slice yb yc yd] 24))).1;have y1:=(bx2 (blk1 w6 (.cells #[.bool ya,.slice yb yc yd] 24))).2)|(go_at_call 9;fail))
        have DG:=hide (backDigits hB.out hp hh hh2 hhb.out hds.out hlast.out (Y6.out.gr ((Gr.refl w6).alloc (.cells #[.bool ya,.slice yb yc yd] 24))))
        refine DG.out.mono ?_
        rintro e w7 ⟨za,zc,rfl,O7,g7⟩
        have SC:=hide (backSame ((((RR.out.gr g6).gr ((Gr.refl _).alloc _)).gr g7)) hlast.out O7.out hk)
        go_wp2_with (go_at_call 11;(with_reducible refine SC.out.mono ?_);rintro e w8 ⟨rfl,g8⟩)
        go_ret
        exact⟨rfl,(((hg.out.trans g6).trans ((Gr.refl _).alloc _)).trans g7).trans g8⟩
 ·have DN:Hid (Calls Try.prog 9 #[.agg #[.bool s,.slice ad3 n cap3],.int .i64 (2+(p:Int))] w3 fun e w'=>e = .returned (.tuple #[.slice none 0 0,.int .i64 2])/\Gr w3 w'):=digitsN s ad3 n cap3 xs (2+(p:Int)) w3 R3.out (fun h=>hR h.1)
  have RT:Hid (∀w1,Gr w w1->Calls Try.prog 20 #[.agg #[.bool s,.slice ad n cap]] w1 fun r w'=>r = .returned (.bool false)/\Gr w1 w'):=fun w1 g=>by
   have:=rightL s ad n cap xs w1 (RX.out.gr g)
   rw[rightN_f hR] at this
   exact this
  refine DN.out.mono ?_
  rintro e w4 ⟨rfl,g4⟩
  have c0:=keepG g4 c0
  have c1:=keepG g4 c1
  have GQ0:Gr w w4:=((GP.trans g1).trans g3).trans g4
  go_wp2_with (go_at_call 20;(with_reducible refine(RT.out _ GQ0).mono ?_);rintro e wq ⟨rfl,g5⟩;have GQ:Hid (Gr w wq):=GQ0.trans g5;clear g5)
  have LQ:Hid (RI wq aa la ca ls):=LS.out.gr GQ.out
  go_wp2
  go_loopw [14,15,16] (fun v l i wr=>∃(j k:Nat) (ds:List Int),j<=la/\k<=j/\l = .int .i64 (k:Int)/\i = .int .i64 (j:Int)/\Hid (ds.length=j)/\Hid (wr.ownsRow w.heap.size 2 1 v j (iz ds))/\Hid (∀d∈ds,-h<=d/\d<h)/\Hid (LastAt ds k)/\Hid (Gr w wr)) (fun _ _ i _=>la-(intOf i).toNat)
  case atStart=>exact⟨0,0,[],by omega,by omega,rfl,rfl,rfl,World.ownsRow_nil _ _ _ _,(fun x hx=>by cases hx),LastAt.nil,GQ.out⟩
  case round =>
   obtain⟨j,k,ds,hj,hk,rfl,rfl,hdl,hown,hds,hlast,hg⟩:=hrel
   have hsz:=hg.out.size
   by_cases hlt:(j:Int)<(la:Int)
   ·cases haa:aa with
    | none=>have:=(LS.out.nil haa).1;omega
    | some ab =>
     have hcell:=((LS.out.gr hg.out).cell ab haa j (by omega)).2
     have hvr:=HV.out (ls.getD j 0) (getD_memI (by have:=LS.out.len;omega))
     subst haa
     generalize ls.getD j 0=v at *
     have T:=tm_bd hh v
     have d1:(2*h==0)=false:=by simp;omega
     have d2:¬2*h=0:=by omega
     have d3:¬h=0:=by omega
     by_cases t1:h<=v.tmod (2*h)
     ·have hy : -h<=v.tmod (2*h)-2*h/\v.tmod (2*h)-2*h<h:=by omega
      have t3:¬v.tmod (2*h)-2*h < -h:=by omega
      have t4:v.tmod (2*h)-2*h≠0:=by omega
      have t5:(v.tmod (2*h)-2*h==0)=false:=by simpa using t4
      go_wp2_with (at_builtin;refine wpList_pushI rfl _ _ rfl hown.out _ rfl rfl (by omega) (by omega) ?_)
      intro v' w' hown' hgr
      have HO:=hide hown'
      clear hown'
      go_wp2
      go_roundw
      case rel=>exact⟨j+1,j+1,ds++[v.tmod (2*h)-2*h],by omega,by omega,by go_num,by go_num,(by show _=_;rw[List.length_append,hdl.out];rfl),HO,dig_push hds.out hy,(by have:=LastAt.push (ds:=ds) t4;rw[hdl.out] at this;exact this),hgr w hg.out (Nat.le_refl _)⟩
      case measure=>simp only[intOf];omega
     ·by_cases t2:v.tmod (2*h) < -h
      ·have hy : -h<=v.tmod (2*h)+2*h/\v.tmod (2*h)+2*h<h:=by omega
       have t4:v.tmod (2*h)+2*h≠0:=by omega
       have t5:(v.tmod (2*h)+2*h==0)=false:=by simpa using t4
       go_wp2_with (at_builtin;refine wpList_pushI rfl _ _ rfl hown.out _ rfl rfl (by omega) (by omega) ?_)
       intro v' w' hown' hgr
       have HO:=hide hown'
       clear hown'
       go_wp2
       go_roundw
       case rel=>exact⟨j+1,j+1,ds++[v.tmod (2*h)+2*h],by omega,by omega,by go_num,by go_num,(by show _=_;rw[List.length_append,hdl.out];rfl),HO,dig_push hds.out hy,(by have:=LastAt.push (ds:=ds) t4;rw[hdl.out] at this;exact this),hgr w hg.out (Nat.le_refl _)⟩
       case measure=>simp only[intOf];omega
      ·have hy : -h<=v.tmod (2*h)/\v.tmod (2*h)<h:=by omega
       by_cases t4:v.tmod (2*h)=0
       ·have hy0 : -h<=(0:Int)/\(0:Int)<h:=by omega
        have t6:¬h<=(0:Int):=by omega
        have t7:¬(0:Int) < -h:=by omega
        go_wp2_with (at_builtin;refine wpList_pushI rfl _ _ rfl hown.out _ rfl rfl (by omega) (by omega) ?_)
        intro v' w' hown' hgr
        have HO:=hide hown'
        clear hown'
        go_wp2
        go_roundw
        case rel=>exact⟨j+1,k,_,by omega,by omega,rfl,by go_num,(by show _=_;rw[List.length_append,hdl.out];rfl),HO,dig_push hds.out (by first|exact hy0|exact hy),(by show LastAt _ _;first|exact hlast.out.push0|(rw[t4];exact hlast.out.push0)),hgr w hg.out (Nat.le_refl _)⟩
        case measure=>simp only[intOf];omega
       ·have t5:(v.tmod (2*h)==0)=false:=by simpa using t4
        go_wp2_with (at_builtin;refine wpList_pushI rfl _ _ rfl hown.out _ rfl rfl (by omega) (by omega) ?_)
        intro v' w' hown' hgr
        have HO:=hide hown'
        clear hown'
        go_wp2
        go_roundw
        case rel=>exact⟨j+1,j+1,ds++[v.tmod (2*h)],by omega,by omega,by go_num,by go_num,(by show _=_;rw[List.length_append,hdl.out];rfl),HO,dig_push hds.out hy,(by have:=LastAt.push (ds:=ds) t4;rw[hdl.out] at this;exact this),hgr w hg.out (Nat.le_refl _)⟩
        case measure=>simp only[intOf];omega
   ·obtain rfl:j=la:=by omega
    obtain⟨ra,rc,rfl,RR,_⟩:=RI.of_owns hown.out
    have RR:=hide RR
    have hrc:j<=rc:=RR.out.le
    have hrm:rc<=9223372036854775807:=by have:=RR.out.max;unfold maxLen at this;omega
    clear hown
    have WC:Hid (Calls Try.prog 14 #[.slice ra j rc,.int .i64 (2+(p:Int))] _ fun e w'=>∃a b' c d,e = .returned (.tuple #[.agg #[.bool a,.slice b' c d],.int .i64 0])/\Hid (Wh w' a b' c d (dv (2*h) ds))/\Gr _ w'):=backWhole hB.out hp hh hh2 hhb.out hds.out RR.out (by omega) (dv_fits hB.out (by omega) hh hds.out (by have:=hdl.out;omega))
    go_wp2_with (first|(go_at_call 14;(with_reducible refine WC.out.mono ?_);rintro e w6 ⟨ya,yb,yc,yd,rfl,Y6,g6⟩;have y0:=(bx2 (blk1 w6 (.cells #[.bool ya,.slice yb yc yd] 24))).1;have y1:=(bx2 (blk1 w6 (.cells #[.bool ya,.slice yb yc yd] 24))).2)|(go_at_call 9;fail))
    have DG:=hide (backDigits hB.out hp hh hh2 hhb.out hds.out hlast.out (Y6.out.gr ((Gr.refl w6).alloc (.cells #[.bool ya,.slice yb yc yd] 24))))
    refine DG.out.mono ?_
    rintro e w7 ⟨za,zc,rfl,O7,g7⟩
    have SC:=hide (backSame ((((RR.out.gr g6).gr ((Gr.refl _).alloc _)).gr g7)) hlast.out O7.out hk)
    go_wp2_with (go_at_call 11;(with_reducible refine SC.out.mono ?_);rintro e w8 ⟨rfl,g8⟩)
    go_ret
    exact⟨rfl,(((hg.out.trans g6).trans ((Gr.refl _).alloc _)).trans g7).trans g8⟩
end Go.Proofs.Ytfbgckgemfkioaa
namespace Go.Proofs.Ytfbgckgemfkioaa
theorem backP {w:World} (s:Bool) (ad:Option Addr) (n cap:Nat) (xs:List Nat) (rx:Row w ad n cap xs) (hx:∀x∈xs,x<18446744073709551616) (aa:Option Addr) (la ca:Nat) (ls:List Int) (hl:RI w aa la ca ls) (hv:∀v∈ls,-9223372036854775808<=v/\v<=9223372036854775807) (bits:Int) (_ : -9223372036854775808<=bits) (_:bits<=9223372036854775807) :
  Calls Try.prog 6 #[.agg #[.bool s,.slice ad n cap],.slice aa la ca,.int .i64 bits] w fun r w'=>r = .returned (.bool true)/\Gr w w':=
 backW s ad n cap xs aa la ca ls bits w rx hx hl hv
end Go.Proofs.Ytfbgckgemfkioaa
