import Derived.Test.YtfbgckgemfkioaaDoorV18
namespace Go.Proofs.YtfbgckgemfkioaaDoor
open Go.RowKit
set_option linter.unusedVariables false
set_option linter.unusedSimpArgs false
theorem half_tabS:(List.range 29).all (fun p=>decide ((2:Int)<=2 ^ (1+p)/\(2:Int) ^ (1+p)<=536870912))=true:=by decide +kernel
theorem half_atS {p:Nat} (hp:p<29):(2:Int)<=2 ^ (1+p)/\(2:Int) ^ (1+p)<=536870912:=by
 have t:=half_tabS
 rw[List.all_eq_true] at t
 exact of_decide_eq_true (t p (List.mem_range.2 hp))
theorem tm62 (v:Int) : -4611686018427387904<v.tmod 4611686018427387904/\v.tmod 4611686018427387904<4611686018427387904:=by
 have h1:=Int.lt_tmod_of_pos v (show(0:Int)<4611686018427387904 by omega)
 have h2:=Int.tmod_lt_of_pos v (show(0:Int)<4611686018427387904 by omega)
 omega
theorem wholeF {p:Nat} {h:Int} (hp:p<29) (hB:(2:Int) ^ (2+p)=2*h) (hh:2<=h) (hh2:h<=536870912) (hhb:h=2 ^ (2+p-1)) {ls:List Int} (hl:ls.length<=1000) (hv:∀v∈ls,-9223372036854775808<=v/\v<=9223372036854775807) {w:World} {ad:Option Addr} {n cap:Nat} (hr:RI w ad n cap ls) :
  Calls Tryd.prog 6 #[.slice ad n cap,.int .i64 (2+(p:Int))] w fun r w'=>∃a b c d,r = .returned (.tuple #[.agg #[.bool a,.slice b c d],.int .i64 0])/\Hid (Wh w' a b c d (dv (2*h) ls))/\Hid (Fresh w.heap.size w' b c d)/\Gr w w':=by
 have hn:=hr.len
 have:=wholeC ad n cap (2+p) ls h w hr (by omega) (by omega) hB hh hh2 hhb hv (by omega)
 rw[show((2+p:Nat):Int)=2+(p:Int) by omega] at this
 refine this.mono ?_
 rintro e w' ⟨a,b,c,d,g,h1,h2,h3⟩
 obtain⟨rfl,e2,e3⟩:=h2.out.fits (dv_fitsM hp hB hh hl (fun d hd=>by have:=hv d hd;omega))
 exact⟨a,b,c,d,h1,e2,e3,h3⟩
theorem own_one (w0:World) (y:Int):(w0.alloc (.cells #[.int .i64 y] 2)).ownsRow w0.heap.size 2 1 (.slice (some ⟨w0.heap.size,0,none⟩) 1 1) 1 (iz [y]):=
 ⟨rfl,Or.inr ⟨w0.heap.size,1,#[.int .i64 y],rfl,Nat.le_refl _,blk1 w0 _,Nat.le_refl _,by unfold maxLen;omega,rfl,rfl⟩⟩
theorem own_oneB {w0:World} {B:Nat} (h:w0.heap.size=B) (y:Int):(w0.alloc (.cells #[.int .i64 y] 2)).ownsRow w0.heap.size 2 1 (.slice (some ⟨B,0,none⟩) 1 1) 1 (iz [y]):=by
 subst h
 exact own_one w0 y
structure R4 (w0 w:World) (j:Nat) (xs ys:List Int) (vx vy vs vt:Value):Prop where
 lx:xs.length=j
 ly:ys.length=j
 bx:∀d∈xs,-4611686018427387904<d/\d<4611686018427387904
 byy:∀d∈ys,-4611686018427387904<d/\d<4611686018427387904
 ox:w.ownsRow w0.heap.size 2 1 vx j (iz xs)
 oy:w.ownsRow w0.heap.size 2 1 vy j (iz ys)
 os:w.ownsRow w0.heap.size 2 1 vs j (iz (List.zipWith (fun p q=>p+q) xs ys))
 ot:w.ownsRow w0.heap.size 2 1 vt j (iz (xs.map fun d=>-d))
 xy:ApV vx vy
 xs':ApV vx vs
 xt:ApV vx vt
 ys':ApV vy vs
 yt:ApV vy vt
 st:ApV vs vt
 gr:Gr w0 w
theorem R4.drewN {w0 w:World} {j:Nat} {xs ys:List Int} {vx vy vs vt:Value} (h:R4 w0 w j xs ys vx vy vs vt) (n:Nat):R4 w0 (w.drewN n) j xs ys vx vy vs vt:=
 ⟨h.lx,h.ly,h.bx,h.byy,h.ox,h.oy,h.os,h.ot,h.xy,h.xs',h.xt,h.ys',h.yt,h.st,h.gr.drewN n⟩
theorem zip_snoc (xs ys:List Int) (p q:Int) (h:xs.length=ys.length):List.zipWith (fun p q=>p+q) xs ys++[p+q]=List.zipWith (fun p q=>p+q) (xs++[p]) (ys++[q]):=by
 rw[List.zipWith_append h];rfl
theorem map_snoc (xs:List Int) (p:Int):xs.map (fun d=>-d)++[-p]=(xs++[p]).map fun d=>-d:=by simp
theorem bd_snoc {xs:List Int} {p:Int} (h:∀d∈xs,-4611686018427387904<d/\d<4611686018427387904) (hp : -4611686018427387904<p/\p<4611686018427387904):∀d∈xs++[p],-4611686018427387904<d/\d<4611686018427387904:=by
 intro d hd
 rcases List.mem_append.1 hd with h1|h1
 ·exact h d h1
 ·obtain rfl:d=p:=by simpa using h1
  exact hp
theorem zip_bd {xs ys:List Int} (h1:∀d∈xs,-4611686018427387904<d/\d<4611686018427387904) (h2:∀d∈ys,-4611686018427387904<d/\d<4611686018427387904):∀d∈List.zipWith (fun p q=>p+q) xs ys,-9223372036854775808<=d/\d<=9223372036854775807:=by
 intro d hd
 obtain⟨p,hp,q,hq,rfl⟩:∃p,p∈xs/\∃q,q∈ys/\p+q=d:=by
  induction xs generalizing ys with
  | nil=>simp at hd
  | cons x xs ih =>
   cases ys with
   | nil=>simp at hd
   | cons y ys =>
    rcases List.mem_cons.1 (by simpa using hd:d∈(x+y) :: List.zipWith (fun p q=>p+q) xs ys) with rfl|h
    ·exact⟨x,by simp,y,by simp,rfl⟩
    ·obtain⟨p,hp,q,hq,e⟩:=ih (fun d hd=>h1 d (List.mem_cons_of_mem _ hd)) (fun d hd=>h2 d (List.mem_cons_of_mem _ hd)) h
     exact⟨p,List.mem_cons_of_mem _ hp,q,List.mem_cons_of_mem _ hq,e⟩
 have:=h1 p hp
 have:=h2 q hq
 omega
set_option maxRecDepth 8000 in
set_option maxHeartbeats 8000000 in
theorem sumsW (aa:Option Addr) (la ca:Nat) (as0:List Int) (ba:Option Addr) (lb cb:Nat) (bs:List Int) (bits:Int) (w:World) (ha:RI w aa la ca as0) (hb:RI w ba lb cb bs) (hT:TabAt 0 Lib.deBruijn64tab w) :
  Calls Tryd.prog 3 #[.slice aa la ca,.slice ba lb cb,.int .i64 bits] w fun r w'=>r = .returned (.bool true)/\Gr w w':=by
 obtain⟨p,hp,PK⟩:=pickD 29 bits (by omega) (by omega)
 rw[show((29:Nat):Int)=29 from rfl] at PK
 replace PK:=hide PK
 have AW:=hide (fun w=>awakeC w)
 have hla:la<=9223372036854775807:=by have:=ha.le;have:=ha.max;unfold maxLen at this;omega
 have hlb:lb<=9223372036854775807:=by have:=hb.le;have:=hb.max;unfold maxLen at this;omega
 have HA:Hid (RI w aa la ca as0):=ha
 have HB:Hid (RI w ba lb cb bs):=hb
 have HT:Hid (TabAt 0 Lib.deBruijn64tab w):=hT
 obtain⟨hh,hh2⟩:=half_atS hp
 have hB:(2:Int) ^ (2+p)=2*2 ^ (1+p):=by rw[show 2+p=(1+p)+1 by omega,Int.pow_succ];omega
 have hhb:(2:Int) ^ (1+p)=2 ^ (2+p-1):=by rw[show 2+p-1=1+p by omega]
 obtain⟨h,hdef⟩:∃h:Int,(2:Int) ^ (1+p)=h:=⟨_,rfl⟩
 rw[hdef] at hh hh2 hB hhb
 clear hdef
 replace hB:=hide hB
 replace hhb:=hide hhb
 clear ha hb hT
 rcases (show(¬lb<la/\(la:Int)<=200)\/(lb<la/\(lb:Int)<=200)\/((200:Int)<la/\(200:Int)<lb) by omega) with ⟨k1,k2⟩|⟨k1,k2⟩|⟨k1,k2⟩
 ·go_enter Tryd.func3,Tryd.ntmps3
  go_wp2_with (first|(go_at_call 4;with_reducible refine(AW.out _).mono ?_;rintro e w1 ⟨rfl,g1⟩)|(go_at_call 5;with_reducible refine(PK.out _).mono ?_;rintro e w2 ⟨rfl,rfl⟩))
  go_loopw [9,10,11,12,13] (fun vx vy vs vt i wr=>∃(j:Nat) (xs ys:List Int),j<=la/\i = .int .i64 (j:Int)/\Hid (R4 w wr j xs ys vx vy vs vt)) (fun _ _ _ _ i _=>la-(intOf i).toNat)
  case atStart=>exact⟨0,[],[],by omega,rfl,⟨rfl,rfl,(fun x hx=>by cases hx),(fun x hx=>by cases hx),World.ownsRow_nil _ _ _ _,World.ownsRow_nil _ _ _ _,World.ownsRow_nil _ _ _ _,World.ownsRow_nil _ _ _ _,ApV.nil _,ApV.nil _,ApV.nil _,ApV.nil _,ApV.nil _,ApV.nil _,g1⟩⟩
  case round =>
   obtain⟨j,xs,ys,hj,rfl,R⟩:=hrel
   have hsz:=R.out.gr.size
   by_cases hlt:(j:Int)<(la:Int)
   ·cases haa:aa with
    | none=>have:=(HA.out.nil haa).1;omega
    | some xa =>
     cases hba:ba with
     | none=>have:=(HB.out.nil hba).1;omega
     | some xb =>
      have hc1:=((HA.out.gr R.out.gr).cell xa haa j (by omega)).2
      have hc2:=((HB.out.gr R.out.gr).cell xb hba j (by omega)).2
      subst haa
      subst hba
      generalize as0.getD j 0=va at *
      generalize bs.getD j 0=vb at *
      have T1:=tm62 va
      have T2:=tm62 vb
      have hja:(j:Int)<(la:Int):=by omega
      have hjb:(j:Int)<(lb:Int):=by omega
      go_wp2
      go_quiet (fail)
      generalize va.tmod 4611686018427387904=p1 at *
      generalize vb.tmod 4611686018427387904=q1 at *
      replace R:=hide (R.out.drewN nq)
      have hszq:w.heap.size<=(wr.drewN nq).heap.size:=hsz
      clear hc1 hc2
      generalize wr.drewN nq=wq at *
      have RX:=hide R.out.ox
      go_wp2_with (at_builtin;refine wpList_pushA rfl _ _ rfl RX.out _ rfl rfl (by omega) (by omega) ?_)
      intro vx' w1' ox kx gx
      have hg1:=gx w R.out.gr (Nat.le_refl _)
      obtain⟨oy1,ay1⟩:=kx _ _ _ R.out.oy R.out.xy.symm
      obtain⟨os1,as1⟩:=kx _ _ _ R.out.os R.out.xs'.symm
      obtain⟨ot1,at1⟩:=kx _ _ _ R.out.ot R.out.xt.symm
      have hs1:=hg1.size
      have OY1:=hide oy1
      clear kx gx RX
      go_wp2_with (at_builtin;refine wpList_pushA rfl _ _ rfl OY1.out _ rfl rfl (by omega) (by omega) ?_)
      intro vy' w2' oy ky gy
      have hg2:=gy w hg1 (Nat.le_refl _)
      obtain⟨ox2,ax2⟩:=ky _ _ _ ox ay1.symm
      obtain⟨os2,as2⟩:=ky _ _ _ os1 R.out.ys'.symm
      obtain⟨ot2,at2⟩:=ky _ _ _ ot1 R.out.yt.symm
      have hs2:=hg2.size
      have OS2:=hide os2
      clear ky gy oy1 OY1 ox os1 ot1
      go_wp2_with (at_builtin;refine wpList_pushA rfl _ _ rfl OS2.out _ rfl rfl (by omega) (by omega) ?_)
      intro vs' w3' os ks gs
      have hg3:=gs w hg2 (Nat.le_refl _)
      obtain⟨ox3,ax3⟩:=ks _ _ _ ox2 as1.symm
      obtain⟨oy3,ay3⟩:=ks _ _ _ oy as2.symm
      obtain⟨ot3,at3⟩:=ks _ _ _ ot2 R.out.st.symm
      have hs3:=hg3.size
      have OT3:=hide ot3
      clear ks gs os2 OS2 ox2 oy ot2
      go_wp2_with (at_builtin;refine wpList_pushA rfl _ _ rfl OT3.out _ rfl rfl (by omega) (by omega) ?_)
      intro vt' w4' ot kt gt
      have hg4:=gt w hg3 (Nat.le_refl _)
      obtain⟨ox4,ax4⟩:=kt _ _ _ ox3 at1.symm
      obtain⟨oy4,ay4⟩:=kt _ _ _ oy3 at2.symm
      obtain⟨os4,as4⟩:=kt _ _ _ os at3.symm
      have hl:=R.out.lx
      have hl2:=R.out.ly
      rw[zip_snoc _ _ _ _ (hl.trans hl2.symm)] at os4
      rw[map_snoc] at ot
      have R':Hid (R4 w w4' (j+1) (xs++[p1]) (ys++[q1]) vx' vy' vs' vt'):=⟨by simp[hl],by simp[hl2],bd_snoc R.out.bx T1,bd_snoc R.out.byy T2,ox4,oy4,os4,ot,ax2,ax3,ax4,ay3,ay4,as4,hg4⟩
      clear kt gt
      go_wp2
      go_roundw
      case rel=>exact⟨j+1,xs++[p1],ys++[q1],by omega,by go_num,R'⟩
      case measure=>simp only[intOf];omega
   ·obtain rfl:j=la:=by omega
    obtain⟨xd,xc,rfl,RX,_⟩:=RI.of_owns R.out.ox
    obtain⟨yd,yc,rfl,RY,_⟩:=RI.of_owns R.out.oy
    obtain⟨sd,sc,rfl,RS,_⟩:=RI.of_owns R.out.os
    obtain⟨td,tc,rfl,RT,_⟩:=RI.of_owns R.out.ot
    replace RX:=hide RX
    have hlx:=R.out.lx
    have hly:=R.out.ly
    have GL:Hid (Gr w wr):=R.out.gr
    have bX:∀v∈xs,-9223372036854775808<=v/\v<=9223372036854775807:=fun v hv=>by have:=R.out.bx v hv;omega
    have bY:∀v∈ys,-9223372036854775808<=v/\v<=9223372036854775807:=fun v hv=>by have:=R.out.byy v hv;omega
    have bS:=zip_bd R.out.bx R.out.byy
    have bT:∀v∈xs.map (fun d=>-d),-9223372036854775808<=v/\v<=9223372036854775807:=fun v hv=>by
     obtain⟨d,hd,rfl⟩:=List.mem_map.1 hv
     have:=R.out.bx d hd;omega
    have lS:(List.zipWith (fun p q=>p+q) xs ys).length<=1000:=by rw[List.length_zipWith];omega
    have WX:Hid (∀w1,Gr wr w1->_):=fun w1 g=>wholeF hp hB.out hh hh2 hhb.out (by omega) bX (RX.out.gr g)
    have WY:Hid (∀w1,Gr wr w1->_):=fun w1 g=>wholeF hp hB.out hh hh2 hhb.out (by omega) bY (RY.gr g)
    have WS:Hid (∀w1,Gr wr w1->_):=fun w1 g=>wholeF hp hB.out hh hh2 hhb.out lS bS (RS.gr g)
    have WT:Hid (∀w1,Gr wr w1->_):=fun w1 g=>wholeF hp hB.out hh hh2 hhb.out (by rw[List.length_map];omega) bT (RT.gr g)
    have E1:Hid (dv (2*h) xs+dv (2*h) ys=dv (2*h) (List.zipWith (fun p q=>p+q) xs ys)):=(dv_add _ _ _ (by omega)).symm
    have E2:Hid (-dv (2*h) xs=dv (2*h) (xs.map fun d=>-d)):=(dv_neg _ _).symm
    have F1:Hid ((dv (2*h) xs+dv (2*h) ys).natAbs<TopN):=by show _<_;rw[E1.out];exact dv_fitsM hp hB.out hh lS (fun d hd=>by have:=bS d hd;omega)
    have LM:Hid (([0]++xs).length<=1000):=by show _<=_;rw[List.length_append];simp;omega
    have VM:Hid (∀v∈[0]++xs,-9223372036854775808<=v/\v<=9223372036854775807):=fun v hv=>by
     rcases List.mem_append.1 hv with h1|h1
     ·obtain rfl:v=0:=by simpa using h1
      omega
     ·exact bX v h1
    have Z1:Hid (shI (dv (2*h) xs) (2+(p:Int))=dv (2*h) ([0]++xs)):=by
     show _=_
     rw[dv_append,show(2+(p:Int))=((2+p:Nat):Int) by omega]
     unfold shI
     rw[if_pos (by omega),Int.toNat_natCast,hB.out]
     simp[dv,Int.mul_comm,Int.pow_succ]
    have F2:Hid ((dv (2*h) ([0]++xs)).natAbs<TopN):=dv_fitsM hp hB.out hh LM.out (fun d hd=>by have:=VM.out d hd;omega)
    have GW:Gr wr wr:=Gr.refl wr
    have tok0:True:=trivial
    clear bX bY bS bT lS RY RS RT R
    go_wp2_with (first|(go_at_call 6;have _t:=tok0;(with_reducible refine(WX.out _ GW).mono ?_);rintro r w0x ⟨su,au,nu,cu,rfl,Du,Fu,g0x⟩;clear tok0;have tok1:True:=trivial;have G:=g0x.alloc (.cells #[.bool su,.slice au nu cu] 27);have Hu:=Bw.new Du.out;clear Du;replace GW:=GW.trans G;clear G Fu g0x)|(go_at_call 6;have _t:=tok1;(with_reducible refine(WY.out _ GW).mono ?_);rintro r w1x ⟨sv,av,nv,cv,rfl,Dv,Fv,g1x⟩;clear tok1;have tok2:True:=trivial;have G:=g1x.alloc (.cells #[.bool sv,.slice av nv cv] 27);have Hv:=Bw.new Dv.out;clear Dv;replace Hu:=Hu.gr G;replace GW:=GW.trans G;clear G Fv g1x)|(go_at_call 6;have _t:=tok2;(with_reducible refine(WS.out _ GW).mono ?_);rintro r w2x ⟨sz,az,nz,cz,rfl,Dz,Fz,g2x⟩;clear tok2;have tok3:True:=trivial;have G:=g2x.alloc (.cells #[.bool sz,.slice az nz cz] 27);have Hz:=Bw.new Dz.out;clear Dz;replace Hu:=Hu.gr G;replace Hv:=Hv.gr G;replace GW:=GW.trans G;clear G Fz g2x)|(go_at_call 6;have _t:=tok3;(with_reducible refine(WT.out _ GW).mono ?_);rintro r w3x ⟨sk,ak,nk,ck,rfl,Dk,Fk,g3x⟩;clear tok3;have tok4:True:=trivial;have G:=g3x.alloc (.cells #[.bool sk,.slice ak nk ck] 27);have Hk:=Bw.new Dk.out;clear Dk;replace Hu:=Hu.gr G;replace Hv:=Hv.gr G;replace Hz:=Hz.gr G;replace GW:=GW.trans G;clear G Fk g3x)|(at_builtin;have _t:=tok4;refine wpList_catR rfl _ _ rfl (own_oneB (by simp) _) ((RX.out.gr GW).gr ((Gr.refl _).alloc _)) rfl rfl (by omega) (by omega) (by simp) ?_;intro vm wm om gm;have gm0:=gm _ ((Gr.refl _).alloc _) (Nat.le_refl _);clear gm;obtain⟨mad,mcap,rfl,RM,_⟩:=RI.of_owns om;clear om tok4;have tok5:True:=trivial;replace Hu:=Hu.gr gm0;replace Hv:=Hv.gr gm0;replace Hz:=Hz.gr gm0;replace Hk:=Hk.gr gm0;replace GW:=GW.trans gm0;clear gm0)|(go_at_call 6;have _t:=tok5;(with_reducible refine(wholeF hp hB.out hh hh2 hhb.out LM.out VM.out RM).mono ?_);rintro r w5x ⟨sl,al,nl,cl,rfl,Dl,Fl,g5x⟩;clear tok5;have tok6:True:=trivial;have G:=g5x.alloc (.cells #[.bool sl,.slice al nl cl] 27);have Hl:=Bw.new Dl.out;clear Dl;replace Hu:=Hu.gr G;replace Hv:=Hv.gr G;replace Hz:=Hz.gr G;replace Hk:=Hk.gr G;replace GW:=GW.trans G;clear G Fl g5x;have qu0:=Hu.c0;have qu1:=Hu.c1;have qv0:=Hv.c0;have qv1:=Hv.c1)|(go_at_call 7;have _t:=tok6;(with_reducible refine(addF _ _ _ _ _ _ _ _ _ _ _ Hu.v Hv.v F1.out).mono ?_);rintro r w6x ⟨sb,ab,nb,cb,rfl,Db,Fb,g6x⟩;clear tok6;have tok7:True:=trivial;clear qu0 qu1 qv0 qv1;have G:=g6x.alloc (.cells #[.bool sb,.slice ab nb cb] 27);have Hb:=Bw.new Db.out;clear Db;replace Hu:=Hu.gr G;replace Hv:=Hv.gr G;replace Hz:=Hz.gr G;replace Hk:=Hk.gr G;replace Hl:=Hl.gr G;replace GW:=GW.trans G;clear G Fb g6x;have qu0:=Hu.c0;have qu1:=Hu.c1)|(go_at_call 8;have _t:=tok7;(with_reducible refine(negF _ _ _ _ _ _ Hu.v).mono ?_);rintro r w7x ⟨sn,an,nn,cn,rfl,Dn,Fn,g7x⟩;clear tok7;have tok8:True:=trivial;clear qu0 qu1;have G:=g7x.alloc (.cells #[.bool sn,.slice an nn cn] 27);have Hn:=Bw.new Dn.out;clear Dn;replace Hu:=Hu.gr G;replace Hv:=Hv.gr G;replace Hz:=Hz.gr G;replace Hk:=Hk.gr G;replace Hl:=Hl.gr G;replace Hb:=Hb.gr G;replace GW:=GW.trans G;clear G Fn g7x;have qu0:=Hu.c0;have qu1:=Hu.c1)|(go_at_call 9;have _t:=tok8;(with_reducible refine(shiftF _ _ _ _ _ _ _ _ Hu.v (tab_gr HT.out (GL.out.trans GW)) Z1.out F2.out).mono ?_);rintro r w8x ⟨sup,aup,nup,cup,rfl,Dup,Fup,g8x⟩;clear tok8;have tok9:True:=trivial;clear qu0 qu1;have G:=g8x.alloc (.cells #[.bool sup,.slice aup nup cup] 27);have Hup:=Bw.new Dup.out;clear Dup;replace Hu:=Hu.gr G;replace Hv:=Hv.gr G;replace Hz:=Hz.gr G;replace Hk:=Hk.gr G;replace Hl:=Hl.gr G;replace Hb:=Hb.gr G;replace Hn:=Hn.gr G;replace GW:=GW.trans G;clear G Fup g8x;have qb0:=Hb.c0;have qb1:=Hb.c1;have qz0:=Hz.c0;have qz1:=Hz.c1)|(go_at_call 10;have _t:=tok9;(with_reducible refine(sameTC E1.out Hb.v Hz.v).mono ?_);rintro r w9x ⟨rfl,g9x⟩;clear tok9;have tok10:True:=trivial;clear qb0 qb1 qz0 qz1;replace Hu:=Hu.gr g9x;replace Hv:=Hv.gr g9x;replace Hz:=Hz.gr g9x;replace Hk:=Hk.gr g9x;replace Hl:=Hl.gr g9x;replace Hb:=Hb.gr g9x;replace Hn:=Hn.gr g9x;replace Hup:=Hup.gr g9x;replace GW:=GW.trans g9x;clear g9x;have qn0:=Hn.c0;have qn1:=Hn.c1;have qk0:=Hk.c0;have qk1:=Hk.c1)|(go_at_call 10;have _t:=tok10;(with_reducible refine(sameTC E2.out Hn.v Hk.v).mono ?_);rintro r w10x ⟨rfl,g10x⟩;clear tok10;have tok11:True:=trivial;clear qn0 qn1 qk0 qk1;replace Hu:=Hu.gr g10x;replace Hv:=Hv.gr g10x;replace Hz:=Hz.gr g10x;replace Hk:=Hk.gr g10x;replace Hl:=Hl.gr g10x;replace Hb:=Hb.gr g10x;replace Hn:=Hn.gr g10x;replace Hup:=Hup.gr g10x;replace GW:=GW.trans g10x;clear g10x;have qup0:=Hup.c0;have qup1:=Hup.c1;have ql0:=Hl.c0;have ql1:=Hl.c1)|(go_at_call 10;have _t:=tok11;(with_reducible refine(sameTC rfl Hup.v Hl.v).mono ?_);rintro r w11x ⟨rfl,g11x⟩;clear tok11;have tok12:True:=trivial;clear qup0 qup1 ql0 ql1;replace Hu:=Hu.gr g11x;replace Hv:=Hv.gr g11x;replace Hz:=Hz.gr g11x;replace Hk:=Hk.gr g11x;replace Hl:=Hl.gr g11x;replace Hb:=Hb.gr g11x;replace Hn:=Hn.gr g11x;replace Hup:=Hup.gr g11x;replace GW:=GW.trans g11x;clear g11x))
    go_ret
    exact⟨rfl,GL.out.trans GW⟩
 ·go_enter Tryd.func3,Tryd.ntmps3
  go_wp2_with (first|(go_at_call 4;with_reducible refine(AW.out _).mono ?_;rintro e w1 ⟨rfl,g1⟩)|(go_at_call 5;with_reducible refine(PK.out _).mono ?_;rintro e w2 ⟨rfl,rfl⟩))
  go_loopw [9,10,11,12,13] (fun vx vy vs vt i wr=>∃(j:Nat) (xs ys:List Int),j<=lb/\i = .int .i64 (j:Int)/\Hid (R4 w wr j xs ys vx vy vs vt)) (fun _ _ _ _ i _=>lb-(intOf i).toNat)
  case atStart=>exact⟨0,[],[],by omega,rfl,⟨rfl,rfl,(fun x hx=>by cases hx),(fun x hx=>by cases hx),World.ownsRow_nil _ _ _ _,World.ownsRow_nil _ _ _ _,World.ownsRow_nil _ _ _ _,World.ownsRow_nil _ _ _ _,ApV.nil _,ApV.nil _,ApV.nil _,ApV.nil _,ApV.nil _,ApV.nil _,g1⟩⟩
  case round =>
   obtain⟨j,xs,ys,hj,rfl,R⟩:=hrel
   have hsz:=R.out.gr.size
   by_cases hlt:(j:Int)<(lb:Int)
   ·cases haa:aa with
    | none=>have:=(HA.out.nil haa).1;omega
    | some xa =>
     cases hba:ba with
     | none=>have:=(HB.out.nil hba).1;omega
     | some xb =>
      have hc1:=((HA.out.gr R.out.gr).cell xa haa j (by omega)).2
      have hc2:=((HB.out.gr R.out.gr).cell xb hba j (by omega)).2
      subst haa
      subst hba
      generalize as0.getD j 0=va at *
      generalize bs.getD j 0=vb at *
      have T1:=tm62 va
      have T2:=tm62 vb
      have hja:(j:Int)<(la:Int):=by omega
      have hjb:(j:Int)<(lb:Int):=by omega
      go_wp2
      go_quiet (fail)
      generalize va.tmod 4611686018427387904=p1 at *
      generalize vb.tmod 4611686018427387904=q1 at *
      replace R:=hide (R.out.drewN nq)
      have hszq:w.heap.size<=(wr.drewN nq).heap.size:=hsz
      clear hc1 hc2
      generalize wr.drewN nq=wq at *
      have RX:=hide R.out.ox
      go_wp2_with (at_builtin;refine wpList_pushA rfl _ _ rfl RX.out _ rfl rfl (by omega) (by omega) ?_)
      intro vx' w1' ox kx gx
      have hg1:=gx w R.out.gr (Nat.le_refl _)
      obtain⟨oy1,ay1⟩:=kx _ _ _ R.out.oy R.out.xy.symm
      obtain⟨os1,as1⟩:=kx _ _ _ R.out.os R.out.xs'.symm
      obtain⟨ot1,at1⟩:=kx _ _ _ R.out.ot R.out.xt.symm
      have hs1:=hg1.size
      have OY1:=hide oy1
      clear kx gx RX
      go_wp2_with (at_builtin;refine wpList_pushA rfl _ _ rfl OY1.out _ rfl rfl (by omega) (by omega) ?_)
      intro vy' w2' oy ky gy
      have hg2:=gy w hg1 (Nat.le_refl _)
      obtain⟨ox2,ax2⟩:=ky _ _ _ ox ay1.symm
      obtain⟨os2,as2⟩:=ky _ _ _ os1 R.out.ys'.symm
      obtain⟨ot2,at2⟩:=ky _ _ _ ot1 R.out.yt.symm
      have hs2:=hg2.size
      have OS2:=hide os2
      clear ky gy oy1 OY1 ox os1 ot1
      go_wp2_with (at_builtin;refine wpList_pushA rfl _ _ rfl OS2.out _ rfl rfl (by omega) (by omega) ?_)
      intro vs' w3' os ks gs
      have hg3:=gs w hg2 (Nat.le_refl _)
      obtain⟨ox3,ax3⟩:=ks _ _ _ ox2 as1.symm
      obtain⟨oy3,ay3⟩:=ks _ _ _ oy as2.symm
      obtain⟨ot3,at3⟩:=ks _ _ _ ot2 R.out.st.symm
      have hs3:=hg3.size
      have OT3:=hide ot3
      clear ks gs os2 OS2 ox2 oy ot2
      go_wp2_with (at_builtin;refine wpList_pushA rfl _ _ rfl OT3.out _ rfl rfl (by omega) (by omega) ?_)
      intro vt' w4' ot kt gt
      have hg4:=gt w hg3 (Nat.le_refl _)
      obtain⟨ox4,ax4⟩:=kt _ _ _ ox3 at1.symm
      obtain⟨oy4,ay4⟩:=kt _ _ _ oy3 at2.symm
      obtain⟨os4,as4⟩:=kt _ _ _ os at3.symm
      have hl:=R.out.lx
      have hl2:=R.out.ly
      rw[zip_snoc _ _ _ _ (hl.trans hl2.symm)] at os4
      rw[map_snoc] at ot
      have R':Hid (R4 w w4' (j+1) (xs++[p1]) (ys++[q1]) vx' vy' vs' vt'):=⟨by simp[hl],by simp[hl2],bd_snoc R.out.bx T1,bd_snoc R.out.byy T2,ox4,oy4,os4,ot,ax2,ax3,ax4,ay3,ay4,as4,hg4⟩
      clear kt gt
      go_wp2
      go_roundw
      case rel=>exact⟨j+1,xs++[p1],ys++[q1],by omega,by go_num,R'⟩
      case measure=>simp only[intOf];omega
   ·obtain rfl:j=lb:=by omega
    obtain⟨xd,xc,rfl,RX,_⟩:=RI.of_owns R.out.ox
    obtain⟨yd,yc,rfl,RY,_⟩:=RI.of_owns R.out.oy
    obtain⟨sd,sc,rfl,RS,_⟩:=RI.of_owns R.out.os
    obtain⟨td,tc,rfl,RT,_⟩:=RI.of_owns R.out.ot
    replace RX:=hide RX
    have hlx:=R.out.lx
    have hly:=R.out.ly
    have GL:Hid (Gr w wr):=R.out.gr
    have bX:∀v∈xs,-9223372036854775808<=v/\v<=9223372036854775807:=fun v hv=>by have:=R.out.bx v hv;omega
    have bY:∀v∈ys,-9223372036854775808<=v/\v<=9223372036854775807:=fun v hv=>by have:=R.out.byy v hv;omega
    have bS:=zip_bd R.out.bx R.out.byy
    have bT:∀v∈xs.map (fun d=>-d),-9223372036854775808<=v/\v<=9223372036854775807:=fun v hv=>by
     obtain⟨d,hd,rfl⟩:=List.mem_map.1 hv
     have:=R.out.bx d hd;omega
    have lS:(List.zipWith (fun p q=>p+q) xs ys).length<=1000:=by rw[List.length_zipWith];omega
    have WX:Hid (∀w1,Gr wr w1->_):=fun w1 g=>wholeF hp hB.out hh hh2 hhb.out (by omega) bX (RX.out.gr g)
    have WY:Hid (∀w1,Gr wr w1->_):=fun w1 g=>wholeF hp hB.out hh hh2 hhb.out (by omega) bY (RY.gr g)
    have WS:Hid (∀w1,Gr wr w1->_):=fun w1 g=>wholeF hp hB.out hh hh2 hhb.out lS bS (RS.gr g)
    have WT:Hid (∀w1,Gr wr w1->_):=fun w1 g=>wholeF hp hB.out hh hh2 hhb.out (by rw[List.length_map];omega) bT (RT.gr g)
    have E1:Hid (dv (2*h) xs+dv (2*h) ys=dv (2*h) (List.zipWith (fun p q=>p+q) xs ys)):=(dv_add _ _ _ (by omega)).symm
    have E2:Hid (-dv (2*h) xs=dv (2*h) (xs.map fun d=>-d)):=(dv_neg _ _).symm
    have F1:Hid ((dv (2*h) xs+dv (2*h) ys).natAbs<TopN):=by show _<_;rw[E1.out];exact dv_fitsM hp hB.out hh lS (fun d hd=>by have:=bS d hd;omega)
    have LM:Hid (([0]++xs).length<=1000):=by show _<=_;rw[List.length_append];simp;omega
    have VM:Hid (∀v∈[0]++xs,-9223372036854775808<=v/\v<=9223372036854775807):=fun v hv=>by
     rcases List.mem_append.1 hv with h1|h1
     ·obtain rfl:v=0:=by simpa using h1
      omega
     ·exact bX v h1
    have Z1:Hid (shI (dv (2*h) xs) (2+(p:Int))=dv (2*h) ([0]++xs)):=by
     show _=_
     rw[dv_append,show(2+(p:Int))=((2+p:Nat):Int) by omega]
     unfold shI
     rw[if_pos (by omega),Int.toNat_natCast,hB.out]
     simp[dv,Int.mul_comm,Int.pow_succ]
    have F2:Hid ((dv (2*h) ([0]++xs)).natAbs<TopN):=dv_fitsM hp hB.out hh LM.out (fun d hd=>by have:=VM.out d hd;omega)
    have GW:Gr wr wr:=Gr.refl wr
    have tok0:True:=trivial
    clear bX bY bS bT lS RY RS RT R
    go_wp2_with (first|(go_at_call 6;have _t:=tok0;(with_reducible refine(WX.out _ GW).mono ?_);rintro r w0x ⟨su,au,nu,cu,rfl,Du,Fu,g0x⟩;clear tok0;have tok1:True:=trivial;have G:=g0x.alloc (.cells #[.bool su,.slice au nu cu] 27);have Hu:=Bw.new Du.out;clear Du;replace GW:=GW.trans G;clear G Fu g0x)|(go_at_call 6;have _t:=tok1;(with_reducible refine(WY.out _ GW).mono ?_);rintro r w1x ⟨sv,av,nv,cv,rfl,Dv,Fv,g1x⟩;clear tok1;have tok2:True:=trivial;have G:=g1x.alloc (.cells #[.bool sv,.slice av nv cv] 27);have Hv:=Bw.new Dv.out;clear Dv;replace Hu:=Hu.gr G;replace GW:=GW.trans G;clear G Fv g1x)|(go_at_call 6;have _t:=tok2;(with_reducible refine(WS.out _ GW).mono ?_);rintro r w2x ⟨sz,az,nz,cz,rfl,Dz,Fz,g2x⟩;clear tok2;have tok3:True:=trivial;have G:=g2x.alloc (.cells #[.bool sz,.slice az nz cz] 27);have Hz:=Bw.new Dz.out;clear Dz;replace Hu:=Hu.gr G;replace Hv:=Hv.gr G;replace GW:=GW.trans G;clear G Fz g2x)|(go_at_call 6;have _t:=tok3;(with_reducible refine(WT.out _ GW).mono ?_);rintro r w3x ⟨sk,ak,nk,ck,rfl,Dk,Fk,g3x⟩;clear tok3;have tok4:True:=trivial;have G:=g3x.alloc (.cells #[.bool sk,.slice ak nk ck] 27);have Hk:=Bw.new Dk.out;clear Dk;replace Hu:=Hu.gr G;replace Hv:=Hv.gr G;replace Hz:=Hz.gr G;replace GW:=GW.trans G;clear G Fk g3x)|(at_builtin;have _t:=tok4;refine wpList_catR rfl _ _ rfl (own_oneB (by simp) _) ((RX.out.gr GW).gr ((Gr.refl _).alloc _)) rfl rfl (by omega) (by omega) (by simp) ?_;intro vm wm om gm;have gm0:=gm _ ((Gr.refl _).alloc _) (Nat.le_refl _);clear gm;obtain⟨mad,mcap,rfl,RM,_⟩:=RI.of_owns om;clear om tok4;have tok5:True:=trivial;replace Hu:=Hu.gr gm0;replace Hv:=Hv.gr gm0;replace Hz:=Hz.gr gm0;replace Hk:=Hk.gr gm0;replace GW:=GW.trans gm0;clear gm0)|(go_at_call 6;have _t:=tok5;(with_reducible refine(wholeF hp hB.out hh hh2 hhb.out LM.out VM.out RM).mono ?_);rintro r w5x ⟨sl,al,nl,cl,rfl,Dl,Fl,g5x⟩;clear tok5;have tok6:True:=trivial;have G:=g5x.alloc (.cells #[.bool sl,.slice al nl cl] 27);have Hl:=Bw.new Dl.out;clear Dl;replace Hu:=Hu.gr G;replace Hv:=Hv.gr G;replace Hz:=Hz.gr G;replace Hk:=Hk.gr G;replace GW:=GW.trans G;clear G Fl g5x;have qu0:=Hu.c0;have qu1:=Hu.c1;have qv0:=Hv.c0;have qv1:=Hv.c1)|(go_at_call 7;have _t:=tok6;(with_reducible refine(addF _ _ _ _ _ _ _ _ _ _ _ Hu.v Hv.v F1.out).mono ?_);rintro r w6x ⟨sb,ab,nb,cb,rfl,Db,Fb,g6x⟩;clear tok6;have tok7:True:=trivial;clear qu0 qu1 qv0 qv1;have G:=g6x.alloc (.cells #[.bool sb,.slice ab nb cb] 27);have Hb:=Bw.new Db.out;clear Db;replace Hu:=Hu.gr G;replace Hv:=Hv.gr G;replace Hz:=Hz.gr G;replace Hk:=Hk.gr G;replace Hl:=Hl.gr G;replace GW:=GW.trans G;clear G Fb g6x;have qu0:=Hu.c0;have qu1:=Hu.c1)|(go_at_call 8;have _t:=tok7;(with_reducible refine(negF _ _ _ _ _ _ Hu.v).mono ?_);rintro r w7x ⟨sn,an,nn,cn,rfl,Dn,Fn,g7x⟩;clear tok7;have tok8:True:=trivial;clear qu0 qu1;have G:=g7x.alloc (.cells #[.bool sn,.slice an nn cn] 27);have Hn:=Bw.new Dn.out;clear Dn;replace Hu:=Hu.gr G;replace Hv:=Hv.gr G;replace Hz:=Hz.gr G;replace Hk:=Hk.gr G;replace Hl:=Hl.gr G;replace Hb:=Hb.gr G;replace GW:=GW.trans G;clear G Fn g7x;have qu0:=Hu.c0;have qu1:=Hu.c1)|(go_at_call 9;have _t:=tok8;(with_reducible refine(shiftF _ _ _ _ _ _ _ _ Hu.v (tab_gr HT.out (GL.out.trans GW)) Z1.out F2.out).mono ?_);rintro r w8x ⟨sup,aup,nup,cup,rfl,Dup,Fup,g8x⟩;clear tok8;have tok9:True:=trivial;clear qu0 qu1;have G:=g8x.alloc (.cells #[.bool sup,.slice aup nup cup] 27);have Hup:=Bw.new Dup.out;clear Dup;replace Hu:=Hu.gr G;replace Hv:=Hv.gr G;replace Hz:=Hz.gr G;replace Hk:=Hk.gr G;replace Hl:=Hl.gr G;replace Hb:=Hb.gr G;replace Hn:=Hn.gr G;replace GW:=GW.trans G;clear G Fup g8x;have qb0:=Hb.c0;have qb1:=Hb.c1;have qz0:=Hz.c0;have qz1:=Hz.c1)|(go_at_call 10;have _t:=tok9;(with_reducible refine(sameTC E1.out Hb.v Hz.v).mono ?_);rintro r w9x ⟨rfl,g9x⟩;clear tok9;have tok10:True:=trivial;clear qb0 qb1 qz0 qz1;replace Hu:=Hu.gr g9x;replace Hv:=Hv.gr g9x;replace Hz:=Hz.gr g9x;replace Hk:=Hk.gr g9x;replace Hl:=Hl.gr g9x;replace Hb:=Hb.gr g9x;replace Hn:=Hn.gr g9x;replace Hup:=Hup.gr g9x;replace GW:=GW.trans g9x;clear g9x;have qn0:=Hn.c0;have qn1:=Hn.c1;have qk0:=Hk.c0;have qk1:=Hk.c1)|(go_at_call 10;have _t:=tok10;(with_reducible refine(sameTC E2.out Hn.v Hk.v).mono ?_);rintro r w10x ⟨rfl,g10x⟩;clear tok10;have tok11:True:=trivial;clear qn0 qn1 qk0 qk1;replace Hu:=Hu.gr g10x;replace Hv:=Hv.gr g10x;replace Hz:=Hz.gr g10x;replace Hk:=Hk.gr g10x;replace Hl:=Hl.gr g10x;replace Hb:=Hb.gr g10x;replace Hn:=Hn.gr g10x;replace Hup:=Hup.gr g10x;replace GW:=GW.trans g10x;clear g10x;have qup0:=Hup.c0;have qup1:=Hup.c1;have ql0:=Hl.c0;have ql1:=Hl.c1)|(go_at_call 10;have _t:=tok11;(with_reducible refine(sameTC rfl Hup.v Hl.v).mono ?_);rintro r w11x ⟨rfl,g11x⟩;clear tok11;have tok12:True:=trivial;clear qup0 qup1 ql0 ql1;replace Hu:=Hu.gr g11x;replace Hv:=Hv.gr g11x;replace Hz:=Hz.gr g11x;replace Hk:=Hk.gr g11x;replace Hl:=Hl.gr g11x;replace Hb:=Hb.gr g11x;replace Hn:=Hn.gr g11x;replace Hup:=Hup.gr g11x;replace GW:=GW.trans g11x;clear g11x))
    go_ret
    exact⟨rfl,GL.out.trans GW⟩
 ·go_enter Tryd.func3,Tryd.ntmps3
  go_wp2_with (first|(go_at_call 4;with_reducible refine(AW.out _).mono ?_;rintro e w1 ⟨rfl,g1⟩)|(go_at_call 5;with_reducible refine(PK.out _).mono ?_;rintro e w2 ⟨rfl,rfl⟩))
  go_loopw [9,10,11,12,13] (fun vx vy vs vt i wr=>∃(j:Nat) (xs ys:List Int),j<=200/\i = .int .i64 (j:Int)/\Hid (R4 w wr j xs ys vx vy vs vt)) (fun _ _ _ _ i _=>200-(intOf i).toNat)
  case atStart=>exact⟨0,[],[],by omega,rfl,⟨rfl,rfl,(fun x hx=>by cases hx),(fun x hx=>by cases hx),World.ownsRow_nil _ _ _ _,World.ownsRow_nil _ _ _ _,World.ownsRow_nil _ _ _ _,World.ownsRow_nil _ _ _ _,ApV.nil _,ApV.nil _,ApV.nil _,ApV.nil _,ApV.nil _,ApV.nil _,g1⟩⟩
  case round =>
   obtain⟨j,xs,ys,hj,rfl,R⟩:=hrel
   have hsz:=R.out.gr.size
   by_cases hlt:(j:Int)<(200:Int)
   ·cases haa:aa with
    | none=>have:=(HA.out.nil haa).1;omega
    | some xa =>
     cases hba:ba with
     | none=>have:=(HB.out.nil hba).1;omega
     | some xb =>
      have hc1:=((HA.out.gr R.out.gr).cell xa haa j (by omega)).2
      have hc2:=((HB.out.gr R.out.gr).cell xb hba j (by omega)).2
      subst haa
      subst hba
      generalize as0.getD j 0=va at *
      generalize bs.getD j 0=vb at *
      have T1:=tm62 va
      have T2:=tm62 vb
      have hja:(j:Int)<(la:Int):=by omega
      have hjb:(j:Int)<(lb:Int):=by omega
      go_wp2
      go_quiet (fail)
      generalize va.tmod 4611686018427387904=p1 at *
      generalize vb.tmod 4611686018427387904=q1 at *
      replace R:=hide (R.out.drewN nq)
      have hszq:w.heap.size<=(wr.drewN nq).heap.size:=hsz
      clear hc1 hc2
      generalize wr.drewN nq=wq at *
      have RX:=hide R.out.ox
      go_wp2_with (at_builtin;refine wpList_pushA rfl _ _ rfl RX.out _ rfl rfl (by omega) (by omega) ?_)
      intro vx' w1' ox kx gx
      have hg1:=gx w R.out.gr (Nat.le_refl _)
      obtain⟨oy1,ay1⟩:=kx _ _ _ R.out.oy R.out.xy.symm
      obtain⟨os1,as1⟩:=kx _ _ _ R.out.os R.out.xs'.symm
      obtain⟨ot1,at1⟩:=kx _ _ _ R.out.ot R.out.xt.symm
      have hs1:=hg1.size
      have OY1:=hide oy1
      clear kx gx RX
      go_wp2_with (at_builtin;refine wpList_pushA rfl _ _ rfl OY1.out _ rfl rfl (by omega) (by omega) ?_)
      intro vy' w2' oy ky gy
      have hg2:=gy w hg1 (Nat.le_refl _)
      obtain⟨ox2,ax2⟩:=ky _ _ _ ox ay1.symm
      obtain⟨os2,as2⟩:=ky _ _ _ os1 R.out.ys'.symm
      obtain⟨ot2,at2⟩:=ky _ _ _ ot1 R.out.yt.symm
      have hs2:=hg2.size
      have OS2:=hide os2
      clear ky gy oy1 OY1 ox os1 ot1
      go_wp2_with (at_builtin;refine wpList_pushA rfl _ _ rfl OS2.out _ rfl rfl (by omega) (by omega) ?_)
      intro vs' w3' os ks gs
      have hg3:=gs w hg2 (Nat.le_refl _)
      obtain⟨ox3,ax3⟩:=ks _ _ _ ox2 as1.symm
      obtain⟨oy3,ay3⟩:=ks _ _ _ oy as2.symm
      obtain⟨ot3,at3⟩:=ks _ _ _ ot2 R.out.st.symm
      have hs3:=hg3.size
      have OT3:=hide ot3
      clear ks gs os2 OS2 ox2 oy ot2
      go_wp2_with (at_builtin;refine wpList_pushA rfl _ _ rfl OT3.out _ rfl rfl (by omega) (by omega) ?_)
      intro vt' w4' ot kt gt
      have hg4:=gt w hg3 (Nat.le_refl _)
      obtain⟨ox4,ax4⟩:=kt _ _ _ ox3 at1.symm
      obtain⟨oy4,ay4⟩:=kt _ _ _ oy3 at2.symm
      obtain⟨os4,as4⟩:=kt _ _ _ os at3.symm
      have hl:=R.out.lx
      have hl2:=R.out.ly
      rw[zip_snoc _ _ _ _ (hl.trans hl2.symm)] at os4
      rw[map_snoc] at ot
      have R':Hid (R4 w w4' (j+1) (xs++[p1]) (ys++[q1]) vx' vy' vs' vt'):=⟨by simp[hl],by simp[hl2],bd_snoc R.out.bx T1,bd_snoc R.out.byy T2,ox4,oy4,os4,ot,ax2,ax3,ax4,ay3,ay4,as4,hg4⟩
      clear kt gt
      go_wp2
      go_roundw
      case rel=>exact⟨j+1,xs++[p1],ys++[q1],by omega,by go_num,R'⟩
      case measure=>simp only[intOf];omega
   ·obtain rfl:j=200:=by omega
    obtain⟨xd,xc,rfl,RX,_⟩:=RI.of_owns R.out.ox
    obtain⟨yd,yc,rfl,RY,_⟩:=RI.of_owns R.out.oy
    obtain⟨sd,sc,rfl,RS,_⟩:=RI.of_owns R.out.os
    obtain⟨td,tc,rfl,RT,_⟩:=RI.of_owns R.out.ot
    replace RX:=hide RX
    have hlx:=R.out.lx
    have hly:=R.out.ly
    have GL:Hid (Gr w wr):=R.out.gr
    have bX:∀v∈xs,-9223372036854775808<=v/\v<=9223372036854775807:=fun v hv=>by have:=R.out.bx v hv;omega
    have bY:∀v∈ys,-9223372036854775808<=v/\v<=9223372036854775807:=fun v hv=>by have:=R.out.byy v hv;omega
    have bS:=zip_bd R.out.bx R.out.byy
    have bT:∀v∈xs.map (fun d=>-d),-9223372036854775808<=v/\v<=9223372036854775807:=fun v hv=>by
     obtain⟨d,hd,rfl⟩:=List.mem_map.1 hv
     have:=R.out.bx d hd;omega
    have lS:(List.zipWith (fun p q=>p+q) xs ys).length<=1000:=by rw[List.length_zipWith];omega
    have WX:Hid (∀w1,Gr wr w1->_):=fun w1 g=>wholeF hp hB.out hh hh2 hhb.out (by omega) bX (RX.out.gr g)
    have WY:Hid (∀w1,Gr wr w1->_):=fun w1 g=>wholeF hp hB.out hh hh2 hhb.out (by omega) bY (RY.gr g)
    have WS:Hid (∀w1,Gr wr w1->_):=fun w1 g=>wholeF hp hB.out hh hh2 hhb.out lS bS (RS.gr g)
    have WT:Hid (∀w1,Gr wr w1->_):=fun w1 g=>wholeF hp hB.out hh hh2 hhb.out (by rw[List.length_map];omega) bT (RT.gr g)
    have E1:Hid (dv (2*h) xs+dv (2*h) ys=dv (2*h) (List.zipWith (fun p q=>p+q) xs ys)):=(dv_add _ _ _ (by omega)).symm
    have E2:Hid (-dv (2*h) xs=dv (2*h) (xs.map fun d=>-d)):=(dv_neg _ _).symm
    have F1:Hid ((dv (2*h) xs+dv (2*h) ys).natAbs<TopN):=by show _<_;rw[E1.out];exact dv_fitsM hp hB.out hh lS (fun d hd=>by have:=bS d hd;omega)
    have LM:Hid (([0]++xs).length<=1000):=by show _<=_;rw[List.length_append];simp;omega
    have VM:Hid (∀v∈[0]++xs,-9223372036854775808<=v/\v<=9223372036854775807):=fun v hv=>by
     rcases List.mem_append.1 hv with h1|h1
     ·obtain rfl:v=0:=by simpa using h1
      omega
     ·exact bX v h1
    have Z1:Hid (shI (dv (2*h) xs) (2+(p:Int))=dv (2*h) ([0]++xs)):=by
     show _=_
     rw[dv_append,show(2+(p:Int))=((2+p:Nat):Int) by omega]
     unfold shI
     rw[if_pos (by omega),Int.toNat_natCast,hB.out]
     simp[dv,Int.mul_comm,Int.pow_succ]
    have F2:Hid ((dv (2*h) ([0]++xs)).natAbs<TopN):=dv_fitsM hp hB.out hh LM.out (fun d hd=>by have:=VM.out d hd;omega)
    have GW:Gr wr wr:=Gr.refl wr
    have tok0:True:=trivial
    clear bX bY bS bT lS RY RS RT R
    go_wp2_with (first|(go_at_call 6;have _t:=tok0;(with_reducible refine(WX.out _ GW).mono ?_);rintro r w0x ⟨su,au,nu,cu,rfl,Du,Fu,g0x⟩;clear tok0;have tok1:True:=trivial;have G:=g0x.alloc (.cells #[.bool su,.slice au nu cu] 27);have Hu:=Bw.new Du.out;clear Du;replace GW:=GW.trans G;clear G Fu g0x)|(go_at_call 6;have _t:=tok1;(with_reducible refine(WY.out _ GW).mono ?_);rintro r w1x ⟨sv,av,nv,cv,rfl,Dv,Fv,g1x⟩;clear tok1;have tok2:True:=trivial;have G:=g1x.alloc (.cells #[.bool sv,.slice av nv cv] 27);have Hv:=Bw.new Dv.out;clear Dv;replace Hu:=Hu.gr G;replace GW:=GW.trans G;clear G Fv g1x)|(go_at_call 6;have _t:=tok2;(with_reducible refine(WS.out _ GW).mono ?_);rintro r w2x ⟨sz,az,nz,cz,rfl,Dz,Fz,g2x⟩;clear tok2;have tok3:True:=trivial;have G:=g2x.alloc (.cells #[.bool sz,.slice az nz cz] 27);have Hz:=Bw.new Dz.out;clear Dz;replace Hu:=Hu.gr G;replace Hv:=Hv.gr G;replace GW:=GW.trans G;clear G Fz g2x)|(go_at_call 6;have _t:=tok3;(with_reducible refine(WT.out _ GW).mono ?_);rintro r w3x ⟨sk,ak,nk,ck,rfl,Dk,Fk,g3x⟩;clear tok3;have tok4:True:=trivial;have G:=g3x.alloc (.cells #[.bool sk,.slice ak nk ck] 27);have Hk:=Bw.new Dk.out;clear Dk;replace Hu:=Hu.gr G;replace Hv:=Hv.gr G;replace Hz:=Hz.gr G;replace GW:=GW.trans G;clear G Fk g3x)|(at_builtin;have _t:=tok4;refine wpList_catR rfl _ _ rfl (own_oneB (by simp) _) ((RX.out.gr GW).gr ((Gr.refl _).alloc _)) rfl rfl (by omega) (by omega) (by simp) ?_;intro vm wm om gm;have gm0:=gm _ ((Gr.refl _).alloc _) (Nat.le_refl _);clear gm;obtain⟨mad,mcap,rfl,RM,_⟩:=RI.of_owns om;clear om tok4;have tok5:True:=trivial;replace Hu:=Hu.gr gm0;replace Hv:=Hv.gr gm0;replace Hz:=Hz.gr gm0;replace Hk:=Hk.gr gm0;replace GW:=GW.trans gm0;clear gm0)|(go_at_call 6;have _t:=tok5;(with_reducible refine(wholeF hp hB.out hh hh2 hhb.out LM.out VM.out RM).mono ?_);rintro r w5x ⟨sl,al,nl,cl,rfl,Dl,Fl,g5x⟩;clear tok5;have tok6:True:=trivial;have G:=g5x.alloc (.cells #[.bool sl,.slice al nl cl] 27);have Hl:=Bw.new Dl.out;clear Dl;replace Hu:=Hu.gr G;replace Hv:=Hv.gr G;replace Hz:=Hz.gr G;replace Hk:=Hk.gr G;replace GW:=GW.trans G;clear G Fl g5x;have qu0:=Hu.c0;have qu1:=Hu.c1;have qv0:=Hv.c0;have qv1:=Hv.c1)|(go_at_call 7;have _t:=tok6;(with_reducible refine(addF _ _ _ _ _ _ _ _ _ _ _ Hu.v Hv.v F1.out).mono ?_);rintro r w6x ⟨sb,ab,nb,cb,rfl,Db,Fb,g6x⟩;clear tok6;have tok7:True:=trivial;clear qu0 qu1 qv0 qv1;have G:=g6x.alloc (.cells #[.bool sb,.slice ab nb cb] 27);have Hb:=Bw.new Db.out;clear Db;replace Hu:=Hu.gr G;replace Hv:=Hv.gr G;replace Hz:=Hz.gr G;replace Hk:=Hk.gr G;replace Hl:=Hl.gr G;replace GW:=GW.trans G;clear G Fb g6x;have qu0:=Hu.c0;have qu1:=Hu.c1)|(go_at_call 8;have _t:=tok7;(with_reducible refine(negF _ _ _ _ _ _ Hu.v).mono ?_);rintro r w7x ⟨sn,an,nn,cn,rfl,Dn,Fn,g7x⟩;clear tok7;have tok8:True:=trivial;clear qu0 qu1;have G:=g7x.alloc (.cells #[.bool sn,.slice an nn cn] 27);have Hn:=Bw.new Dn.out;clear Dn;replace Hu:=Hu.gr G;replace Hv:=Hv.gr G;replace Hz:=Hz.gr G;replace Hk:=Hk.gr G;replace Hl:=Hl.gr G;replace Hb:=Hb.gr G;replace GW:=GW.trans G;clear G Fn g7x;have qu0:=Hu.c0;have qu1:=Hu.c1)|(go_at_call 9;have _t:=tok8;(with_reducible refine(shiftF _ _ _ _ _ _ _ _ Hu.v (tab_gr HT.out (GL.out.trans GW)) Z1.out F2.out).mono ?_);rintro r w8x ⟨sup,aup,nup,cup,rfl,Dup,Fup,g8x⟩;clear tok8;have tok9:True:=trivial;clear qu0 qu1;have G:=g8x.alloc (.cells #[.bool sup,.slice aup nup cup] 27);have Hup:=Bw.new Dup.out;clear Dup;replace Hu:=Hu.gr G;replace Hv:=Hv.gr G;replace Hz:=Hz.gr G;replace Hk:=Hk.gr G;replace Hl:=Hl.gr G;replace Hb:=Hb.gr G;replace Hn:=Hn.gr G;replace GW:=GW.trans G;clear G Fup g8x;have qb0:=Hb.c0;have qb1:=Hb.c1;have qz0:=Hz.c0;have qz1:=Hz.c1)|(go_at_call 10;have _t:=tok9;(with_reducible refine(sameTC E1.out Hb.v Hz.v).mono ?_);rintro r w9x ⟨rfl,g9x⟩;clear tok9;have tok10:True:=trivial;clear qb0 qb1 qz0 qz1;replace Hu:=Hu.gr g9x;replace Hv:=Hv.gr g9x;replace Hz:=Hz.gr g9x;replace Hk:=Hk.gr g9x;replace Hl:=Hl.gr g9x;replace Hb:=Hb.gr g9x;replace Hn:=Hn.gr g9x;replace Hup:=Hup.gr g9x;replace GW:=GW.trans g9x;clear g9x;have qn0:=Hn.c0;have qn1:=Hn.c1;have qk0:=Hk.c0;have qk1:=Hk.c1)|(go_at_call 10;have _t:=tok10;(with_reducible refine(sameTC E2.out Hn.v Hk.v).mono ?_);rintro r w10x ⟨rfl,g10x⟩;clear tok10;have tok11:True:=trivial;clear qn0 qn1 qk0 qk1;replace Hu:=Hu.gr g10x;replace Hv:=Hv.gr g10x;replace Hz:=Hz.gr g10x;replace Hk:=Hk.gr g10x;replace Hl:=Hl.gr g10x;replace Hb:=Hb.gr g10x;replace Hn:=Hn.gr g10x;replace Hup:=Hup.gr g10x;replace GW:=GW.trans g10x;clear g10x;have qup0:=Hup.c0;have qup1:=Hup.c1;have ql0:=Hl.c0;have ql1:=Hl.c1)|(go_at_call 10;have _t:=tok11;(with_reducible refine(sameTC rfl Hup.v Hl.v).mono ?_);rintro r w11x ⟨rfl,g11x⟩;clear tok11;have tok12:True:=trivial;clear qup0 qup1 ql0 ql1;replace Hu:=Hu.gr g11x;replace Hv:=Hv.gr g11x;replace Hz:=Hz.gr g11x;replace Hk:=Hk.gr g11x;replace Hl:=Hl.gr g11x;replace Hb:=Hb.gr g11x;replace Hn:=Hn.gr g11x;replace Hup:=Hup.gr g11x;replace GW:=GW.trans g11x;clear g11x))
    go_ret
    exact⟨rfl,GL.out.trans GW⟩
end Go.Proofs.YtfbgckgemfkioaaDoor
