import Derived.Test.YtfbgckgemfkioaaW15
import Derived.ArgAppend
import Derived.OwnWalk
namespace Go.Proofs.Ytfbgckgemfkioaa
open Go.RowKit
set_option linter.unusedVariables false
set_option linter.unusedSimpArgs false
theorem mayC (b:Int) (w:World):Calls Try.prog 28 #[.int .i64 b] w fun e w'=>e = .returned (.bool (wdB b))/\w'=w:=by
 unfold wdB
 by_cases h1:2<=b
 ·by_cases h2:b<=30
  ·go_enter Try.func28,Try.ntmps28
   go_wp2
   go_ret
   exact⟨by simp[h1,h2],rfl⟩
  ·go_enter Try.func28,Try.ntmps28
   go_wp2
   go_ret
   exact⟨by simp[h1,h2],rfl⟩
 ·go_enter Try.func28,Try.ntmps28
  go_wp2
  go_ret
  exact⟨by simp;omega,rfl⟩
theorem dg_step {h c d c':Int} {ds:List Int} {s:Bool} {A a b i:Nat} (hB:(2:Int) ^ b=2*h) (ha:a=b*i) (hl:ds.length=i) (hv:dv (2*h) ds+(2*h) ^ i*(c+iv s (A / 2 ^ a))=iv s A) (hd:iv s (A / 2 ^ a % 2 ^ b)+c=d+2*h*c') :
  dv (2*h) (ds++[d])+(2*h) ^ (i+1)*(c'+iv s (A / 2 ^ (a+b)))=iv s A:=by
 rw[dv_snoc,hl,Int.pow_succ,<-hv]
 have e:A / 2 ^ a=A / 2 ^ a % 2 ^ b+2 ^ b*(A / 2 ^ (a+b)):=by
  rw[Nat.pow_add,<-Nat.div_div_eq_div_mul]
  exact(Nat.mod_add_div _ _).symm
 have e2:iv s (A / 2 ^ a)=iv s (A / 2 ^ a % 2 ^ b)+2*h*iv s (A / 2 ^ (a+b)):=by
  rw[<-hB]
  calc iv s (A / 2 ^ a)=iv s (A / 2 ^ a % 2 ^ b+2 ^ b*(A / 2 ^ (a+b))):=by rw[<-e]
   _=_:=by rw[iv_add,iv_mul];simp
 rw[e2]
 generalize iv s (A / 2 ^ a % 2 ^ b)=u at *
 generalize iv s (A / 2 ^ (a+b))=v at *
 generalize (2*h) ^ i=P at *
 have:c+(u+2*h*v)=d+2*h*c'+2*h*v:=by omega
 rw[this]
 grind
theorem dg_end {h:Int} {ds:List Int} {s:Bool} {A a i n:Nat} (hA:A<2 ^ (64*n)) (ha:64*n<=a) (hv:dv (2*h) ds+(2*h) ^ i*(0+iv s (A / 2 ^ a))=iv s A):dv (2*h) ds=iv s A:=by
 rw[Nat.div_eq_of_lt (Nat.lt_of_lt_of_le hA (Nat.pow_le_pow_right (by omega) ha))] at hv
 have:iv s 0=0:=by cases s <;> rfl
 rw[this] at hv
 simpa using hv
theorem dg_zero {A a b n:Nat} (hA:A<2 ^ (64*n)) (ha:64*n<=a):A / 2 ^ a % 2 ^ b=0:=by
 rw[Nat.div_eq_of_lt (Nat.lt_of_lt_of_le hA (Nat.pow_le_pow_right (by omega) ha))];simp
set_option maxRecDepth 8000 in
set_option maxHeartbeats 8000000 in
theorem rDigits (s:Bool) (ad:Option Addr) (n cap:Nat) (xs:List Nat) (p:Nat) (h:Int) (w:World) (rx:Row w ad n cap xs) (hx:∀x∈xs,x<18446744073709551616) (hR:RightN s xs) (hp:p<29) (hB:(2:Int) ^ (2+p)=2*h) (hh:2<=h) (hh2:h<=536870912) (hhb:(2:Int) ^ (1+p)=h) (hn:n<=300) :
  Calls Try.prog 10 #[.agg #[.bool s,.slice ad n cap],.int .i64 (2+(p:Int))] w fun e w'=>∃za k zc ds,e = .returned (.tuple #[.slice za k zc,.int .i64 0])/\Hid (RI w' za k zc ds)/\Hid (∀d∈ds,-h<=d/\d<h)/\Hid (NT ds)/\Hid (dv (2*h) ds=iv s (nv 18446744073709551616 xs))/\Gr w w':=by
 have hl:=rx.le
 have hm:=rx.max
 have GP:Gr w (w.alloc (.cells #[.bool s,.slice ad n cap] 24)):=(Gr.refl w).alloc _
 have BX:=hide (bx2 (blk1 w (.cells #[.bool s,.slice ad n cap] 24)))
 have RR:=rightR s ad n cap xs _ (rx.gr GP)
 rw[rightN_t hR] at RR
 replace RR:=hide RR
 have MC:=mayC (2+(p:Int))
 rw[show wdB (2+(p:Int))=true by unfold wdB;simp;omega] at MC
 replace MC:=hide MC
 have RX:=hide rx
 have HX:Hid (∀x∈xs,x<18446744073709551616):=hx
 have t1:=(two_at (show 1+p<31 by omega)).1
 have t2:=(two_at (show 2+p<31 by omega)).1
 rw[hhb] at t1
 rw[hB] at t2
 replace hB:=hide hB
 replace hhb:=hide hhb
 clear rx hx
 go_enter Try.func10,Try.ntmps10
 go_wp2_with (first|(go_at_call 27;with_reducible refine RR.out.mono ?_;rintro e w1 ⟨rfl,g1⟩;have c0:=keepG g1 BX.out.1;have c1:=keepG g1 BX.out.2)|(go_at_call 28;with_reducible refine(MC.out _).mono ?_;rintro e w2 ⟨rfl,rfl⟩))
 rw[show 2+p-1=1+p by omega,hhb.out,hB.out,t1,t2]
 clear t1 t2
 have hA:Hid (nv 18446744073709551616 xs<2 ^ (64*n)):=by
  show _<_
  have h1:=nv_lt 18446744073709551616 xs HX.out
  rw[RX.out.len,show(18446744073709551616:Nat)=2 ^ 64 by decide,<-Nat.pow_mul] at h1
  rw[show(18446744073709551616:Nat)=2 ^ 64 by decide];exact h1
 have CH:Hid (∀w1 (a:Nat),Gr w w1->a<=1000000->Calls Try.prog 29 #[.slice ad n cap,.int .i64 (a:Int),.int .i64 (2+(p:Int))] w1 fun e w'=>e = .returned (.int .i64 ((nv 18446744073709551616 xs / 2 ^ a % 2 ^ (2+p):Nat):Int))/\w'=w1):=fun w1 a g ha=>by
  have:=chunkC ad n cap xs w1 (RX.out.gr g) HX.out a (2+p) (by omega) (by omega)
  rw[show((2+p:Nat):Int)=2+(p:Int) by omega] at this
  exact this
 have G0:Hid (Gr w w2):=GP.trans g1
 have C0:Hid _:=c0
 have C1:Hid _:=c1
 clear RR MC BX g1 c0 c1
 obtain⟨A,EA⟩:∃A,nv 18446744073709551616 xs=A:=⟨_,rfl⟩
 rw[EA] at hA CH
 replace EA:=hide EA
 go_loopw [8,9,10,11] (fun v c l a wr=>∃(i k a0:Nat) (cc:Int) (ds:List Int),a = .int .i64 (a0:Int)/\c = .int .i64 cc/\l = .int .i64 (k:Int)/\-1<=cc/\cc<=1/\k<=i/\i<=a0/\a0<64*n+64/\(cc=0\/a0<64*n+32)/\Hid (a0=(2+p)*i)/\Hid (ds.length=i)/\Hid (wr.ownsRow w2.heap.size 2 1 v i (iz ds))/\Hid (∀d∈ds,-h<=d/\d<h)/\Hid (LastAt ds k)/\Hid (dv (2*h) ds+(2*h) ^ i*(cc+iv s (A / 2 ^ a0))=iv s A)/\Hid (Gr w2 wr)) (fun _ c _ a _=>2*(64*n-(intOf a).toNat)+(intOf c).natAbs)
 case atStart=>exact⟨0,0,0,0,[],rfl,rfl,rfl,by omega,by omega,by omega,by omega,by omega,Or.inl rfl,(by show _=_;omega),rfl,World.ownsRow_nil _ _ _ _,(fun x hx=>by cases hx),LastAt.nil,(by show _=_;simp[dv]),Gr.refl _⟩
 case round =>
  obtain⟨i,k,a0,cc,ds,rfl,rfl,rfl,hc1,hc2,hk,hia,hlim,hlim2,ha,hdl,hown,hds,hlast,hval,hg⟩:=hrel
  have b0:=keepG hg.out C0.out
  have b1:=keepG hg.out C1.out
  have hsz:=hg.out.size
  obtain⟨q,hq⟩:∃q:Nat,A / 2 ^ a0 % 2 ^ (2+p)=q:=⟨_,rfl⟩
  have hqB:(q:Int)<2*h:=by
   have h1:q<2 ^ (2+p):=by rw[<-hq];exact Nat.mod_lt _ (Nat.two_pow_pos _)
   have h2:((2 ^ (2+p):Nat):Int)=2*h:=by rw[<-hB.out];simp
   rw[<-h2];exact Int.ofNat_lt.2 h1
  have CQ:Hid (Calls Try.prog 29 #[.slice ad n cap,.int .i64 (a0:Int),.int .i64 (2+(p:Int))] wr fun e w'=>e = .returned (.int .i64 (q:Int))/\w'=wr):=by
   have:=CH.out wr a0 (G0.out.trans hg.out) (by omega)
   rw[hq] at this
   exact this
  have hq0:64*n<=a0->q=0:=fun hle=>by rw[<-hq];exact dg_zero hA.out hle
  replace hq:=hide hq
  by_cases hlt:(a0:Int)<64*(n:Int)
  ·clear hq0
   cases s with
   | true =>
    by_cases o1:h<=(-(q:Int)+cc)
    ·omega
    ·by_cases o2:(-(q:Int)+cc) < -h
     ·by_cases hz:(-(q:Int)+cc)+2*h=0
      ·
       have hy : -h<=(-(q:Int)+cc)+2*h/\(-(q:Int)+cc)+2*h<h:=by omega
       have hv2:Hid (dv (2*h) (ds++[(-(q:Int)+cc)+2*h])+(2*h) ^ (i+1)*(-1+iv true (A / 2 ^ (a0+(2+p))))=iv true A):=dg_step hB.out ha.out hdl.out hval.out (by rw[hq.out];simp only[iv,if_true,if_false,Bool.false_eq_true];omega)
       have t4:(-(q:Int)+cc)+2*h=0:=hz
       have HL:Hid (LastAt (ds++[(-(q:Int)+cc)+2*h]) (k)):=(by show LastAt _ _;rw[t4];exact hlast.out.push0)
       have HY:Hid (∀x∈ds++[(-(q:Int)+cc)+2*h],-h<=x/\x<h):=dig_push hds.out hy
       have HN:Hid (a0+(2+p)=(2+p)*(i+1)):=by show _=_;rw[ha.out,Nat.mul_succ]
       clear hz
       go_wp2_with (first|(go_at_call 29;(with_reducible refine CQ.out.mono ?_);rintro e w3 ⟨rfl,rfl⟩)|(at_builtin;refine wpList_pushI rfl _ _ rfl hown.out _ rfl rfl (by omega) (by omega) ?_))
       intro v' w' hown' hgr
       have HO:=hide hown'
       have HG:=hide (hgr w2 hg.out (Nat.le_refl _))
       clear hown' hgr
       obtain⟨va',vc',rfl,_,_⟩:=RI.of_owns HO.out
       go_wp2
       go_roundw
       case rel=>exact⟨i+1,k,a0+(2+p),-1,_,by go_num,by go_num,by go_num,by omega,by omega,by omega,by omega,by omega,by omega,HN,(by show _=_;rw[List.length_append,hdl.out];rfl),HO,(by rw[t4] at HY;exact HY),(by rw[t4] at HL;exact HL),(by rw[t4] at hv2;exact hv2),HG⟩
       case measure=>simp only[intOf];omega
      ·
       have hy : -h<=(-(q:Int)+cc)+2*h/\(-(q:Int)+cc)+2*h<h:=by omega
       have hv2:Hid (dv (2*h) (ds++[(-(q:Int)+cc)+2*h])+(2*h) ^ (i+1)*(-1+iv true (A / 2 ^ (a0+(2+p))))=iv true A):=dg_step hB.out ha.out hdl.out hval.out (by rw[hq.out];simp only[iv,if_true,if_false,Bool.false_eq_true];omega)
       have t4:¬(-(q:Int)+cc)+2*h=0:=hz
       have t5:((-(q:Int)+cc)+2*h==0)=false:=by simpa using t4
       have HL:Hid (LastAt (ds++[(-(q:Int)+cc)+2*h]) (i+1)):=(by have:=LastAt.push (ds:=ds) t4;rw[hdl.out] at this;exact this)
       have HY:Hid (∀x∈ds++[(-(q:Int)+cc)+2*h],-h<=x/\x<h):=dig_push hds.out hy
       have HN:Hid (a0+(2+p)=(2+p)*(i+1)):=by show _=_;rw[ha.out,Nat.mul_succ]
       clear hz
       go_wp2_with (first|(go_at_call 29;(with_reducible refine CQ.out.mono ?_);rintro e w3 ⟨rfl,rfl⟩)|(at_builtin;refine wpList_pushI rfl _ _ rfl hown.out _ rfl rfl (by omega) (by omega) ?_))
       intro v' w' hown' hgr
       have HO:=hide hown'
       have HG:=hide (hgr w2 hg.out (Nat.le_refl _))
       clear hown' hgr
       obtain⟨va',vc',rfl,_,_⟩:=RI.of_owns HO.out
       go_wp2
       go_roundw
       case rel=>exact⟨i+1,i+1,a0+(2+p),-1,ds++[(-(q:Int)+cc)+2*h],by go_num,by go_num,by go_num,by omega,by omega,by omega,by omega,by omega,by omega,HN,(by show _=_;rw[List.length_append,hdl.out];rfl),HO,HY,HL,hv2,HG⟩
       case measure=>simp only[intOf];omega
     ·by_cases hz:(-(q:Int)+cc)=0
      ·
       have hy : -h<=(-(q:Int)+cc)/\(-(q:Int)+cc)<h:=by omega
       have hv2:Hid (dv (2*h) (ds++[(-(q:Int)+cc)])+(2*h) ^ (i+1)*(0+iv true (A / 2 ^ (a0+(2+p))))=iv true A):=dg_step hB.out ha.out hdl.out hval.out (by rw[hq.out];simp only[iv,if_true,if_false,Bool.false_eq_true];omega)
       have t4:(-(q:Int)+cc)=0:=hz
       have HL:Hid (LastAt (ds++[(-(q:Int)+cc)]) (k)):=(by show LastAt _ _;rw[t4];exact hlast.out.push0)
       have HY:Hid (∀x∈ds++[(-(q:Int)+cc)],-h<=x/\x<h):=dig_push hds.out hy
       have HN:Hid (a0+(2+p)=(2+p)*(i+1)):=by show _=_;rw[ha.out,Nat.mul_succ]
       clear hz
       go_wp2_with (first|(go_at_call 29;(with_reducible refine CQ.out.mono ?_);rintro e w3 ⟨rfl,rfl⟩)|(at_builtin;refine wpList_pushI rfl _ _ rfl hown.out _ rfl rfl (by omega) (by omega) ?_))
       intro v' w' hown' hgr
       have HO:=hide hown'
       have HG:=hide (hgr w2 hg.out (Nat.le_refl _))
       clear hown' hgr
       obtain⟨va',vc',rfl,_,_⟩:=RI.of_owns HO.out
       go_wp2
       go_roundw
       case rel=>exact⟨i+1,k,a0+(2+p),0,_,by go_num,by go_num,by go_num,by omega,by omega,by omega,by omega,by omega,by omega,HN,(by show _=_;rw[List.length_append,hdl.out];rfl),HO,(by rw[t4] at HY;exact HY),(by rw[t4] at HL;exact HL),(by rw[t4] at hv2;exact hv2),HG⟩
       case measure=>simp only[intOf];omega
      ·
       have hy : -h<=(-(q:Int)+cc)/\(-(q:Int)+cc)<h:=by omega
       have hv2:Hid (dv (2*h) (ds++[(-(q:Int)+cc)])+(2*h) ^ (i+1)*(0+iv true (A / 2 ^ (a0+(2+p))))=iv true A):=dg_step hB.out ha.out hdl.out hval.out (by rw[hq.out];simp only[iv,if_true,if_false,Bool.false_eq_true];omega)
       have t4:¬(-(q:Int)+cc)=0:=hz
       have t5:((-(q:Int)+cc)==0)=false:=by simpa using t4
       have HL:Hid (LastAt (ds++[(-(q:Int)+cc)]) (i+1)):=(by have:=LastAt.push (ds:=ds) t4;rw[hdl.out] at this;exact this)
       have HY:Hid (∀x∈ds++[(-(q:Int)+cc)],-h<=x/\x<h):=dig_push hds.out hy
       have HN:Hid (a0+(2+p)=(2+p)*(i+1)):=by show _=_;rw[ha.out,Nat.mul_succ]
       clear hz
       go_wp2_with (first|(go_at_call 29;(with_reducible refine CQ.out.mono ?_);rintro e w3 ⟨rfl,rfl⟩)|(at_builtin;refine wpList_pushI rfl _ _ rfl hown.out _ rfl rfl (by omega) (by omega) ?_))
       intro v' w' hown' hgr
       have HO:=hide hown'
       have HG:=hide (hgr w2 hg.out (Nat.le_refl _))
       clear hown' hgr
       obtain⟨va',vc',rfl,_,_⟩:=RI.of_owns HO.out
       go_wp2
       go_roundw
       case rel=>exact⟨i+1,i+1,a0+(2+p),0,ds++[(-(q:Int)+cc)],by go_num,by go_num,by go_num,by omega,by omega,by omega,by omega,by omega,by omega,HN,(by show _=_;rw[List.length_append,hdl.out];rfl),HO,HY,HL,hv2,HG⟩
       case measure=>simp only[intOf];omega
   | false =>
    by_cases o1:h<=((q:Int)+cc)
    ·by_cases hz:((q:Int)+cc)-2*h=0
     ·
      have hy : -h<=((q:Int)+cc)-2*h/\((q:Int)+cc)-2*h<h:=by omega
      have hv2:Hid (dv (2*h) (ds++[((q:Int)+cc)-2*h])+(2*h) ^ (i+1)*(1+iv false (A / 2 ^ (a0+(2+p))))=iv false A):=dg_step hB.out ha.out hdl.out hval.out (by rw[hq.out];simp only[iv,if_true,if_false,Bool.false_eq_true];omega)
      have t4:((q:Int)+cc)-2*h=0:=hz
      have HL:Hid (LastAt (ds++[((q:Int)+cc)-2*h]) (k)):=(by show LastAt _ _;rw[t4];exact hlast.out.push0)
      have HY:Hid (∀x∈ds++[((q:Int)+cc)-2*h],-h<=x/\x<h):=dig_push hds.out hy
      have HN:Hid (a0+(2+p)=(2+p)*(i+1)):=by show _=_;rw[ha.out,Nat.mul_succ]
      clear hz
      go_wp2_with (first|(go_at_call 29;(with_reducible refine CQ.out.mono ?_);rintro e w3 ⟨rfl,rfl⟩)|(at_builtin;refine wpList_pushI rfl _ _ rfl hown.out _ rfl rfl (by omega) (by omega) ?_))
      intro v' w' hown' hgr
      have HO:=hide hown'
      have HG:=hide (hgr w2 hg.out (Nat.le_refl _))
      clear hown' hgr
      obtain⟨va',vc',rfl,_,_⟩:=RI.of_owns HO.out
      go_wp2
      go_roundw
      case rel=>exact⟨i+1,k,a0+(2+p),1,_,by go_num,by go_num,by go_num,by omega,by omega,by omega,by omega,by omega,by omega,HN,(by show _=_;rw[List.length_append,hdl.out];rfl),HO,(by rw[t4] at HY;exact HY),(by rw[t4] at HL;exact HL),(by rw[t4] at hv2;exact hv2),HG⟩
      case measure=>simp only[intOf];omega
     ·
      have hy : -h<=((q:Int)+cc)-2*h/\((q:Int)+cc)-2*h<h:=by omega
      have hv2:Hid (dv (2*h) (ds++[((q:Int)+cc)-2*h])+(2*h) ^ (i+1)*(1+iv false (A / 2 ^ (a0+(2+p))))=iv false A):=dg_step hB.out ha.out hdl.out hval.out (by rw[hq.out];simp only[iv,if_true,if_false,Bool.false_eq_true];omega)
      have t4:¬((q:Int)+cc)-2*h=0:=hz
      have t5:(((q:Int)+cc)-2*h==0)=false:=by simpa using t4
      have HL:Hid (LastAt (ds++[((q:Int)+cc)-2*h]) (i+1)):=(by have:=LastAt.push (ds:=ds) t4;rw[hdl.out] at this;exact this)
      have HY:Hid (∀x∈ds++[((q:Int)+cc)-2*h],-h<=x/\x<h):=dig_push hds.out hy
      have HN:Hid (a0+(2+p)=(2+p)*(i+1)):=by show _=_;rw[ha.out,Nat.mul_succ]
      clear hz
      go_wp2_with (first|(go_at_call 29;(with_reducible refine CQ.out.mono ?_);rintro e w3 ⟨rfl,rfl⟩)|(at_builtin;refine wpList_pushI rfl _ _ rfl hown.out _ rfl rfl (by omega) (by omega) ?_))
      intro v' w' hown' hgr
      have HO:=hide hown'
      have HG:=hide (hgr w2 hg.out (Nat.le_refl _))
      clear hown' hgr
      obtain⟨va',vc',rfl,_,_⟩:=RI.of_owns HO.out
      go_wp2
      go_roundw
      case rel=>exact⟨i+1,i+1,a0+(2+p),1,ds++[((q:Int)+cc)-2*h],by go_num,by go_num,by go_num,by omega,by omega,by omega,by omega,by omega,by omega,HN,(by show _=_;rw[List.length_append,hdl.out];rfl),HO,HY,HL,hv2,HG⟩
      case measure=>simp only[intOf];omega
    ·by_cases o2:((q:Int)+cc) < -h
     ·omega
     ·by_cases hz:((q:Int)+cc)=0
      ·
       have hy : -h<=((q:Int)+cc)/\((q:Int)+cc)<h:=by omega
       have hv2:Hid (dv (2*h) (ds++[((q:Int)+cc)])+(2*h) ^ (i+1)*(0+iv false (A / 2 ^ (a0+(2+p))))=iv false A):=dg_step hB.out ha.out hdl.out hval.out (by rw[hq.out];simp only[iv,if_true,if_false,Bool.false_eq_true];omega)
       have t4:((q:Int)+cc)=0:=hz
       have HL:Hid (LastAt (ds++[((q:Int)+cc)]) (k)):=(by show LastAt _ _;rw[t4];exact hlast.out.push0)
       have HY:Hid (∀x∈ds++[((q:Int)+cc)],-h<=x/\x<h):=dig_push hds.out hy
       have HN:Hid (a0+(2+p)=(2+p)*(i+1)):=by show _=_;rw[ha.out,Nat.mul_succ]
       clear hz
       go_wp2_with (first|(go_at_call 29;(with_reducible refine CQ.out.mono ?_);rintro e w3 ⟨rfl,rfl⟩)|(at_builtin;refine wpList_pushI rfl _ _ rfl hown.out _ rfl rfl (by omega) (by omega) ?_))
       intro v' w' hown' hgr
       have HO:=hide hown'
       have HG:=hide (hgr w2 hg.out (Nat.le_refl _))
       clear hown' hgr
       obtain⟨va',vc',rfl,_,_⟩:=RI.of_owns HO.out
       go_wp2
       go_roundw
       case rel=>exact⟨i+1,k,a0+(2+p),0,_,by go_num,by go_num,by go_num,by omega,by omega,by omega,by omega,by omega,by omega,HN,(by show _=_;rw[List.length_append,hdl.out];rfl),HO,(by rw[t4] at HY;exact HY),(by rw[t4] at HL;exact HL),(by rw[t4] at hv2;exact hv2),HG⟩
       case measure=>simp only[intOf];omega
      ·
       have hy : -h<=((q:Int)+cc)/\((q:Int)+cc)<h:=by omega
       have hv2:Hid (dv (2*h) (ds++[((q:Int)+cc)])+(2*h) ^ (i+1)*(0+iv false (A / 2 ^ (a0+(2+p))))=iv false A):=dg_step hB.out ha.out hdl.out hval.out (by rw[hq.out];simp only[iv,if_true,if_false,Bool.false_eq_true];omega)
       have t4:¬((q:Int)+cc)=0:=hz
       have t5:(((q:Int)+cc)==0)=false:=by simpa using t4
       have HL:Hid (LastAt (ds++[((q:Int)+cc)]) (i+1)):=(by have:=LastAt.push (ds:=ds) t4;rw[hdl.out] at this;exact this)
       have HY:Hid (∀x∈ds++[((q:Int)+cc)],-h<=x/\x<h):=dig_push hds.out hy
       have HN:Hid (a0+(2+p)=(2+p)*(i+1)):=by show _=_;rw[ha.out,Nat.mul_succ]
       clear hz
       go_wp2_with (first|(go_at_call 29;(with_reducible refine CQ.out.mono ?_);rintro e w3 ⟨rfl,rfl⟩)|(at_builtin;refine wpList_pushI rfl _ _ rfl hown.out _ rfl rfl (by omega) (by omega) ?_))
       intro v' w' hown' hgr
       have HO:=hide hown'
       have HG:=hide (hgr w2 hg.out (Nat.le_refl _))
       clear hown' hgr
       obtain⟨va',vc',rfl,_,_⟩:=RI.of_owns HO.out
       go_wp2
       go_roundw
       case rel=>exact⟨i+1,i+1,a0+(2+p),0,ds++[((q:Int)+cc)],by go_num,by go_num,by go_num,by omega,by omega,by omega,by omega,by omega,by omega,HN,(by show _=_;rw[List.length_append,hdl.out];rfl),HO,HY,HL,hv2,HG⟩
       case measure=>simp only[intOf];omega
  ·have q0:=hq0 (by omega)
   clear hq0
   by_cases hcc:cc=0
   ·subst hcc
    have eX:=dg_end hA.out (by omega) hval.out
    obtain⟨va,vc,rfl,RO,_⟩:=RI.of_owns hown.out
    have hkc:=RO.le
    have hvm:vc<=9223372036854775807:=by have:=RO.max;unfold maxLen at this;omega
    have RT:Hid (RI wr va k vc (ds.take k)):=RO.takeR hk
    have HDV:Hid (dv (2*h) (ds.take k)=iv s A):=by show _=_;rw[hlast.out.dv];exact eX
    have HNT:Hid (NT (ds.take k)):=hlast.out.nt
    have HDS:Hid (∀d∈ds.take k,-h<=d/\d<h):=fun d hd=>hds.out d (List.mem_of_mem_take hd)
    have HG:Hid (Gr w wr):=G0.out.trans hg.out
    clear RO eX
    cases va with
    | none =>
     obtain⟨h0,h01⟩:=RT.out.nil rfl
     subst h0
     subst h01
     go_wp2
     go_ret2
     exact⟨_,_,_,rfl,_,RT,HDS,HNT,(by rw[EA.out];exact HDV),HG.out⟩
    | some vb =>
     go_wp2
     go_ret2
     exact⟨_,_,_,rfl,_,RT,HDS,HNT,(by rw[EA.out];exact HDV),HG.out⟩
   ·subst q0
    have h9:(cc==0)=false:=by simpa using hcc
    have hc3:cc=1\/cc = -1:=by omega
    have o1:¬h<=cc:=by omega
    have o2:¬cc < -h:=by omega
    have hz:¬cc=0:=hcc
    cases s with
    | true =>
     have hy : -h<=cc/\cc<h:=by omega
     have hv2:Hid (dv (2*h) (ds++[cc])+(2*h) ^ (i+1)*(0+iv true (A / 2 ^ (a0+(2+p))))=iv true A):=dg_step hB.out ha.out hdl.out hval.out (by rw[hq.out];simp only[iv,if_true,if_false,Bool.false_eq_true];omega)
     have t4:¬cc=0:=hz
     have t5:(cc==0)=false:=by simpa using t4
     have HL:Hid (LastAt (ds++[cc]) (i+1)):=(by have:=LastAt.push (ds:=ds) t4;rw[hdl.out] at this;exact this)
     have HY:Hid (∀x∈ds++[cc],-h<=x/\x<h):=dig_push hds.out hy
     have HN:Hid (a0+(2+p)=(2+p)*(i+1)):=by show _=_;rw[ha.out,Nat.mul_succ]
     clear hz
     go_wp2_with (first|(go_at_call 29;(with_reducible refine CQ.out.mono ?_);rintro e w3 ⟨rfl,rfl⟩)|(at_builtin;refine wpList_pushI rfl _ _ rfl hown.out _ rfl rfl (by omega) (by omega) ?_))
     intro v' w' hown' hgr
     have HO:=hide hown'
     have HG:=hide (hgr w2 hg.out (Nat.le_refl _))
     clear hown' hgr
     obtain⟨va',vc',rfl,_,_⟩:=RI.of_owns HO.out
     go_wp2
     go_roundw
     case rel=>exact⟨i+1,i+1,a0+(2+p),0,ds++[cc],by go_num,by go_num,by go_num,by omega,by omega,by omega,by omega,by omega,by omega,HN,(by show _=_;rw[List.length_append,hdl.out];rfl),HO,HY,HL,hv2,HG⟩
     case measure=>simp only[intOf];omega
    | false =>
     have hy : -h<=cc/\cc<h:=by omega
     have hv2:Hid (dv (2*h) (ds++[cc])+(2*h) ^ (i+1)*(0+iv false (A / 2 ^ (a0+(2+p))))=iv false A):=dg_step hB.out ha.out hdl.out hval.out (by rw[hq.out];simp only[iv,if_true,if_false,Bool.false_eq_true];omega)
     have t4:¬cc=0:=hz
     have t5:(cc==0)=false:=by simpa using t4
     have HL:Hid (LastAt (ds++[cc]) (i+1)):=(by have:=LastAt.push (ds:=ds) t4;rw[hdl.out] at this;exact this)
     have HY:Hid (∀x∈ds++[cc],-h<=x/\x<h):=dig_push hds.out hy
     have HN:Hid (a0+(2+p)=(2+p)*(i+1)):=by show _=_;rw[ha.out,Nat.mul_succ]
     clear hz
     go_wp2_with (first|(go_at_call 29;(with_reducible refine CQ.out.mono ?_);rintro e w3 ⟨rfl,rfl⟩)|(at_builtin;refine wpList_pushI rfl _ _ rfl hown.out _ rfl rfl (by omega) (by omega) ?_))
     intro v' w' hown' hgr
     have HO:=hide hown'
     have HG:=hide (hgr w2 hg.out (Nat.le_refl _))
     clear hown' hgr
     obtain⟨va',vc',rfl,_,_⟩:=RI.of_owns HO.out
     go_wp2
     go_roundw
     case rel=>exact⟨i+1,i+1,a0+(2+p),0,ds++[cc],by go_num,by go_num,by go_num,by omega,by omega,by omega,by omega,by omega,by omega,HN,(by show _=_;rw[List.length_append,hdl.out];rfl),HO,HY,HL,hv2,HG⟩
     case measure=>simp only[intOf];omega
set_option maxHeartbeats 1000000 in
theorem rDigitsN (s:Bool) (ad:Option Addr) (n cap:Nat) (xs:List Nat) (b:Int) (w:World) (rx:Row w ad n cap xs) (hR:¬(RightN s xs/\wdB b=true)) :
  Calls Try.prog 10 #[.agg #[.bool s,.slice ad n cap],.int .i64 b] w fun e w'=>e = .returned (.tuple #[.slice none 0 0,.int .i64 2])/\Gr w w':=by
 have G1:=hide ((Gr.refl w).alloc (.cells #[.bool s,.slice ad n cap] 24))
 have RL:=hide (rightR s ad n cap xs _ (rx.gr G1.out))
 by_cases h1:RightN s xs
 ·have h2:wdB b=false:=by
   cases hw:wdB b with
   | false=>rfl
   | true=>exact absurd ⟨h1,hw⟩ hR
  have IW:=mayC b
  have RL2:=RL.out
  rw[rightN_t h1] at RL2
  replace RL2:=hide RL2
  rw[h2] at IW
  replace IW:=hide IW
  clear rx hR h1 h2 RL
  go_enter Try.func10,Try.ntmps10
  go_wp2_with (first|(go_at_call 27;with_reducible refine RL2.out.mono ?_;rintro e w' ⟨rfl,g2⟩;replace g2:=hide g2)|(go_at_call 28;with_reducible refine(IW.out _).mono ?_;rintro e w' ⟨rfl,rfl⟩))
  go_ret2
  exact⟨rfl,G1.out.trans g2.out⟩
 ·have RL2:=RL.out
  rw[rightN_f h1] at RL2
  replace RL2:=hide RL2
  clear rx hR h1 RL
  go_enter Try.func10,Try.ntmps10
  go_wp2_with (first|(go_at_call 27;with_reducible refine RL2.out.mono ?_;rintro e w' ⟨rfl,g2⟩;replace g2:=hide g2))
  go_ret2
  exact⟨rfl,G1.out.trans g2.out⟩
end Go.Proofs.Ytfbgckgemfkioaa
namespace Go.Proofs.Ytfbgckgemfkioaa
open Go.RowKit
set_option linter.unusedVariables false
def TolR (w:World) (a:Bool) (b:Option Addr) (c d:Nat) (e X:Int):Prop:=
 (X.natAbs<TopN/\e=0/\Wh w a b c d X)\/(TopN<=X.natAbs/\a=false/\b=none/\c=0/\d=0/\e=3)
theorem TolR.gr {w w':World} {a:Bool} {b:Option Addr} {c d:Nat} {e X:Int} (h:TolR w a b c d e X) (g:Gr w w'):TolR w' a b c d e X:=by
 rcases h with ⟨h1,h2,h3⟩|h
 ·exact Or.inl ⟨h1,h2,h3.gr g⟩
 ·exact Or.inr h
theorem Wh.bl {w:World} {s:Bool} {ad:Option Addr} {n cap:Nat} {X:Int} (h:Wh w s ad n cap X):bl X.natAbs<=262144:=topN_bl.2 h.lt
def mu (k i:Nat):Nat:=1000003*(k+7)+i
theorem mu_lt {k i:Nat} (h1:k<=1000) (h2:i<=10000000):mu k i<10000000000:=by unfold mu;omega
theorem wrapU {y:Nat} (h:y<10000000000):IntKind.u64.wrap ((y:Nat):Int)=(y:Int):=by
 simp only[IntKind.wrap_u64]
 omega
theorem mark81 (k i:Nat) (w:World) (k1:k<=1000) (i1:i<=10000000):Calls Try.prog 31 #[.int .i64 (k:Int),.int .i64 (i:Int)] w fun r w'=>r = .returned (.int .i64 ((mu k i:Nat):Int))/\w=w':=by
 have e:((mu k i:Nat):Int)=1000003*((k:Int)+7)+(i:Int):=by unfold mu;omega
 rw[e]
 go_enter Try.func31,Try.ntmps31
 go_wp2
 go_ret
 exact⟨rfl,rfl⟩
def ml (k n:Nat):List Nat:=(List.range n).map (mu k)
theorem ml_len (k n:Nat):(ml k n).length=n:=by simp[ml]
theorem ml_succ (k n:Nat):ml k (n+1)=ml k n++[mu k n]:=by
 unfold ml
 rw[List.range_succ,List.map_append]
 rfl
theorem ml_get (k n j:Nat) (h:j<n):(ml k n).getD j 0=mu k j:=by
 rw[List.getD_eq_getElem?_getD,List.getElem?_eq_getElem (by rw[ml_len];exact h)]
 simp[ml]
theorem getD_leftN {xs ys:List Nat} {j:Nat} (h:j<xs.length):(xs++ys).getD j 0=xs.getD j 0:=by
 rw[List.getD_eq_getElem?_getD,List.getD_eq_getElem?_getD,List.getElem?_append_left h]
theorem ownsU_cell {w:World} {base:Nat} {g N cap:Nat} {zs:List Nat} (h:w.ownsRow base 44 1 (.slice (some ⟨g,0,none⟩) N cap) N (u64s zs)) (j:Nat) (hj:j<N):w.cell? ⟨g,j,none⟩=some (.int .u64 ((zs.getD j 0:Nat):Int)):=by
 have hl:zs.length=N:=by have:=h.1;rw[u64s_length] at this;omega
 rw[h.cellAt j (by omega),u64s_getD (by omega)]
theorem Row.at {w:World} {ad:Option Addr} {n cap:Nat} {xs:List Nat} (h:Row w ad n cap xs):∀b,ad=some b->∀j u,(u64s xs)[j]? = some u->w.cell? (b.add j)=some u:=by
 intro b e j u hu
 have hj:j<n:=by
  have:=(List.getElem?_eq_some_iff.1 hu).1
  rw[u64s_length,h.len] at this
  exact this
 obtain⟨b',off,e',hb,hc⟩:=h.cells (by omega)
 rw[e] at e'
 injection e' with e'
 subst e'
 rw[u64s_getD (by rw[h.len];exact hj)] at hu
 rw[<-hu,<-hc j hj]
 unfold Addr.add
 split
 ·rename_i h0;subst h0;rfl
 ·simp
set_option maxRecDepth 20000 in
set_option maxHeartbeats 4000000 in
theorem lent37 (ad:Option Addr) (n c:Nat) (xs:List Nat) (w:World) (hn:n<=17592186044416) (hr:Row w ad n c xs) :
  Calls Try.prog 23 #[.slice ad n c] w fun r w'=>∃g,r = .returned (.slice (some ⟨g,0,none⟩) n (n+12))/\w'.ownsRow w.heap.size 44 1 (.slice (some ⟨g,0,none⟩) (n+12) (n+12)) (n+12) (u64s (xs++ml 1 12))/\Gr w w':=by
 have l1:=hr.le
 have m1:=hr.max
 have hlen:=hr.len
 have HR:=hide hr
 have MK:Hid (∀(i:Nat) w1,i<=12->Calls Try.prog 31 #[.int .i64 1,.int .i64 (i:Int)] w1 fun r w'=>r = .returned (.int .i64 ((mu 1 i:Nat):Int))/\w1=w'):=fun i w1 h=>mark81 1 i w1 (by omega) (by omega)
 clear hr
 obtain⟨i0,hi,hz0,hz1,hz2⟩:=info_parts Try.info44
 go_enter Try.func23,Try.ntmps23
 go_wp2_with (at_make;refine wpList_make_own w rfl _ _ 22 rfl w.heap.size 44 i0 (.int .u64 0) 1 Try.underlying22 hi hz0 hz1 .i64 .i64 _ (n+12) rfl rfl ?c1 ?c2 ?c3 ?c4 ?_)
 case' c1=>omega
 case' c2=>rw[hz2];omega
 case' c3=>unfold maxLen;omega
 case' c4=>exact Nat.le_refl _
 intro w2 hown0 hgr0
 have g2:=hide ((Gr.refl w).grown hgr0 (fun k h=>by cases h))
 have HR2:=hide (HR.out.gr g2.out)
 clear hgr0
 go_wp2_with (at_builtin;refine wpList_append_fits_any w2 rfl _ _ 22 rfl w.heap.size 44 i0 1 Try.underlying22 hi hz1 w.heap.size 0 (n+12) [] rfl hown0 ad n c (u64s xs) rfl ?d1 ?d5 ?d2 ?d3 ?d4 ?_)
 case' d1=>rw[u64s_length,hlen];omega
 case' d5=>exact fun e=>⟨by have:=HR.out.nil e;omega,HR.out.nil e⟩
 case' d2=>exact HR2.out.at
 case' d3=>exact one_u64 _
 case' d4=>omega
 intro w3 hown1 hgr1
 have g3:=hide (g2.out.grown hgr1 (fun k h=>by injection h with h;omega))
 have OW:Hid (w3.ownsRow w.heap.size 44 1 (.slice (some ⟨w.heap.size,0,none⟩) (n+0) (n+12)) (n+0) (u64s (xs++ml 1 0))):=by
  rw[show ml 1 0=[] from rfl,List.append_nil]
  exact hown1
 clear g2 hown0 hown1 hgr1 HR HR2
 go_wp2
 go_loopw [3,4] (fun v i wr=>∃k:Nat,k<=12/\i = .int .i64 (k:Int)/\v = .slice (some ⟨w.heap.size,0,none⟩) (n+k) (n+12)/\Hid (wr.ownsRow w.heap.size 44 1 (.slice (some ⟨w.heap.size,0,none⟩) (n+k) (n+12)) (n+k) (u64s (xs++ml 1 k)))/\Hid (Gr w wr)) (fun _ i _=>12-(intOf i).toNat)
 case atStart=>exact⟨0,by omega,rfl,by simp,OW,g3⟩
 case round =>
  obtain⟨k,hk,rfl,rfl,hown,hg⟩:=hrel
  by_cases hlt:k<12
  ·have MKk:=hide (MK.out k wr hk)
   have hmu:=mu_lt (k:=1) (i:=k) (by omega) (by omega)
   have HMS:=hide (ml_succ 1 k)
   obtain⟨y,hy⟩:∃y,mu 1 k=y:=⟨_,rfl⟩
   rw[hy] at MKk hmu HMS
   clear hy
   have hown':=hown.out.alloc (.cells #[.int .u64 (y:Int)] 44)
   go_wp2_with (first|(go_at_call 31;(with_reducible refine MKk.out.mono ?_);rintro r w1 ⟨rfl,rfl⟩)|(at_builtin;refine wpList_append_fits (wr.alloc (.cells #[.int .u64 (y:Int)] 44)) rfl _ _ 22 rfl w.heap.size 44 i0 1 Try.underlying22 hi hz1 w.heap.size (n+k) (n+12) (u64s (xs++ml 1 k)) rfl hown' ⟨wr.heap.size,0,none⟩ 1 1 (u64s [y]) rfl ?f1 ?f2 ?f3 ?f4 ?_))
   case' f1=>rfl
   case' f2 =>
    intro j u hj
    match j,hj with
    | 0,hj=>simp[u64s] at hj;subst hj;simp[Addr.add]
   case' f3=>exact one_u64 _
   case' f4=>omega
   intro w5 hown2 hgr2
   have g5:=hide ((hg.out.alloc (.cells #[.int .u64 (y:Int)] 44)).grown hgr2 (fun k h=>by injection h with h;omega))
   rw[<-u64s_append,List.append_assoc,<-HMS.out] at hown2
   have OW2:=hide hown2
   clear hown2 hown' hgr2 MKk
   go_wp2
   go_roundw
   case rel=>exact⟨k+1,by omega,by go_num,by rw[Nat.add_assoc],OW2,g5⟩
   case measure=>simp only[intOf];omega
  ·have hkn:k=12:=by omega
   subst hkn
   go_wp2
   go_ret
   exact⟨_,rfl,hown.out,hg.out⟩
end Go.Proofs.Ytfbgckgemfkioaa
