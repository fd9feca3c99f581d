import Derived.Test.YtbcocfhfhblhcaaGreatDoorM43
import Derived.Test.YtbcocfhfhblhcaaGreatDoorM09
import Derived.Test.YtbcocfhfhblhcaaGreatDoorM42
import Derived.Test.YtbcocfhfhblhcaaGreatDoorRows
import Derived.WalkKit
import Derived.ProofKit
import Derived.OpenShut
import Derived.LaidMore
import Derived.Stop.Joined
import Derived.Laws.Cover2
import Derived.ChangeSlices
import Derived.Carry
import Derived.Deep.Strs
namespace Go.Proofs.YtbcocfhfhblhcaaGreatDoor.Fl
open Go.RowKit
open Ieee
open Go.Proofs.YtbcocfhfhblhcaaGreatDoor.Jx (cvI cv_le pv Sup cv_pv pv_sup)
set_option linter.unusedVariables false
set_option linter.unusedSimpArgs false
def Sml (f:Nat->Int) (n:Nat):Prop:=∀ i,i<n->-16384<=f i/\f i<=16384
theorem sml_next {f:Nat->Int} {n:Nat} {x:Int} (h:Sml f n) (e:f n=x) (h1 : -16384<=x) (h2:x<=16384):Sml f (n+1):=fun i hi=>by
 by_cases e1:i=n
 ·subst e1;omega
 ·exact h i (by omega)
theorem ArgI.cut {w:World} {ad:Option Addr} {len cap m:Nat} {f:Nat->Int} (h:ArgI w ad len cap f) (hm:m<=len):ArgI w ad m cap f:=
 ⟨Nat.le_trans hm h.1,h.2.1,fun hp=>by
  obtain ⟨a,e,hb,hc⟩:=h.2.2 (by omega)
  exact ⟨a,e,hb,fun i hi=>hc i (by omega)⟩⟩
theorem never_end {la lb n1 n2:Nat} {v1 v2:Int} {w2 w3:World} {ad1 ad2:Option Addr} {fa fb:Nat->Int}
  (F1:(v1=0/\n1=pn la lb/\(∀ l,l<pn la lb->In64 (pv (cf la fa) (cf lb fb) l))/\IR w2 ad1 n1 (pv (cf la fa) (cf lb fb)))\/((v1=6\/v1=8)/\n1=0/\¬ ((∀ i,i<la->(fa i).natAbs<=16384)/\∀ i,i<lb->(fb i).natAbs<=16384)))
  (F2:(∀ l,l<pn la lb->In64 (pv (cf la fa) (cf lb fb) l))->v2=0/\n2=pn la lb/\IR w3 ad2 n2 (pv (cf la fa) (cf lb fb))) (g:Gr w2 w3) (hl:la<=60) (hm:lb<=60) :
  (v1=0/\v2=0/\n2=n1/\IR w3 ad1 n1 (pv (cf la fa) (cf lb fb))/\IR w3 ad2 n1 (pv (cf la fa) (cf lb fb))/\n1<=120)\/((v1=6\/v1=8)/\n1=0/\¬ (Sml fa la/\Sml fb lb)):=by
 rcases F1 with ⟨a,b,c,d⟩ | ⟨a,b,c⟩
 ·obtain ⟨e1,e2,e3⟩:=F2 c
  subst e2
  subst b
  exact Or.inl ⟨a,e1,rfl,d.gr g,e3,by unfold pn;split <;> omega⟩
 ·exact Or.inr ⟨a,b,fun h=>c ⟨fun i hi=>by have:=h.1 i hi;omega,fun i hi=>by have:=h.2 i hi;omega⟩⟩
set_option maxHeartbeats 8000000 in
set_option maxRecDepth 100000 in
theorem neverR (la ca lb cb:Nat) (aa ab:Option Addr) (fa fb:Nat->Int) (w:World) (hT:TabAt 2 Lib.deBruijn64tab w) (hF:TabF w) (h1:ArgI w aa la ca fa) (h2:ArgI w ab lb cb fb) :
  Calls Tryz.prog 7 #[.slice aa la ca,.slice ab lb cb] w fun e w'=>e = .returned (.bool true)/\Hid (Gr w w'):=by
 have AW:=hide (awakeQ w hT hF)
 have TM:Hid (∀ m n w1,m<=la->n<=lb->m<=60->n<=60->Gr w w1->_):=fun m n w1 hm hn hm6 hn6 g=>timesU m ca n cb aa ab fa fb w1 (by omega) (tab_gr hT g) (hF.gr g) ((h1.gr g).cut hm) ((h2.gr g).cut hn)
 have SM:Hid (∀ m n w1,m<=la->n<=lb->m<=60->n<=60->Gr w w1->_):=fun m n w1 hm hn hm6 hn6 g=>slowlyV m ca n cb aa ab fa fb w1 (by omega) (tab_gr hT g) ((h1.gr g).cut hm) ((h2.gr g).cut hn)
 have H1:=hide h1
 have H2:=hide h2
 have c1:=h1.1
 have c2:=h2.1
 have m1:=h1.len
 have m2:=h2.len
 clear hT hF h1 h2
 go_enter Tryz.func7,Tryz.ntmps7
 by_cases ga:(la:Int)>60
 ·by_cases gb:(lb:Int)>60
  ·go_wp2_with (first | (go_at_call 10;(with_reducible refine AW.out.mono ?_);rintro r w1 ⟨rfl,G1⟩) | (go_at_call 11;(with_reducible refine (TM.out 60 60 _ (by omega) (by omega) (by omega) (by omega) G1.out).mono ?_);rintro r w2 ⟨ad1,n1,N1,v1,rfl,F1,G2⟩;have G12:Hid (Gr w w2):=G1.out.trans G2.out) | (go_at_call 15;(with_reducible refine (SM.out 60 60 _ (by omega) (by omega) (by omega) (by omega) G12.out).mono ?_);rintro r w3 ⟨ad2,n2,N2,v2,rfl,F2,G3⟩;have G13:Hid (Gr w w3):=G12.out.trans G3.out))
   have FF:=hide (never_end F1.out F2.out G3.out (by omega) (by omega))
   clear F1 F2 G1 G2 G3 G12 AW TM SM
   go_loopw [9,10] (fun s i wr=>∃ (j:Nat) (b:Bool),j<=60/\i = .int .i64 (j:Int)/\s = .bool b/\Hid (b=true->Sml fa j)/\wr=w3) (fun _ i _=>60-(intOf i).toNat)
   case atStart=>exact ⟨0,true,by omega,rfl,rfl,fun _ i hi=>absurd hi (by omega),rfl⟩
   case round =>
    obtain ⟨j,b,hj,rfl,rfl,hb,rfl⟩:=hrel
    by_cases hlt:j<60
    ·have i1:(j:Int)<(60:Int):=by omega
     obtain ⟨a,rfl,_,hc⟩:=(H1.out.gr G13.out).2.2 (by omega)
     have k1:=(hc j (by omega)).1
     have NX:=hide (fun h x=>sml_next (x:=x) (hb.out h))
     clear hc
     obtain ⟨x,hx⟩:∃ x,x=fa j:=⟨_,rfl⟩
     rw [<-hx] at k1
     have HX:=hide hx
     clear hx
     cases b
     ·go_wp2
      exact ⟨⟨j+1,false,by omega,by go_num,rfl,(fun h=>by cases h),trivial⟩,by simp only [intOf];omega⟩
     ·by_cases h5:x >= -16384
      ·by_cases h6:x<=16384
       ·go_wp2
        exact ⟨⟨j+1,true,by omega,by go_num,rfl,fun _=>NX.out rfl x HX.out.symm (by omega) (by omega),trivial⟩,by simp only [intOf];omega⟩
       ·go_wp2
        exact ⟨⟨j+1,false,by omega,by go_num,rfl,(fun h=>by cases h),trivial⟩,by simp only [intOf];omega⟩
      ·go_wp2
       exact ⟨⟨j+1,false,by omega,by go_num,rfl,(fun h=>by cases h),trivial⟩,by simp only [intOf];omega⟩
    ·have i1:¬ (j:Int)<(60:Int):=by omega
     have S1:Hid (b=true->Sml fa 60):=by
      have h:=hb.out
      rw [show j=60 by omega] at h
      exact h
     clear hb
     go_wp2
     go_loopw [9,11] (fun s i wx=>∃ (k:Nat) (c:Bool),k<=60/\i = .int .i64 (k:Int)/\s = .bool c/\Hid (c=true->Sml fa 60/\Sml fb k)/\wx=wr) (fun _ i _=>60-(intOf i).toNat)
     case atStart=>exact ⟨0,b,by omega,rfl,rfl,fun h=>⟨S1.out h,fun i hi=>absurd hi (by omega)⟩,rfl⟩
     case round =>
      obtain ⟨k,c,hk,rfl,rfl,hb,rfl⟩:=hrel
      clear S1
      by_cases hlt:k<60
      ·have i2:(k:Int)<(60:Int):=by omega
       obtain ⟨a,rfl,_,hc⟩:=(H2.out.gr G13.out).2.2 (by omega)
       have k1:=(hc k (by omega)).1
       have NX:=hide (fun (h:c=true) x h1 h2 h3=>(⟨(hb.out h).1,sml_next (x:=x) (hb.out h).2 h1 h2 h3⟩:Sml fa 60/\Sml fb (k+1)))
       clear hc
       obtain ⟨x,hx⟩:∃ x,x=fb k:=⟨_,rfl⟩
       rw [<-hx] at k1
       have HX:=hide hx
       clear hx
       cases c
       ·go_wp2
        exact ⟨⟨k+1,false,by omega,by go_num,rfl,(fun h=>by cases h),trivial⟩,by simp only [intOf];omega⟩
       ·by_cases h5:x >= -16384
        ·by_cases h6:x<=16384
         ·go_wp2
          exact ⟨⟨k+1,true,by omega,by go_num,rfl,fun _=>NX.out rfl x HX.out.symm (by omega) (by omega),trivial⟩,by simp only [intOf];omega⟩
         ·go_wp2
          exact ⟨⟨k+1,false,by omega,by go_num,rfl,(fun h=>by cases h),trivial⟩,by simp only [intOf];omega⟩
        ·go_wp2
         exact ⟨⟨k+1,false,by omega,by go_num,rfl,(fun h=>by cases h),trivial⟩,by simp only [intOf];omega⟩
      ·have i2:¬ (k:Int)<(60:Int):=by omega
       have S2:Hid (c=true->Sml fa 60/\Sml fb 60):=by
        have h:=hb.out
        rw [show k=60 by omega] at h
        exact h
       clear hb
       rcases FF.out with ⟨rfl,rfl,rfl,I1,I2,hn⟩ | ⟨hv,rfl,hs⟩
       ·have SL:=hide (sameLongsR _ N1 N2 ad1 ad2 _ _ _ I1 I2 (by omega) (fun _ _=>rfl))
        clear FF I1 I2
        go_wp2_with (go_at_call 22;(with_reducible refine SL.out.mono ?_);rintro r w6 ⟨rfl,G6⟩)
        go_ret
        exact ⟨rfl,G13.out.trans G6⟩
       ·cases c
        ·clear FF S2 hs
         rcases hv with rfl | rfl
         ·go_wp2
          go_ret
          exact ⟨rfl,G13⟩
         ·go_wp2
          go_ret
          exact ⟨rfl,G13⟩
        ·exact absurd (S2.out rfl) hs
  ·go_wp2_with (first | (go_at_call 10;(with_reducible refine AW.out.mono ?_);rintro r w1 ⟨rfl,G1⟩) | (go_at_call 11;(with_reducible refine (TM.out 60 lb _ (by omega) (by omega) (by omega) (by omega) G1.out).mono ?_);rintro r w2 ⟨ad1,n1,N1,v1,rfl,F1,G2⟩;have G12:Hid (Gr w w2):=G1.out.trans G2.out) | (go_at_call 15;(with_reducible refine (SM.out 60 lb _ (by omega) (by omega) (by omega) (by omega) G12.out).mono ?_);rintro r w3 ⟨ad2,n2,N2,v2,rfl,F2,G3⟩;have G13:Hid (Gr w w3):=G12.out.trans G3.out))
   have FF:=hide (never_end F1.out F2.out G3.out (by omega) (by omega))
   clear F1 F2 G1 G2 G3 G12 AW TM SM
   go_loopw [9,10] (fun s i wr=>∃ (j:Nat) (b:Bool),j<=60/\i = .int .i64 (j:Int)/\s = .bool b/\Hid (b=true->Sml fa j)/\wr=w3) (fun _ i _=>60-(intOf i).toNat)
   case atStart=>exact ⟨0,true,by omega,rfl,rfl,fun _ i hi=>absurd hi (by omega),rfl⟩
   case round =>
    obtain ⟨j,b,hj,rfl,rfl,hb,rfl⟩:=hrel
    by_cases hlt:j<60
    ·have i1:(j:Int)<(60:Int):=by omega
     obtain ⟨a,rfl,_,hc⟩:=(H1.out.gr G13.out).2.2 (by omega)
     have k1:=(hc j (by omega)).1
     have NX:=hide (fun h x=>sml_next (x:=x) (hb.out h))
     clear hc
     obtain ⟨x,hx⟩:∃ x,x=fa j:=⟨_,rfl⟩
     rw [<-hx] at k1
     have HX:=hide hx
     clear hx
     cases b
     ·go_wp2
      exact ⟨⟨j+1,false,by omega,by go_num,rfl,(fun h=>by cases h),trivial⟩,by simp only [intOf];omega⟩
     ·by_cases h5:x >= -16384
      ·by_cases h6:x<=16384
       ·go_wp2
        exact ⟨⟨j+1,true,by omega,by go_num,rfl,fun _=>NX.out rfl x HX.out.symm (by omega) (by omega),trivial⟩,by simp only [intOf];omega⟩
       ·go_wp2
        exact ⟨⟨j+1,false,by omega,by go_num,rfl,(fun h=>by cases h),trivial⟩,by simp only [intOf];omega⟩
      ·go_wp2
       exact ⟨⟨j+1,false,by omega,by go_num,rfl,(fun h=>by cases h),trivial⟩,by simp only [intOf];omega⟩
    ·have i1:¬ (j:Int)<(60:Int):=by omega
     have S1:Hid (b=true->Sml fa 60):=by
      have h:=hb.out
      rw [show j=60 by omega] at h
      exact h
     clear hb
     go_wp2
     go_loopw [9,11] (fun s i wx=>∃ (k:Nat) (c:Bool),k<=lb/\i = .int .i64 (k:Int)/\s = .bool c/\Hid (c=true->Sml fa 60/\Sml fb k)/\wx=wr) (fun _ i _=>lb-(intOf i).toNat)
     case atStart=>exact ⟨0,b,by omega,rfl,rfl,fun h=>⟨S1.out h,fun i hi=>absurd hi (by omega)⟩,rfl⟩
     case round =>
      obtain ⟨k,c,hk,rfl,rfl,hb,rfl⟩:=hrel
      clear S1
      by_cases hlt:k<lb
      ·have i2:(k:Int)<(lb:Int):=by omega
       obtain ⟨a,rfl,_,hc⟩:=(H2.out.gr G13.out).2.2 (by omega)
       have k1:=(hc k (by omega)).1
       have NX:=hide (fun (h:c=true) x h1 h2 h3=>(⟨(hb.out h).1,sml_next (x:=x) (hb.out h).2 h1 h2 h3⟩:Sml fa 60/\Sml fb (k+1)))
       clear hc
       obtain ⟨x,hx⟩:∃ x,x=fb k:=⟨_,rfl⟩
       rw [<-hx] at k1
       have HX:=hide hx
       clear hx
       cases c
       ·go_wp2
        exact ⟨⟨k+1,false,by omega,by go_num,rfl,(fun h=>by cases h),trivial⟩,by simp only [intOf];omega⟩
       ·by_cases h5:x >= -16384
        ·by_cases h6:x<=16384
         ·go_wp2
          exact ⟨⟨k+1,true,by omega,by go_num,rfl,fun _=>NX.out rfl x HX.out.symm (by omega) (by omega),trivial⟩,by simp only [intOf];omega⟩
         ·go_wp2
          exact ⟨⟨k+1,false,by omega,by go_num,rfl,(fun h=>by cases h),trivial⟩,by simp only [intOf];omega⟩
        ·go_wp2
         exact ⟨⟨k+1,false,by omega,by go_num,rfl,(fun h=>by cases h),trivial⟩,by simp only [intOf];omega⟩
      ·have i2:¬ (k:Int)<(lb:Int):=by omega
       have S2:Hid (c=true->Sml fa 60/\Sml fb lb):=by
        have h:=hb.out
        rw [show k=lb by omega] at h
        exact h
       clear hb
       rcases FF.out with ⟨rfl,rfl,rfl,I1,I2,hn⟩ | ⟨hv,rfl,hs⟩
       ·have SL:=hide (sameLongsR _ N1 N2 ad1 ad2 _ _ _ I1 I2 (by omega) (fun _ _=>rfl))
        clear FF I1 I2
        go_wp2_with (go_at_call 22;(with_reducible refine SL.out.mono ?_);rintro r w6 ⟨rfl,G6⟩)
        go_ret
        exact ⟨rfl,G13.out.trans G6⟩
       ·cases c
        ·clear FF S2 hs
         rcases hv with rfl | rfl
         ·go_wp2
          go_ret
          exact ⟨rfl,G13⟩
         ·go_wp2
          go_ret
          exact ⟨rfl,G13⟩
        ·exact absurd (S2.out rfl) hs
 ·by_cases gb:(lb:Int)>60
  ·go_wp2_with (first | (go_at_call 10;(with_reducible refine AW.out.mono ?_);rintro r w1 ⟨rfl,G1⟩) | (go_at_call 11;(with_reducible refine (TM.out la 60 _ (by omega) (by omega) (by omega) (by omega) G1.out).mono ?_);rintro r w2 ⟨ad1,n1,N1,v1,rfl,F1,G2⟩;have G12:Hid (Gr w w2):=G1.out.trans G2.out) | (go_at_call 15;(with_reducible refine (SM.out la 60 _ (by omega) (by omega) (by omega) (by omega) G12.out).mono ?_);rintro r w3 ⟨ad2,n2,N2,v2,rfl,F2,G3⟩;have G13:Hid (Gr w w3):=G12.out.trans G3.out))
   have FF:=hide (never_end F1.out F2.out G3.out (by omega) (by omega))
   clear F1 F2 G1 G2 G3 G12 AW TM SM
   go_loopw [9,10] (fun s i wr=>∃ (j:Nat) (b:Bool),j<=la/\i = .int .i64 (j:Int)/\s = .bool b/\Hid (b=true->Sml fa j)/\wr=w3) (fun _ i _=>la-(intOf i).toNat)
   case atStart=>exact ⟨0,true,by omega,rfl,rfl,fun _ i hi=>absurd hi (by omega),rfl⟩
   case round =>
    obtain ⟨j,b,hj,rfl,rfl,hb,rfl⟩:=hrel
    by_cases hlt:j<la
    ·have i1:(j:Int)<(la:Int):=by omega
     obtain ⟨a,rfl,_,hc⟩:=(H1.out.gr G13.out).2.2 (by omega)
     have k1:=(hc j (by omega)).1
     have NX:=hide (fun h x=>sml_next (x:=x) (hb.out h))
     clear hc
     obtain ⟨x,hx⟩:∃ x,x=fa j:=⟨_,rfl⟩
     rw [<-hx] at k1
     have HX:=hide hx
     clear hx
     cases b
     ·go_wp2
      exact ⟨⟨j+1,false,by omega,by go_num,rfl,(fun h=>by cases h),trivial⟩,by simp only [intOf];omega⟩
     ·by_cases h5:x >= -16384
      ·by_cases h6:x<=16384
       ·go_wp2
        exact ⟨⟨j+1,true,by omega,by go_num,rfl,fun _=>NX.out rfl x HX.out.symm (by omega) (by omega),trivial⟩,by simp only [intOf];omega⟩
       ·go_wp2
        exact ⟨⟨j+1,false,by omega,by go_num,rfl,(fun h=>by cases h),trivial⟩,by simp only [intOf];omega⟩
      ·go_wp2
       exact ⟨⟨j+1,false,by omega,by go_num,rfl,(fun h=>by cases h),trivial⟩,by simp only [intOf];omega⟩
    ·have i1:¬ (j:Int)<(la:Int):=by omega
     have S1:Hid (b=true->Sml fa la):=by
      have h:=hb.out
      rw [show j=la by omega] at h
      exact h
     clear hb
     go_wp2
     go_loopw [9,11] (fun s i wx=>∃ (k:Nat) (c:Bool),k<=60/\i = .int .i64 (k:Int)/\s = .bool c/\Hid (c=true->Sml fa la/\Sml fb k)/\wx=wr) (fun _ i _=>60-(intOf i).toNat)
     case atStart=>exact ⟨0,b,by omega,rfl,rfl,fun h=>⟨S1.out h,fun i hi=>absurd hi (by omega)⟩,rfl⟩
     case round =>
      obtain ⟨k,c,hk,rfl,rfl,hb,rfl⟩:=hrel
      clear S1
      by_cases hlt:k<60
      ·have i2:(k:Int)<(60:Int):=by omega
       obtain ⟨a,rfl,_,hc⟩:=(H2.out.gr G13.out).2.2 (by omega)
       have k1:=(hc k (by omega)).1
       have NX:=hide (fun (h:c=true) x h1 h2 h3=>(⟨(hb.out h).1,sml_next (x:=x) (hb.out h).2 h1 h2 h3⟩:Sml fa la/\Sml fb (k+1)))
       clear hc
       obtain ⟨x,hx⟩:∃ x,x=fb k:=⟨_,rfl⟩
       rw [<-hx] at k1
       have HX:=hide hx
       clear hx
       cases c
       ·go_wp2
        exact ⟨⟨k+1,false,by omega,by go_num,rfl,(fun h=>by cases h),trivial⟩,by simp only [intOf];omega⟩
       ·by_cases h5:x >= -16384
        ·by_cases h6:x<=16384
         ·go_wp2
          exact ⟨⟨k+1,true,by omega,by go_num,rfl,fun _=>NX.out rfl x HX.out.symm (by omega) (by omega),trivial⟩,by simp only [intOf];omega⟩
         ·go_wp2
          exact ⟨⟨k+1,false,by omega,by go_num,rfl,(fun h=>by cases h),trivial⟩,by simp only [intOf];omega⟩
        ·go_wp2
         exact ⟨⟨k+1,false,by omega,by go_num,rfl,(fun h=>by cases h),trivial⟩,by simp only [intOf];omega⟩
      ·have i2:¬ (k:Int)<(60:Int):=by omega
       have S2:Hid (c=true->Sml fa la/\Sml fb 60):=by
        have h:=hb.out
        rw [show k=60 by omega] at h
        exact h
       clear hb
       rcases FF.out with ⟨rfl,rfl,rfl,I1,I2,hn⟩ | ⟨hv,rfl,hs⟩
       ·have SL:=hide (sameLongsR _ N1 N2 ad1 ad2 _ _ _ I1 I2 (by omega) (fun _ _=>rfl))
        clear FF I1 I2
        go_wp2_with (go_at_call 22;(with_reducible refine SL.out.mono ?_);rintro r w6 ⟨rfl,G6⟩)
        go_ret
        exact ⟨rfl,G13.out.trans G6⟩
       ·cases c
        ·clear FF S2 hs
         rcases hv with rfl | rfl
         ·go_wp2
          go_ret
          exact ⟨rfl,G13⟩
         ·go_wp2
          go_ret
          exact ⟨rfl,G13⟩
        ·exact absurd (S2.out rfl) hs
  ·go_wp2_with (first | (go_at_call 10;(with_reducible refine AW.out.mono ?_);rintro r w1 ⟨rfl,G1⟩) | (go_at_call 11;(with_reducible refine (TM.out la lb _ (by omega) (by omega) (by omega) (by omega) G1.out).mono ?_);rintro r w2 ⟨ad1,n1,N1,v1,rfl,F1,G2⟩;have G12:Hid (Gr w w2):=G1.out.trans G2.out) | (go_at_call 15;(with_reducible refine (SM.out la lb _ (by omega) (by omega) (by omega) (by omega) G12.out).mono ?_);rintro r w3 ⟨ad2,n2,N2,v2,rfl,F2,G3⟩;have G13:Hid (Gr w w3):=G12.out.trans G3.out))
   have FF:=hide (never_end F1.out F2.out G3.out (by omega) (by omega))
   clear F1 F2 G1 G2 G3 G12 AW TM SM
   go_loopw [9,10] (fun s i wr=>∃ (j:Nat) (b:Bool),j<=la/\i = .int .i64 (j:Int)/\s = .bool b/\Hid (b=true->Sml fa j)/\wr=w3) (fun _ i _=>la-(intOf i).toNat)
   case atStart=>exact ⟨0,true,by omega,rfl,rfl,fun _ i hi=>absurd hi (by omega),rfl⟩
   case round =>
    obtain ⟨j,b,hj,rfl,rfl,hb,rfl⟩:=hrel
    by_cases hlt:j<la
    ·have i1:(j:Int)<(la:Int):=by omega
     obtain ⟨a,rfl,_,hc⟩:=(H1.out.gr G13.out).2.2 (by omega)
     have k1:=(hc j (by omega)).1
     have NX:=hide (fun h x=>sml_next (x:=x) (hb.out h))
     clear hc
     obtain ⟨x,hx⟩:∃ x,x=fa j:=⟨_,rfl⟩
     rw [<-hx] at k1
     have HX:=hide hx
     clear hx
     cases b
     ·go_wp2
      exact ⟨⟨j+1,false,by omega,by go_num,rfl,(fun h=>by cases h),trivial⟩,by simp only [intOf];omega⟩
     ·by_cases h5:x >= -16384
      ·by_cases h6:x<=16384
       ·go_wp2
        exact ⟨⟨j+1,true,by omega,by go_num,rfl,fun _=>NX.out rfl x HX.out.symm (by omega) (by omega),trivial⟩,by simp only [intOf];omega⟩
       ·go_wp2
        exact ⟨⟨j+1,false,by omega,by go_num,rfl,(fun h=>by cases h),trivial⟩,by simp only [intOf];omega⟩
      ·go_wp2
       exact ⟨⟨j+1,false,by omega,by go_num,rfl,(fun h=>by cases h),trivial⟩,by simp only [intOf];omega⟩
    ·have i1:¬ (j:Int)<(la:Int):=by omega
     have S1:Hid (b=true->Sml fa la):=by
      have h:=hb.out
      rw [show j=la by omega] at h
      exact h
     clear hb
     go_wp2
     go_loopw [9,11] (fun s i wx=>∃ (k:Nat) (c:Bool),k<=lb/\i = .int .i64 (k:Int)/\s = .bool c/\Hid (c=true->Sml fa la/\Sml fb k)/\wx=wr) (fun _ i _=>lb-(intOf i).toNat)
     case atStart=>exact ⟨0,b,by omega,rfl,rfl,fun h=>⟨S1.out h,fun i hi=>absurd hi (by omega)⟩,rfl⟩
     case round =>
      obtain ⟨k,c,hk,rfl,rfl,hb,rfl⟩:=hrel
      clear S1
      by_cases hlt:k<lb
      ·have i2:(k:Int)<(lb:Int):=by omega
       obtain ⟨a,rfl,_,hc⟩:=(H2.out.gr G13.out).2.2 (by omega)
       have k1:=(hc k (by omega)).1
       have NX:=hide (fun (h:c=true) x h1 h2 h3=>(⟨(hb.out h).1,sml_next (x:=x) (hb.out h).2 h1 h2 h3⟩:Sml fa la/\Sml fb (k+1)))
       clear hc
       obtain ⟨x,hx⟩:∃ x,x=fb k:=⟨_,rfl⟩
       rw [<-hx] at k1
       have HX:=hide hx
       clear hx
       cases c
       ·go_wp2
        exact ⟨⟨k+1,false,by omega,by go_num,rfl,(fun h=>by cases h),trivial⟩,by simp only [intOf];omega⟩
       ·by_cases h5:x >= -16384
        ·by_cases h6:x<=16384
         ·go_wp2
          exact ⟨⟨k+1,true,by omega,by go_num,rfl,fun _=>NX.out rfl x HX.out.symm (by omega) (by omega),trivial⟩,by simp only [intOf];omega⟩
         ·go_wp2
          exact ⟨⟨k+1,false,by omega,by go_num,rfl,(fun h=>by cases h),trivial⟩,by simp only [intOf];omega⟩
        ·go_wp2
         exact ⟨⟨k+1,false,by omega,by go_num,rfl,(fun h=>by cases h),trivial⟩,by simp only [intOf];omega⟩
      ·have i2:¬ (k:Int)<(lb:Int):=by omega
       have S2:Hid (c=true->Sml fa la/\Sml fb lb):=by
        have h:=hb.out
        rw [show k=lb by omega] at h
        exact h
       clear hb
       rcases FF.out with ⟨rfl,rfl,rfl,I1,I2,hn⟩ | ⟨hv,rfl,hs⟩
       ·have SL:=hide (sameLongsR _ N1 N2 ad1 ad2 _ _ _ I1 I2 (by omega) (fun _ _=>rfl))
        clear FF I1 I2
        go_wp2_with (go_at_call 22;(with_reducible refine SL.out.mono ?_);rintro r w6 ⟨rfl,G6⟩)
        go_ret
        exact ⟨rfl,G13.out.trans G6⟩
       ·cases c
        ·clear FF S2 hs
         rcases hv with rfl | rfl
         ·go_wp2
          go_ret
          exact ⟨rfl,G13⟩
         ·go_wp2
          go_ret
          exact ⟨rfl,G13⟩
        ·exact absurd (S2.out rfl) hs
theorem neverW (aa ab:Option Addr) (la lb ca cb:Nat) (fa fb:Nat->Int) (w:World) (hT:TabAt 2 Lib.deBruijn64tab w) (hF:TabF w) (h1:ArgI w aa la ca fa) (h2:ArgI w ab lb cb fb) :
  Calls Tryz.prog 7 #[.slice aa la ca,.slice ab lb cb] w fun e w'=>e = .returned (.bool true)/\Gr w w':=(neverR la ca lb cb aa ab fa fb w hT hF h1 h2).mono fun e w' h=>⟨h.1,h.2.out⟩
end Go.Proofs.YtbcocfhfhblhcaaGreatDoor.Fl
namespace Go.Proofs.YtbcocfhfhblhcaaGreatDoor
open Go.ChangeShapes Go.WideShapes Go.ChangeAt Go.RowKit
set_option linter.unusedVariables false
theorem own:ownKnob Tryz.prog.godebug=none:=by kernel_rfl
theorem laidOut:laidOutB Tryz.prog=true:=by kernel_rfl
theorem cellsI:Tryz.prog.cellsOf 3=1:=by kernel_rfl
theorem cellsB:Tryz.prog.cellsOf 5=1:=by kernel_rfl
theorem cellsL:Tryz.prog.cellsOf 2=1:=by kernel_rfl
theorem gTab:Tryz.prog.globalNamed "math/bits.deBruijn64tab" = some 2:=by kernel_rfl
theorem tTab:(Tryz.prog.globals[2]?).map (·.type)=some 198:=by kernel_rfl
theorem gFou:Tryz.prog.globalNamed "rosette/shuffle.fours" = some 3:=by kernel_rfl
theorem tFou:(Tryz.prog.globals[3]?).map (·.type)=some 205:=by kernel_rfl
theorem laid_list {H:Type}:(Rows.laid_math_bits_deBruijn64tab:DataW H) = .agg (Lib.deBruijn64tab.map fun (n:Nat)=>.lit (.int .u8 (n:Int))):=rfl
theorem laid_fours {H:Type}:(Rows.laid_rosette_shuffle_fours:DataW H) = .agg (fours.map fun (n:Nat)=>.lit (.int .i64 (n:Int))):=rfl
theorem tab_len:Lib.deBruijn64tab.length=64:=rfl
theorem fou_len:fours.length=16:=rfl
set_option maxRecDepth 100000 in
theorem tabs_of_laid {W:World} (h:laidMetH Tryz.prog [("math/bits.deBruijn32tab",Rows.laid_math_bits_deBruijn32tab),("math/bits.deBruijn64tab",Rows.laid_math_bits_deBruijn64tab),("rosette/shuffle.fours",Rows.laid_rosette_shuffle_fours)] W):TabAt 2 Lib.deBruijn64tab W/\TabF W:=by
 rw [MakeChecks.laidMetH_plain _ _ _ (by kernel_rfl)] at h
 obtain ⟨ps,⟨g9,t9,cs9,f9,p9,q9,hg9,ht9,hv9,hd9,hrest9,_⟩,_,_⟩:=h
 obtain ⟨g0,t0,cs0,f0,p0,q0,hg0,ht0,hv0,hd0,hrest,_⟩:=hrest9
 obtain ⟨g1,t1,cs1,f1,p1,q1,hg1,ht1,hv1,hd1,_,_⟩:=hrest
 constructor
 ·obtain rfl:=Option.some.inj (gTab.symm.trans hg0)
  obtain rfl:=Option.some.inj (tTab.symm.trans ht0)
  obtain ⟨xs,m1,rfl,hx1,hlen,hn3,hel⟩:=DataW.trod_array Tryz.underlying198 hd0
  rw [laid_list] at hx1
  have hx2:Lib.deBruijn64tab.map (fun (n:Nat)=>(.lit (.int .u8 (n:Int)):DataW Unit))=xs.map (·.1):=by
   injection hx1 with h1 h2
   injection h1
  intro j hj
  rw [tab_len] at hj
  have h0:=hel j hj
  rw [cellsB,Nat.mul_one] at h0
  have hxj:xs[j]? = some xs[j]:=List.getElem?_eq_getElem (by omega)
  rw [hxj] at h0
  obtain ⟨n,e1,e2,_⟩:=DataW.trod_int Tryz.underlying5 h0
  have e3:(xs.map (·.1))[j]? = some (.lit (.int .u8 n)):=by
   rw [List.getElem?_map,hxj,e2];rfl
  rw [<-hx2,List.getElem?_map,List.getElem?_eq_getElem (by rw [tab_len];exact hj)] at e3
  simp only [Option.map_some] at e3
  injection e3 with e3
  injection e3 with e3
  injection e3 with _ e3
  rw [World.var?_cell hg0 hv0 j,List.getD_eq_getElem?_getD,List.getElem?_eq_getElem (by rw [tab_len];exact hj)]
  simp only [Option.getD_some]
  have e5:cs0.toList[j]? = some (.int .u8 n):=by
   have:(cs0.toList.drop j).take 1=[.int .u8 n]:=e1
   have h6:((cs0.toList.drop j).take 1)[0]? = some (.int .u8 n):=by rw [this];rfl
   rw [List.getElem?_take_of_lt (by omega),List.getElem?_drop] at h6
   exact h6
  rw [Array.getElem?_toList] at e5
  rw [e5]
  exact congrArg (fun z=>some (Value.int .u8 z)) e3.symm
 ·obtain rfl:=Option.some.inj (gFou.symm.trans hg1)
  obtain rfl:=Option.some.inj (tFou.symm.trans ht1)
  obtain ⟨xs,m1,rfl,hx1,hlen,hn3,hel⟩:=DataW.trod_array Tryz.underlying205 hd1
  rw [laid_fours] at hx1
  have hx2:fours.map (fun (n:Nat)=>(.lit (.int .i64 (n:Int)):DataW Unit))=xs.map (·.1):=by
   injection hx1 with h1 h2
   injection h1
  intro j hj
  have h0:=hel j hj
  rw [cellsI,Nat.mul_one] at h0
  have hxj:xs[j]? = some xs[j]:=List.getElem?_eq_getElem (by omega)
  rw [hxj] at h0
  obtain ⟨n,e1,e2,_⟩:=DataW.trod_int Tryz.underlying3 h0
  have e3:(xs.map (·.1))[j]? = some (.lit (.int .i64 n)):=by
   rw [List.getElem?_map,hxj,e2];rfl
  rw [<-hx2,List.getElem?_map,List.getElem?_eq_getElem (by rw [fou_len];exact hj)] at e3
  simp only [Option.map_some] at e3
  injection e3 with e3
  injection e3 with e3
  injection e3 with _ e3
  rw [World.var?_cell hg1 hv1 j,List.getD_eq_getElem?_getD,List.getElem?_eq_getElem (by rw [fou_len];exact hj)]
  simp only [Option.getD_some]
  have e5:cs1.toList[j]? = some (.int .i64 n):=by
   have:(cs1.toList.drop j).take 1=[.int .i64 n]:=e1
   have h6:((cs1.toList.drop j).take 1)[0]? = some (.int .i64 n):=by rw [this];rfl
   rw [List.getElem?_take_of_lt (by omega),List.getElem?_drop] at h6
   exact h6
  rw [Array.getElem?_toList] at e5
  rw [e5]
  exact congrArg (fun z=>some (Value.int .i64 z)) e3.symm
theorem door_met (os:Os) (args:Array Value):laidMetH Tryz.prog [("math/bits.deBruijn32tab",Rows.laid_math_bits_deBruijn32tab),("math/bits.deBruijn64tab",Rows.laid_math_bits_deBruijn64tab),("rosette/shuffle.fours",Rows.laid_rosette_shuffle_fours)] ((World.doorLaid Tryz.prog 400 os).forCall (fun _ _=>0) ⟨#[],args,[]⟩).memory:=
 laidMetH_of_parts3 (fuel:=8) (laidMet_of_run' 8 (by kernel_rfl) (by kernel_rfl)) (by kernel_rfl) (by kernel_rfl)
theorem open_longs {H:Type} {enc:TypeId × Value->H} {P:Program} {w:World} {base:Nat} {spare:Nat->Bool} {held:Bool} {t e:TypeId} {k:IntKind} {fuel:Nat} {cs:List Value} {x:DataW H × List MemPlace} (ht:P.underlying t=some (.slice e)) (he:P.underlying e=some (.int k)) (hc:P.cellsOf e=1)
  (h:DataW.trod enc P w base spare held fuel t cs=some x) :
  cs=[.slice none 0 0]\/∃ (a:Addr) (len cap:Nat),cs=[.slice (some a) len cap]/\len<=cap/\cap<=maxLen/\∀ i,i<len->∃ y,w.cell? (a.add i)=some (.int k y)/\(Lit.int k y).wf=true:=by
 rcases DataW.trod_slice ht h with h0 | ⟨a,len,cap,elems,rest,n,_,rfl,rfl,hb,hl,hm,hlen,hel,hsp,hns⟩
 ·exact Or.inl h0.1
 ·refine Or.inr ⟨a,len,cap,rfl,hl,hm,fun i hi=>?_⟩
  have h1:=hel i hi
  have h2:elems[i]? = some elems[i]:=List.getElem?_eq_getElem (by omega)
  rw [h2,hc,Nat.mul_one,Option.bind_eq_some_iff] at h1
  obtain ⟨cs',hcs,hy'⟩:=h1
  obtain ⟨y,rfl,hw,h5⟩:=DataW.trod_int he hy'
  exact ⟨y,cell_of_cells?_one hcs,h5⟩
theorem lt_of_cellA {w:World} {a:Addr} {v:Value} (h:w.cell? a=some v):a.block<w.heap.size:=by
 refine Nat.lt_of_not_le fun hle=>?_
 have h1:w.heap[a.block]? = none:=Array.getElem?_eq_none hle
 cases a
 simp_all [World.cell?]
theorem argI {H:Type} {enc:TypeId × Value->H} {w:World} {base:Nat} {spare:Nat->Bool} {held:Bool} {d:DataW H} {p:List MemPlace} {ad:Option Addr} {len cap:Nat}
  (h:DataW.Trod enc Tryz.prog w base spare held 22 (.slice ad len cap) d p):∃ f,Fl.ArgI w ad len cap f:=by
 obtain ⟨fuel,hf⟩:=h
 rcases open_longs Tryz.underlying22 Tryz.underlying2 cellsL hf with hcs | ⟨a,len',cap',hcs,g1,g2,g3⟩
 ·simp [Value.cells] at hcs
  obtain ⟨rfl,rfl,rfl⟩:=hcs
  exact ⟨fun _=>0,by omega,by unfold maxLen;omega,fun h=>absurd h (by omega)⟩
 ·simp [Value.cells] at hcs
  obtain ⟨rfl,rfl,rfl⟩:=hcs
  have key:∀ i,∃ y,i<len->w.cell? (a.add i)=some (.int .i64 y)/\Fl.In64 y:=fun i=>by
   by_cases hi:i<len
   ·obtain ⟨y,h1,h2⟩:=g3 i hi
    exact ⟨y,fun _=>⟨h1,by
     have h4:IntKind.i64.min<=y/\y<=9223372036854775807:=by simpa [Lit.wf] using h2
     have h5:IntKind.i64.min = -9223372036854775808:=rfl
     unfold Fl.In64
     omega⟩⟩
   ·exact ⟨0,fun h=>absurd h hi⟩
  obtain ⟨f,hf⟩:=Classical.axiomOfChoice key
  refine ⟨f,g1,g2,fun hp=>⟨a,rfl,?_,fun i hi=>hf i hi⟩⟩
  have h0:=(hf 0 hp).1
  have h1:=lt_of_cellA h0
  unfold Addr.add at h1
  rw [if_pos rfl] at h1
  exact h1
end Go.Proofs.YtbcocfhfhblhcaaGreatDoor
