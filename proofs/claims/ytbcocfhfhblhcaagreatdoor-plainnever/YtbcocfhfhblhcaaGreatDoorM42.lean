import Derived.Test.YtbcocfhfhblhcaaGreatDoorM41
import Derived.Test.YtbcocfhfhblhcaaGreatDoorM38
import Derived.Test.YtbcocfhfhblhcaaGreatDoorM03
import Derived.Deep.RegionHeld3
import Derived.Laws.CopyOwn
namespace Go.Proofs.YtbcocfhfhblhcaaGreatDoor.Fl
open Go.RowKit
open Ieee
open Go.Proofs.YtbcocfhfhblhcaaGreatDoor.Jx (cvI cv_le)
set_option linter.unusedVariables false
set_option linter.unusedSimpArgs false
def ZI (w:World) (g n:Nat):Prop:=w.ownsRow g 2 1 (.slice (some ⟨g,0,none⟩) n n) n (iz (List.replicate n 0))
theorem ZI.gr {w w':World} {g n:Nat} (h:ZI w g n) (k:Gr w w'):ZI w' g n:=k.owns h
theorem ZI.lt {w:World} {g n:Nat} (h:ZI w g n):g<w.heap.size:=(World.ownsRow.lt h g rfl).2
def ArgI (w:World) (ad:Option Addr) (len cap:Nat) (f:Nat->Int):Prop:=len<=cap/\cap<=maxLen/\(0<len->∃ a,ad=some a/\a.block<w.heap.size/\∀ i,i<len->w.cell? (a.add i)=some (.int .i64 (f i))/\In64 (f i))
theorem ArgI.gr {w w':World} {ad:Option Addr} {len cap:Nat} {f:Nat->Int} (h:ArgI w ad len cap f) (g:Gr w w'):ArgI w' ad len cap f:=by
 refine ⟨h.1,h.2.1,fun hp=>?_⟩
 obtain ⟨a,e,hb,hc⟩:=h.2.2 hp
 exact ⟨a,e,Nat.lt_of_lt_of_le hb g.size,fun i hi=>⟨by rw [g.cell (p:=a.add i) (by unfold Addr.add;split <;> exact hb)];exact (hc i hi).1,(hc i hi).2⟩⟩
def cf (len:Nat) (f:Nat->Int) (i:Nat):Int:=if i<len then f i else 0
theorem iz_one (xs:List Int):∀ u∈iz xs,u.oneCell'=true:=by
 intro u hu
 simp only [iz,List.mem_map] at hu
 obtain ⟨p,_,rfl⟩:=hu
 rfl
theorem Tryz.size2_i:(Tryz.prog.info? 2).map (·.size)=some 1:=by kernel_rfl
theorem wpList_copiedI {w:World} {ops:Array Oper} {rest:List Oper} {o:Oper} {a:Act} {Q:Exit->Act->World->Prop} (hgd:o.guard=none) (d s:Operand)
  (ho:o.op = .call {callee:=.builtin .copy,args:=#[d,s],argTypes:=#[22,22]}) (g N:Nat) (hd:a.eval d = .slice (some ⟨g,0,none⟩) N N) (sp:Option Addr) (sLen sCap:Nat) (hs:a.eval s = .slice sp sLen sCap)
  (f:Nat->Int) (hm:ArgI w sp sLen sCap f) (how:ZI w g N)
  (hK:∀ w',OI w' g N N (cf sLen f)->Gx g w w'->∀ v,wpList Tryz.prog ops Q rest (a.put o.dst v) w') :
  wpList Tryz.prog ops Q (o :: rest) a w:=by
 have how2:=World.ownsRow.lt how g rfl
 have how':w.ownsRow g 2 1 (.slice (some ⟨g,0,none⟩) N N) N (iz (List.replicate N 0)):=how
 obtain ⟨ms,hms⟩:∃ ms:List Int,ms=(List.range (Nat.min sLen N)).map f:=⟨_,rfl⟩
 have hml:ms.length=Nat.min sLen N:=by rw [hms,List.length_map,List.length_range]
 have hmn:Nat.min sLen N<=N:=Nat.min_le_right _ _
 have hmg:∀ j,j<Nat.min sLen N->ms.getD j 0=f j:=fun j hj=>by
  rw [hms,List.getD_eq_getElem?_getD,List.getElem?_map,List.getElem?_range hj];rfl
 rcases how'.2 with ⟨h1,h2⟩ | ⟨g',cap,cur,e1,hb,hgg,r1,r2,r3,r4⟩
 ·cases h1
 ·simp only [Value.slice.injEq,Option.some.injEq,Addr.mk.injEq,true_and,and_true] at e1
  obtain ⟨rfl,rfl⟩:=e1
  have hcur:cur=(iz (List.replicate N 0)).toArray:=by
   rw [<-r4,List.take_of_length_le (by rw [Array.length_toList,r3];exact Nat.le_refl _)]
  have hg':w.heap[g]? = some (.cells (iz (List.replicate N 0)).toArray 2 (0,0)):=by rw [<-hcur];exact hgg
  have hfin:∀ w',Hid (w'.heap[g]? = some (.cells (splice (iz (List.replicate N 0)) 0 (iz ms)).toArray 2 (0,0)))->Gx g w w'->∀ v,wpList Tryz.prog ops Q rest (a.put o.dst v) w':=fun w' hh hx v=>by
   have hsp:splice (iz (List.replicate N 0)) 0 (iz ms)=iz (ms++List.replicate (N-ms.length) 0):=by simp [splice,iz]
   rw [hsp] at hh
   refine hK w' ⟨ms++List.replicate (N-ms.length) 0,⟨?_,.inr ⟨g,N,_,rfl,Nat.le_refl _,hh.out,Nat.le_refl _,r2,?_,?_⟩⟩,fun j hj hn=>?_⟩ hx v
   ·rw [iz_length,List.length_append,List.length_replicate];omega
   ·rw [List.size_toArray,iz_length,List.length_append,List.length_replicate];omega
   ·rw [List.toList_toArray,List.take_of_length_le]
    rw [iz_length,List.length_append,List.length_replicate];omega
   ·unfold cf
    by_cases hjm:j<Nat.min sLen N
    ·rw [if_pos (Nat.lt_of_lt_of_le hjm (Nat.min_le_left _ _)),List.getD_eq_getElem?_getD,List.getElem?_append_left (by omega),<-List.getD_eq_getElem?_getD,hmg j hjm]
    ·have hjs:¬ j<sLen:=fun h=>hjm (Nat.lt_min.2 ⟨h,hn⟩)
     rw [if_neg hjs,List.getD_eq_getElem?_getD,List.getElem?_append_right (by omega),List.getElem?_replicate]
     split <;> rfl
  by_cases h0:Nat.min sLen N=0
  ·refine wpList_copy_nothing hgd d s 22 22 ho 2 Tryz.underlying22 Tryz.size2_i (some ⟨g,0,none⟩) sp N N sLen sCap hd hs h0 ?_
   refine hfin w ?_ (Gx.refl g w) _
   obtain rfl:ms=[]:=List.eq_nil_of_length_eq_zero (by omega)
   show _=_
   simpa [splice,iz] using hg'
  ·have hp2:0<sLen:=Nat.lt_of_lt_of_le (Nat.pos_of_ne_zero h0) (Nat.min_le_left _ _)
   obtain ⟨ad,rfl,hb2,hc⟩:=hm.2.2 hp2
   refine wpList_copy_own hgd d s 22 22 ho 2 Tryz.underlying22 Tryz.size2_i g 0 N N ad sLen sCap hd hs (iz (List.replicate N 0)).toArray 2 hg' (iz ms) (by rw [iz_length,hml]) (fun j v hj=>?_) (by rw [List.size_toArray,iz_length,iz_length,List.length_replicate,hml];omega) (iz_one ms) ?_
   ·have hjl:j<ms.length:=by
     refine Nat.lt_of_not_le fun hle'=>?_
     rw [List.getElem?_eq_none (by rw [iz_length];exact hle')] at hj
     cases hj
    rw [iz_get hjl] at hj
    rw [hml] at hjl
    rw [<-hj,hmg j hjl]
    exact (hc j (Nat.lt_of_lt_of_le hjl (Nat.min_le_left sLen N))).1
   ·refine hfin _ ?_ ?_ _
    ·show _=_
     simpa [splice] using setRow_heap w g _ _ _ _ hg'
    ·exact ⟨rfl,rfl,by simp [World.setRow],fun k hk hne=>setRow_other w g k _ hne⟩
theorem OI.gx {w w':World} {g b n i:Nat} {f:Nat->Int} (h:OI w g n i f) (k:Gx b w w') (hb:g≠b):OI w' g n i f:=by
 obtain ⟨xs,h3,h4⟩:=h
 refine ⟨xs,?_,h4⟩
 have hlt:=(World.ownsRow.lt h3 g rfl).2
 rcases h3 with ⟨h5,h6⟩
 refine ⟨h5,?_⟩
 rcases h6 with h6 | ⟨g',cap,cur,e1,hb',hgg,r1,r2,r3,r4⟩
 ·exact Or.inl h6
 ·have e3:g=g'/\n=cap:=by simpa using e1
  have e2:g=g':=e3.1
  subst e2
  exact Or.inr ⟨g,cap,cur,e1,hb',by rw [k.block g hlt hb];exact hgg,r1,r2,r3,r4⟩
theorem ZI.gx {w w':World} {g b n:Nat} (h:ZI w g n) (k:Gx b w w') (hb:g≠b):ZI w' g n:=by
 have hlt:=h.lt
 have h':w.ownsRow g 2 1 (.slice (some ⟨g,0,none⟩) n n) n (iz (List.replicate n 0)):=h
 rcases h' with ⟨h5,h6⟩
 refine ⟨h5,?_⟩
 rcases h6 with h6 | ⟨g',cap,cur,e1,hb',hgg,r1,r2,r3,r4⟩
 ·exact Or.inl h6
 ·have e3:g=g'/\n=cap:=by simpa using e1
  have e2:g=g':=e3.1
  subst e2
  exact Or.inr ⟨g,cap,cur,e1,hb',by rw [k.block g hlt hb];exact hgg,r1,r2,r3,r4⟩
end Go.Proofs.YtbcocfhfhblhcaaGreatDoor.Fl
namespace Go.Proofs.YtbcocfhfhblhcaaGreatDoor.Jx
set_option linter.unusedVariables false
def si (f:Nat->Int):Nat->Int
 | 0=>0
 | n+1=>si f n+f n
theorem si_congr {f g:Nat->Int} {n:Nat} (h:∀ i,i<n->f i=g i):si f n=si g n:=by
 induction n with
 | zero=>rfl
 | succ n ih=>show si f n+f n=si g n+g n;rw [ih fun i hi=>h i (by omega),h n (by omega)]
theorem mod2 {a n:Nat} (h:a<2*n):a % n=if a<n then a else a-n:=by
 split
 ·rename_i h1;exact Nat.mod_eq_of_lt h1
 ·rw [Nat.mod_eq_sub_mod (by omega),Nat.mod_eq_of_lt (by omega)]
theorem cv_si (n:Nat) (f g:Nat->Int) (l m:Nat):cvI n f g l m=si (fun m=>f m*g ((l+n-m) % n)) m:=by
 induction m with
 | zero=>rfl
 | succ m ih=>show cvI n f g l m+_=si _ m+_;rw [ih]
theorem si_zero (n:Nat):si (fun _=>0) n=0:=by
 induction n with
 | zero=>rfl
 | succ n ih=>show si (fun _=>0) n+0=0;rw [ih];rfl
def tu (n k:Nat) (x:Nat->Int) (j:Nat):Int:=x ((j+n-k) % n)
def pv (f g:Nat->Int) (l:Nat):Int:=si (fun m=>f m*g (l-m)) (l+1)
def Sup (f:Nat->Int) (n:Nat):Prop:=∀ i,n<=i->f i=0
theorem si_tail {h:Nat->Int} {a:Nat}:∀ n,a<=n->(∀ i,a<=i->i<n->h i=0)->si h n=si h a:=by
 intro n
 induction n with
 | zero=>intro h1 _;rw [show a=0 by omega]
 | succ n ih =>
  intro h1 h2
  by_cases e:a=n+1
  ·rw [e]
  ·show si h n+h n=_
   rw [ih (by omega) (fun i hi hn=>h2 i hi (by omega)),h2 n (by omega) (by omega)];omega
theorem cv_pv {N l la lb:Nat} {f g:Nat->Int} (hf:Sup f la) (hg:Sup g lb) (h1:la+lb<=N+1) (hl:l<N):cvI N f g l N=pv f g l:=by
 rw [cv_si,si_tail (a:=l+1) N (by omega) (fun i hi hn=>?_)]
 ·refine si_congr fun i hi=>?_
  rw [show l+N-i=l-i+N by omega,Nat.add_mod_right,Nat.mod_eq_of_lt (by omega)]
 ·rw [Nat.mod_eq_of_lt (by omega)]
  by_cases h:la<=i
  ·rw [hf i h,Int.zero_mul]
  ·rw [hg (l+N-i) (by omega),Int.mul_zero]
theorem pv_sup {la lb:Nat} {f g:Nat->Int} (hf:Sup f la) (hg:Sup g lb):Sup (pv f g) (la+lb-1):=fun l hl=>by
 unfold pv
 rw [si_congr (g:=fun _=>0) (fun i hi=>?_),si_zero]
 by_cases h:la<=i
 ·rw [hf i h,Int.zero_mul]
 ·rw [hg (l-i) (by omega),Int.mul_zero]
end Go.Proofs.YtbcocfhfhblhcaaGreatDoor.Jx
namespace Go.Proofs.YtbcocfhfhblhcaaGreatDoor.Fl
open Go.RowKit
open Ieee
open Go.Proofs.YtbcocfhfhblhcaaGreatDoor.Jx (cvI cv_le)
set_option linter.unusedVariables false
set_option linter.unusedSimpArgs false
theorem placesT (la ca lb cb n:Nat) (aa ab:Option Addr) (w:World) (h1:1<=la) (h2:1<=lb) (h3:la+lb<=16384) (hn:n+1=la+lb) :
  Calls Tryz.prog 26 #[.slice aa la ca,.slice ab lb cb] w fun e w'=>e = .returned (.tuple #[.int .i64 (n:Int),.int .i64 0])/\w=w':=by
 have i1:¬ (la:Int)+(lb:Int)>16384:=by omega
 have i2:((la:Int)==0)=false:=by simp;omega
 have i3:((lb:Int)==0)=false:=by simp;omega
 have i4:¬ la=0:=by omega
 have i5:¬ lb=0:=by omega
 have e:(la:Int)+(lb:Int)-1=(n:Int):=by omega
 go_enter Tryz.func26,Tryz.ntmps26
 go_wp2
 go_ret2
 exact ⟨rfl,rfl⟩
theorem placesZ (la ca lb cb:Nat) (aa ab:Option Addr) (w:World) (h1:la=0\/lb=0) (h3:la+lb<=16384) :
  Calls Tryz.prog 26 #[.slice aa la ca,.slice ab lb cb] w fun e w'=>e = .returned (.tuple #[.int .i64 0,.int .i64 0])/\w=w':=by
 have i1:¬ (la:Int)+(lb:Int)>16384:=by omega
 by_cases i4:la=0
 ·have i2:((la:Int)==0)=true:=by simp;omega
  go_enter Tryz.func26,Tryz.ntmps26
  go_wp2
  go_ret2
  exact ⟨rfl,rfl⟩
 ·have i2:((la:Int)==0)=false:=by simp;omega
  have i3:((lb:Int)==0)=true:=by simp;omega
  have i5:lb=0:=by omega
  go_enter Tryz.func26,Tryz.ntmps26
  go_wp2
  go_ret2
  exact ⟨rfl,rfl⟩
theorem paddedR (len cap N:Nat) (ad:Option Addr) (f:Nat->Int) (w:World) (hN:N<=16384) (h:ArgI w ad len cap f) :
  Calls Tryz.prog 39 #[.slice ad len cap,.int .i64 (N:Int)] w fun e w'=>∃ q,w.heap.size<=q/\e = .returned (.slice (some ⟨q,0,none⟩) N N)/\Hid (OI w' q N N (cf len f))/\Hid (Gr w w'):=by
 have H:=hide h
 have hN4:N<=4398046511104:=by omega
 clear h
 go_enter Tryz.func39,Tryz.ntmps39
 go_wp2_with (first | (at_make;refine wpList_madeI rfl _ _ rfl N _ rfl rfl rfl hN4 ?_;intro w2 hown0 hg2;have ZX:Hid (ZI w2 w.heap.size N):=hown0;have G2:=hide hg2;have A2:=hide (H.out.gr hg2);clear hown0 hg2 H) | (refine wpList_copiedI rfl _ _ rfl w.heap.size N rfl _ _ _ rfl f A2.out ZX.out ?_;intro w3 O1 X1 v;have G3:Hid (Gr w w3):=gx_gr X1 (Nat.le_refl _) G2.out;have O1H:=hide O1;clear O1 X1))
 go_ret
 exact ⟨w.heap.size,Nat.le_refl _,rfl,O1H,G3⟩
theorem prodC (k n N la ca lb cb:Nat) (aa ab:Option Addr) (fa fb C:Nat->Int) (w:World) (hn:1<=n) (hk:bl (n-1)=k) (hk4:k<=14) (hN:N=2 ^ k) (hnN:n<=N) (h1:ArgI w aa la ca fa) (h2:ArgI w ab lb cb fb)
  (R:Hid (∀ w1 q1 q2,Gr w w1->OI w1 q1 N N (cf la fa)->OI w1 q2 N N (cf lb fb)->Calls Tryz.prog 29 #[.slice (some ⟨q1,0,none⟩) N N,.slice (some ⟨q2,0,none⟩) N N] w1 fun e w'=>∃ q,w1.heap.size<=q/\e = .returned (.tuple #[.slice (some ⟨q,0,none⟩) N N,.int .i64 0])/\Hid (OI w' q N N C)/\Hid (Gr w1 w'))) :
  Calls Tryz.prog 28 #[.func (.func 29) #[] #[],.int .i64 (n:Int),.slice aa la ca,.slice ab lb cb] w fun e w'=>∃ q,w.heap.size<=q/\e = .returned (.tuple #[.slice (some ⟨q,0,none⟩) n N,.int .i64 0])/\Hid (OI w' q N N C)/\Hid (Gr w w'):=by
 have hle:N<=16384:=by rw [hN];exact Nat.pow_le_pow_right (n:=2) (by omega) hk4
 obtain ⟨m,rfl⟩:∃ m,n=m+1:=⟨n-1,by omega⟩
 have LN:Hid (∀ w1,Calls Tryz.prog 38 #[.int .u64 (m:Int)] w1 fun e w'=>e = .returned (.int .i64 (k:Int))/\w1=w'):=fun w1=>by
  refine (Tryz.bits_Len (m:Int) w1 (by omega) (by omega)).mono ?_
  rintro e w' ⟨rfl,rfl⟩
  refine ⟨?_,rfl⟩
  rw [Int.toNat_natCast,bitLen_bl (by omega),<-hk,show m+1-1=m by omega]
 have P1:Hid (∀ w1,Gr w w1->_):=fun w1 g=>paddedR la ca N aa fa w1 hle (h1.gr g)
 have P2:Hid (∀ w1,Gr w w1->_):=fun w1 g=>paddedR lb cb N ab fb w1 hle (h2.gr g)
 have e2:wrap64 ((2:Int) ^ k)=(N:Int):=by
  rw [show (2:Int) ^ k=((2 ^ k:Nat):Int) by rw [Int.natCast_pow];rfl,<-hN];unfold wrap64;omega
 have i1:((m+1:Nat):Int)<=(N:Int):=by omega
 clear h1 h2 hk hN hn
 have tok:True:=trivial
 go_enter Tryz.func28,Tryz.ntmps28
 go_wp2_with (first | (go_at_call 38;(with_reducible refine (LN.out _).mono ?_);rintro r w1 ⟨rfl,rfl⟩) | (go_at_call 39;have _t:=tok;(with_reducible refine (P1.out _ (Gr.refl _)).mono ?_);rintro r w2 ⟨q1,s1,rfl,O1,G1⟩;clear tok) | (go_at_call 39;(with_reducible refine (P2.out _ G1.out).mono ?_);rintro r w3 ⟨q2,s2,rfl,O2,G2⟩;have G12:Hid (Gr w w3):=G1.out.trans G2.out;have O3:=hide (O1.out.gr G2.out)) | (go_at_call 29;(with_reducible refine (R.out _ _ _ G12.out O3.out O2.out).mono ?_);rintro r w4 ⟨q3,s3,rfl,O4,G4⟩;have G14:Hid (Gr w w4):=G12.out.trans G4.out))
 go_ret2
 exact ⟨q3,Nat.le_trans G12.out.size s3,rfl,O4,G14⟩
theorem prodCE (k n N la ca lb cb:Nat) (c:Int) (aa ab:Option Addr) (fa fb:Nat->Int) (w:World) (hn:1<=n) (hk:bl (n-1)=k) (hk4:k<=14) (hN:N=2 ^ k) (h1:ArgI w aa la ca fa) (h2:ArgI w ab lb cb fb) (hc:(c != 0)=true)
  (R:Hid (∀ w1 q1 q2,Gr w w1->OI w1 q1 N N (cf la fa)->OI w1 q2 N N (cf lb fb)->Calls Tryz.prog 29 #[.slice (some ⟨q1,0,none⟩) N N,.slice (some ⟨q2,0,none⟩) N N] w1 fun e w'=>e = .returned (.tuple #[.slice none 0 0,.int .i64 c])/\Hid (Gr w1 w'))) :
  Calls Tryz.prog 28 #[.func (.func 29) #[] #[],.int .i64 (n:Int),.slice aa la ca,.slice ab lb cb] w fun e w'=>e = .returned (.tuple #[.slice none 0 0,.int .i64 c])/\Hid (Gr w w'):=by
 have hle:N<=16384:=by rw [hN];exact Nat.pow_le_pow_right (n:=2) (by omega) hk4
 have hkl:n-1<16384:=by
  have:=bl_lt (n-1)
  rw [hk] at this
  omega
 obtain ⟨m,rfl⟩:∃ m,n=m+1:=⟨n-1,by omega⟩
 have LN:Hid (∀ w1,Calls Tryz.prog 38 #[.int .u64 (m:Int)] w1 fun e w'=>e = .returned (.int .i64 (k:Int))/\w1=w'):=fun w1=>by
  refine (Tryz.bits_Len (m:Int) w1 (by omega) (by omega)).mono ?_
  rintro e w' ⟨rfl,rfl⟩
  refine ⟨?_,rfl⟩
  rw [Int.toNat_natCast,bitLen_bl (by omega),<-hk,show m+1-1=m by omega]
 have P1:Hid (∀ w1,Gr w w1->_):=fun w1 g=>paddedR la ca N aa fa w1 hle (h1.gr g)
 have P2:Hid (∀ w1,Gr w w1->_):=fun w1 g=>paddedR lb cb N ab fb w1 hle (h2.gr g)
 have e2:wrap64 ((2:Int) ^ k)=(N:Int):=by
  rw [show (2:Int) ^ k=((2 ^ k:Nat):Int) by rw [Int.natCast_pow];rfl,<-hN];unfold wrap64;omega
 clear h1 h2 hk hN hn
 have tok:True:=trivial
 go_enter Tryz.func28,Tryz.ntmps28
 go_wp2_with (first | (go_at_call 38;(with_reducible refine (LN.out _).mono ?_);rintro r w1 ⟨rfl,rfl⟩) | (go_at_call 39;have _t:=tok;(with_reducible refine (P1.out _ (Gr.refl _)).mono ?_);rintro r w2 ⟨q1,s1,rfl,O1,G1⟩;clear tok) | (go_at_call 39;(with_reducible refine (P2.out _ G1.out).mono ?_);rintro r w3 ⟨q2,s2,rfl,O2,G2⟩;have G12:Hid (Gr w w3):=G1.out.trans G2.out;have O3:=hide (O1.out.gr G2.out)) | (go_at_call 29;(with_reducible refine (R.out _ _ _ G12.out O3.out O2.out).mono ?_);rintro r w4 ⟨rfl,G4⟩;have G14:Hid (Gr w w4):=G12.out.trans G4.out))
 go_ret2
 exact ⟨rfl,G14⟩
theorem prodP (k n N la ca lb cb:Nat) (aa ab:Option Addr) (fa fb C:Nat->Int) (w:World) (hn:1<=n) (hk:bl (n-1)=k) (hk4:k<=14) (hN:N=2 ^ k) (hnN:n<=N) (h1:ArgI w aa la ca fa) (h2:ArgI w ab lb cb fb)
  (R:Hid (∀ w1 q1 q2,Gr w w1->OI w1 q1 N N (cf la fa)->OI w1 q2 N N (cf lb fb)->Calls Tryz.prog 33 #[.slice (some ⟨q1,0,none⟩) N N,.slice (some ⟨q2,0,none⟩) N N] w1 fun e w'=>∃ q,w1.heap.size<=q/\e = .returned (.tuple #[.slice (some ⟨q,0,none⟩) N N,.int .i64 0])/\Hid (OI w' q N N C)/\Hid (Gr w1 w'))) :
  Calls Tryz.prog 28 #[.func (.func 33) #[] #[],.int .i64 (n:Int),.slice aa la ca,.slice ab lb cb] w fun e w'=>∃ q,w.heap.size<=q/\e = .returned (.tuple #[.slice (some ⟨q,0,none⟩) n N,.int .i64 0])/\Hid (OI w' q N N C)/\Hid (Gr w w'):=by
 have hle:N<=16384:=by rw [hN];exact Nat.pow_le_pow_right (n:=2) (by omega) hk4
 obtain ⟨m,rfl⟩:∃ m,n=m+1:=⟨n-1,by omega⟩
 have LN:Hid (∀ w1,Calls Tryz.prog 38 #[.int .u64 (m:Int)] w1 fun e w'=>e = .returned (.int .i64 (k:Int))/\w1=w'):=fun w1=>by
  refine (Tryz.bits_Len (m:Int) w1 (by omega) (by omega)).mono ?_
  rintro e w' ⟨rfl,rfl⟩
  refine ⟨?_,rfl⟩
  rw [Int.toNat_natCast,bitLen_bl (by omega),<-hk,show m+1-1=m by omega]
 have P1:Hid (∀ w1,Gr w w1->_):=fun w1 g=>paddedR la ca N aa fa w1 hle (h1.gr g)
 have P2:Hid (∀ w1,Gr w w1->_):=fun w1 g=>paddedR lb cb N ab fb w1 hle (h2.gr g)
 have e2:wrap64 ((2:Int) ^ k)=(N:Int):=by
  rw [show (2:Int) ^ k=((2 ^ k:Nat):Int) by rw [Int.natCast_pow];rfl,<-hN];unfold wrap64;omega
 have i1:((m+1:Nat):Int)<=(N:Int):=by omega
 clear h1 h2 hk hN hn
 have tok:True:=trivial
 go_enter Tryz.func28,Tryz.ntmps28
 go_wp2_with (first | (go_at_call 38;(with_reducible refine (LN.out _).mono ?_);rintro r w1 ⟨rfl,rfl⟩) | (go_at_call 39;have _t:=tok;(with_reducible refine (P1.out _ (Gr.refl _)).mono ?_);rintro r w2 ⟨q1,s1,rfl,O1,G1⟩;clear tok) | (go_at_call 39;(with_reducible refine (P2.out _ G1.out).mono ?_);rintro r w3 ⟨q2,s2,rfl,O2,G2⟩;have G12:Hid (Gr w w3):=G1.out.trans G2.out;have O3:=hide (O1.out.gr G2.out)) | (go_at_call 33;(with_reducible refine (R.out _ _ _ G12.out O3.out O2.out).mono ?_);rintro r w4 ⟨q3,s3,rfl,O4,G4⟩;have G14:Hid (Gr w w4):=G12.out.trans G4.out))
 go_ret2
 exact ⟨q3,Nat.le_trans G12.out.size s3,rfl,O4,G14⟩
theorem prodPE (k n N la ca lb cb:Nat) (c:Int) (aa ab:Option Addr) (fa fb:Nat->Int) (w:World) (hn:1<=n) (hk:bl (n-1)=k) (hk4:k<=14) (hN:N=2 ^ k) (h1:ArgI w aa la ca fa) (h2:ArgI w ab lb cb fb) (hc:(c != 0)=true)
  (R:Hid (∀ w1 q1 q2,Gr w w1->OI w1 q1 N N (cf la fa)->OI w1 q2 N N (cf lb fb)->Calls Tryz.prog 33 #[.slice (some ⟨q1,0,none⟩) N N,.slice (some ⟨q2,0,none⟩) N N] w1 fun e w'=>e = .returned (.tuple #[.slice none 0 0,.int .i64 c])/\Hid (Gr w1 w'))) :
  Calls Tryz.prog 28 #[.func (.func 33) #[] #[],.int .i64 (n:Int),.slice aa la ca,.slice ab lb cb] w fun e w'=>e = .returned (.tuple #[.slice none 0 0,.int .i64 c])/\Hid (Gr w w'):=by
 have hle:N<=16384:=by rw [hN];exact Nat.pow_le_pow_right (n:=2) (by omega) hk4
 have hkl:n-1<16384:=by
  have:=bl_lt (n-1)
  rw [hk] at this
  omega
 obtain ⟨m,rfl⟩:∃ m,n=m+1:=⟨n-1,by omega⟩
 have LN:Hid (∀ w1,Calls Tryz.prog 38 #[.int .u64 (m:Int)] w1 fun e w'=>e = .returned (.int .i64 (k:Int))/\w1=w'):=fun w1=>by
  refine (Tryz.bits_Len (m:Int) w1 (by omega) (by omega)).mono ?_
  rintro e w' ⟨rfl,rfl⟩
  refine ⟨?_,rfl⟩
  rw [Int.toNat_natCast,bitLen_bl (by omega),<-hk,show m+1-1=m by omega]
 have P1:Hid (∀ w1,Gr w w1->_):=fun w1 g=>paddedR la ca N aa fa w1 hle (h1.gr g)
 have P2:Hid (∀ w1,Gr w w1->_):=fun w1 g=>paddedR lb cb N ab fb w1 hle (h2.gr g)
 have e2:wrap64 ((2:Int) ^ k)=(N:Int):=by
  rw [show (2:Int) ^ k=((2 ^ k:Nat):Int) by rw [Int.natCast_pow];rfl,<-hN];unfold wrap64;omega
 clear h1 h2 hk hN hn
 have tok:True:=trivial
 go_enter Tryz.func28,Tryz.ntmps28
 go_wp2_with (first | (go_at_call 38;(with_reducible refine (LN.out _).mono ?_);rintro r w1 ⟨rfl,rfl⟩) | (go_at_call 39;have _t:=tok;(with_reducible refine (P1.out _ (Gr.refl _)).mono ?_);rintro r w2 ⟨q1,s1,rfl,O1,G1⟩;clear tok) | (go_at_call 39;(with_reducible refine (P2.out _ G1.out).mono ?_);rintro r w3 ⟨q2,s2,rfl,O2,G2⟩;have G12:Hid (Gr w w3):=G1.out.trans G2.out;have O3:=hide (O1.out.gr G2.out)) | (go_at_call 33;(with_reducible refine (R.out _ _ _ G12.out O3.out O2.out).mono ?_);rintro r w4 ⟨rfl,G4⟩;have G14:Hid (Gr w w4):=G12.out.trans G4.out))
 go_ret2
 exact ⟨rfl,G14⟩
end Go.Proofs.YtbcocfhfhblhcaaGreatDoor.Fl
namespace Go.Proofs.YtbcocfhfhblhcaaGreatDoor.Fl
open Go.RowKit
open Ieee
open Go.Proofs.YtbcocfhfhblhcaaGreatDoor.Jx (cvI cv_le pv Sup cv_pv)
set_option linter.unusedVariables false
set_option linter.unusedSimpArgs false
theorem gm_most {f:Nat->Int} {B:Nat}:∀ {n},(∀ i,i<n->(f i).natAbs<=B)->gm f n<=B:=by
 intro n
 induction n with
 | zero=>intro _;show 0<=B;omega
 | succ n ih =>
  intro h
  show (if gm f n<(f n).natAbs then (f n).natAbs else gm f n)<=_
  split
  ·exact h n (by omega)
  ·exact ih fun i hi=>h i (by omega)
theorem ArgI.len {w:World} {ad:Option Addr} {len cap:Nat} {f:Nat->Int} (h:ArgI w ad len cap f):len<=9223372036854775807:=Nat.le_trans h.1 h.2.1
structure RowI where
 ad:Option Addr
 len:Nat
 cap:Nat
 f:Nat->Int
def tgB (R:Nat->RowI):Bool:=decide (¬ (gm (R 0).f (R 0).len<=9007199254740992/\gm (R 1).f (R 1).len<=9007199254740992))
set_option maxHeartbeats 1000000 in
theorem tgR (b:Nat) (R:Nat->RowI) (w:World) (hc:∀ j,j<2->w.cell? ⟨b,j,none⟩=some (.slice (R j).ad (R j).len (R j).cap)) (ha:∀ j,j<2->ArgI w (R j).ad (R j).len (R j).cap (R j).f) :
  Calls Tryz.prog 27 #[.slice (some ⟨b,0,none⟩) 2 2] w fun e w'=>e = .returned (.bool (tgB R))/\w'=w:=by
 have HC:=hide hc
 have HA:=hide ha
 have NO:Hid (∀ j i,j<2->i<(R j).len->9007199254740992<((R j).f i).natAbs->true=tgB R):=fun j i hj hi h=>by
  have h1:=gm_le (R j).f hi
  have h2:¬ (gm (R 0).f (R 0).len<=9007199254740992/\gm (R 1).f (R 1).len<=9007199254740992):=fun hh=>by
   rcases (show j=0\/j=1 by omega) with rfl | rfl
   ·omega
   ·omega
  unfold tgB
  rw [decide_eq_true h2]
 have YES:Hid ((∀ j i,j<2->i<(R j).len->((R j).f i).natAbs<=9007199254740992)->false=tgB R):=fun h=>by
  have h2:¬ ¬ (gm (R 0).f (R 0).len<=9007199254740992/\gm (R 1).f (R 1).len<=9007199254740992):=fun hh=>hh ⟨gm_most fun i hi=>h 0 i (by omega) hi,gm_most fun i hi=>h 1 i (by omega) hi⟩
  unfold tgB
  rw [decide_eq_false h2]
 clear hc ha
 generalize tgB R=B at *
 go_enter Tryz.func27,Tryz.ntmps27
 go_wp2
 go_loopw [4,5,8] (fun _ _ x wr=>∃ j:Nat,j<=2/\x = .int .i64 (j:Int)/\Hid (∀ m i,m<j->i<(R m).len->((R m).f i).natAbs<=9007199254740992)/\wr=w) (fun _ _ x _=>2-(intOf x).toNat)
 case atStart=>exact ⟨0,by omega,rfl,fun m i hm=>absurd hm (by omega),rfl⟩
 case round =>
  obtain ⟨j,hj,rfl,hI,rfl⟩:=hrel
  by_cases hlt:j<2
  ·have i1:(j:Int)<2:=by omega
   have c1:=HC.out j hlt
   have A1:=hide (HA.out j hlt)
   have hlen:=(HA.out j hlt).len
   have N1:Hid (∀ i,i<(R j).len->9007199254740992<((R j).f i).natAbs->true=B):=fun i hi h=>NO.out j i hlt hi h
   have ST:Hid ((∀ i,i<(R j).len->((R j).f i).natAbs<=9007199254740992)->∀ m i,m<j+1->i<(R m).len->((R m).f i).natAbs<=9007199254740992):=fun h m i hm hi=>by
    by_cases e:m=j
    ·subst e;exact h i hi
    ·exact hI.out m i (by omega) hi
   clear HC HA NO YES hI
   generalize (R j).ad=ad at *
   generalize hle:(R j).len=len at *
   generalize (R j).cap=cap at *
   generalize (R j).f=f at *
   clear hle
   go_wp2
   go_loopw [5,14] (fun _ x wr2=>∃ m:Nat,m<=len/\x = .int .i64 (m:Int)/\Hid (∀ i,i<m->(f i).natAbs<=9007199254740992)/\wr2=wr) (fun _ x _=>len-(intOf x).toNat)
   case atStart=>exact ⟨0,by omega,rfl,fun i hi=>absurd hi (by omega),rfl⟩
   case round =>
    obtain ⟨m,hm,rfl,hI,rfl⟩:=hrel
    by_cases hml:m<len
    ·have i2:(m:Int)<(len:Int):=by omega
     obtain ⟨a,rfl,hb,hc⟩:=A1.out.2.2 (by omega)
     have k1:=(hc m hml).1
     have N2:=hide (N1.out m hml)
     have NX:Hid ((f m).natAbs<=9007199254740992->∀ i,i<m+1->(f i).natAbs<=9007199254740992):=fun h i hi=>by
      by_cases e:i=m
      ·subst e;exact h
      ·exact hI.out i (by omega)
     clear hc hI N1 A1 ST
     generalize f m=x at *
     by_cases h1:x>9007199254740992
     ·have hB:=N2.out (by omega)
      subst hB
      go_wp2
      go_ret
      exact ⟨rfl,rfl⟩
     ·by_cases h2:x < -9007199254740992
      ·have hB:=N2.out (by omega)
       subst hB
       go_wp2
       go_ret
       exact ⟨rfl,rfl⟩
      ·have h3:x.natAbs<=9007199254740992:=by omega
       have NN:=hide (NX.out h3)
       clear N2 NX h3
       go_wp2
       exact ⟨⟨m+1,by omega,by go_num,NN,trivial⟩,by simp only [intOf];omega⟩
    ·have hme:m=len:=by omega
     subst hme
     have i2:¬ (m:Int)<(m:Int):=by omega
     have NN:=hide (ST.out hI.out)
     clear ST hI N1 A1
     go_wp2
     go_roundw
     case rel=>exact ⟨j+1,by omega,by go_num,NN,trivial⟩
     case measure=>simp only [intOf];omega
  ·have hje:j=2:=by omega
   subst hje
   have hB:=YES.out fun j i hj hi=>hI.out j i hj hi
   subst hB
   go_wp2
   go_ret
   exact ⟨rfl,rfl⟩
end Go.Proofs.YtbcocfhfhblhcaaGreatDoor.Fl
namespace Go.Proofs.YtbcocfhfhblhcaaGreatDoor.Fl
open Go.RowKit
open Ieee
open Go.Proofs.YtbcocfhfhblhcaaGreatDoor.Jx (cvI cv_le)
set_option linter.unusedVariables false
set_option linter.unusedSimpArgs false
end Go.Proofs.YtbcocfhfhblhcaaGreatDoor.Fl
namespace Go.Proofs.YtbcocfhfhblhcaaGreatDoor.Fl
open Go.RowKit
open Ieee
open Go.Proofs.YtbcocfhfhblhcaaGreatDoor.Jx (cvI cv_le tu mod2)
set_option linter.unusedVariables false
set_option linter.unusedSimpArgs false
theorem g1:M 4425912533798354944*M 4620693217682128896<=M 4439423332680466432*U:=by decide +kernel
theorem g2:M 4439423332680466432*M 4679240012837945344<=M 4511480926718394368*U:=by decide +kernel
theorem g3:M 4511480926718394368*M 4679240012837945344<=M 4583538520756322304*U:=by decide +kernel
theorem g4:M 4583538520756322304+M 103582791429521408<=M 4588042120383692800*1:=by decide +kernel
def sm (f:Nat->Int) (i:Nat):Int:=(f i).tmod 32768
end Go.Proofs.YtbcocfhfhblhcaaGreatDoor.Fl
