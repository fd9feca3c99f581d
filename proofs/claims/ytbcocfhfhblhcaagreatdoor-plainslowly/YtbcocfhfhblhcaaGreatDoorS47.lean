import Derived.Test.YtbcocfhfhblhcaaGreatDoorS46
import Derived.Test.YtbcocfhfhblhcaaGreatDoorS43
import Derived.Test.YtbcocfhfhblhcaaGreatDoorS03
import Derived.Deep.RegionHeld3
import Derived.Laws.CopyOwn
namespace Go.Proofs.YtbcocfhfhblhcaaGreatDoor.Fl
open Go.RowKit
open Ieee
open Go.Proofs.YtbcocfhfhblhcaaGreatDoor.Jx (cvI cv_le)
set_option linter.unusedVariables false
set_option linter.unusedSimpArgs false
def ZI (w:World) (g n:Nat):Prop:=w.ownsRow g 2 1 (.slice (some ⟨g,0,none⟩) n n) n (iz (List.replicate n 0))
theorem ZI.gr {w w':World} {g n:Nat} (h:ZI w g n) (k:Gr w w'):ZI w' g n:=k.owns h
theorem ZI.lt {w:World} {g n:Nat} (h:ZI w g n):g<w.heap.size:=(World.ownsRow.lt h g rfl).2
def ArgI (w:World) (ad:Option Addr) (len cap:Nat) (f:Nat->Int):Prop:=len<=cap/\cap<=maxLen/\(0<len->∃ a,ad=some a/\a.block<w.heap.size/\∀ i,i<len->w.cell? (a.add i)=some (.int .i64 (f i))/\In64 (f i))
theorem ArgI.gr {w w':World} {ad:Option Addr} {len cap:Nat} {f:Nat->Int} (h:ArgI w ad len cap f) (g:Gr w w'):ArgI w' ad len cap f:=by
 refine ⟨h.1,h.2.1,fun hp=>?_⟩
 obtain ⟨a,e,hb,hc⟩:=h.2.2 hp
 exact ⟨a,e,Nat.lt_of_lt_of_le hb g.size,fun i hi=>⟨by rw [g.cell (p:=a.add i) (by unfold Addr.add;split <;> exact hb)];exact (hc i hi).1,(hc i hi).2⟩⟩
def cf (len:Nat) (f:Nat->Int) (i:Nat):Int:=if i<len then f i else 0
theorem iz_one (xs:List Int):∀ u∈iz xs,u.oneCell'=true:=by
 intro u hu
 simp only [iz,List.mem_map] at hu
 obtain ⟨p,_,rfl⟩:=hu
 rfl
theorem Tryz.size2_i:(Tryz.prog.info? 2).map (·.size)=some 1:=by kernel_rfl
theorem wpList_copiedI {w:World} {ops:Array Oper} {rest:List Oper} {o:Oper} {a:Act} {Q:Exit->Act->World->Prop} (hgd:o.guard=none) (d s:Operand)
  (ho:o.op = .call {callee:=.builtin .copy,args:=#[d,s],argTypes:=#[22,22]}) (g N:Nat) (hd:a.eval d = .slice (some ⟨g,0,none⟩) N N) (sp:Option Addr) (sLen sCap:Nat) (hs:a.eval s = .slice sp sLen sCap)
  (f:Nat->Int) (hm:ArgI w sp sLen sCap f) (how:ZI w g N)
  (hK:∀ w',OI w' g N N (cf sLen f)->Gx g w w'->∀ v,wpList Tryz.prog ops Q rest (a.put o.dst v) w') :
  wpList Tryz.prog ops Q (o :: rest) a w:=by
 have how2:=World.ownsRow.lt how g rfl
 have how':w.ownsRow g 2 1 (.slice (some ⟨g,0,none⟩) N N) N (iz (List.replicate N 0)):=how
 obtain ⟨ms,hms⟩:∃ ms:List Int,ms=(List.range (Nat.min sLen N)).map f:=⟨_,rfl⟩
 have hml:ms.length=Nat.min sLen N:=by rw [hms,List.length_map,List.length_range]
 have hmn:Nat.min sLen N<=N:=Nat.min_le_right _ _
 have hmg:∀ j,j<Nat.min sLen N->ms.getD j 0=f j:=fun j hj=>by
  rw [hms,List.getD_eq_getElem?_getD,List.getElem?_map,List.getElem?_range hj];rfl
 rcases how'.2 with ⟨h1,h2⟩ | ⟨g',cap,cur,e1,hb,hgg,r1,r2,r3,r4⟩
 ·cases h1
 ·simp only [Value.slice.injEq,Option.some.injEq,Addr.mk.injEq,true_and,and_true] at e1
  obtain ⟨rfl,rfl⟩:=e1
  have hcur:cur=(iz (List.replicate N 0)).toArray:=by
   rw [<-r4,List.take_of_length_le (by rw [Array.length_toList,r3];exact Nat.le_refl _)]
  have hg':w.heap[g]? = some (.cells (iz (List.replicate N 0)).toArray 2 (0,0)):=by rw [<-hcur];exact hgg
  have hfin:∀ w',Hid (w'.heap[g]? = some (.cells (splice (iz (List.replicate N 0)) 0 (iz ms)).toArray 2 (0,0)))->Gx g w w'->∀ v,wpList Tryz.prog ops Q rest (a.put o.dst v) w':=fun w' hh hx v=>by
   have hsp:splice (iz (List.replicate N 0)) 0 (iz ms)=iz (ms++List.replicate (N-ms.length) 0):=by simp [splice,iz]
   rw [hsp] at hh
   refine hK w' ⟨ms++List.replicate (N-ms.length) 0,⟨?_,.inr ⟨g,N,_,rfl,Nat.le_refl _,hh.out,Nat.le_refl _,r2,?_,?_⟩⟩,fun j hj hn=>?_⟩ hx v
   ·rw [iz_length,List.length_append,List.length_replicate];omega
   ·rw [List.size_toArray,iz_length,List.length_append,List.length_replicate];omega
   ·rw [List.toList_toArray,List.take_of_length_le]
    rw [iz_length,List.length_append,List.length_replicate];omega
   ·unfold cf
    by_cases hjm:j<Nat.min sLen N
    ·rw [if_pos (Nat.lt_of_lt_of_le hjm (Nat.min_le_left _ _)),List.getD_eq_getElem?_getD,List.getElem?_append_left (by omega),<-List.getD_eq_getElem?_getD,hmg j hjm]
    ·have hjs:¬ j<sLen:=fun h=>hjm (Nat.lt_min.2 ⟨h,hn⟩)
     rw [if_neg hjs,List.getD_eq_getElem?_getD,List.getElem?_append_right (by omega),List.getElem?_replicate]
     split <;> rfl
  by_cases h0:Nat.min sLen N=0
  ·refine wpList_copy_nothing hgd d s 22 22 ho 2 Tryz.underlying22 Tryz.size2_i (some ⟨g,0,none⟩) sp N N sLen sCap hd hs h0 ?_
   refine hfin w ?_ (Gx.refl g w) _
   obtain rfl:ms=[]:=List.eq_nil_of_length_eq_zero (by omega)
   show _=_
   simpa [splice,iz] using hg'
  ·have hp2:0<sLen:=Nat.lt_of_lt_of_le (Nat.pos_of_ne_zero h0) (Nat.min_le_left _ _)
   obtain ⟨ad,rfl,hb2,hc⟩:=hm.2.2 hp2
   refine wpList_copy_own hgd d s 22 22 ho 2 Tryz.underlying22 Tryz.size2_i g 0 N N ad sLen sCap hd hs (iz (List.replicate N 0)).toArray 2 hg' (iz ms) (by rw [iz_length,hml]) (fun j v hj=>?_) (by rw [List.size_toArray,iz_length,iz_length,List.length_replicate,hml];omega) (iz_one ms) ?_
   ·have hjl:j<ms.length:=by
     refine Nat.lt_of_not_le fun hle'=>?_
     rw [List.getElem?_eq_none (by rw [iz_length];exact hle')] at hj
     cases hj
    rw [iz_get hjl] at hj
    rw [hml] at hjl
    rw [<-hj,hmg j hjl]
    exact (hc j (Nat.lt_of_lt_of_le hjl (Nat.min_le_left sLen N))).1
   ·refine hfin _ ?_ ?_ _
    ·show _=_
     simpa [splice] using setRow_heap w g _ _ _ _ hg'
    ·exact ⟨rfl,rfl,by simp [World.setRow],fun k hk hne=>setRow_other w g k _ hne⟩
theorem OI.gx {w w':World} {g b n i:Nat} {f:Nat->Int} (h:OI w g n i f) (k:Gx b w w') (hb:g≠b):OI w' g n i f:=by
 obtain ⟨xs,h3,h4⟩:=h
 refine ⟨xs,?_,h4⟩
 have hlt:=(World.ownsRow.lt h3 g rfl).2
 rcases h3 with ⟨h5,h6⟩
 refine ⟨h5,?_⟩
 rcases h6 with h6 | ⟨g',cap,cur,e1,hb',hgg,r1,r2,r3,r4⟩
 ·exact Or.inl h6
 ·have e3:g=g'/\n=cap:=by simpa using e1
  have e2:g=g':=e3.1
  subst e2
  exact Or.inr ⟨g,cap,cur,e1,hb',by rw [k.block g hlt hb];exact hgg,r1,r2,r3,r4⟩
theorem ZI.gx {w w':World} {g b n:Nat} (h:ZI w g n) (k:Gx b w w') (hb:g≠b):ZI w' g n:=by
 have hlt:=h.lt
 have h':w.ownsRow g 2 1 (.slice (some ⟨g,0,none⟩) n n) n (iz (List.replicate n 0)):=h
 rcases h' with ⟨h5,h6⟩
 refine ⟨h5,?_⟩
 rcases h6 with h6 | ⟨g',cap,cur,e1,hb',hgg,r1,r2,r3,r4⟩
 ·exact Or.inl h6
 ·have e3:g=g'/\n=cap:=by simpa using e1
  have e2:g=g':=e3.1
  subst e2
  exact Or.inr ⟨g,cap,cur,e1,hb',by rw [k.block g hlt hb];exact hgg,r1,r2,r3,r4⟩
end Go.Proofs.YtbcocfhfhblhcaaGreatDoor.Fl
namespace Go.Proofs.YtbcocfhfhblhcaaGreatDoor.Jx
set_option linter.unusedVariables false
def si (f:Nat->Int):Nat->Int
 | 0=>0
 | n+1=>si f n+f n
theorem si_congr {f g:Nat->Int} {n:Nat} (h:∀ i,i<n->f i=g i):si f n=si g n:=by
 induction n with
 | zero=>rfl
 | succ n ih=>show si f n+f n=si g n+g n;rw [ih fun i hi=>h i (by omega),h n (by omega)]
theorem si_front (h:Nat->Int) (p:Nat):si h (p+1)=h 0+si (fun m=>h (m+1)) p:=by
 induction p with
 | zero=>show 0+h 0=h 0+0;omega
 | succ p ih=>show si h (p+1)+h (p+1)=h 0+(si (fun m=>h (m+1)) p+h (p+1));rw [ih];omega
theorem si_rot1 (h:Nat->Int) (n:Nat):si (fun m=>h ((m+1) % n)) n=si h n:=by
 cases n with
 | zero=>rfl
 | succ p =>
  rw [si_front h]
  show si (fun m=>h ((m+1) % (p+1))) p+h ((p+1) % (p+1))=_
  rw [Nat.mod_self,si_congr (g:=fun m=>h (m+1)) fun i hi=>by rw [Nat.mod_eq_of_lt (by omega)]]
  omega
theorem si_rot (h:Nat->Int) (n c:Nat):si (fun m=>h ((m+c) % n)) n=si h n:=by
 induction c with
 | zero=>exact si_congr fun i hi=>by rw [Nat.add_zero,Nat.mod_eq_of_lt hi]
 | succ c ih =>
  rw [<-ih,<-si_rot1 (fun x=>h ((x+c) % n)) n]
  refine si_congr fun i hi=>?_
  rw [Nat.mod_add_mod]
  congr 2;omega
theorem si_rev (h:Nat->Int) (n:Nat):si (fun m=>h (n-1-m)) n=si h n:=by
 induction n with
 | zero=>rfl
 | succ p ih =>
  rw [si_front]
  show h (p+1-1-0)+si (fun m=>h (p+1-1-(m+1))) p=si h p+h p
  rw [<-ih,si_congr (g:=fun m=>h (p-1-m)) fun i hi=>by congr 1;omega]
  rw [show p+1-1-0=p by omega]
  omega
theorem mod2 {a n:Nat} (h:a<2*n):a % n=if a<n then a else a-n:=by
 split
 ·rename_i h1;exact Nat.mod_eq_of_lt h1
 ·rw [Nat.mod_eq_sub_mod (by omega),Nat.mod_eq_of_lt (by omega)]
theorem cv_si (n:Nat) (f g:Nat->Int) (l m:Nat):cvI n f g l m=si (fun m=>f m*g ((l+n-m) % n)) m:=by
 induction m with
 | zero=>rfl
 | succ m ih=>show cvI n f g l m+_=si _ m+_;rw [ih]
theorem si_add (f g:Nat->Int) (n:Nat):si (fun m=>f m+g m) n=si f n+si g n:=by
 induction n with
 | zero=>rfl
 | succ n ih=>show si (fun m=>f m+g m) n+(f n+g n)=(si f n+f n)+(si g n+g n);rw [ih];omega
theorem si_mul (a:Int) (f:Nat->Int) (n:Nat):si (fun m=>a*f m) n=a*si f n:=by
 induction n with
 | zero=>show (0:Int)=a*0;omega
 | succ n ih=>show si (fun m=>a*f m) n+a*f n=a*(si f n+f n);rw [ih,Int.mul_add]
theorem si_mulr (a:Int) (f:Nat->Int) (n:Nat):si f n*a=si (fun m=>f m*a) n:=by
 rw [Int.mul_comm,<-si_mul];exact si_congr fun i _=>Int.mul_comm _ _
theorem si_zero (n:Nat):si (fun _=>0) n=0:=by
 induction n with
 | zero=>rfl
 | succ n ih=>show si (fun _=>0) n+0=0;rw [ih];rfl
theorem si_swap (f:Nat->Nat->Int) (m n:Nat):si (fun i=>si (fun j=>f i j) n) m=si (fun j=>si (fun i=>f i j) m) n:=by
 induction m with
 | zero=>show 0=si (fun _=>0) n;rw [si_zero]
 | succ m ih=>show si (fun i=>si (fun j=>f i j) n) m+si (fun j=>f m j) n=si (fun j=>si (fun i=>f i j) m+f m j) n;rw [ih,si_add]
def tu (n k:Nat) (x:Nat->Int) (j:Nat):Int:=x ((j+n-k) % n)
theorem cv_assoc {n l:Nat} (x y z:Nat->Int) (hl:l<n):cvI n (fun l=>cvI n x y l n) z l n=cvI n x (fun l=>cvI n y z l n) l n:=by
 rw [cv_si,cv_si]
 have e1:∀ i,i<n->cvI n x y i n*z ((l+n-i) % n)=si (fun m=>x m*(y ((i+n-m) % n)*z ((l+n-i) % n))) n:=fun i _=>by
  rw [cv_si,si_mulr];exact si_congr fun m _=>Int.mul_assoc _ _ _
 rw [si_congr e1,si_swap]
 refine si_congr fun m hm=>?_
 rw [si_mul,cv_si]
 congr 1
 rw [<-si_rot (fun i=>y ((i+n-m) % n)*z ((l+n-i) % n)) n m]
 refine si_congr fun j hj=>?_
 have h0:(j+m) % n=if j+m<n then j+m else j+m-n:=mod2 (by omega)
 have e2:((j+m) % n+n-m) % n=j:=by
  have h2:((j+m) % n+n-m) % n=if (j+m) % n+n-m<n then (j+m) % n+n-m else (j+m) % n+n-m-n:=mod2 (by split at h0 <;> omega)
  split at h0 <;> split at h2 <;> omega
 have e3:(l+n-(j+m) % n) % n=((l+n-m) % n+n-j) % n:=by
  have h1:(l+n-m) % n=if l+n-m<n then l+n-m else l+n-m-n:=mod2 (by omega)
  have h2:(l+n-(j+m) % n) % n=if l+n-(j+m) % n<n then l+n-(j+m) % n else l+n-(j+m) % n-n:=mod2 (by split at h0 <;> omega)
  generalize (l+n-m) % n=A at *
  generalize (j+m) % n=B at *
  have h3:(A+n-j) % n=if A+n-j<n then A+n-j else A+n-j-n:=mod2 (by split at h1 <;> omega)
  split at h0 <;> split at h1 <;> split at h2 <;> split at h3 <;> omega
 rw [e2,e3]
def pv (f g:Nat->Int) (l:Nat):Int:=si (fun m=>f m*g (l-m)) (l+1)
def Sup (f:Nat->Int) (n:Nat):Prop:=∀ i,n<=i->f i=0
theorem si_tail {h:Nat->Int} {a:Nat}:∀ n,a<=n->(∀ i,a<=i->i<n->h i=0)->si h n=si h a:=by
 intro n
 induction n with
 | zero=>intro h1 _;rw [show a=0 by omega]
 | succ n ih =>
  intro h1 h2
  by_cases e:a=n+1
  ·rw [e]
  ·show si h n+h n=_
   rw [ih (by omega) (fun i hi hn=>h2 i hi (by omega)),h2 n (by omega) (by omega)];omega
theorem cv_pv {N l la lb:Nat} {f g:Nat->Int} (hf:Sup f la) (hg:Sup g lb) (h1:la+lb<=N+1) (hl:l<N):cvI N f g l N=pv f g l:=by
 rw [cv_si,si_tail (a:=l+1) N (by omega) (fun i hi hn=>?_)]
 ·refine si_congr fun i hi=>?_
  rw [show l+N-i=l-i+N by omega,Nat.add_mod_right,Nat.mod_eq_of_lt (by omega)]
 ·rw [Nat.mod_eq_of_lt (by omega)]
  by_cases h:la<=i
  ·rw [hf i h,Int.zero_mul]
  ·rw [hg (l+N-i) (by omega),Int.mul_zero]
theorem pv_sup {la lb:Nat} {f g:Nat->Int} (hf:Sup f la) (hg:Sup g lb):Sup (pv f g) (la+lb-1):=fun l hl=>by
 unfold pv
 rw [si_congr (g:=fun _=>0) (fun i hi=>?_),si_zero]
 by_cases h:la<=i
 ·rw [hf i h,Int.zero_mul]
 ·rw [hg (l-i) (by omega),Int.mul_zero]
theorem pv_comm (f g:Nat->Int) (l:Nat):pv f g l=pv g f l:=by
 unfold pv
 rw [<-si_rev (fun m=>g m*f (l-m)) (l+1)]
 refine si_congr fun i hi=>?_
 rw [show l+1-1-i=l-i by omega,show l-(l-i)=i by omega,Int.mul_comm]
theorem pv_add (f g h:Nat->Int) (l:Nat):pv f (fun i=>g i+h i) l=pv f g l+pv f h l:=by
 unfold pv
 rw [<-si_add]
 exact si_congr fun i _=>Int.mul_add _ _ _
theorem cv_congr {N l:Nat} {f g f' g':Nat->Int} (h1:∀ i,i<N->f i=f' i) (h2:∀ i,i<N->g i=g' i):cvI N f g l N=cvI N f' g' l N:=by
 rw [cv_si,cv_si]
 exact si_congr fun i hi=>by rw [h1 i hi,h2 _ (Nat.mod_lt _ (by omega))]
theorem pv_assoc {la lb lc:Nat} {f g h:Nat->Int} (hf:Sup f la) (hg:Sup g lb) (hh:Sup h lc) (l:Nat):pv (pv f g) h l=pv f (pv g h) l:=by
 have hfg:=pv_sup hf hg
 have hgh:=pv_sup hg hh
 have e1:cvI (l+la+lb+lc+1) (pv f g) h l (l+la+lb+lc+1)=pv (pv f g) h l:=cv_pv hfg hh (by omega) (by omega)
 have e2:cvI (l+la+lb+lc+1) f (pv g h) l (l+la+lb+lc+1)=pv f (pv g h) l:=cv_pv hf hgh (by omega) (by omega)
 rw [<-e1,<-e2,cv_congr (f':=fun l'=>cvI (l+la+lb+lc+1) f g l' (l+la+lb+lc+1)) (g':=h) (fun i hi=>(cv_pv hf hg (by omega) hi).symm) (fun _ _=>rfl),cv_assoc _ _ _ (by omega)]
 exact cv_congr (fun _ _=>rfl) (fun i hi=>cv_pv hg hh (by omega) hi)
def ah (n:Nat) (f:Nat->Int) (i:Nat):Int:=if i<n then 0 else f (i-n)
theorem ah_sup {n la:Nat} {f:Nat->Int} (hf:Sup f la):Sup (ah n f) (n+la):=fun i hi=>by
 unfold ah;rw [if_neg (by omega)];exact hf _ (by omega)
theorem si_ah (n:Nat) (h:Nat->Int) (m:Nat):si (fun i=>if i<n then 0 else h (i-n)) (n+m)=si h m:=by
 induction m with
 | zero =>
  rw [Nat.add_zero,si_congr (g:=fun _=>0) (fun i hi=>if_pos hi),si_zero];rfl
 | succ m ih =>
  show si (fun i=>if i<n then 0 else h (i-n)) (n+m)+(if n+m<n then 0 else h (n+m-n))=si h m+h m
  rw [ih,if_neg (by omega),show n+m-n=m by omega]
theorem pv_ah_low {n l:Nat} (f g:Nat->Int) (h:l<n):pv (ah n f) g l=0:=by
 unfold pv
 rw [si_congr (g:=fun _=>0) (fun i hi=>?_),si_zero]
 unfold ah
 rw [if_pos (by omega),Int.zero_mul]
theorem pv_ah (n l:Nat) (f g:Nat->Int):pv (ah n f) g (n+l)=pv f g l:=by
 unfold pv
 rw [<-si_ah n (fun m=>f m*g (l-m)) (l+1),Nat.add_assoc]
 refine si_congr fun i hi=>?_
 unfold ah
 by_cases h:i<n
 ·rw [if_pos h,if_pos h,Int.zero_mul]
 ·rw [if_neg h,if_neg h,show n+l-i=l-(i-n) by omega]
theorem si_pv {lb:Nat} {f g:Nat->Int} (hg:Sup g lb):∀ la,Sup f la->si (pv f g) (la+lb)=si f la*si g lb:=by
 intro la
 induction la generalizing f with
 | zero =>
  intro hf
  rw [si_congr (g:=fun _=>0) (fun i hi=>?_),si_zero]
  ·show 0=0*_;rw [Int.zero_mul]
  ·unfold pv
   rw [si_congr (g:=fun _=>0) (fun i hi=>by rw [hf i (by omega),Int.zero_mul]),si_zero]
 | succ la ih =>
  intro hf
  have h0:∀ l,pv f g l=f 0*g l+(if l<1 then 0 else pv (fun i=>f (i+1)) g (l-1)):=fun l=>by
   unfold pv
   rw [si_front]
   congr 1
   by_cases e:l<1
   ·rw [if_pos e,show l=0 by omega];rfl
   ·rw [if_neg e,show l-1+1=l by omega]
    exact si_congr fun i hi=>by rw [show l-(i+1)=l-1-i by omega]
  have e1:=ih (f:=fun i=>f (i+1)) (fun i hi=>hf _ (by omega))
  rw [si_congr (fun i _=>h0 i),si_add,show la+1+lb=1+(la+lb) by omega,si_ah 1,e1,si_mul,si_tail (h:=g) (a:=lb) _ (by omega) (fun i hi _=>hg i hi),si_front f la,Int.add_mul]
theorem si_le {f:Nat->Int} {B:Nat} (h:∀ i,(f i).natAbs<=B):∀ n,(si f n).natAbs<=n*B:=by
 intro n
 induction n with
 | zero=>show (0:Int).natAbs<=_;simp
 | succ n ih =>
  show (si f n+f n).natAbs<=_
  have:=h n
  rw [Nat.succ_mul];omega
end Go.Proofs.YtbcocfhfhblhcaaGreatDoor.Jx
namespace Go.Proofs.YtbcocfhfhblhcaaGreatDoor.Fl
open Go.RowKit
open Ieee
open Go.Proofs.YtbcocfhfhblhcaaGreatDoor.Jx (cvI cv_le)
set_option linter.unusedVariables false
set_option linter.unusedSimpArgs false
theorem placesT (la ca lb cb n:Nat) (aa ab:Option Addr) (w:World) (h1:1<=la) (h2:1<=lb) (h3:la+lb<=16384) (hn:n+1=la+lb) :
  Calls Tryz.prog 26 #[.slice aa la ca,.slice ab lb cb] w fun e w'=>e = .returned (.tuple #[.int .i64 (n:Int),.int .i64 0])/\w=w':=by
 have i1:¬ (la:Int)+(lb:Int)>16384:=by omega
 have i2:((la:Int)==0)=false:=by simp;omega
 have i3:((lb:Int)==0)=false:=by simp;omega
 have i4:¬ la=0:=by omega
 have i5:¬ lb=0:=by omega
 have e:(la:Int)+(lb:Int)-1=(n:Int):=by omega
 go_enter Tryz.func26,Tryz.ntmps26
 go_wp2
 go_ret2
 exact ⟨rfl,rfl⟩
theorem placesZ (la ca lb cb:Nat) (aa ab:Option Addr) (w:World) (h1:la=0\/lb=0) (h3:la+lb<=16384) :
  Calls Tryz.prog 26 #[.slice aa la ca,.slice ab lb cb] w fun e w'=>e = .returned (.tuple #[.int .i64 0,.int .i64 0])/\w=w':=by
 have i1:¬ (la:Int)+(lb:Int)>16384:=by omega
 by_cases i4:la=0
 ·have i2:((la:Int)==0)=true:=by simp;omega
  go_enter Tryz.func26,Tryz.ntmps26
  go_wp2
  go_ret2
  exact ⟨rfl,rfl⟩
 ·have i2:((la:Int)==0)=false:=by simp;omega
  have i3:((lb:Int)==0)=true:=by simp;omega
  have i5:lb=0:=by omega
  go_enter Tryz.func26,Tryz.ntmps26
  go_wp2
  go_ret2
  exact ⟨rfl,rfl⟩
theorem placesL (la ca lb cb:Nat) (aa ab:Option Addr) (w:World) (h1:la<=4611686018427387904) (h2:lb<=4611686018427387903) (h3:16384<la+lb) :
  Calls Tryz.prog 26 #[.slice aa la ca,.slice ab lb cb] w fun e w'=>e = .returned (.tuple #[.int .i64 0,.int .i64 3])/\w=w':=by
 have i1:(la:Int)+(lb:Int)>16384:=by omega
 have i2:IntKind.i64.wrap ((la:Int)+(lb:Int))=(la:Int)+(lb:Int):=by rw [IntKind.wrap_i64];omega
 go_enter Tryz.func26,Tryz.ntmps26
 go_wp2
 go_ret2
 exact ⟨rfl,rfl⟩
theorem paddedR (len cap N:Nat) (ad:Option Addr) (f:Nat->Int) (w:World) (hN:N<=16384) (h:ArgI w ad len cap f) :
  Calls Tryz.prog 39 #[.slice ad len cap,.int .i64 (N:Int)] w fun e w'=>∃ q,w.heap.size<=q/\e = .returned (.slice (some ⟨q,0,none⟩) N N)/\Hid (OI w' q N N (cf len f))/\Hid (Gr w w'):=by
 have H:=hide h
 have hN4:N<=4398046511104:=by omega
 clear h
 go_enter Tryz.func39,Tryz.ntmps39
 go_wp2_with (first | (at_make;refine wpList_madeI rfl _ _ rfl N _ rfl rfl rfl hN4 ?_;intro w2 hown0 hg2;have ZX:Hid (ZI w2 w.heap.size N):=hown0;have G2:=hide hg2;have A2:=hide (H.out.gr hg2);clear hown0 hg2 H) | (refine wpList_copiedI rfl _ _ rfl w.heap.size N rfl _ _ _ rfl f A2.out ZX.out ?_;intro w3 O1 X1 v;have G3:Hid (Gr w w3):=gx_gr X1 (Nat.le_refl _) G2.out;have O1H:=hide O1;clear O1 X1))
 go_ret
 exact ⟨w.heap.size,Nat.le_refl _,rfl,O1H,G3⟩
theorem prodC (k n N la ca lb cb:Nat) (aa ab:Option Addr) (fa fb C:Nat->Int) (w:World) (hn:1<=n) (hk:bl (n-1)=k) (hk4:k<=14) (hN:N=2 ^ k) (hnN:n<=N) (h1:ArgI w aa la ca fa) (h2:ArgI w ab lb cb fb)
  (R:Hid (∀ w1 q1 q2,Gr w w1->OI w1 q1 N N (cf la fa)->OI w1 q2 N N (cf lb fb)->Calls Tryz.prog 29 #[.slice (some ⟨q1,0,none⟩) N N,.slice (some ⟨q2,0,none⟩) N N] w1 fun e w'=>∃ q,w1.heap.size<=q/\e = .returned (.tuple #[.slice (some ⟨q,0,none⟩) N N,.int .i64 0])/\Hid (OI w' q N N C)/\Hid (Gr w1 w'))) :
  Calls Tryz.prog 28 #[.func (.func 29) #[] #[],.int .i64 (n:Int),.slice aa la ca,.slice ab lb cb] w fun e w'=>∃ q,w.heap.size<=q/\e = .returned (.tuple #[.slice (some ⟨q,0,none⟩) n N,.int .i64 0])/\Hid (OI w' q N N C)/\Hid (Gr w w'):=by
 have hle:N<=16384:=by rw [hN];exact Nat.pow_le_pow_right (n:=2) (by omega) hk4
 obtain ⟨m,rfl⟩:∃ m,n=m+1:=⟨n-1,by omega⟩
 have LN:Hid (∀ w1,Calls Tryz.prog 38 #[.int .u64 (m:Int)] w1 fun e w'=>e = .returned (.int .i64 (k:Int))/\w1=w'):=fun w1=>by
  refine (Tryz.bits_Len (m:Int) w1 (by omega) (by omega)).mono ?_
  rintro e w' ⟨rfl,rfl⟩
  refine ⟨?_,rfl⟩
  rw [Int.toNat_natCast,bitLen_bl (by omega),<-hk,show m+1-1=m by omega]
 have P1:Hid (∀ w1,Gr w w1->_):=fun w1 g=>paddedR la ca N aa fa w1 hle (h1.gr g)
 have P2:Hid (∀ w1,Gr w w1->_):=fun w1 g=>paddedR lb cb N ab fb w1 hle (h2.gr g)
 have e2:wrap64 ((2:Int) ^ k)=(N:Int):=by
  rw [show (2:Int) ^ k=((2 ^ k:Nat):Int) by rw [Int.natCast_pow];rfl,<-hN];unfold wrap64;omega
 have i1:((m+1:Nat):Int)<=(N:Int):=by omega
 clear h1 h2 hk hN hn
 have tok:True:=trivial
 go_enter Tryz.func28,Tryz.ntmps28
 go_wp2_with (first | (go_at_call 38;(with_reducible refine (LN.out _).mono ?_);rintro r w1 ⟨rfl,rfl⟩) | (go_at_call 39;have _t:=tok;(with_reducible refine (P1.out _ (Gr.refl _)).mono ?_);rintro r w2 ⟨q1,s1,rfl,O1,G1⟩;clear tok) | (go_at_call 39;(with_reducible refine (P2.out _ G1.out).mono ?_);rintro r w3 ⟨q2,s2,rfl,O2,G2⟩;have G12:Hid (Gr w w3):=G1.out.trans G2.out;have O3:=hide (O1.out.gr G2.out)) | (go_at_call 29;(with_reducible refine (R.out _ _ _ G12.out O3.out O2.out).mono ?_);rintro r w4 ⟨q3,s3,rfl,O4,G4⟩;have G14:Hid (Gr w w4):=G12.out.trans G4.out))
 go_ret2
 exact ⟨q3,Nat.le_trans G12.out.size s3,rfl,O4,G14⟩
theorem prodCE (k n N la ca lb cb:Nat) (c:Int) (aa ab:Option Addr) (fa fb:Nat->Int) (w:World) (hn:1<=n) (hk:bl (n-1)=k) (hk4:k<=14) (hN:N=2 ^ k) (h1:ArgI w aa la ca fa) (h2:ArgI w ab lb cb fb) (hc:(c != 0)=true)
  (R:Hid (∀ w1 q1 q2,Gr w w1->OI w1 q1 N N (cf la fa)->OI w1 q2 N N (cf lb fb)->Calls Tryz.prog 29 #[.slice (some ⟨q1,0,none⟩) N N,.slice (some ⟨q2,0,none⟩) N N] w1 fun e w'=>e = .returned (.tuple #[.slice none 0 0,.int .i64 c])/\Hid (Gr w1 w'))) :
  Calls Tryz.prog 28 #[.func (.func 29) #[] #[],.int .i64 (n:Int),.slice aa la ca,.slice ab lb cb] w fun e w'=>e = .returned (.tuple #[.slice none 0 0,.int .i64 c])/\Hid (Gr w w'):=by
 have hle:N<=16384:=by rw [hN];exact Nat.pow_le_pow_right (n:=2) (by omega) hk4
 have hkl:n-1<16384:=by
  have:=bl_lt (n-1)
  rw [hk] at this
  omega
 obtain ⟨m,rfl⟩:∃ m,n=m+1:=⟨n-1,by omega⟩
 have LN:Hid (∀ w1,Calls Tryz.prog 38 #[.int .u64 (m:Int)] w1 fun e w'=>e = .returned (.int .i64 (k:Int))/\w1=w'):=fun w1=>by
  refine (Tryz.bits_Len (m:Int) w1 (by omega) (by omega)).mono ?_
  rintro e w' ⟨rfl,rfl⟩
  refine ⟨?_,rfl⟩
  rw [Int.toNat_natCast,bitLen_bl (by omega),<-hk,show m+1-1=m by omega]
 have P1:Hid (∀ w1,Gr w w1->_):=fun w1 g=>paddedR la ca N aa fa w1 hle (h1.gr g)
 have P2:Hid (∀ w1,Gr w w1->_):=fun w1 g=>paddedR lb cb N ab fb w1 hle (h2.gr g)
 have e2:wrap64 ((2:Int) ^ k)=(N:Int):=by
  rw [show (2:Int) ^ k=((2 ^ k:Nat):Int) by rw [Int.natCast_pow];rfl,<-hN];unfold wrap64;omega
 clear h1 h2 hk hN hn
 have tok:True:=trivial
 go_enter Tryz.func28,Tryz.ntmps28
 go_wp2_with (first | (go_at_call 38;(with_reducible refine (LN.out _).mono ?_);rintro r w1 ⟨rfl,rfl⟩) | (go_at_call 39;have _t:=tok;(with_reducible refine (P1.out _ (Gr.refl _)).mono ?_);rintro r w2 ⟨q1,s1,rfl,O1,G1⟩;clear tok) | (go_at_call 39;(with_reducible refine (P2.out _ G1.out).mono ?_);rintro r w3 ⟨q2,s2,rfl,O2,G2⟩;have G12:Hid (Gr w w3):=G1.out.trans G2.out;have O3:=hide (O1.out.gr G2.out)) | (go_at_call 29;(with_reducible refine (R.out _ _ _ G12.out O3.out O2.out).mono ?_);rintro r w4 ⟨rfl,G4⟩;have G14:Hid (Gr w w4):=G12.out.trans G4.out))
 go_ret2
 exact ⟨rfl,G14⟩
theorem prodP (k n N la ca lb cb:Nat) (aa ab:Option Addr) (fa fb C:Nat->Int) (w:World) (hn:1<=n) (hk:bl (n-1)=k) (hk4:k<=14) (hN:N=2 ^ k) (hnN:n<=N) (h1:ArgI w aa la ca fa) (h2:ArgI w ab lb cb fb)
  (R:Hid (∀ w1 q1 q2,Gr w w1->OI w1 q1 N N (cf la fa)->OI w1 q2 N N (cf lb fb)->Calls Tryz.prog 33 #[.slice (some ⟨q1,0,none⟩) N N,.slice (some ⟨q2,0,none⟩) N N] w1 fun e w'=>∃ q,w1.heap.size<=q/\e = .returned (.tuple #[.slice (some ⟨q,0,none⟩) N N,.int .i64 0])/\Hid (OI w' q N N C)/\Hid (Gr w1 w'))) :
  Calls Tryz.prog 28 #[.func (.func 33) #[] #[],.int .i64 (n:Int),.slice aa la ca,.slice ab lb cb] w fun e w'=>∃ q,w.heap.size<=q/\e = .returned (.tuple #[.slice (some ⟨q,0,none⟩) n N,.int .i64 0])/\Hid (OI w' q N N C)/\Hid (Gr w w'):=by
 have hle:N<=16384:=by rw [hN];exact Nat.pow_le_pow_right (n:=2) (by omega) hk4
 obtain ⟨m,rfl⟩:∃ m,n=m+1:=⟨n-1,by omega⟩
 have LN:Hid (∀ w1,Calls Tryz.prog 38 #[.int .u64 (m:Int)] w1 fun e w'=>e = .returned (.int .i64 (k:Int))/\w1=w'):=fun w1=>by
  refine (Tryz.bits_Len (m:Int) w1 (by omega) (by omega)).mono ?_
  rintro e w' ⟨rfl,rfl⟩
  refine ⟨?_,rfl⟩
  rw [Int.toNat_natCast,bitLen_bl (by omega),<-hk,show m+1-1=m by omega]
 have P1:Hid (∀ w1,Gr w w1->_):=fun w1 g=>paddedR la ca N aa fa w1 hle (h1.gr g)
 have P2:Hid (∀ w1,Gr w w1->_):=fun w1 g=>paddedR lb cb N ab fb w1 hle (h2.gr g)
 have e2:wrap64 ((2:Int) ^ k)=(N:Int):=by
  rw [show (2:Int) ^ k=((2 ^ k:Nat):Int) by rw [Int.natCast_pow];rfl,<-hN];unfold wrap64;omega
 have i1:((m+1:Nat):Int)<=(N:Int):=by omega
 clear h1 h2 hk hN hn
 have tok:True:=trivial
 go_enter Tryz.func28,Tryz.ntmps28
 go_wp2_with (first | (go_at_call 38;(with_reducible refine (LN.out _).mono ?_);rintro r w1 ⟨rfl,rfl⟩) | (go_at_call 39;have _t:=tok;(with_reducible refine (P1.out _ (Gr.refl _)).mono ?_);rintro r w2 ⟨q1,s1,rfl,O1,G1⟩;clear tok) | (go_at_call 39;(with_reducible refine (P2.out _ G1.out).mono ?_);rintro r w3 ⟨q2,s2,rfl,O2,G2⟩;have G12:Hid (Gr w w3):=G1.out.trans G2.out;have O3:=hide (O1.out.gr G2.out)) | (go_at_call 33;(with_reducible refine (R.out _ _ _ G12.out O3.out O2.out).mono ?_);rintro r w4 ⟨q3,s3,rfl,O4,G4⟩;have G14:Hid (Gr w w4):=G12.out.trans G4.out))
 go_ret2
 exact ⟨q3,Nat.le_trans G12.out.size s3,rfl,O4,G14⟩
theorem prodPE (k n N la ca lb cb:Nat) (c:Int) (aa ab:Option Addr) (fa fb:Nat->Int) (w:World) (hn:1<=n) (hk:bl (n-1)=k) (hk4:k<=14) (hN:N=2 ^ k) (h1:ArgI w aa la ca fa) (h2:ArgI w ab lb cb fb) (hc:(c != 0)=true)
  (R:Hid (∀ w1 q1 q2,Gr w w1->OI w1 q1 N N (cf la fa)->OI w1 q2 N N (cf lb fb)->Calls Tryz.prog 33 #[.slice (some ⟨q1,0,none⟩) N N,.slice (some ⟨q2,0,none⟩) N N] w1 fun e w'=>e = .returned (.tuple #[.slice none 0 0,.int .i64 c])/\Hid (Gr w1 w'))) :
  Calls Tryz.prog 28 #[.func (.func 33) #[] #[],.int .i64 (n:Int),.slice aa la ca,.slice ab lb cb] w fun e w'=>e = .returned (.tuple #[.slice none 0 0,.int .i64 c])/\Hid (Gr w w'):=by
 have hle:N<=16384:=by rw [hN];exact Nat.pow_le_pow_right (n:=2) (by omega) hk4
 have hkl:n-1<16384:=by
  have:=bl_lt (n-1)
  rw [hk] at this
  omega
 obtain ⟨m,rfl⟩:∃ m,n=m+1:=⟨n-1,by omega⟩
 have LN:Hid (∀ w1,Calls Tryz.prog 38 #[.int .u64 (m:Int)] w1 fun e w'=>e = .returned (.int .i64 (k:Int))/\w1=w'):=fun w1=>by
  refine (Tryz.bits_Len (m:Int) w1 (by omega) (by omega)).mono ?_
  rintro e w' ⟨rfl,rfl⟩
  refine ⟨?_,rfl⟩
  rw [Int.toNat_natCast,bitLen_bl (by omega),<-hk,show m+1-1=m by omega]
 have P1:Hid (∀ w1,Gr w w1->_):=fun w1 g=>paddedR la ca N aa fa w1 hle (h1.gr g)
 have P2:Hid (∀ w1,Gr w w1->_):=fun w1 g=>paddedR lb cb N ab fb w1 hle (h2.gr g)
 have e2:wrap64 ((2:Int) ^ k)=(N:Int):=by
  rw [show (2:Int) ^ k=((2 ^ k:Nat):Int) by rw [Int.natCast_pow];rfl,<-hN];unfold wrap64;omega
 clear h1 h2 hk hN hn
 have tok:True:=trivial
 go_enter Tryz.func28,Tryz.ntmps28
 go_wp2_with (first | (go_at_call 38;(with_reducible refine (LN.out _).mono ?_);rintro r w1 ⟨rfl,rfl⟩) | (go_at_call 39;have _t:=tok;(with_reducible refine (P1.out _ (Gr.refl _)).mono ?_);rintro r w2 ⟨q1,s1,rfl,O1,G1⟩;clear tok) | (go_at_call 39;(with_reducible refine (P2.out _ G1.out).mono ?_);rintro r w3 ⟨q2,s2,rfl,O2,G2⟩;have G12:Hid (Gr w w3):=G1.out.trans G2.out;have O3:=hide (O1.out.gr G2.out)) | (go_at_call 33;(with_reducible refine (R.out _ _ _ G12.out O3.out O2.out).mono ?_);rintro r w4 ⟨rfl,G4⟩;have G14:Hid (Gr w w4):=G12.out.trans G4.out))
 go_ret2
 exact ⟨rfl,G14⟩
end Go.Proofs.YtbcocfhfhblhcaaGreatDoor.Fl
namespace Go.Proofs.YtbcocfhfhblhcaaGreatDoor.Fl
open Go.RowKit
open Ieee
open Go.Proofs.YtbcocfhfhblhcaaGreatDoor.Jx (cvI cv_le pv Sup cv_pv)
set_option linter.unusedVariables false
set_option linter.unusedSimpArgs false
theorem gm_most {f:Nat->Int} {B:Nat}:∀ {n},(∀ i,i<n->(f i).natAbs<=B)->gm f n<=B:=by
 intro n
 induction n with
 | zero=>intro _;show 0<=B;omega
 | succ n ih =>
  intro h
  show (if gm f n<(f n).natAbs then (f n).natAbs else gm f n)<=_
  split
  ·exact h n (by omega)
  ·exact ih fun i hi=>h i (by omega)
theorem ArgI.len {w:World} {ad:Option Addr} {len cap:Nat} {f:Nat->Int} (h:ArgI w ad len cap f):len<=9223372036854775807:=Nat.le_trans h.1 h.2.1
structure RowI where
 ad:Option Addr
 len:Nat
 cap:Nat
 f:Nat->Int
def tgB (R:Nat->RowI):Bool:=decide (¬ (gm (R 0).f (R 0).len<=9007199254740992/\gm (R 1).f (R 1).len<=9007199254740992))
set_option maxHeartbeats 1000000 in
theorem tgR (b:Nat) (R:Nat->RowI) (w:World) (hc:∀ j,j<2->w.cell? ⟨b,j,none⟩=some (.slice (R j).ad (R j).len (R j).cap)) (ha:∀ j,j<2->ArgI w (R j).ad (R j).len (R j).cap (R j).f) :
  Calls Tryz.prog 27 #[.slice (some ⟨b,0,none⟩) 2 2] w fun e w'=>e = .returned (.bool (tgB R))/\w'=w:=by
 have HC:=hide hc
 have HA:=hide ha
 have NO:Hid (∀ j i,j<2->i<(R j).len->9007199254740992<((R j).f i).natAbs->true=tgB R):=fun j i hj hi h=>by
  have h1:=gm_le (R j).f hi
  have h2:¬ (gm (R 0).f (R 0).len<=9007199254740992/\gm (R 1).f (R 1).len<=9007199254740992):=fun hh=>by
   rcases (show j=0\/j=1 by omega) with rfl | rfl
   ·omega
   ·omega
  unfold tgB
  rw [decide_eq_true h2]
 have YES:Hid ((∀ j i,j<2->i<(R j).len->((R j).f i).natAbs<=9007199254740992)->false=tgB R):=fun h=>by
  have h2:¬ ¬ (gm (R 0).f (R 0).len<=9007199254740992/\gm (R 1).f (R 1).len<=9007199254740992):=fun hh=>hh ⟨gm_most fun i hi=>h 0 i (by omega) hi,gm_most fun i hi=>h 1 i (by omega) hi⟩
  unfold tgB
  rw [decide_eq_false h2]
 clear hc ha
 generalize tgB R=B at *
 go_enter Tryz.func27,Tryz.ntmps27
 go_wp2
 go_loopw [4,5,8] (fun _ _ x wr=>∃ j:Nat,j<=2/\x = .int .i64 (j:Int)/\Hid (∀ m i,m<j->i<(R m).len->((R m).f i).natAbs<=9007199254740992)/\wr=w) (fun _ _ x _=>2-(intOf x).toNat)
 case atStart=>exact ⟨0,by omega,rfl,fun m i hm=>absurd hm (by omega),rfl⟩
 case round =>
  obtain ⟨j,hj,rfl,hI,rfl⟩:=hrel
  by_cases hlt:j<2
  ·have i1:(j:Int)<2:=by omega
   have c1:=HC.out j hlt
   have A1:=hide (HA.out j hlt)
   have hlen:=(HA.out j hlt).len
   have N1:Hid (∀ i,i<(R j).len->9007199254740992<((R j).f i).natAbs->true=B):=fun i hi h=>NO.out j i hlt hi h
   have ST:Hid ((∀ i,i<(R j).len->((R j).f i).natAbs<=9007199254740992)->∀ m i,m<j+1->i<(R m).len->((R m).f i).natAbs<=9007199254740992):=fun h m i hm hi=>by
    by_cases e:m=j
    ·subst e;exact h i hi
    ·exact hI.out m i (by omega) hi
   clear HC HA NO YES hI
   generalize (R j).ad=ad at *
   generalize hle:(R j).len=len at *
   generalize (R j).cap=cap at *
   generalize (R j).f=f at *
   clear hle
   go_wp2
   go_loopw [5,14] (fun _ x wr2=>∃ m:Nat,m<=len/\x = .int .i64 (m:Int)/\Hid (∀ i,i<m->(f i).natAbs<=9007199254740992)/\wr2=wr) (fun _ x _=>len-(intOf x).toNat)
   case atStart=>exact ⟨0,by omega,rfl,fun i hi=>absurd hi (by omega),rfl⟩
   case round =>
    obtain ⟨m,hm,rfl,hI,rfl⟩:=hrel
    by_cases hml:m<len
    ·have i2:(m:Int)<(len:Int):=by omega
     obtain ⟨a,rfl,hb,hc⟩:=A1.out.2.2 (by omega)
     have k1:=(hc m hml).1
     have N2:=hide (N1.out m hml)
     have NX:Hid ((f m).natAbs<=9007199254740992->∀ i,i<m+1->(f i).natAbs<=9007199254740992):=fun h i hi=>by
      by_cases e:i=m
      ·subst e;exact h
      ·exact hI.out i (by omega)
     clear hc hI N1 A1 ST
     generalize f m=x at *
     by_cases h1:x>9007199254740992
     ·have hB:=N2.out (by omega)
      subst hB
      go_wp2
      go_ret
      exact ⟨rfl,rfl⟩
     ·by_cases h2:x < -9007199254740992
      ·have hB:=N2.out (by omega)
       subst hB
       go_wp2
       go_ret
       exact ⟨rfl,rfl⟩
      ·have h3:x.natAbs<=9007199254740992:=by omega
       have NN:=hide (NX.out h3)
       clear N2 NX h3
       go_wp2
       exact ⟨⟨m+1,by omega,by go_num,NN,trivial⟩,by simp only [intOf];omega⟩
    ·have hme:m=len:=by omega
     subst hme
     have i2:¬ (m:Int)<(m:Int):=by omega
     have NN:=hide (ST.out hI.out)
     clear ST hI N1 A1
     go_wp2
     go_roundw
     case rel=>exact ⟨j+1,by omega,by go_num,NN,trivial⟩
     case measure=>simp only [intOf];omega
  ·have hje:j=2:=by omega
   subst hje
   have hB:=YES.out fun j i hj hi=>hI.out j i hj hi
   subst hB
   go_wp2
   go_ret
   exact ⟨rfl,rfl⟩
end Go.Proofs.YtbcocfhfhblhcaaGreatDoor.Fl
namespace Go.Proofs.YtbcocfhfhblhcaaGreatDoor.Fl
open Go.RowKit
open Ieee
open Go.Proofs.YtbcocfhfhblhcaaGreatDoor.Jx (cvI cv_le)
set_option linter.unusedVariables false
set_option linter.unusedSimpArgs false
end Go.Proofs.YtbcocfhfhblhcaaGreatDoor.Fl
