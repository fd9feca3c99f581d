import Derived.Test.YtanpdbadfddlcaaGreatDoorP39
import Derived.Test.YtanpdbadfddlcaaGreatDoorP45
import Derived.Deep.RegionHeld3
import Derived.ArgAppend
import Derived.OwnWalk
namespace Go.Proofs.YtanpdbadfddlcaaGreatDoor.Jx
set_option linter.unusedVariables false
def si (f:Nat->Int):Nat->Int
 | 0=>0
 | n+1=>si f n+f n
theorem si_congr {f g:Nat->Int} {n:Nat} (h:∀i,i<n->f i=g i):si f n=si g n:=by
 induction n with
 | zero=>rfl
 | succ n ih=>show si f n+f n=si g n+g n;rw[ih fun i hi=>h i (by omega),h n (by omega)]
theorem si_front (h:Nat->Int) (p:Nat):si h (p+1)=h 0+si (fun m=>h (m+1)) p:=by
 induction p with
 | zero=>show 0+h 0=h 0+0;omega
 | succ p ih=>show si h (p+1)+h (p+1)=h 0+(si (fun m=>h (m+1)) p+h (p+1));rw[ih];omega
theorem si_rot1 (h:Nat->Int) (n:Nat):si (fun m=>h ((m+1) % n)) n=si h n:=by
 cases n with
 | zero=>rfl
 | succ p =>
  rw[si_front h]
  show si (fun m=>h ((m+1) % (p+1))) p+h ((p+1) % (p+1))=_
  rw[Nat.mod_self,si_congr (g:=fun m=>h (m+1)) fun i hi=>by rw[Nat.mod_eq_of_lt (by omega)]]
  omega
theorem si_rot (h:Nat->Int) (n c:Nat):si (fun m=>h ((m+c) % n)) n=si h n:=by
 induction c with
 | zero=>exact si_congr fun i hi=>by rw[Nat.add_zero,Nat.mod_eq_of_lt hi]
 | succ c ih =>
  rw[<-ih,<-si_rot1 (fun x=>h ((x+c) % n)) n]
  refine si_congr fun i hi=>?_
  rw[Nat.mod_add_mod]
  congr 2;omega
theorem si_rev (h:Nat->Int) (n:Nat):si (fun m=>h (n-1-m)) n=si h n:=by
 induction n with
 | zero=>rfl
 | succ p ih =>
  rw[si_front]
  show h (p+1-1-0)+si (fun m=>h (p+1-1-(m+1))) p=si h p+h p
  rw[<-ih,si_congr (g:=fun m=>h (p-1-m)) fun i hi=>by congr 1;omega]
  rw[show p+1-1-0=p by omega]
  omega
theorem mod2 {a n:Nat} (h:a<2*n):a % n=if a<n then a else a-n:=by
 split
 ·rename_i h1;exact Nat.mod_eq_of_lt h1
 ·rw[Nat.mod_eq_sub_mod (by omega),Nat.mod_eq_of_lt (by omega)]
theorem si_turn (h:Nat->Int) {n l:Nat} (hl:l<n):si (fun m=>h ((l+n-m) % n)) n=si h n:=by
 rw[<-si_rot h n (l+1),<-si_rev (fun m=>h ((m+(l+1)) % n)) n]
 refine si_congr fun i hi=>?_
 congr 2;omega
theorem cv_si (n:Nat) (f g:Nat->Int) (l m:Nat):cvI n f g l m=si (fun m=>f m*g ((l+n-m) % n)) m:=by
 induction m with
 | zero=>rfl
 | succ m ih=>show cvI n f g l m+_=si _ m+_;rw[ih]
theorem cv_comm {n l:Nat} (f g:Nat->Int) (hl:l<n):cvI n f g l n=cvI n g f l n:=by
 rw[cv_si,cv_si,<-si_turn (fun m=>g m*f ((l+n-m) % n)) hl]
 refine si_congr fun i hi=>?_
 have e:(l+n-(l+n-i) % n) % n=i:=by
  have h1:(l+n-i) % n=if l+n-i<n then l+n-i else l+n-i-n:=mod2 (by omega)
  have h2:(l+n-(l+n-i) % n) % n=if l+n-(l+n-i) % n<n then l+n-(l+n-i) % n else l+n-(l+n-i) % n-n:=mod2 (by split at h1 <;> omega)
  split at h1 <;> split at h2 <;> omega
 rw[e,Int.mul_comm]
theorem si_add (f g:Nat->Int) (n:Nat):si (fun m=>f m+g m) n=si f n+si g n:=by
 induction n with
 | zero=>rfl
 | succ n ih=>show si (fun m=>f m+g m) n+(f n+g n)=(si f n+f n)+(si g n+g n);rw[ih];omega
theorem si_mul (a:Int) (f:Nat->Int) (n:Nat):si (fun m=>a*f m) n=a*si f n:=by
 induction n with
 | zero=>show(0:Int)=a*0;omega
 | succ n ih=>show si (fun m=>a*f m) n+a*f n=a*(si f n+f n);rw[ih,Int.mul_add]
theorem si_mulr (a:Int) (f:Nat->Int) (n:Nat):si f n*a=si (fun m=>f m*a) n:=by
 rw[Int.mul_comm,<-si_mul];exact si_congr fun i _=>Int.mul_comm _ _
theorem si_zero (n:Nat):si (fun _=>0) n=0:=by
 induction n with
 | zero=>rfl
 | succ n ih=>show si (fun _=>0) n+0=0;rw[ih];rfl
theorem si_swap (f:Nat->Nat->Int) (m n:Nat):si (fun i=>si (fun j=>f i j) n) m=si (fun j=>si (fun i=>f i j) m) n:=by
 induction m with
 | zero=>show 0=si (fun _=>0) n;rw[si_zero]
 | succ m ih=>show si (fun i=>si (fun j=>f i j) n) m+si (fun j=>f m j) n=si (fun j=>si (fun i=>f i j) m+f m j) n;rw[ih,si_add]
theorem cv_add (n l:Nat) (f g h:Nat->Int):cvI n f (fun i=>g i+h i) l n=cvI n f g l n+cvI n f h l n:=by
 rw[cv_si,cv_si,cv_si,<-si_add]
 exact si_congr fun i _=>Int.mul_add _ _ _
def tu (n k:Nat) (x:Nat->Int) (j:Nat):Int:=x ((j+n-k) % n)
theorem mod_step {n l k m:Nat} (hl:l<n) (hk:k<n) (hm:m<n):((l+n-m) % n+n-k) % n=((l+n-k) % n+n-m) % n:=by
 have h1:(l+n-m) % n=if l+n-m<n then l+n-m else l+n-m-n:=mod2 (by omega)
 have h2:(l+n-k) % n=if l+n-k<n then l+n-k else l+n-k-n:=mod2 (by omega)
 generalize (l+n-m) % n=A at *
 generalize (l+n-k) % n=B at *
 have h3:(A+n-k) % n=if A+n-k<n then A+n-k else A+n-k-n:=mod2 (by split at h1 <;> omega)
 have h4:(B+n-m) % n=if B+n-m<n then B+n-m else B+n-m-n:=mod2 (by split at h2 <;> omega)
 split at h1 <;> split at h2 <;> split at h3 <;> split at h4 <;> omega
theorem cv_tu {n l k:Nat} (x y:Nat->Int) (hl:l<n) (hk:k<n):cvI n (tu n k x) y l n=tu n k (fun l=>cvI n x y l n) l:=by
 have hl':(l+n-k) % n<n:=Nat.mod_lt _ (by omega)
 show _=cvI n x y ((l+n-k) % n) n
 rw[cv_comm _ _ hl,cv_comm _ _ hl',cv_si,cv_si]
 refine si_congr fun i hi=>?_
 show y i*x (((l+n-i) % n+n-k) % n)=_
 rw[mod_step hl hk hi]
def dl (k m:Nat):Int:=if m=k then 1 else 0
theorem si_pick (h:Nat->Int) (k:Nat):∀n,si (fun m=>dl k m*h m) n=if k<n then h k else 0:=by
 intro n
 induction n with
 | zero=>rfl
 | succ n ih =>
  show si (fun m=>dl k m*h m) n+dl k n*h n=_
  rw[ih]
  unfold dl
  by_cases e:n=k
  ·subst e;rw[if_neg (by omega),if_pos rfl,if_pos (by omega)];omega
  ·rw[if_neg e]
   by_cases h1:k<n
   ·rw[if_pos h1,if_pos (by omega)];omega
   ·rw[if_neg h1,if_neg (by omega)];omega
theorem cv_one {n l k:Nat} (x:Nat->Int) (hk:k<n):cvI n (dl k) x l n=tu n k x l:=by
 rw[cv_si,si_pick (fun m=>x ((l+n-m) % n)),if_pos hk];rfl
theorem cv_assoc {n l:Nat} (x y z:Nat->Int) (hl:l<n):cvI n (fun l=>cvI n x y l n) z l n=cvI n x (fun l=>cvI n y z l n) l n:=by
 rw[cv_si,cv_si]
 have e1:∀i,i<n->cvI n x y i n*z ((l+n-i) % n)=si (fun m=>x m*(y ((i+n-m) % n)*z ((l+n-i) % n))) n:=fun i _=>by
  rw[cv_si,si_mulr];exact si_congr fun m _=>Int.mul_assoc _ _ _
 rw[si_congr e1,si_swap]
 refine si_congr fun m hm=>?_
 rw[si_mul,cv_si]
 congr 1
 rw[<-si_rot (fun i=>y ((i+n-m) % n)*z ((l+n-i) % n)) n m]
 refine si_congr fun j hj=>?_
 have h0:(j+m) % n=if j+m<n then j+m else j+m-n:=mod2 (by omega)
 have e2:((j+m) % n+n-m) % n=j:=by
  have h2:((j+m) % n+n-m) % n=if (j+m) % n+n-m<n then (j+m) % n+n-m else (j+m) % n+n-m-n:=mod2 (by split at h0 <;> omega)
  split at h0 <;> split at h2 <;> omega
 have e3:(l+n-(j+m) % n) % n=((l+n-m) % n+n-j) % n:=by
  have h1:(l+n-m) % n=if l+n-m<n then l+n-m else l+n-m-n:=mod2 (by omega)
  have h2:(l+n-(j+m) % n) % n=if l+n-(j+m) % n<n then l+n-(j+m) % n else l+n-(j+m) % n-n:=mod2 (by split at h0 <;> omega)
  generalize (l+n-m) % n=A at *
  generalize (j+m) % n=B at *
  have h3:(A+n-j) % n=if A+n-j<n then A+n-j else A+n-j-n:=mod2 (by split at h1 <;> omega)
  split at h0 <;> split at h1 <;> split at h2 <;> split at h3 <;> omega
 rw[e2,e3]
end Go.Proofs.YtanpdbadfddlcaaGreatDoor.Jx
namespace Go.Proofs.YtanpdbadfddlcaaGreatDoor.Fl
open Go.RowKit
open Ieee
open Go.Proofs.YtanpdbadfddlcaaGreatDoor.Jx (cvI cv_le tu mod2)
set_option linter.unusedVariables false
set_option linter.unusedSimpArgs false
theorem g1:M 4425912533798354944*M 4620693217682128896<=M 4439423332680466432*U:=by decide +kernel
theorem g2:M 4439423332680466432*M 4679240012837945344<=M 4511480926718394368*U:=by decide +kernel
theorem g3:M 4511480926718394368*M 4679240012837945344<=M 4583538520756322304*U:=by decide +kernel
theorem g4:M 4583538520756322304+M 103582791429521408<=M 4588042120383692800*1:=by decide +kernel
def sm (f:Nat->Int) (i:Nat):Int:=(f i).tmod 32768
def OT (w:World) (g n k i:Nat) (f:Nat->Int):Prop:=∃xs,w.ownsRow g 2 1 (.slice (some ⟨g,0,none⟩) n n) n (iz xs)/\∀m,m<i->xs.getD ((m+k) % n) 0=f m
theorem OT.new {w:World} {g n:Nat} (h:w.ownsRow g 2 1 (.slice (some ⟨g,0,none⟩) n n) n (iz (List.replicate n 0))) (k:Nat) (f:Nat->Int):OT w g n k 0 f:=⟨_,h,fun j hj=>absurd hj (by omega)⟩
theorem OT.next {w:World} {g n k i:Nat} {p:Int} {f:Nat->Int} (h:OT w g n k i f) (hi:i<n) (hk:k<n) (h1:p=f i):OT (w.setCell ⟨g,(i+k) % n,none⟩ (.int .i64 p)) g n k (i+1) f:=by
 obtain⟨xs,h3,h4⟩:=h
 have hl:xs.length=n:=by have:=h3.1;rw[iz_length] at this;omega
 refine⟨xs.set ((i+k) % n) p,ownsI_set h3 _ p,fun m hm=>?_⟩
 rw[List.getD_eq_getElem?_getD,List.getElem?_set]
 have hlt:(i+k) % n<n:=Nat.mod_lt _ (by omega)
 by_cases e:m=i
 ·subst e
  rw[if_pos rfl,if_pos (by omega)]
  exact h1
 ·have hne:¬(i+k) % n=(m+k) % n:=by
   have a1:(i+k) % n=if i+k<n then i+k else i+k-n:=mod2 (by omega)
   have a2:(m+k) % n=if m+k<n then m+k else m+k-n:=mod2 (by omega)
   rw[a1,a2]
   split <;> split <;> omega
  rw[if_neg hne,<-List.getD_eq_getElem?_getD]
  exact h4 m (by omega)
theorem OT.gr {w w':World} {g n k i:Nat} {f:Nat->Int} (h:OT w g n k i f) (hk:Gr w w'):OT w' g n k i f:=by
 obtain⟨xs,h3,h4⟩:=h
 exact⟨xs,hk.owns h3,h4⟩
theorem OT.free {w:World} {g n k i:Nat} {f:Nat->Int} (h:OT w g n k i f) (j:Nat) (hj:j<n):(∃x,w.cell? ⟨g,j,none⟩=some (.int .i64 x))/\w.frozen? ⟨g,j,none⟩=false:=by
 obtain⟨xs,h3,h4⟩:=h
 exact⟨⟨_,ownsI_cell h3 j hj⟩,h3.frozenAt j⟩
theorem OT.all {w:World} {g n k:Nat} {f:Nat->Int} (h:OT w g n k n f) (hk:k<n):OI w g n n (tu n k f):=by
 obtain⟨xs,h3,h4⟩:=h
 refine⟨xs,h3,fun j _ hj=>?_⟩
 have a1:(j+n-k) % n=if j+n-k<n then j+n-k else j+n-k-n:=mod2 (by omega)
 have hm:(j+n-k) % n<n:=Nat.mod_lt _ (by omega)
 have e:((j+n-k) % n+k) % n=j:=by
  have a2:((j+n-k) % n+k) % n=if (j+n-k) % n+k<n then (j+n-k) % n+k else (j+n-k) % n+k-n:=mod2 (by omega)
  split at a1 <;> split at a2 <;> omega
 have:=h4 _ hm
 rw[e] at this
 exact this
end Go.Proofs.YtanpdbadfddlcaaGreatDoor.Fl
namespace Go.Proofs.YtanpdbadfddlcaaGreatDoor.Fl
open Go.RowKit
open Ieee
open Go.Proofs.YtanpdbadfddlcaaGreatDoor.Jx (cvI cv_le tu mod2 dl cv_comm cv_add cv_tu cv_one cv_assoc)
set_option linter.unusedVariables false
set_option linter.unusedSimpArgs false
theorem ZI.one {w:World} {g n p:Nat} (h:ZI w g n) (hp:p<n):OI (w.setCell ⟨g,p,none⟩ (.int .i64 1)) g n n (dl p):=by
 have h':w.ownsRow g 2 1 (.slice (some ⟨g,0,none⟩) n n) n (iz (List.replicate n 0)):=h
 refine⟨(List.replicate n 0).set p 1,ownsI_set h' p 1,fun j _ hj=>?_⟩
 rw[List.getD_eq_getElem?_getD,List.getElem?_set]
 unfold dl
 by_cases e:p=j
 ·subst e
  rw[if_pos rfl,if_pos (by simpa using hp),if_pos rfl];rfl
 ·rw[if_neg e,if_neg (fun h=>e h.symm),List.getElem?_replicate,if_pos hj];rfl
theorem ZI.free {w:World} {g n:Nat} (h:ZI w g n) (j:Nat) (hj:j<n):w.cell? ⟨g,j,none⟩=some (.int .i64 0)/\w.frozen? ⟨g,j,none⟩=false:=by
 have h':w.ownsRow g 2 1 (.slice (some ⟨g,0,none⟩) n n) n (iz (List.replicate n 0)):=h
 refine⟨?_,h'.frozenAt j⟩
 rw[ownsI_cell h' j hj,List.getD_eq_getElem?_getD,List.getElem?_replicate,if_pos hj];rfl
end Go.Proofs.YtanpdbadfddlcaaGreatDoor.Fl
namespace Go.Proofs.YtanpdbadfddlcaaGreatDoor.Fl
open Go.RowKit
open Ieee
set_option linter.unusedVariables false
set_option linter.unusedSimpArgs false
def mi (i:Nat):Int:=8000024+(i:Int)
theorem mi_lt {i:Nat} (h:i<=1000):0<=mi i/\mi i<=10000000000:=by unfold mi;omega
theorem markI (i:Nat) (w:World) (i1:i<=1000):Calls Tryz.prog 20 #[.int .i64 1,.int .i64 (i:Int)] w fun r w'=>r = .returned (.int .i64 (mi i))/\w=w':=by
 unfold mi
 go_enter Tryz.func20,Tryz.ntmps20
 go_wp2
 go_ret
 exact⟨by go_num,rfl⟩
def mli (n:Nat):List Int:=(List.range n).map mi
theorem mli_len (n:Nat):(mli n).length=n:=by simp[mli]
theorem mli_succ (n:Nat):mli (n+1)=mli n++[mi n]:=by
 unfold mli
 rw[List.range_succ,List.map_append]
 rfl
theorem mli_get (n j:Nat) (h:j<n):(mli n).getD j 0=mi j:=by
 rw[List.getD_eq_getElem?_getD,List.getElem?_eq_getElem (by rw[mli_len];exact h)]
 simp[mli]
theorem iz_app (xs ys:List Int):iz (xs++ys)=iz xs++iz ys:=by simp[iz]
structure RI (w:World) (ad:Option Addr) (n c:Nat) (xs:List Int):Prop where
 len:xs.length=n
 le:n<=c
 max:c<=maxLen
 nil:ad=none->n=0/\c=0
 cell:∀b,ad=some b->∀j,j<n->b.block<w.heap.size/\w.cell? (b.add j)=some (.int .i64 (xs.getD j 0))
theorem RI.gr {w w':World} {ad:Option Addr} {n c:Nat} {xs:List Int} (h:RI w ad n c xs) (g:Gr w w'):RI w' ad n c xs:=
 ⟨h.len,h.le,h.max,h.nil,fun b e j hj=>⟨Nat.lt_of_lt_of_le (h.cell b e j hj).1 g.size,by rw[g.cell (p:=b.add j) (by unfold Addr.add;split <;> exact(h.cell b e j hj).1)];exact(h.cell b e j hj).2⟩⟩
theorem RI.at {w:World} {ad:Option Addr} {n c:Nat} {xs:List Int} (h:RI w ad n c xs):∀b,ad=some b->∀j u,(iz xs)[j]? = some u->w.cell? (b.add j)=some u:=by
 intro b e j u hu
 have hj:j<n:=by
  have:=(List.getElem?_eq_some_iff.1 hu).1
  rw[iz_length,h.len] at this
  exact this
 rw[iz_get (by rw[h.len];exact hj)] at hu
 rw[<-hu]
 exact(h.cell b e j hj).2
set_option maxRecDepth 20000 in
set_option maxHeartbeats 4000000 in
theorem lentI (ad:Option Addr) (n c:Nat) (xs:List Int) (w:World) (hn:n<=17592186044416) (hr:RI w ad n c xs) :
  Calls Tryz.prog 8 #[.slice ad n c] w fun r w'=>∃g,w.heap.size<=g/\r = .returned (.slice (some ⟨g,0,none⟩) n (n+12))/\w'.ownsRow w.heap.size 2 1 (.slice (some ⟨g,0,none⟩) (n+12) (n+12)) (n+12) (iz (xs++mli 12))/\Gr w w':=by
 have l1:=hr.le
 have m1:=hr.max
 have hlen:=hr.len
 have HR:=hide hr
 have MK:Hid (∀(i:Nat) w1,i<=12->Calls Tryz.prog 20 #[.int .i64 1,.int .i64 (i:Int)] w1 fun r w'=>r = .returned (.int .i64 (mi i))/\w1=w'):=fun i w1 h=>markI i w1 (by omega)
 clear hr
 obtain⟨i0,hi,hz0,hz1,hz2⟩:=info_parts infoI
 go_enter Tryz.func8,Tryz.ntmps8
 go_wp2_with (at_make;refine wpList_make_own w rfl _ _ 22 rfl w.heap.size 2 i0 (.int .i64 0) 1 Tryz.underlying22 hi hz0 hz1 .i64 .i64 _ (n+12) rfl rfl ?c1 ?c2 ?c3 ?c4 ?_)
 case' c1=>omega
 case' c2=>rw[hz2];omega
 case' c3=>unfold maxLen;omega
 case' c4=>exact Nat.le_refl _
 intro w2 hown0 hgr0
 have g2:=hide ((Gr.refl w).grown hgr0 (fun k h=>by cases h))
 have HR2:=hide (HR.out.gr g2.out)
 clear hgr0
 go_wp2_with (at_builtin;refine wpList_append_fits_any w2 rfl _ _ 22 rfl w.heap.size 2 i0 1 Tryz.underlying22 hi hz1 w.heap.size 0 (n+12) [] rfl hown0 ad n c (iz xs) rfl ?d1 ?d5 ?d2 ?d3 ?d4 ?_)
 case' d1=>rw[iz_length,hlen];omega
 case' d5=>exact fun e=>HR.out.nil e
 case' d2=>exact HR2.out.at
 case' d3=>exact iz_one _
 case' d4=>omega
 intro w3 hown1 hgr1
 have g3:=hide (g2.out.grown hgr1 (fun k h=>by injection h with h;omega))
 have OW:Hid (w3.ownsRow w.heap.size 2 1 (.slice (some ⟨w.heap.size,0,none⟩) (n+0) (n+12)) (n+0) (iz (xs++mli 0))):=by
  rw[show mli 0=[] from rfl,List.append_nil]
  exact hown1
 clear g2 hown0 hown1 hgr1 HR HR2
 go_wp2
 go_loopw [3,4] (fun v i wr=>∃k:Nat,k<=12/\i = .int .i64 (k:Int)/\v = .slice (some ⟨w.heap.size,0,none⟩) (n+k) (n+12)/\Hid (wr.ownsRow w.heap.size 2 1 (.slice (some ⟨w.heap.size,0,none⟩) (n+k) (n+12)) (n+k) (iz (xs++mli k)))/\Hid (Gr w wr)) (fun _ i _=>12-(intOf i).toNat)
 case atStart=>exact⟨0,by omega,rfl,by simp,OW,g3⟩
 case round =>
  obtain⟨k,hk,rfl,rfl,hown,hg⟩:=hrel
  by_cases hlt:k<12
  ·have MKk:=hide (MK.out k wr hk)
   have hmu:0<=mi k/\mi k<=10000000000:=mi_lt (by omega)
   have HMS:=hide (mli_succ k)
   obtain⟨y,hy⟩:∃y,mi k=y:=⟨_,rfl⟩
   rw[hy] at MKk hmu HMS
   clear hy
   have hown':=hown.out.alloc (.cells #[.int .i64 y] 2)
   go_wp2_with (first|(go_at_call 20;(with_reducible refine MKk.out.mono ?_);rintro r w1 ⟨rfl,rfl⟩)|(at_builtin;refine wpList_append_fits (wr.alloc (.cells #[.int .i64 y] 2)) rfl _ _ 22 rfl w.heap.size 2 i0 1 Tryz.underlying22 hi hz1 w.heap.size (n+k) (n+12) (iz (xs++mli k)) rfl hown' ⟨wr.heap.size,0,none⟩ 1 1 (iz [y]) rfl ?f1 ?f2 ?f3 ?f4 ?_))
   case' f1=>rfl
   case' f2 =>
    intro j u hj
    match j,hj with
    | 0,hj=>simp[iz] at hj;subst hj;simp[Addr.add]
   case' f3=>exact iz_one _
   case' f4=>omega
   intro w5 hown2 hgr2
   have g5:=hide ((hg.out.alloc (.cells #[.int .i64 y] 2)).grown hgr2 (fun k h=>by injection h with h;omega))
   rw[<-iz_app,List.append_assoc,<-HMS.out] at hown2
   have OW2:=hide hown2
   clear hown2 hown' hgr2 MKk
   go_wp2
   go_roundw
   case rel=>exact⟨k+1,by omega,by go_num,by rw[Nat.add_assoc],OW2,g5⟩
   case measure=>simp only[intOf];omega
  ·have hkn:k=12:=by omega
   subst hkn
   go_wp2
   go_ret
   exact⟨_,Nat.le_refl _,rfl,hown.out,hg.out⟩
end Go.Proofs.YtanpdbadfddlcaaGreatDoor.Fl
