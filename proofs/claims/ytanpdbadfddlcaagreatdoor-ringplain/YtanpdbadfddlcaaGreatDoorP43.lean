import Derived.Test.YtanpdbadfddlcaaGreatDoorP42
import Derived.Test.YtanpdbadfddlcaaGreatDoorP20
import Derived.Test.YtanpdbadfddlcaaGreatDoorP40
import Derived.Deep.RegionHeld3
import Derived.Laws.CopyOwn
namespace Go.Proofs.YtanpdbadfddlcaaGreatDoor.Fl
open Go.RowKit
open Ieee
open Go.Proofs.YtanpdbadfddlcaaGreatDoor.Jx (cvI cv_le)
set_option linter.unusedVariables false
theorem lit_ir (w:World) (xs:List Int) (hx:∀x∈xs,In64 x) (T:TypeId) (cs:Array Value) (hcs:cs=(iz xs).toArray) (n:Nat) (hn:n=xs.length) (f:Nat->Int) (hf:∀i,i<n->f i=xs.getD i 0):IR (w.alloc (.cells cs T)) (some ⟨w.heap.size,0,none⟩) n f:=fun hp=>by
 refine⟨w.heap.size,rfl,by show w.heap.size<(w.heap.push _).size;simp,fun j hj=>?_⟩
 have h1:(w.alloc (.cells cs T)).heap[w.heap.size]? = some (.cells cs T):=first_block w _
 refine⟨?_,?_⟩
 ·rw[hf j hj]
  have h2:cs[j]? = some (.int .i64 (xs.getD j 0)):=by
   rw[hcs,List.getElem?_toArray,iz_get (by omega)]
  generalize w.alloc (.cells cs T)=w1 at *
  simp[World.cell?,h1,h2]
 ·rw[hf j hj]
  have hm:xs.getD j 0∈xs:=by
   rw[List.getD_eq_getElem?_getD,List.getElem?_eq_getElem (by omega),Option.getD_some];exact List.getElem_mem _
  exact hx _ hm
theorem rb_a:RB 2 4 1 4415779434636771329:=⟨4415779434636771328,⟨4406772235382030336,4415779434636771328,dirUp_of (by decide +kernel),dirUp_of (by decide +kernel),dirUp_of (by decide +kernel),by omega,by omega⟩,dirUp_of (by decide +kernel)⟩
theorem rb_b:RB 0 1 1 4386506037058863105:=⟨4386506037058863104,⟨4386506037058863104,4386506037058863104,dirUp_of (by decide +kernel),dirUp_of (by decide +kernel),dirUp_of (by decide +kernel),by omega,by omega⟩,dirUp_of (by decide +kernel)⟩
theorem rb_c:RB 0 67108864 67108864 4620693217682128897:=⟨4620693217682128896,⟨4386506037058863104,4503599627370496000,dirUp_of (by decide +kernel),dirUp_of (by decide +kernel),dirUp_of (by decide +kernel),by omega,by omega⟩,dirUp_of (by decide +kernel)⟩
def La:List Int:=[1,2,3,4]
def Lb:List Int:=[0,1,0,0]
theorem in64_small {xs:List Int} (h:xs.all (fun x=>decide (In64 x))=true):∀x∈xs,In64 x:=fun x hx=>of_decide_eq_true (List.all_eq_true.1 h x hx)
theorem two_ir (w:World) (xs ys:List Int) (hx:∀x∈xs,In64 x) (hy:∀x∈ys,In64 x) (T:TypeId) (cs ds:Array Value) (hcs:cs=(iz xs).toArray) (hds:ds=(iz ys).toArray) (n:Nat) (hn:n=xs.length) (hm:n=ys.length):IR ((w.alloc (.cells cs T)).alloc (.cells ds T)) (some ⟨w.heap.size,0,none⟩) n (fun i=>xs.getD i 0)/\IR ((w.alloc (.cells cs T)).alloc (.cells ds T)) (some ⟨w.heap.size+1,0,none⟩) n (fun i=>ys.getD i 0):=by
 refine⟨(lit_ir w xs hx T cs hcs n hn _ (fun _ _=>rfl)).gr ((Gr.refl _).alloc _),?_⟩
 have:=lit_ir (w.alloc (.cells cs T)) ys hy T ds hds n hm (fun i=>ys.getD i 0) (fun _ _=>rfl)
 have e:(w.alloc (.cells cs T)).heap.size=w.heap.size+1:=by show(w.heap.push _).size=_;simp
 rw[e] at this
 exact this
set_option maxRecDepth 100000 in
set_option maxHeartbeats 4000000 in
theorem awakeR (w:World) (hT:TabAt 2 Lib.deBruijn64tab w) (hF:TabF w):Calls Tryz.prog 7 #[] w fun e w'=>e = .returned (.bool true)/\Hid (Gr w w'):=by
 have C1:Hid (∀w1 b1 b2,Gr w w1->IR w1 (some ⟨b1,0,none⟩) 4 (fun i=>([1,2,3,4]:List Int).getD i 0)->IR w1 (some ⟨b2,0,none⟩) 4 (fun i=>([0,1,0,0]:List Int).getD i 0)->Calls Tryz.prog 14 #[.slice (some ⟨b1,0,none⟩) 4 4,.slice (some ⟨b2,0,none⟩) 4 4] w1 fun e w'=>∃q,w1.heap.size<=q/\e = .returned (.tuple #[.slice (some ⟨q,0,none⟩) 4 4,.int .i64 0])/\Hid (IR w' (some ⟨q,0,none⟩) 4 (fun i=>([4,1,2,3]:List Int).getD i 0))/\Hid (Gr w1 w')):=fun w1 b1 b2 gg i1 i2=>by
  refine(cyclicT 2 4 4 4 4415779434636771329 _ _ _ _ w1 (by omega) rfl (tab_gr hT gg) (hF.gr gg) i1 i2 (by decide) (by decide) rb_a (by omega)).2.mono ?_
  rintro e w' ⟨q,e1,rfl,e2,e3⟩
  refine⟨q,e1,rfl,?_,e3⟩
  have key:∀l,l<4->cvI 4 (fun i=>([1,2,3,4]:List Int).getD i 0) (fun i=>([0,1,0,0]:List Int).getD i 0) l 4=([4,1,2,3]:List Int).getD l 0:=by decide
  obtain⟨xs,h3,h4⟩:=e2.out
  exact OI.ir ⟨xs,h3,fun j hj hn=>(h4 j hj hn).trans (key j hn)⟩ (by decide)
 have C2:Hid (∀w1 b1 b2,Gr w w1->IR w1 (some ⟨b1,0,none⟩) 2 (fun i=>([1,2]:List Int).getD i 0)->IR w1 (some ⟨b2,0,none⟩) 2 (fun i=>([3,4]:List Int).getD i 0)->Calls Tryz.prog 17 #[.slice (some ⟨b1,0,none⟩) 2 2,.slice (some ⟨b2,0,none⟩) 2 2] w1 fun e w'=>∃q,w1.heap.size<=q/\e = .returned (.tuple #[.slice (some ⟨q,0,none⟩) 2 2,.int .i64 0])/\Hid (IR w' (some ⟨q,0,none⟩) 2 (fun i=>([11,10]:List Int).getD i 0))/\Hid (Gr w1 w')):=fun w1 b1 b2 gg i1 i2=>by
  have key:∀l,l<2->cvI 2 (fun i=>([1,2]:List Int).getD i 0) (fun i=>([3,4]:List Int).getD i 0) l 2=([11,10]:List Int).getD l 0:=by decide
  have key2:∀l,l<2->In64 (cvI 2 (fun i=>([1,2]:List Int).getD i 0) (fun i=>([3,4]:List Int).getD i 0) l 2):=by decide
  refine(plainlyR 1 2 2 2 _ _ _ _ w1 (by omega) rfl (tab_gr hT gg) i1 i2).mono ?_
  rintro e w' ⟨⟨q,e1,rfl,e2,_⟩|⟨_,e2⟩,e3⟩
  ·refine⟨q,e1,rfl,?_,e3⟩
   obtain⟨xs,h3,h4⟩:=e2.out
   exact OI.ir ⟨xs,h3,fun j hj hn=>(h4 j hj hn).trans (key j hn)⟩ (by decide)
  ·obtain⟨l,hl,hn⟩:=e2.out
   exact absurd (key2 l hl) hn
 have C3:Hid (∀w1 b1 b2,Gr w w1->IR w1 (some ⟨b1,0,none⟩) 1 (fun i=>([1]:List Int).getD i 0)->IR w1 (some ⟨b2,0,none⟩) 1 (fun i=>([1]:List Int).getD i 0)->Calls Tryz.prog 9 #[.slice (some ⟨b1,0,none⟩) 1 1,.slice (some ⟨b2,0,none⟩) 1 1] w1 fun e w'=>e = .returned (.tuple #[.float .f64 4386506037058863105,.int .i64 0])/\Hid (Gr w1 w')):=fun w1 b1 b2 gg i1 i2=>boundV 0 1 1 1 4386506037058863105 _ _ _ _ w1 (by omega) rfl (tab_gr hT gg) i1 i2 (by decide) (by decide) rb_b
 have C4:Hid (∀w1 b1 b2,Gr w w1->IR w1 (some ⟨b1,0,none⟩) 1 (fun i=>([67108864]:List Int).getD i 0)->IR w1 (some ⟨b2,0,none⟩) 1 (fun i=>([67108864]:List Int).getD i 0)->Calls Tryz.prog 14 #[.slice (some ⟨b1,0,none⟩) 1 1,.slice (some ⟨b2,0,none⟩) 1 1] w1 fun e w'=>e = .returned (.tuple #[.slice none 0 0,.int .i64 8])/\Hid (Gr w1 w')):=fun w1 b1 b2 gg i1 i2=>cyclicB 0 1 1 1 4620693217682128897 _ _ _ _ w1 (by omega) rfl (tab_gr hT gg) i1 i2 (by decide) (by decide) rb_c (by omega)
 have x1:(FloatKind.f64.format.order 4386506037058863105 4386506037058863104==some .gt)=true:=by decide +kernel
 have x2:(FloatKind.f64.format.order 4386506037058863105 4386787512035573760==some .lt)=true:=by decide +kernel
 clear hT hF
 go_enter Tryz.func7,Tryz.ntmps7
 go_wp2_with (first
  | (go_at_call 14;obtain⟨j1,j2⟩:=two_ir w [1,2,3,4] [0,1,0,0] (in64_small (by decide)) (in64_small (by decide)) 2 #[.int .i64 1,.int .i64 2,.int .i64 3,.int .i64 4] #[.int .i64 0,.int .i64 1,.int .i64 0,.int .i64 0] rfl rfl 4 rfl rfl;(with_reducible refine(C1.out _ _ _ (gr2 _ _) j1 j2).mono ?_);rintro r w1 ⟨q1,e1,rfl,I1,G1⟩;have GA:Hid (Gr w w1):=(gr2 _ _).trans G1.out;clear j1 j2 G1)
  | (go_at_call 17;obtain⟨j1,j2⟩:=two_ir w1 [1,2] [3,4] (in64_small (by decide)) (in64_small (by decide)) 2 #[.int .i64 1,.int .i64 2] #[.int .i64 3,.int .i64 4] rfl rfl 2 rfl rfl;(with_reducible refine(C2.out _ _ _ (GA.out.trans (gr2 _ _)) j1 j2).mono ?_);rintro r w2 ⟨q2,e2,rfl,I2,G2⟩;have G12:Hid (Gr w1 w2):=(gr2 _ _).trans G2.out;have GB:Hid (Gr w w2):=GA.out.trans G12.out;clear j1 j2 G2)
  | (go_at_call 9;obtain⟨j1,j2⟩:=two_ir w2 [1] [1] (in64_small (by decide)) (in64_small (by decide)) 2 #[.int .i64 1] #[.int .i64 1] rfl rfl 1 rfl rfl;(with_reducible refine(C3.out _ _ _ (GB.out.trans (gr2 _ _)) j1 j2).mono ?_);rintro r w3 ⟨rfl,G3⟩;have G23:Hid (Gr w2 w3):=(gr2 _ _).trans G3.out;have GC:Hid (Gr w w3):=GB.out.trans G23.out;clear j1 j2 G3)
  | (go_at_call 14;obtain⟨j1,j2⟩:=two_ir w3 [67108864] [67108864] (in64_small (by decide)) (in64_small (by decide)) 2 #[.int .i64 67108864] #[.int .i64 67108864] rfl rfl 1 rfl rfl;(with_reducible refine(C4.out _ _ _ (GC.out.trans (gr2 _ _)) j1 j2).mono ?_);rintro r w4 ⟨rfl,G4⟩;have G34:Hid (Gr w3 w4):=(gr2 _ _).trans G4.out;have GD:Hid (Gr w w4):=GC.out.trans G34.out;clear j1 j2 G4)
  | (go_at_call 16;(with_reducible refine(sameLongsR 4 4 4 _ _ _ _ _ (I1.out.gr ((G12.out.trans (G23.out.trans G34.out)).alloc _)) (lit_ir w4 [4,1,2,3] (in64_small (by decide)) 2 #[.int .i64 4,.int .i64 1,.int .i64 2,.int .i64 3] rfl 4 rfl (fun i=>([4,1,2,3]:List Int).getD i 0) (fun _ _=>rfl)) (by omega) (fun _ _=>rfl)).mono ?_);rintro r w5 ⟨rfl,G5⟩;have G45:Hid (Gr w4 w5):=((Gr.refl w4).alloc _).trans G5;clear G5)
  | (go_at_call 16;(with_reducible refine(sameLongsR 2 2 2 _ _ _ _ _ (I2.out.gr ((G23.out.trans (G34.out.trans G45.out)).alloc _)) (lit_ir w5 [11,10] (in64_small (by decide)) 2 #[.int .i64 11,.int .i64 10] rfl 2 rfl (fun i=>([11,10]:List Int).getD i 0) (fun _ _=>rfl)) (by omega) (fun _ _=>rfl)).mono ?_);rintro r w6 ⟨rfl,G6⟩;have G56:Hid (Gr w5 w6):=((Gr.refl w5).alloc _).trans G6;clear G6))
 go_ret
 exact⟨rfl,GD.out.trans (G45.out.trans G56.out)⟩
end Go.Proofs.YtanpdbadfddlcaaGreatDoor.Fl
namespace Go.Proofs.YtanpdbadfddlcaaGreatDoor.Fl
open Go.RowKit
open Ieee
open Go.Proofs.YtanpdbadfddlcaaGreatDoor.Jx (cvI cv_le)
set_option linter.unusedVariables false
set_option linter.unusedSimpArgs false
def ZI (w:World) (g n:Nat):Prop:=w.ownsRow g 2 1 (.slice (some ⟨g,0,none⟩) n n) n (iz (List.replicate n 0))
theorem ZI.gr {w w':World} {g n:Nat} (h:ZI w g n) (k:Gr w w'):ZI w' g n:=k.owns h
theorem ZI.lt {w:World} {g n:Nat} (h:ZI w g n):g<w.heap.size:=(World.ownsRow.lt h g rfl).2
def ArgI (w:World) (ad:Option Addr) (len cap:Nat) (f:Nat->Int):Prop:=len<=cap/\cap<=maxLen/\(0<len->∃a,ad=some a/\a.block<w.heap.size/\∀i,i<len->w.cell? (a.add i)=some (.int .i64 (f i))/\In64 (f i))
theorem ArgI.gr {w w':World} {ad:Option Addr} {len cap:Nat} {f:Nat->Int} (h:ArgI w ad len cap f) (g:Gr w w'):ArgI w' ad len cap f:=by
 refine⟨h.1,h.2.1,fun hp=>?_⟩
 obtain⟨a,e,hb,hc⟩:=h.2.2 hp
 exact⟨a,e,Nat.lt_of_lt_of_le hb g.size,fun i hi=>⟨by rw[g.cell (p:=a.add i) (by unfold Addr.add;split <;> exact hb)];exact(hc i hi).1,(hc i hi).2⟩⟩
def cf (len:Nat) (f:Nat->Int) (i:Nat):Int:=if i<len then f i else 0
theorem iz_one (xs:List Int):∀u∈iz xs,u.oneCell'=true:=by
 intro u hu
 simp only[iz,List.mem_map] at hu
 obtain⟨p,_,rfl⟩:=hu
 rfl
theorem OI.gx {w w':World} {g b n i:Nat} {f:Nat->Int} (h:OI w g n i f) (k:Gx b w w') (hb:g≠b):OI w' g n i f:=by
 obtain⟨xs,h3,h4⟩:=h
 refine⟨xs,?_,h4⟩
 have hlt:=(World.ownsRow.lt h3 g rfl).2
 rcases h3 with ⟨h5,h6⟩
 refine⟨h5,?_⟩
 rcases h6 with h6|⟨g',cap,cur,e1,hb',hgg,r1,r2,r3,r4⟩
 ·exact Or.inl h6
 ·have e3:g=g'/\n=cap:=by simpa using e1
  have e2:g=g':=e3.1
  subst e2
  exact Or.inr ⟨g,cap,cur,e1,hb',by rw[k.block g hlt hb];exact hgg,r1,r2,r3,r4⟩
theorem ZI.gx {w w':World} {g b n:Nat} (h:ZI w g n) (k:Gx b w w') (hb:g≠b):ZI w' g n:=by
 have hlt:=h.lt
 have h':w.ownsRow g 2 1 (.slice (some ⟨g,0,none⟩) n n) n (iz (List.replicate n 0)):=h
 rcases h' with ⟨h5,h6⟩
 refine⟨h5,?_⟩
 rcases h6 with h6|⟨g',cap,cur,e1,hb',hgg,r1,r2,r3,r4⟩
 ·exact Or.inl h6
 ·have e3:g=g'/\n=cap:=by simpa using e1
  have e2:g=g':=e3.1
  subst e2
  exact Or.inr ⟨g,cap,cur,e1,hb',by rw[k.block g hlt hb];exact hgg,r1,r2,r3,r4⟩
end Go.Proofs.YtanpdbadfddlcaaGreatDoor.Fl
namespace Go.Proofs.YtanpdbadfddlcaaGreatDoor.Fl
open Go.RowKit
open Ieee
set_option linter.unusedVariables false
set_option linter.unusedSimpArgs false
def sI (s:Bool) (x:Nat):Int:=if s then -(x:Int) else (x:Int)
def Wn (w:World) (s:Bool) (ad:Option Addr) (n cap:Nat) (Z:Int):Prop:=∃x,Lim w ad n cap 18446744073709551616 x/\sI s x=Z
theorem Wn.gr {w w':World} {s:Bool} {ad:Option Addr} {n cap:Nat} {Z:Int} (h:Wn w s ad n cap Z) (g:Gr w w'):Wn w' s ad n cap Z:=by
 obtain⟨x,lx,vx⟩:=h
 exact⟨x,lx.gr g,vx⟩
theorem sI_abs {s:Bool} {x:Nat} {Z:Int} (h:sI s x=Z):x=Z.natAbs:=by
 unfold sI at h;split at h <;> omega
theorem sv_sI (s:Bool) (x:Nat):sv 0 s x 0=sI s x:=by
 unfold sv sI
 simp
theorem sI_mul (s t:Bool) (x y:Nat):sI (s != t) (x*y)=sI s x*sI t y:=by
 cases s <;> cases t <;> simp[sI,Int.mul_neg,Int.neg_mul]
def Big:Nat:=2 ^ 250
theorem bl_big {x:Nat} (h:x<Big):bl x<=250:=bl_le_of_lt h
set_option maxHeartbeats 1600000 in
theorem whole24n (v:Nat) (n:Int) (w:World) (hn:n<0) (hv:Hid (n = -(v:Int))) (h2:v<=9223372036854775808) :
  Calls Tryz.prog 56 #[.int .i64 n] w fun r w'=>∃ad m cap,r = .returned (.agg #[.bool true,.slice ad m cap,.int .i64 0])/\Lim w' ad m cap 18446744073709551616 v/\Gr w w':=by
 have HN:Hid (∀w1,Calls Tryz.prog 90 #[.int .u64 (v:Int)] w1 fun e w'=>∃ad' n' cap',e = .returned (.slice ad' n' cap')/\Lim w' ad' n' cap' 18446744073709551616 v/\Gr w1 w'):=fun w1=>of62 v w1 (by omega)
 have hw:Hid (IntKind.u64.wrap (-IntKind.u64.wrap n)=(v:Int)):=by
  have:=hv.out
  show _=_
  simp only[IntKind.wrap_u64];omega
 clear h2
 go_enter Tryz.func56,Tryz.ntmps56
 go_wp2_with (go_at_call 90;rw[hw.out];(with_reducible refine(HN.out _).mono ?_);rintro r w1 ⟨a3,m3,k3,rfl,hl3,g3⟩;have hb1:=(g3.block w.heap.size (by simp)).trans (heap_alloc_new w _);have hc1:=num_block hb1)
 refine bodyPost_ret (v:=.agg #[.bool true,.slice a3 m3 k3,.int .i64 0]) (by simp[results,Tryz.results56,go_sem,hc1]) rfl ⟨a3,m3,k3,rfl,hl3.set3 (hl3.apart hb1) _ _ _,set3_gr (((Gr.refl w).alloc _).trans g3) (Nat.le_refl _) _ _ _⟩
set_option maxHeartbeats 1600000 in
theorem whole24p (v:Nat) (n:Int) (w:World) (hn:¬n<0) (hv:Hid (n=(v:Int))) (h2:v<=9223372036854775808) :
  Calls Tryz.prog 56 #[.int .i64 n] w fun r w'=>∃ad m cap,r = .returned (.agg #[.bool false,.slice ad m cap,.int .i64 0])/\Lim w' ad m cap 18446744073709551616 v/\Gr w w':=by
 have HN:Hid (∀w1,Calls Tryz.prog 90 #[.int .u64 (v:Int)] w1 fun e w'=>∃ad' n' cap',e = .returned (.slice ad' n' cap')/\Lim w' ad' n' cap' 18446744073709551616 v/\Gr w1 w'):=fun w1=>of62 v w1 (by omega)
 have hw:Hid (IntKind.u64.wrap n=(v:Int)):=by
  have:=hv.out
  show _=_
  simp only[IntKind.wrap_u64];omega
 clear h2
 go_enter Tryz.func56,Tryz.ntmps56
 go_wp2_with (go_at_call 90;rw[hw.out];(with_reducible refine(HN.out _).mono ?_);rintro r w1 ⟨a3,m3,k3,rfl,hl3,g3⟩;have hb1:=(g3.block w.heap.size (by simp)).trans (heap_alloc_new w _);have hc1:=num_block hb1)
 refine bodyPost_ret (v:=.agg #[.bool false,.slice a3 m3 k3,.int .i64 0]) (by simp[results,Tryz.results56,go_sem,hc1]) rfl ⟨a3,m3,k3,rfl,hl3.set3 (hl3.apart hb1) _ _ _,set3_gr (((Gr.refl w).alloc _).trans g3) (Nat.le_refl _) _ _ _⟩
def WnA (w:World) (r:Ending) (Z:Int):Prop:=∃s ad n cap,r = .returned (.agg #[.bool s,.slice ad n cap,.int .i64 0])/\Wn w s ad n cap Z
theorem wnWhole (z:Int) (w:World) (hz:In64 z):Calls Tryz.prog 56 #[.int .i64 z] w fun r w'=>WnA w' r z/\Gr w w':=by
 unfold In64 at hz
 by_cases h:z<0
 ·refine(whole24n z.natAbs z w h (by show z=_;omega) (by omega)).mono ?_
  rintro r w' ⟨ad,n,cap,rfl,l,g⟩
  exact⟨⟨true,ad,n,cap,rfl,z.natAbs,l,by show -((z.natAbs:Nat):Int)=z;omega⟩,g⟩
 ·refine(whole24p z.natAbs z w h (by show z=_;omega) (by omega)).mono ?_
  rintro r w' ⟨ad,n,cap,rfl,l,g⟩
  exact⟨⟨false,ad,n,cap,rfl,z.natAbs,l,by show((z.natAbs:Nat):Int)=z;omega⟩,g⟩
theorem wnPlus (s t:Bool) (ad1 ad2:Option Addr) (n1 n2 c1 c2:Nat) (Z Y:Int) (w:World) (hx:Wn w s ad1 n1 c1 Z) (hy:Wn w t ad2 n2 c2 Y) (bZ:Z.natAbs<Big) (bY:Y.natAbs<Big) :
  Calls Tryz.prog 58 #[.agg #[.bool s,.slice ad1 n1 c1,.int .i64 0],.agg #[.bool t,.slice ad2 n2 c2,.int .i64 0]] w fun r w'=>WnA w' r (Z+Y)/\Gr w w':=by
 obtain⟨x,lx,vx⟩:=hx
 obtain⟨y,ly,vy⟩:=hy
 have bx:=bl_big (x:=x) (by rw[sI_abs vx];exact bZ)
 have by':=bl_big (x:=y) (by rw[sI_abs vy];exact bY)
 obtain⟨neg,m,g,h1,h2,h3,h4⟩:=plus40 s t ad1 ad2 n1 n2 c1 c2 x y 0 0 w lx ly (by omega) (by omega) (by omega) (by omega) (by omega) (by omega)
 obtain rfl:g=0:=by rcases h2 with h|h <;> exact h
 have h5:=(h1 0 (by omega) (by omega)).2
 rw[sv_sI,sv_sI,sv_sI,vx,vy] at h5
 refine(h4 w (Gr.refl w)).mono ?_
 rintro r w' ⟨ad,n,cap,rfl,hl,hg⟩
 exact⟨⟨_,_,_,_,rfl,m,hl,h5⟩,hg⟩
theorem wnTimes (s t:Bool) (ad1 ad2:Option Addr) (n1 n2 c1 c2:Nat) (Z Y:Int) (w:World) (hx:Wn w s ad1 n1 c1 Z) (hy:Wn w t ad2 n2 c2 Y) (bZ:Z.natAbs<Big) (bY:Y.natAbs<Big) :
  Calls Tryz.prog 59 #[.agg #[.bool s,.slice ad1 n1 c1,.int .i64 0],.agg #[.bool t,.slice ad2 n2 c2,.int .i64 0]] w fun r w'=>WnA w' r (Z*Y)/\Gr w w':=by
 obtain⟨x,lx,vx⟩:=hx
 obtain⟨y,ly,vy⟩:=hy
 have bx:=bl_big (x:=x) (by rw[sI_abs vx];exact bZ)
 have by':=bl_big (x:=y) (by rw[sI_abs vy];exact bY)
 refine(times43 s t ad1 ad2 n1 n2 c1 c2 x y 0 0 w lx ly (by omega) (by omega) (by omega) (by omega) (by omega) (by omega)).mono ?_
 rintro r w' ⟨ad,n,cap,rfl,hl,hg⟩
 exact⟨⟨_,_,_,_,rfl,x*y,hl,by rw[sI_mul,vx,vy]⟩,hg⟩
theorem wnCmp (s t:Bool) (ad1 ad2:Option Addr) (n1 n2 c1 c2:Nat) (Z Y:Int) (w:World) (hx:Wn w s ad1 n1 c1 Z) (hy:Wn w t ad2 n2 c2 Y) (bZ:Z.natAbs<Big) (bY:Y.natAbs<Big) :
  Calls Tryz.prog 55 #[.agg #[.bool s,.slice ad1 n1 c1,.int .i64 0],.agg #[.bool t,.slice ad2 n2 c2,.int .i64 0]] w fun r w'=>r = .returned (.int .i64 (sg (Z-Y)))/\Gr w w':=by
 obtain⟨x,lx,vx⟩:=hx
 obtain⟨y,ly,vy⟩:=hy
 have bx:=bl_big (x:=x) (by rw[sI_abs vx];exact bZ)
 have by':=bl_big (x:=y) (by rw[sI_abs vy];exact bY)
 have:=compare45 s t ad1 ad2 n1 n2 c1 c2 x y 0 0 w lx ly (by omega) (by omega) (by omega) (by omega) (by omega) (by omega) 0 (by omega) (by omega)
 rw[sv_sI,sv_sI,vx,vy] at this
 exact this
end Go.Proofs.YtanpdbadfddlcaaGreatDoor.Fl
