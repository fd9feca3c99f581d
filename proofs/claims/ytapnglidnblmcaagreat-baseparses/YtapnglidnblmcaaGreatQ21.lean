import Derived.Test.YtapnglidnblmcaaGreatQ06
import Derived.Test.YtapnglidnblmcaaGreatQ20
namespace Go.Proofs.YtapnglidnblmcaaGreat
open Go.RowKit
set_option linter.unusedVariables false
set_option linter.unusedSimpArgs false
structure Ld (w:World) (P:Nat) (la:Option Addr) (K lc:Nat):Prop where
 le:K<=lc
 max:lc<=9223372036854775807
 nil:la=none->K=0/\lc=0
 elem:∀k,k<K->∃g a q m d,la=some ⟨g,0,none⟩/\w.cell? ⟨g,k*2,none⟩=some (.bool a)/\w.cell? ⟨g,k*2+1,none⟩=some (.slice q m d)/\Wh w a q m d ((P ^ 2 ^ k:Nat):Int)
theorem Ld.gr {w w':World} {P K lc:Nat} {la:Option Addr} (h:Ld w P la K lc) (g:Gr w w'):Ld w' P la K lc:=by
 refine⟨h.le,h.max,h.nil,fun k hk=>?_⟩
 obtain⟨b,a,q,m,d,e,h1,h2,h3⟩:=h.elem k hk
 exact⟨b,a,q,m,d,e,keepG g h1,keepG g h2,h3.gr g⟩
theorem Fresh.gtB {B g:Nat} {w w':World} {ad:Option Addr} {n cap:Nat} (h:Fresh B w ad n cap) (k:Gt g w w') (hne:g<B):Fresh B w' ad n cap:=by
 obtain⟨xs,ho⟩:=h
 refine⟨xs,ho.1,?_⟩
 rcases ho.2 with hn|⟨g',cap',cur,e1,hb,hgg,rest⟩
 ·exact .inl hn
 ·refine .inr ⟨g',cap',cur,e1,hb,?_,rest⟩
  rw[k.block g' (Array.getElem?_eq_some_iff.1 hgg).1 (by omega)]
  exact hgg
theorem Fresh.low_ad {B:Nat} {w:World} {ad:Option Addr} {n cap:Nat} (h:Fresh B w ad n cap):∀b,ad=some b->B<=b.block:=by
 intro b e
 obtain⟨xs,ho⟩:=h
 rcases ho.2 with ⟨hn,_⟩|⟨g',cap',cur,e1,hb,_⟩
 ·rw[e] at hn;cases hn
 ·rw[e] at e1
  simp only[Value.slice.injEq,Option.some.injEq] at e1
  rw[e1.1]
  exact hb
theorem Wh.gtB {B g:Nat} {w w':World} {s:Bool} {ad:Option Addr} {n cap:Nat} {X:Int} (h:Wh w s ad n cap X) (f:Fresh B w ad n cap) (k:Gt g w w') (hne:g<B):Wh w' s ad n cap X:=by
 obtain⟨xs,h1,h2⟩:=h.lim
 exact⟨⟨xs,h1.gt k (fun _ b e=>by have:=f.low_ad b e;omega),h2⟩,h.le,h.zero,h.val⟩
theorem Gt.cellK {g:Nat} {w w':World} (h:Gt g w w') {b o:Nat} {v:Value} (hc:w.cell? ⟨b,o,none⟩=some v) (hne:b≠g):w'.cell? ⟨b,o,none⟩=some v:=by
 rw[World.cell?_of_block (w:=w) (a:=⟨b,o,none⟩) (h.block b (lt_of_cell' hc) hne)]
 exact hc
def RWr3 (t0 t1 t2 t5 t7 t8 t9 t10 t11 t12 t13 t14 t15 t16 t17 t18 t19 t20 t21 t22 t23 t24 t25 t26 t27 t28 t29 t30 t31 t32 t33 t34 t35 t36 t37 t38 t39 t40 t41 t42 t43 t44 t45 t46 t47 t48 t49 t50 t51 t52 t53 t54:Value) (b4 b6 lg K lc n c pm pd k:Nat) (kI:Int) (s pa:Bool) (ad pq:Option Addr) (Z1 Z2:Int) (wq:World):Exit->Act->World->Prop
 | .normal,a,w=>∃u24 u25 u26 u27 u28 u29 u30 u31 u32 u33 u34 u35 p8 p9 sh ah nh ch sl al nl cl,a = {tmps:=#[t0,t1,t2,.int .i64 kI,.pointer (some ⟨b4,0,none⟩),t5,.pointer (some ⟨b6,0,none⟩),t7,.pointer (some ⟨p8,0,none⟩),.pointer (some ⟨p9,0,none⟩),.int .i64 0,t11,t12,t13,t14,t15,t16,t17,t18,t19,t20,t21,t22,t23,u24,u25,u26,u27,u28,u29,u30,u31,u32,u33,u34,u35,t36,t37,t38,t39,t40,t41,t42,t43,t44,t45,t46,t47,t48,t49,t50,t51,t52,t53,t54],defers:=[]}/\w.heap[p8]? = some (.cells #[.bool sh,.slice ah nh ch] 24)/\w.heap[p9]? = some (.cells #[.bool sl,.slice al nl cl] 24)/\Wh w sh ah nh ch Z1/\Wh w sl al nl cl Z2/\Fresh wq.heap.size w ah nh ch/\Fresh wq.heap.size w al nl cl/\wq.heap.size<=p8/\wq.heap.size<=p9/\Gr wq w
 | _,_,_=>False
set_option maxRecDepth 100000 in
set_option maxHeartbeats 20000000 in
theorem regWr3 (t0 t1 t2 t5 t7 t8 t9 t10 t11 t12 t13 t14 t15 t16 t17 t18 t19 t20 t21 t22 t23 t24 t25 t26 t27 t28 t29 t30 t31 t32 t33 t34 t35 t36 t37 t38 t39 t40 t41 t42 t43 t44 t45 t46 t47 t48 t49 t50 t51 t52 t53 t54:Value) (b4 b6 lg K lc n c pm pd k:Nat) (kI:Int) (s pa:Bool) (ad pq:Option Addr) (Z1 Z2:Int) (wq:World)
  (X1:Hid (∀w1,Gr wq w1->Calls Tryz.prog 77 #[.agg #[.bool s,.slice ad n c],.agg #[.bool pa,.slice pq pm pd]] w1 fun r w'=>∃a b c d a' b' c' d',r = .returned (.tuple #[.agg #[.bool a,.slice b c d],.agg #[.bool a',.slice b' c' d'],.int .i64 0])/\Hid (Wh w' a b c d Z1)/\Hid (Wh w' a' b' c' d' Z2)/\Hid (Fresh wq.heap.size w' b c d)/\Hid (Fresh wq.heap.size w' b' c' d')/\Gr w1 w'))
  (hk:IntKind.i64.wrap (kI-1)=(k:Int)) (hkK:(k:Int)<(K:Int)) (l4:b4<wq.heap.size) (l6:b6<wq.heap.size) (lg2:lg<wq.heap.size) (G0:Gr wq wq) (hcs:(wq.cell? ⟨b4,2,none⟩=some (.slice (some ⟨lg,0,none⟩) K lc)/\wq.cell? ⟨b6,0,none⟩=some (.bool s)/\wq.cell? ⟨b6,1,none⟩=some (.slice ad n c)/\wq.cell? ⟨lg,k*2,none⟩=some (.bool pa)/\wq.cell? ⟨lg,k*2+1,none⟩=some (.slice pq pm pd))) :
  Code.wp Tryz.prog (Code.region 3 #[{dst:=some 25,op:=Op.load 24 (Operand.tmp 6),type:=24,pos:= "ladder.go:81",after:=#[],guard:=none},{dst:=some 26,op:=Op.fieldAddr 83 (Operand.tmp 4) 2,type:=0,pos:= "ladder.go:81",after:=#[],guard:=none},{dst:=some 27,op:=Op.load 81 (Operand.tmp 26),type:=81,pos:= "ladder.go:81",after:=#[{on:=1,ground:=Ground.data}],guard:=none},{dst:=some 28,op:=Op.move (Operand.tmp 3),type:=3,pos:= "ladder.go:81",after:=#[],guard:=none},{dst:=some 29,op:=Op.binOp BinOp.sub 3 (Operand.tmp 28) (Operand.const (Value.int IntKind.i64 1)) 3,type:=3,pos:= "ladder.go:81",after:=#[{on:=3,ground:=Ground.data}],guard:=none},{dst:=some 30,op:=Op.indexAddr 81 (Operand.tmp 27) (Operand.tmp 29),type:=0,pos:= "ladder.go:81",after:=#[{on:=2,ground:=Ground.data},{on:=4,ground:=Ground.data}],guard:=none},{dst:=some 31,op:=Op.load 24 (Operand.tmp 30),type:=24,pos:= "ladder.go:81",after:=#[{on:=5,ground:=Ground.data}],guard:=none},{dst:=some 32,op:=Op.call {callee:=Callee.value (Operand.func 77),args:=#[Operand.tmp 25,Operand.tmp 31],argTypes:=#[24,24]},type:=99,pos:= "ladder.go:81",after:=#[{on:=0,ground:=Ground.data},{on:=6,ground:=Ground.data}],guard:=none},{dst:=some 24,op:=Op.move (Operand.tmp 32),type:=99,pos:= "ladder.go:81",after:=#[{on:=7,ground:=Ground.data}],guard:=none},{dst:=some 33,op:=Op.extract (Operand.tmp 24) 0,type:=24,pos:= "ladder.go:81",after:=#[{on:=8,ground:=Ground.data}],guard:=none},{dst:=some 34,op:=Op.extract (Operand.tmp 24) 1,type:=24,pos:= "ladder.go:81",after:=#[{on:=8,ground:=Ground.data},{on:=14,ground:=Ground.gcOnly Departure.lateStores}],guard:=none},{dst:=some 35,op:=Op.extract (Operand.tmp 24) 2,type:=27,pos:= "ladder.go:81",after:=#[{on:=8,ground:=Ground.data},{on:=15,ground:=Ground.gcOnly Departure.lateStores}],guard:=none},{dst:=some 8,op:=Op.alloc 24,type:=0,pos:= "ladder.go:81",after:=#[],guard:=none},{dst:=some 9,op:=Op.alloc 24,type:=0,pos:= "ladder.go:81",after:=#[],guard:=none},{dst:=none,op:=Op.store 24 (Operand.tmp 8) (Operand.tmp 33),type:=0,pos:= "ladder.go:81",after:=#[{on:=12,ground:=Ground.data},{on:=9,ground:=Ground.data},{on:=7,ground:=Ground.chain},{on:=0,ground:=Ground.phase},{on:=1,ground:=Ground.phase},{on:=2,ground:=Ground.phase},{on:=3,ground:=Ground.phase},{on:=4,ground:=Ground.phase},{on:=5,ground:=Ground.phase},{on:=6,ground:=Ground.phase},{on:=7,ground:=Ground.phase},{on:=8,ground:=Ground.phase},{on:=9,ground:=Ground.phase},{on:=10,ground:=Ground.textOnly Departure.lateStores},{on:=11,ground:=Ground.textOnly Departure.lateStores},{on:=12,ground:=Ground.phase},{on:=13,ground:=Ground.phase}],guard:=none},{dst:=none,op:=Op.store 24 (Operand.tmp 9) (Operand.tmp 34),type:=0,pos:= "ladder.go:81",after:=#[{on:=13,ground:=Ground.data},{on:=10,ground:=Ground.data},{on:=14,ground:=Ground.chain},{on:=0,ground:=Ground.phase},{on:=1,ground:=Ground.phase},{on:=2,ground:=Ground.phase},{on:=3,ground:=Ground.phase},{on:=4,ground:=Ground.phase},{on:=5,ground:=Ground.phase},{on:=6,ground:=Ground.phase},{on:=7,ground:=Ground.phase},{on:=8,ground:=Ground.phase},{on:=9,ground:=Ground.phase},{on:=10,ground:=Ground.phase},{on:=11,ground:=Ground.textOnly Departure.lateStores},{on:=12,ground:=Ground.phase},{on:=13,ground:=Ground.phase},{on:=14,ground:=Ground.phase}],guard:=none},{dst:=some 10,op:=Op.assign (Operand.tmp 35),type:=27,pos:= "ladder.go:81",after:=#[{on:=11,ground:=Ground.data},{on:=15,ground:=Ground.chain},{on:=0,ground:=Ground.phase},{on:=1,ground:=Ground.phase},{on:=2,ground:=Ground.phase},{on:=3,ground:=Ground.phase},{on:=4,ground:=Ground.phase},{on:=5,ground:=Ground.phase},{on:=6,ground:=Ground.phase},{on:=7,ground:=Ground.phase},{on:=8,ground:=Ground.phase},{on:=9,ground:=Ground.phase},{on:=10,ground:=Ground.phase},{on:=11,ground:=Ground.phase},{on:=12,ground:=Ground.phase},{on:=13,ground:=Ground.phase},{on:=14,ground:=Ground.phase},{on:=15,ground:=Ground.phase}],guard:=none}] true) (RWr3 t0 t1 t2 t5 t7 t8 t9 t10 t11 t12 t13 t14 t15 t16 t17 t18 t19 t20 t21 t22 t23 t24 t25 t26 t27 t28 t29 t30 t31 t32 t33 t34 t35 t36 t37 t38 t39 t40 t41 t42 t43 t44 t45 t46 t47 t48 t49 t50 t51 t52 t53 t54 b4 b6 lg K lc n c pm pd k kI s pa ad pq Z1 Z2 wq) {tmps:=#[t0,t1,t2,.int .i64 kI,.pointer (some ⟨b4,0,none⟩),t5,.pointer (some ⟨b6,0,none⟩),t7,t8,t9,t10,t11,t12,t13,t14,t15,t16,t17,t18,t19,t20,t21,t22,t23,t24,t25,t26,t27,t28,t29,t30,t31,t32,t33,t34,t35,t36,t37,t38,t39,t40,t41,t42,t43,t44,t45,t46,t47,t48,t49,t50,t51,t52,t53,t54],defers:=[]} wq:=by
 have hS0:(wq.drew.cell? ⟨b4,2,none⟩=some (.slice (some ⟨lg,0,none⟩) K lc)/\wq.drew.cell? ⟨b6,0,none⟩=some (.bool s)/\wq.drew.cell? ⟨b6,1,none⟩=some (.slice ad n c)/\wq.drew.cell? ⟨lg,k*2,none⟩=some (.bool pa)/\wq.drew.cell? ⟨lg,k*2+1,none⟩=some (.slice pq pm pd))/\Gr wq wq.drew:=⟨hcs,G0.drew⟩
 clear hcs G0
 refine wp_region_held_drew (S:=fun w'=>(w'.cell? ⟨b4,2,none⟩=some (.slice (some ⟨lg,0,none⟩) K lc)/\w'.cell? ⟨b6,0,none⟩=some (.bool s)/\w'.cell? ⟨b6,1,none⟩=some (.slice ad n c)/\w'.cell? ⟨lg,k*2,none⟩=some (.bool pa)/\w'.cell? ⟨lg,k*2+1,none⟩=some (.slice pq pm pd))/\Gr wq w') (by kernel_rfl) hS0 (fun hHeld=>?_)
 clear hS0
 generalize wq.drew=wd at *
 refine wpAnyH_take (i:=0) (oi:=({dst:=some 25,op:=Op.load 24 (Operand.tmp 6),type:=24,pos:= "ladder.go:81",after:=#[],guard:=none}:Oper)) (v:=?_) rfl (by kernel_rfl) (by kernel_rfl) (by kernel_rfl) (fun _ _ _ h=>h) (Or.inl ⟨by rfl,?_⟩) (by with_reducible assumption) ?_
 rotate_left
 ·intro w hSw
  (try dsimp only at hSw)
  first|(go_simp;done)|(go_simp;with_reducible rfl)
 (try simp only[Act.put,List.setIfInBounds_toArray,List.set_cons_zero,List.set_cons_succ])
 refine wpAnyH_take (i:=1) (oi:=({dst:=some 26,op:=Op.fieldAddr 83 (Operand.tmp 4) 2,type:=0,pos:= "ladder.go:81",after:=#[],guard:=none}:Oper)) (v:=?_) rfl (by kernel_rfl) (by kernel_rfl) (by kernel_rfl) (fun _ _ _ h=>h) (Or.inl ⟨by rfl,?_⟩) (by with_reducible assumption) ?_
 rotate_left
 ·intro w hSw
  (try dsimp only at hSw)
  first|(go_simp;done)|(go_simp;with_reducible rfl)
 (try simp only[Act.put,List.setIfInBounds_toArray,List.set_cons_zero,List.set_cons_succ])
 refine wpAnyH_take (i:=2) (oi:=({dst:=some 27,op:=Op.load 81 (Operand.tmp 26),type:=81,pos:= "ladder.go:81",after:=#[{on:=1,ground:=Ground.data}],guard:=none}:Oper)) (v:=?_) rfl (by kernel_rfl) (by kernel_rfl) (by kernel_rfl) (fun _ _ _ h=>h) (Or.inl ⟨by rfl,?_⟩) (by with_reducible assumption) ?_
 rotate_left
 ·intro w hSw
  (try dsimp only at hSw)
  first|(go_simp;done)|(go_simp;with_reducible rfl)
 (try simp only[Act.put,List.setIfInBounds_toArray,List.set_cons_zero,List.set_cons_succ])
 refine wpAnyH_take (i:=3) (oi:=({dst:=some 28,op:=Op.move (Operand.tmp 3),type:=3,pos:= "ladder.go:81",after:=#[],guard:=none}:Oper)) (v:=?_) rfl (by kernel_rfl) (by kernel_rfl) (by kernel_rfl) (fun _ _ _ h=>h) (Or.inl ⟨by rfl,?_⟩) (by with_reducible assumption) ?_
 rotate_left
 ·intro w hSw
  (try dsimp only at hSw)
  first|(go_simp;done)|(go_simp;with_reducible rfl)
 (try simp only[Act.put,List.setIfInBounds_toArray,List.set_cons_zero,List.set_cons_succ])
 refine wpAnyH_take (i:=4) (oi:=({dst:=some 29,op:=Op.binOp BinOp.sub 3 (Operand.tmp 28) (Operand.const (Value.int IntKind.i64 1)) 3,type:=3,pos:= "ladder.go:81",after:=#[{on:=3,ground:=Ground.data}],guard:=none}:Oper)) (v:=?_) rfl (by kernel_rfl) (by kernel_rfl) (by kernel_rfl) (fun _ _ _ h=>h) (Or.inl ⟨by rfl,?_⟩) (by with_reducible assumption) ?_
 rotate_left
 ·intro w hSw
  (try dsimp only at hSw)
  first|(go_simp;done)|(go_simp;with_reducible rfl)
 (try simp only[Act.put,List.setIfInBounds_toArray,List.set_cons_zero,List.set_cons_succ])
 refine wpAnyH_take (i:=5) (oi:=({dst:=some 30,op:=Op.indexAddr 81 (Operand.tmp 27) (Operand.tmp 29),type:=0,pos:= "ladder.go:81",after:=#[{on:=2,ground:=Ground.data},{on:=4,ground:=Ground.data}],guard:=none}:Oper)) (v:=?_) rfl (by kernel_rfl) (by kernel_rfl) (by kernel_rfl) (fun _ _ _ h=>h) (Or.inl ⟨by rfl,?_⟩) (by with_reducible assumption) ?_
 rotate_left
 ·intro w hSw
  (try dsimp only at hSw)
  first|(go_simp;done)|(go_simp;with_reducible rfl)
 (try simp only[Act.put,List.setIfInBounds_toArray,List.set_cons_zero,List.set_cons_succ])
 refine wpAnyH_take (i:=6) (oi:=({dst:=some 31,op:=Op.load 24 (Operand.tmp 30),type:=24,pos:= "ladder.go:81",after:=#[{on:=5,ground:=Ground.data}],guard:=none}:Oper)) (v:=?_) rfl (by kernel_rfl) (by kernel_rfl) (by kernel_rfl) (fun _ _ _ h=>h) (Or.inl ⟨by rfl,?_⟩) (by with_reducible assumption) ?_
 rotate_left
 ·intro w hSw
  (try dsimp only at hSw)
  first|(go_simp;done)|(go_simp;with_reducible rfl)
 (try simp only[Act.put,List.setIfInBounds_toArray,List.set_cons_zero,List.set_cons_succ])
 refine wpAnyH_ready (rs:=[7,12,13]) (by kernel_rfl) (by simp) ?_
 refine AllReadyH.cons (o:=({dst:=some 32,op:=Op.call {callee:=Callee.value (Operand.func 77),args:=#[Operand.tmp 25,Operand.tmp 31],argTypes:=#[24,24]},type:=99,pos:= "ladder.go:81",after:=#[{on:=0,ground:=Ground.data},{on:=6,ground:=Ground.data}],guard:=none}:Oper)) rfl (fun K hK=>?_) ?_
 ·go_simp
  with_reducible refine(X1.out _ hHeld.2).mono ?_
  rintro r wc1 ⟨sh,ah,nh,ch,sl,al,nl,cl,rfl,WH_4,WL_5,FH_6,FL_7,gg3⟩
  replace WH_4:=WH_4.out
  replace WL_5:=WL_5.out
  replace FH_6:=FH_6.out
  replace FL_7:=FL_7.out
  refine hK.out _ _ ⟨⟨keepG gg3 hHeld.1.1,keepG gg3 hHeld.1.2.1,keepG gg3 hHeld.1.2.2.1,keepG gg3 hHeld.1.2.2.2.1,keepG gg3 hHeld.1.2.2.2.2⟩,hHeld.2.trans gg3⟩ (fun hH2=>?_)
  have hzwc1:=hHeld.2.size
  clear hK K
  (try simp only[Act.put,List.setIfInBounds_toArray,List.set_cons_zero,List.set_cons_succ])
  refine wpAnyH_take (i:=8) (oi:=({dst:=some 24,op:=Op.move (Operand.tmp 32),type:=99,pos:= "ladder.go:81",after:=#[{on:=7,ground:=Ground.data}],guard:=none}:Oper)) (v:=?_) rfl (by kernel_rfl) (by kernel_rfl) (by kernel_rfl) (fun _ _ _ h=>h) (Or.inl ⟨by rfl,?_⟩) (by with_reducible assumption) ?_
  rotate_left
  ·intro w hSw
   (try dsimp only at hSw)
   first|(go_simp;done)|(go_simp;with_reducible rfl)
  (try simp only[Act.put,List.setIfInBounds_toArray,List.set_cons_zero,List.set_cons_succ])
  refine wpAnyH_take (i:=9) (oi:=({dst:=some 33,op:=Op.extract (Operand.tmp 24) 0,type:=24,pos:= "ladder.go:81",after:=#[{on:=8,ground:=Ground.data}],guard:=none}:Oper)) (v:=?_) rfl (by kernel_rfl) (by kernel_rfl) (by kernel_rfl) (fun _ _ _ h=>h) (Or.inl ⟨by rfl,?_⟩) (by with_reducible assumption) ?_
  rotate_left
  ·intro w hSw
   (try dsimp only at hSw)
   first|(go_simp;done)|(go_simp;with_reducible rfl)
  (try simp only[Act.put,List.setIfInBounds_toArray,List.set_cons_zero,List.set_cons_succ])
  refine wpAnyH_take (i:=10) (oi:=({dst:=some 34,op:=Op.extract (Operand.tmp 24) 1,type:=24,pos:= "ladder.go:81",after:=#[{on:=8,ground:=Ground.data},{on:=14,ground:=Ground.gcOnly Departure.lateStores}],guard:=none}:Oper)) (v:=?_) rfl (by kernel_rfl) (by kernel_rfl) (by kernel_rfl) (fun _ _ _ h=>h) (Or.inl ⟨by rfl,?_⟩) (by with_reducible assumption) ?_
  rotate_left
  ·intro w hSw
   (try dsimp only at hSw)
   first|(go_simp;done)|(go_simp;with_reducible rfl)
  (try simp only[Act.put,List.setIfInBounds_toArray,List.set_cons_zero,List.set_cons_succ])
  refine wpAnyH_take (i:=11) (oi:=({dst:=some 35,op:=Op.extract (Operand.tmp 24) 2,type:=27,pos:= "ladder.go:81",after:=#[{on:=8,ground:=Ground.data},{on:=15,ground:=Ground.gcOnly Departure.lateStores}],guard:=none}:Oper)) (v:=?_) rfl (by kernel_rfl) (by kernel_rfl) (by kernel_rfl) (fun _ _ _ h=>h) (Or.inl ⟨by rfl,?_⟩) (by with_reducible assumption) ?_
  rotate_left
  ·intro w hSw
   (try dsimp only at hSw)
   first|(go_simp;done)|(go_simp;with_reducible rfl)
  (try simp only[Act.put,List.setIfInBounds_toArray,List.set_cons_zero,List.set_cons_succ])
  refine wpAnyH_ready (rs:=[12,13]) (by kernel_rfl) (by simp) ?_
  refine AllReadyH.cons (o:=({dst:=some 8,op:=Op.alloc 24,type:=0,pos:= "ladder.go:81",after:=#[],guard:=none}:Oper)) rfl (fun K hK=>?_) ?_
  ·go_simp
   refine hK.out _ _ ⟨⟨keepG ((Gr.refl wc1).alloc (.cells #[.bool false,.slice none 0 0] 24)) hH2.1.1,keepG ((Gr.refl wc1).alloc (.cells #[.bool false,.slice none 0 0] 24)) hH2.1.2.1,keepG ((Gr.refl wc1).alloc (.cells #[.bool false,.slice none 0 0] 24)) hH2.1.2.2.1,keepG ((Gr.refl wc1).alloc (.cells #[.bool false,.slice none 0 0] 24)) hH2.1.2.2.2.1,keepG ((Gr.refl wc1).alloc (.cells #[.bool false,.slice none 0 0] 24)) hH2.1.2.2.2.2⟩,hH2.2.trans ((Gr.refl wc1).alloc (.cells #[.bool false,.slice none 0 0] 24))⟩ (fun hH9=>?_)
   clear hK K
   (try simp only[Act.put,List.setIfInBounds_toArray,List.set_cons_zero,List.set_cons_succ])
   have A_11:=blk1 wc1 (.cells #[.bool false,.slice none 0 0] 24)
   have gg10:=(Gr.refl wc1).alloc (.cells #[.bool false,.slice none 0 0] 24)
   have lA12:=hH2.2.size
   have WH_13:=WH_4.gr gg10
   clear WH_4
   have WL_14:=WL_5.gr gg10
   clear WL_5
   have FH_15:=FH_6.gr gg10
   clear FH_6
   have FL_16:=FL_7.gr gg10
   clear FL_7
   generalize wc1.alloc (.cells #[.bool false,.slice none 0 0] 24)=wa8 at *
   refine wpAnyH_ready (rs:=[13]) (by kernel_rfl) (by simp) ?_
   refine AllReadyH.cons (o:=({dst:=some 9,op:=Op.alloc 24,type:=0,pos:= "ladder.go:81",after:=#[],guard:=none}:Oper)) rfl (fun K hK=>?_) AllReadyH.nil
   have ltBA:=lt_of_get2 A_11
   go_simp
   refine hK.out _ _ ⟨⟨keepG ((Gr.refl wa8).alloc (.cells #[.bool false,.slice none 0 0] 24)) hH9.1.1,keepG ((Gr.refl wa8).alloc (.cells #[.bool false,.slice none 0 0] 24)) hH9.1.2.1,keepG ((Gr.refl wa8).alloc (.cells #[.bool false,.slice none 0 0] 24)) hH9.1.2.2.1,keepG ((Gr.refl wa8).alloc (.cells #[.bool false,.slice none 0 0] 24)) hH9.1.2.2.2.1,keepG ((Gr.refl wa8).alloc (.cells #[.bool false,.slice none 0 0] 24)) hH9.1.2.2.2.2⟩,hH9.2.trans ((Gr.refl wa8).alloc (.cells #[.bool false,.slice none 0 0] 24))⟩ (fun hH18=>?_)
   clear hK K
   (try simp only[Act.put,List.setIfInBounds_toArray,List.set_cons_zero,List.set_cons_succ])
   have B_20:=blk1 wa8 (.cells #[.bool false,.slice none 0 0] 24)
   have gg19:=(Gr.refl wa8).alloc (.cells #[.bool false,.slice none 0 0] 24)
   have lB21:=hH9.2.size
   have WH_22:=WH_13.gr gg19
   clear WH_13
   have WL_23:=WL_14.gr gg19
   clear WL_14
   have FH_24:=FH_15.gr gg19
   clear FH_15
   have FL_25:=FL_16.gr gg19
   clear FL_16
   have A_26:=keepO gg19 A_11
   clear A_11
   generalize wa8.alloc (.cells #[.bool false,.slice none 0 0] 24)=wa17 at *
   refine wpAnyH_ready (rs:=[14]) (by kernel_rfl) (by simp) ?_
   refine AllReadyH.cons (o:=({dst:=none,op:=Op.store 24 (Operand.tmp 8) (Operand.tmp 33),type:=0,pos:= "ladder.go:81",after:=#[{on:=12,ground:=Ground.data},{on:=9,ground:=Ground.data},{on:=7,ground:=Ground.chain},{on:=0,ground:=Ground.phase},{on:=1,ground:=Ground.phase},{on:=2,ground:=Ground.phase},{on:=3,ground:=Ground.phase},{on:=4,ground:=Ground.phase},{on:=5,ground:=Ground.phase},{on:=6,ground:=Ground.phase},{on:=7,ground:=Ground.phase},{on:=8,ground:=Ground.phase},{on:=9,ground:=Ground.phase},{on:=10,ground:=Ground.textOnly Departure.lateStores},{on:=11,ground:=Ground.textOnly Departure.lateStores},{on:=12,ground:=Ground.phase},{on:=13,ground:=Ground.phase}],guard:=none}:Oper)) rfl (fun K hK=>?_) AllReadyH.nil
   obtain⟨t0',t1',u0',u1'⟩:=outAny A_26
   go_simp
   refine hK.out _ _ ⟨⟨far2 (B:=wc1.heap.size) (by omega) hH18.1.1,far2 (B:=wc1.heap.size) (by omega) hH18.1.2.1,far2 (B:=wc1.heap.size) (by omega) hH18.1.2.2.1,far2 (B:=wc1.heap.size) (by omega) hH18.1.2.2.2.1,far2 (B:=wc1.heap.size) (by omega) hH18.1.2.2.2.2⟩,((hH18.2.setCell (p:=⟨wc1.heap.size,0,none⟩) (by show _<=wc1.heap.size;omega) _).setCell (p:=⟨wc1.heap.size,1,none⟩) (by show _<=wc1.heap.size;omega) _)⟩ (fun hS27=>?_)
   clear hK K t0' t1' u0' u1'
   (try simp only[Act.put,List.setIfInBounds_toArray,List.set_cons_zero,List.set_cons_succ])
   have WH_28:=wh_set2W WH_22 FH_24 A_26 (.bool sh) (.slice ah nh ch) (by decide)
   have WL_29:=wh_set2W WL_23 FL_25 A_26 (.bool sh) (.slice ah nh ch) (by decide)
   have FH_30:=fresh_set2 FH_24 A_26 (.bool sh) (.slice ah nh ch) (by decide)
   have FL_31:=fresh_set2 FL_25 A_26 (.bool sh) (.slice ah nh ch) (by decide)
   have B_32:=heap_farW (q:=wc1.heap.size) (i:=1) (v:=.slice ah nh ch) (heap_farW (q:=wc1.heap.size) (i:=0) (v:=.bool sh) B_20 (by omega)) (by omega)
   have A_33:=put2_block A_26 (.bool sh) (.slice ah nh ch)
   clear WH_22 WL_23 FH_24 FL_25 B_20 A_26
   refine wpAnyH_ready (rs:=[15]) (by kernel_rfl) (by simp) ?_
   refine AllReadyH.cons (o:=({dst:=none,op:=Op.store 24 (Operand.tmp 9) (Operand.tmp 34),type:=0,pos:= "ladder.go:81",after:=#[{on:=13,ground:=Ground.data},{on:=10,ground:=Ground.data},{on:=14,ground:=Ground.chain},{on:=0,ground:=Ground.phase},{on:=1,ground:=Ground.phase},{on:=2,ground:=Ground.phase},{on:=3,ground:=Ground.phase},{on:=4,ground:=Ground.phase},{on:=5,ground:=Ground.phase},{on:=6,ground:=Ground.phase},{on:=7,ground:=Ground.phase},{on:=8,ground:=Ground.phase},{on:=9,ground:=Ground.phase},{on:=10,ground:=Ground.phase},{on:=11,ground:=Ground.textOnly Departure.lateStores},{on:=12,ground:=Ground.phase},{on:=13,ground:=Ground.phase},{on:=14,ground:=Ground.phase}],guard:=none}:Oper)) rfl (fun K hK=>?_) AllReadyH.nil
   obtain⟨t0',t1',u0',u1'⟩:=outAny B_32
   go_simp
   refine hK.out _ _ ⟨⟨far2 (B:=wa8.heap.size) (by omega) hS27.1.1,far2 (B:=wa8.heap.size) (by omega) hS27.1.2.1,far2 (B:=wa8.heap.size) (by omega) hS27.1.2.2.1,far2 (B:=wa8.heap.size) (by omega) hS27.1.2.2.2.1,far2 (B:=wa8.heap.size) (by omega) hS27.1.2.2.2.2⟩,((hS27.2.setCell (p:=⟨wa8.heap.size,0,none⟩) (by show _<=wa8.heap.size;omega) _).setCell (p:=⟨wa8.heap.size,1,none⟩) (by show _<=wa8.heap.size;omega) _)⟩ (fun hS34=>?_)
   clear hK K t0' t1' u0' u1'
   (try simp only[Act.put,List.setIfInBounds_toArray,List.set_cons_zero,List.set_cons_succ])
   have WH_35:=wh_set2W WH_28 FH_30 B_32 (.bool sl) (.slice al nl cl) (by decide)
   have WL_36:=wh_set2W WL_29 FL_31 B_32 (.bool sl) (.slice al nl cl) (by decide)
   have FH_37:=fresh_set2 FH_30 B_32 (.bool sl) (.slice al nl cl) (by decide)
   have FL_38:=fresh_set2 FL_31 B_32 (.bool sl) (.slice al nl cl) (by decide)
   have A_39:=heap_farW (q:=wa8.heap.size) (i:=1) (v:=.slice al nl cl) (heap_farW (q:=wa8.heap.size) (i:=0) (v:=.bool sl) A_33 (by omega)) (by omega)
   have B_40:=put2_block B_32 (.bool sl) (.slice al nl cl)
   clear WH_28 WL_29 FH_30 FL_31 A_33 B_32
   refine wpAnyH_take (i:=16) (oi:=({dst:=some 10,op:=Op.assign (Operand.tmp 35),type:=27,pos:= "ladder.go:81",after:=#[{on:=11,ground:=Ground.data},{on:=15,ground:=Ground.chain},{on:=0,ground:=Ground.phase},{on:=1,ground:=Ground.phase},{on:=2,ground:=Ground.phase},{on:=3,ground:=Ground.phase},{on:=4,ground:=Ground.phase},{on:=5,ground:=Ground.phase},{on:=6,ground:=Ground.phase},{on:=7,ground:=Ground.phase},{on:=8,ground:=Ground.phase},{on:=9,ground:=Ground.phase},{on:=10,ground:=Ground.phase},{on:=11,ground:=Ground.phase},{on:=12,ground:=Ground.phase},{on:=13,ground:=Ground.phase},{on:=14,ground:=Ground.phase},{on:=15,ground:=Ground.phase}],guard:=none}:Oper)) (v:=?_) rfl (by kernel_rfl) (by kernel_rfl) (by kernel_rfl) (fun _ _ _ h=>h) (Or.inl ⟨by rfl,?_⟩) (by with_reducible assumption) ?_
   rotate_left
   ·intro w hSw
    (try dsimp only at hSw)
    first|(go_simp;done)|(go_simp;with_reducible rfl)
   (try simp only[Act.put,List.setIfInBounds_toArray,List.set_cons_zero,List.set_cons_succ])
   refine wpAnyH_done (by kernel_rfl) ?_ _
   exact⟨_,_,_,_,_,_,_,_,_,_,_,_,_,_,sh,ah,nh,ch,sl,al,nl,cl,rfl,A_39,B_40,WH_35,WL_36,FH_37,FL_38,(by omega),(by omega),hS34.2⟩
  refine AllReadyH.cons (o:=({dst:=some 9,op:=Op.alloc 24,type:=0,pos:= "ladder.go:81",after:=#[],guard:=none}:Oper)) rfl (fun K hK=>?_) AllReadyH.nil
  go_simp
  refine hK.out _ _ ⟨⟨keepG ((Gr.refl wc1).alloc (.cells #[.bool false,.slice none 0 0] 24)) hH2.1.1,keepG ((Gr.refl wc1).alloc (.cells #[.bool false,.slice none 0 0] 24)) hH2.1.2.1,keepG ((Gr.refl wc1).alloc (.cells #[.bool false,.slice none 0 0] 24)) hH2.1.2.2.1,keepG ((Gr.refl wc1).alloc (.cells #[.bool false,.slice none 0 0] 24)) hH2.1.2.2.2.1,keepG ((Gr.refl wc1).alloc (.cells #[.bool false,.slice none 0 0] 24)) hH2.1.2.2.2.2⟩,hH2.2.trans ((Gr.refl wc1).alloc (.cells #[.bool false,.slice none 0 0] 24))⟩ (fun hH42=>?_)
  clear hK K
  (try simp only[Act.put,List.setIfInBounds_toArray,List.set_cons_zero,List.set_cons_succ])
  have B_44:=blk1 wc1 (.cells #[.bool false,.slice none 0 0] 24)
  have gg43:=(Gr.refl wc1).alloc (.cells #[.bool false,.slice none 0 0] 24)
  have lB45:=hH2.2.size
  have WH_46:=WH_4.gr gg43
  clear WH_4
  have WL_47:=WL_5.gr gg43
  clear WL_5
  have FH_48:=FH_6.gr gg43
  clear FH_6
  have FL_49:=FL_7.gr gg43
  clear FL_7
  generalize wc1.alloc (.cells #[.bool false,.slice none 0 0] 24)=wa41 at *
  refine wpAnyH_ready (rs:=[12]) (by kernel_rfl) (by simp) ?_
  refine AllReadyH.cons (o:=({dst:=some 8,op:=Op.alloc 24,type:=0,pos:= "ladder.go:81",after:=#[],guard:=none}:Oper)) rfl (fun K hK=>?_) AllReadyH.nil
  have ltAB:=lt_of_get2 B_44
  go_simp
  refine hK.out _ _ ⟨⟨keepG ((Gr.refl wa41).alloc (.cells #[.bool false,.slice none 0 0] 24)) hH42.1.1,keepG ((Gr.refl wa41).alloc (.cells #[.bool false,.slice none 0 0] 24)) hH42.1.2.1,keepG ((Gr.refl wa41).alloc (.cells #[.bool false,.slice none 0 0] 24)) hH42.1.2.2.1,keepG ((Gr.refl wa41).alloc (.cells #[.bool false,.slice none 0 0] 24)) hH42.1.2.2.2.1,keepG ((Gr.refl wa41).alloc (.cells #[.bool false,.slice none 0 0] 24)) hH42.1.2.2.2.2⟩,hH42.2.trans ((Gr.refl wa41).alloc (.cells #[.bool false,.slice none 0 0] 24))⟩ (fun hH51=>?_)
  clear hK K
  (try simp only[Act.put,List.setIfInBounds_toArray,List.set_cons_zero,List.set_cons_succ])
  have A_53:=blk1 wa41 (.cells #[.bool false,.slice none 0 0] 24)
  have gg52:=(Gr.refl wa41).alloc (.cells #[.bool false,.slice none 0 0] 24)
  have lA54:=hH42.2.size
  have WH_55:=WH_46.gr gg52
  clear WH_46
  have WL_56:=WL_47.gr gg52
  clear WL_47
  have FH_57:=FH_48.gr gg52
  clear FH_48
  have FL_58:=FL_49.gr gg52
  clear FL_49
  have B_59:=keepO gg52 B_44
  clear B_44
  generalize wa41.alloc (.cells #[.bool false,.slice none 0 0] 24)=wa50 at *
  refine wpAnyH_ready (rs:=[14]) (by kernel_rfl) (by simp) ?_
  refine AllReadyH.cons (o:=({dst:=none,op:=Op.store 24 (Operand.tmp 8) (Operand.tmp 33),type:=0,pos:= "ladder.go:81",after:=#[{on:=12,ground:=Ground.data},{on:=9,ground:=Ground.data},{on:=7,ground:=Ground.chain},{on:=0,ground:=Ground.phase},{on:=1,ground:=Ground.phase},{on:=2,ground:=Ground.phase},{on:=3,ground:=Ground.phase},{on:=4,ground:=Ground.phase},{on:=5,ground:=Ground.phase},{on:=6,ground:=Ground.phase},{on:=7,ground:=Ground.phase},{on:=8,ground:=Ground.phase},{on:=9,ground:=Ground.phase},{on:=10,ground:=Ground.textOnly Departure.lateStores},{on:=11,ground:=Ground.textOnly Departure.lateStores},{on:=12,ground:=Ground.phase},{on:=13,ground:=Ground.phase}],guard:=none}:Oper)) rfl (fun K hK=>?_) AllReadyH.nil
  obtain⟨t0',t1',u0',u1'⟩:=outAny A_53
  go_simp
  refine hK.out _ _ ⟨⟨far2 (B:=wa41.heap.size) (by omega) hH51.1.1,far2 (B:=wa41.heap.size) (by omega) hH51.1.2.1,far2 (B:=wa41.heap.size) (by omega) hH51.1.2.2.1,far2 (B:=wa41.heap.size) (by omega) hH51.1.2.2.2.1,far2 (B:=wa41.heap.size) (by omega) hH51.1.2.2.2.2⟩,((hH51.2.setCell (p:=⟨wa41.heap.size,0,none⟩) (by show _<=wa41.heap.size;omega) _).setCell (p:=⟨wa41.heap.size,1,none⟩) (by show _<=wa41.heap.size;omega) _)⟩ (fun hS60=>?_)
  clear hK K t0' t1' u0' u1'
  (try simp only[Act.put,List.setIfInBounds_toArray,List.set_cons_zero,List.set_cons_succ])
  have WH_61:=wh_set2W WH_55 FH_57 A_53 (.bool sh) (.slice ah nh ch) (by decide)
  have WL_62:=wh_set2W WL_56 FL_58 A_53 (.bool sh) (.slice ah nh ch) (by decide)
  have FH_63:=fresh_set2 FH_57 A_53 (.bool sh) (.slice ah nh ch) (by decide)
  have FL_64:=fresh_set2 FL_58 A_53 (.bool sh) (.slice ah nh ch) (by decide)
  have B_65:=heap_farW (q:=wa41.heap.size) (i:=1) (v:=.slice ah nh ch) (heap_farW (q:=wa41.heap.size) (i:=0) (v:=.bool sh) B_59 (by omega)) (by omega)
  have A_66:=put2_block A_53 (.bool sh) (.slice ah nh ch)
  clear WH_55 WL_56 FH_57 FL_58 B_59 A_53
  refine wpAnyH_ready (rs:=[15]) (by kernel_rfl) (by simp) ?_
  refine AllReadyH.cons (o:=({dst:=none,op:=Op.store 24 (Operand.tmp 9) (Operand.tmp 34),type:=0,pos:= "ladder.go:81",after:=#[{on:=13,ground:=Ground.data},{on:=10,ground:=Ground.data},{on:=14,ground:=Ground.chain},{on:=0,ground:=Ground.phase},{on:=1,ground:=Ground.phase},{on:=2,ground:=Ground.phase},{on:=3,ground:=Ground.phase},{on:=4,ground:=Ground.phase},{on:=5,ground:=Ground.phase},{on:=6,ground:=Ground.phase},{on:=7,ground:=Ground.phase},{on:=8,ground:=Ground.phase},{on:=9,ground:=Ground.phase},{on:=10,ground:=Ground.phase},{on:=11,ground:=Ground.textOnly Departure.lateStores},{on:=12,ground:=Ground.phase},{on:=13,ground:=Ground.phase},{on:=14,ground:=Ground.phase}],guard:=none}:Oper)) rfl (fun K hK=>?_) AllReadyH.nil
  obtain⟨t0',t1',u0',u1'⟩:=outAny B_65
  go_simp
  refine hK.out _ _ ⟨⟨far2 (B:=wc1.heap.size) (by omega) hS60.1.1,far2 (B:=wc1.heap.size) (by omega) hS60.1.2.1,far2 (B:=wc1.heap.size) (by omega) hS60.1.2.2.1,far2 (B:=wc1.heap.size) (by omega) hS60.1.2.2.2.1,far2 (B:=wc1.heap.size) (by omega) hS60.1.2.2.2.2⟩,((hS60.2.setCell (p:=⟨wc1.heap.size,0,none⟩) (by show _<=wc1.heap.size;omega) _).setCell (p:=⟨wc1.heap.size,1,none⟩) (by show _<=wc1.heap.size;omega) _)⟩ (fun hS67=>?_)
  clear hK K t0' t1' u0' u1'
  (try simp only[Act.put,List.setIfInBounds_toArray,List.set_cons_zero,List.set_cons_succ])
  have WH_68:=wh_set2W WH_61 FH_63 B_65 (.bool sl) (.slice al nl cl) (by decide)
  have WL_69:=wh_set2W WL_62 FL_64 B_65 (.bool sl) (.slice al nl cl) (by decide)
  have FH_70:=fresh_set2 FH_63 B_65 (.bool sl) (.slice al nl cl) (by decide)
  have FL_71:=fresh_set2 FL_64 B_65 (.bool sl) (.slice al nl cl) (by decide)
  have A_72:=heap_farW (q:=wc1.heap.size) (i:=1) (v:=.slice al nl cl) (heap_farW (q:=wc1.heap.size) (i:=0) (v:=.bool sl) A_66 (by omega)) (by omega)
  have B_73:=put2_block B_65 (.bool sl) (.slice al nl cl)
  clear WH_61 WL_62 FH_63 FL_64 A_66 B_65
  refine wpAnyH_take (i:=16) (oi:=({dst:=some 10,op:=Op.assign (Operand.tmp 35),type:=27,pos:= "ladder.go:81",after:=#[{on:=11,ground:=Ground.data},{on:=15,ground:=Ground.chain},{on:=0,ground:=Ground.phase},{on:=1,ground:=Ground.phase},{on:=2,ground:=Ground.phase},{on:=3,ground:=Ground.phase},{on:=4,ground:=Ground.phase},{on:=5,ground:=Ground.phase},{on:=6,ground:=Ground.phase},{on:=7,ground:=Ground.phase},{on:=8,ground:=Ground.phase},{on:=9,ground:=Ground.phase},{on:=10,ground:=Ground.phase},{on:=11,ground:=Ground.phase},{on:=12,ground:=Ground.phase},{on:=13,ground:=Ground.phase},{on:=14,ground:=Ground.phase},{on:=15,ground:=Ground.phase}],guard:=none}:Oper)) (v:=?_) rfl (by kernel_rfl) (by kernel_rfl) (by kernel_rfl) (fun _ _ _ h=>h) (Or.inl ⟨by rfl,?_⟩) (by with_reducible assumption) ?_
  rotate_left
  ·intro w hSw
   (try dsimp only at hSw)
   first|(go_simp;done)|(go_simp;with_reducible rfl)
  (try simp only[Act.put,List.setIfInBounds_toArray,List.set_cons_zero,List.set_cons_succ])
  refine wpAnyH_done (by kernel_rfl) ?_ _
  exact⟨_,_,_,_,_,_,_,_,_,_,_,_,_,_,sh,ah,nh,ch,sl,al,nl,cl,rfl,A_72,B_73,WH_68,WL_69,FH_70,FL_71,(by omega),(by omega),hS67.2⟩
 refine AllReadyH.cons (o:=({dst:=some 8,op:=Op.alloc 24,type:=0,pos:= "ladder.go:81",after:=#[],guard:=none}:Oper)) rfl (fun K hK=>?_) ?_
 ·go_simp
  refine hK.out _ _ ⟨⟨keepG ((Gr.refl wd).alloc (.cells #[.bool false,.slice none 0 0] 24)) hHeld.1.1,keepG ((Gr.refl wd).alloc (.cells #[.bool false,.slice none 0 0] 24)) hHeld.1.2.1,keepG ((Gr.refl wd).alloc (.cells #[.bool false,.slice none 0 0] 24)) hHeld.1.2.2.1,keepG ((Gr.refl wd).alloc (.cells #[.bool false,.slice none 0 0] 24)) hHeld.1.2.2.2.1,keepG ((Gr.refl wd).alloc (.cells #[.bool false,.slice none 0 0] 24)) hHeld.1.2.2.2.2⟩,hHeld.2.trans ((Gr.refl wd).alloc (.cells #[.bool false,.slice none 0 0] 24))⟩ (fun hH75=>?_)
  clear hK K
  (try simp only[Act.put,List.setIfInBounds_toArray,List.set_cons_zero,List.set_cons_succ])
  have A_77:=blk1 wd (.cells #[.bool false,.slice none 0 0] 24)
  have gg76:=(Gr.refl wd).alloc (.cells #[.bool false,.slice none 0 0] 24)
  have lA78:=hHeld.2.size
  generalize wd.alloc (.cells #[.bool false,.slice none 0 0] 24)=wa74 at *
  refine wpAnyH_ready (rs:=[7,13]) (by kernel_rfl) (by simp) ?_
  refine AllReadyH.cons (o:=({dst:=some 32,op:=Op.call {callee:=Callee.value (Operand.func 77),args:=#[Operand.tmp 25,Operand.tmp 31],argTypes:=#[24,24]},type:=99,pos:= "ladder.go:81",after:=#[{on:=0,ground:=Ground.data},{on:=6,ground:=Ground.data}],guard:=none}:Oper)) rfl (fun K hK=>?_) ?_
  ·go_simp
   with_reducible refine(X1.out _ hH75.2).mono ?_
   rintro r wc79 ⟨sh,ah,nh,ch,sl,al,nl,cl,rfl,WH_82,WL_83,FH_84,FL_85,gg81⟩
   replace WH_82:=WH_82.out
   replace WL_83:=WL_83.out
   replace FH_84:=FH_84.out
   replace FL_85:=FL_85.out
   refine hK.out _ _ ⟨⟨keepG gg81 hH75.1.1,keepG gg81 hH75.1.2.1,keepG gg81 hH75.1.2.2.1,keepG gg81 hH75.1.2.2.2.1,keepG gg81 hH75.1.2.2.2.2⟩,hH75.2.trans gg81⟩ (fun hH80=>?_)
   have hzwc79:=hH75.2.size
   clear hK K
   (try simp only[Act.put,List.setIfInBounds_toArray,List.set_cons_zero,List.set_cons_succ])
   have A_86:=keepO gg81 A_77
   clear A_77
   refine wpAnyH_take (i:=8) (oi:=({dst:=some 24,op:=Op.move (Operand.tmp 32),type:=99,pos:= "ladder.go:81",after:=#[{on:=7,ground:=Ground.data}],guard:=none}:Oper)) (v:=?_) rfl (by kernel_rfl) (by kernel_rfl) (by kernel_rfl) (fun _ _ _ h=>h) (Or.inl ⟨by rfl,?_⟩) (by with_reducible assumption) ?_
   rotate_left
   ·intro w hSw
    (try dsimp only at hSw)
    first|(go_simp;done)|(go_simp;with_reducible rfl)
   (try simp only[Act.put,List.setIfInBounds_toArray,List.set_cons_zero,List.set_cons_succ])
   refine wpAnyH_take (i:=9) (oi:=({dst:=some 33,op:=Op.extract (Operand.tmp 24) 0,type:=24,pos:= "ladder.go:81",after:=#[{on:=8,ground:=Ground.data}],guard:=none}:Oper)) (v:=?_) rfl (by kernel_rfl) (by kernel_rfl) (by kernel_rfl) (fun _ _ _ h=>h) (Or.inl ⟨by rfl,?_⟩) (by with_reducible assumption) ?_
   rotate_left
   ·intro w hSw
    (try dsimp only at hSw)
    first|(go_simp;done)|(go_simp;with_reducible rfl)
   (try simp only[Act.put,List.setIfInBounds_toArray,List.set_cons_zero,List.set_cons_succ])
   refine wpAnyH_take (i:=10) (oi:=({dst:=some 34,op:=Op.extract (Operand.tmp 24) 1,type:=24,pos:= "ladder.go:81",after:=#[{on:=8,ground:=Ground.data},{on:=14,ground:=Ground.gcOnly Departure.lateStores}],guard:=none}:Oper)) (v:=?_) rfl (by kernel_rfl) (by kernel_rfl) (by kernel_rfl) (fun _ _ _ h=>h) (Or.inl ⟨by rfl,?_⟩) (by with_reducible assumption) ?_
   rotate_left
   ·intro w hSw
    (try dsimp only at hSw)
    first|(go_simp;done)|(go_simp;with_reducible rfl)
   (try simp only[Act.put,List.setIfInBounds_toArray,List.set_cons_zero,List.set_cons_succ])
   refine wpAnyH_take (i:=11) (oi:=({dst:=some 35,op:=Op.extract (Operand.tmp 24) 2,type:=27,pos:= "ladder.go:81",after:=#[{on:=8,ground:=Ground.data},{on:=15,ground:=Ground.gcOnly Departure.lateStores}],guard:=none}:Oper)) (v:=?_) rfl (by kernel_rfl) (by kernel_rfl) (by kernel_rfl) (fun _ _ _ h=>h) (Or.inl ⟨by rfl,?_⟩) (by with_reducible assumption) ?_
   rotate_left
   ·intro w hSw
    (try dsimp only at hSw)
    first|(go_simp;done)|(go_simp;with_reducible rfl)
   (try simp only[Act.put,List.setIfInBounds_toArray,List.set_cons_zero,List.set_cons_succ])
   refine wpAnyH_ready (rs:=[13]) (by kernel_rfl) (by simp) ?_
   refine AllReadyH.cons (o:=({dst:=some 9,op:=Op.alloc 24,type:=0,pos:= "ladder.go:81",after:=#[],guard:=none}:Oper)) rfl (fun K hK=>?_) AllReadyH.nil
   have ltBA:=lt_of_get2 A_86
   go_simp
   refine hK.out _ _ ⟨⟨keepG ((Gr.refl wc79).alloc (.cells #[.bool false,.slice none 0 0] 24)) hH80.1.1,keepG ((Gr.refl wc79).alloc (.cells #[.bool false,.slice none 0 0] 24)) hH80.1.2.1,keepG ((Gr.refl wc79).alloc (.cells #[.bool false,.slice none 0 0] 24)) hH80.1.2.2.1,keepG ((Gr.refl wc79).alloc (.cells #[.bool false,.slice none 0 0] 24)) hH80.1.2.2.2.1,keepG ((Gr.refl wc79).alloc (.cells #[.bool false,.slice none 0 0] 24)) hH80.1.2.2.2.2⟩,hH80.2.trans ((Gr.refl wc79).alloc (.cells #[.bool false,.slice none 0 0] 24))⟩ (fun hH88=>?_)
   clear hK K
   (try simp only[Act.put,List.setIfInBounds_toArray,List.set_cons_zero,List.set_cons_succ])
   have B_90:=blk1 wc79 (.cells #[.bool false,.slice none 0 0] 24)
   have gg89:=(Gr.refl wc79).alloc (.cells #[.bool false,.slice none 0 0] 24)
   have lB91:=hH80.2.size
   have A_92:=keepO gg89 A_86
   clear A_86
   have WH_93:=WH_82.gr gg89
   clear WH_82
   have WL_94:=WL_83.gr gg89
   clear WL_83
   have FH_95:=FH_84.gr gg89
   clear FH_84
   have FL_96:=FL_85.gr gg89
   clear FL_85
   generalize wc79.alloc (.cells #[.bool false,.slice none 0 0] 24)=wa87 at *
   refine wpAnyH_ready (rs:=[14]) (by kernel_rfl) (by simp) ?_
   refine AllReadyH.cons (o:=({dst:=none,op:=Op.store 24 (Operand.tmp 8) (Operand.tmp 33),type:=0,pos:= "ladder.go:81",after:=#[{on:=12,ground:=Ground.data},{on:=9,ground:=Ground.data},{on:=7,ground:=Ground.chain},{on:=0,ground:=Ground.phase},{on:=1,ground:=Ground.phase},{on:=2,ground:=Ground.phase},{on:=3,ground:=Ground.phase},{on:=4,ground:=Ground.phase},{on:=5,ground:=Ground.phase},{on:=6,ground:=Ground.phase},{on:=7,ground:=Ground.phase},{on:=8,ground:=Ground.phase},{on:=9,ground:=Ground.phase},{on:=10,ground:=Ground.textOnly Departure.lateStores},{on:=11,ground:=Ground.textOnly Departure.lateStores},{on:=12,ground:=Ground.phase},{on:=13,ground:=Ground.phase}],guard:=none}:Oper)) rfl (fun K hK=>?_) AllReadyH.nil
   obtain⟨t0',t1',u0',u1'⟩:=outAny A_92
   go_simp
   refine hK.out _ _ ⟨⟨far2 (B:=wd.heap.size) (by omega) hH88.1.1,far2 (B:=wd.heap.size) (by omega) hH88.1.2.1,far2 (B:=wd.heap.size) (by omega) hH88.1.2.2.1,far2 (B:=wd.heap.size) (by omega) hH88.1.2.2.2.1,far2 (B:=wd.heap.size) (by omega) hH88.1.2.2.2.2⟩,((hH88.2.setCell (p:=⟨wd.heap.size,0,none⟩) (by show _<=wd.heap.size;omega) _).setCell (p:=⟨wd.heap.size,1,none⟩) (by show _<=wd.heap.size;omega) _)⟩ (fun hS97=>?_)
   clear hK K t0' t1' u0' u1'
   (try simp only[Act.put,List.setIfInBounds_toArray,List.set_cons_zero,List.set_cons_succ])
   have WH_98:=wh_set2W WH_93 FH_95 A_92 (.bool sh) (.slice ah nh ch) (by decide)
   have WL_99:=wh_set2W WL_94 FL_96 A_92 (.bool sh) (.slice ah nh ch) (by decide)
   have FH_100:=fresh_set2 FH_95 A_92 (.bool sh) (.slice ah nh ch) (by decide)
   have FL_101:=fresh_set2 FL_96 A_92 (.bool sh) (.slice ah nh ch) (by decide)
   have B_102:=heap_farW (q:=wd.heap.size) (i:=1) (v:=.slice ah nh ch) (heap_farW (q:=wd.heap.size) (i:=0) (v:=.bool sh) B_90 (by omega)) (by omega)
   have A_103:=put2_block A_92 (.bool sh) (.slice ah nh ch)
   clear WH_93 WL_94 FH_95 FL_96 B_90 A_92
   refine wpAnyH_ready (rs:=[15]) (by kernel_rfl) (by simp) ?_
   refine AllReadyH.cons (o:=({dst:=none,op:=Op.store 24 (Operand.tmp 9) (Operand.tmp 34),type:=0,pos:= "ladder.go:81",after:=#[{on:=13,ground:=Ground.data},{on:=10,ground:=Ground.data},{on:=14,ground:=Ground.chain},{on:=0,ground:=Ground.phase},{on:=1,ground:=Ground.phase},{on:=2,ground:=Ground.phase},{on:=3,ground:=Ground.phase},{on:=4,ground:=Ground.phase},{on:=5,ground:=Ground.phase},{on:=6,ground:=Ground.phase},{on:=7,ground:=Ground.phase},{on:=8,ground:=Ground.phase},{on:=9,ground:=Ground.phase},{on:=10,ground:=Ground.phase},{on:=11,ground:=Ground.textOnly Departure.lateStores},{on:=12,ground:=Ground.phase},{on:=13,ground:=Ground.phase},{on:=14,ground:=Ground.phase}],guard:=none}:Oper)) rfl (fun K hK=>?_) AllReadyH.nil
   obtain⟨t0',t1',u0',u1'⟩:=outAny B_102
   go_simp
   refine hK.out _ _ ⟨⟨far2 (B:=wc79.heap.size) (by omega) hS97.1.1,far2 (B:=wc79.heap.size) (by omega) hS97.1.2.1,far2 (B:=wc79.heap.size) (by omega) hS97.1.2.2.1,far2 (B:=wc79.heap.size) (by omega) hS97.1.2.2.2.1,far2 (B:=wc79.heap.size) (by omega) hS97.1.2.2.2.2⟩,((hS97.2.setCell (p:=⟨wc79.heap.size,0,none⟩) (by show _<=wc79.heap.size;omega) _).setCell (p:=⟨wc79.heap.size,1,none⟩) (by show _<=wc79.heap.size;omega) _)⟩ (fun hS104=>?_)
   clear hK K t0' t1' u0' u1'
   (try simp only[Act.put,List.setIfInBounds_toArray,List.set_cons_zero,List.set_cons_succ])
   have A_105:=heap_farW (q:=wc79.heap.size) (i:=1) (v:=.slice al nl cl) (heap_farW (q:=wc79.heap.size) (i:=0) (v:=.bool sl) A_103 (by omega)) (by omega)
   have WH_106:=wh_set2W WH_98 FH_100 B_102 (.bool sl) (.slice al nl cl) (by decide)
   have WL_107:=wh_set2W WL_99 FL_101 B_102 (.bool sl) (.slice al nl cl) (by decide)
   have FH_108:=fresh_set2 FH_100 B_102 (.bool sl) (.slice al nl cl) (by decide)
   have FL_109:=fresh_set2 FL_101 B_102 (.bool sl) (.slice al nl cl) (by decide)
   have B_110:=put2_block B_102 (.bool sl) (.slice al nl cl)
   clear A_103 WH_98 WL_99 FH_100 FL_101 B_102
   refine wpAnyH_take (i:=16) (oi:=({dst:=some 10,op:=Op.assign (Operand.tmp 35),type:=27,pos:= "ladder.go:81",after:=#[{on:=11,ground:=Ground.data},{on:=15,ground:=Ground.chain},{on:=0,ground:=Ground.phase},{on:=1,ground:=Ground.phase},{on:=2,ground:=Ground.phase},{on:=3,ground:=Ground.phase},{on:=4,ground:=Ground.phase},{on:=5,ground:=Ground.phase},{on:=6,ground:=Ground.phase},{on:=7,ground:=Ground.phase},{on:=8,ground:=Ground.phase},{on:=9,ground:=Ground.phase},{on:=10,ground:=Ground.phase},{on:=11,ground:=Ground.phase},{on:=12,ground:=Ground.phase},{on:=13,ground:=Ground.phase},{on:=14,ground:=Ground.phase},{on:=15,ground:=Ground.phase}],guard:=none}:Oper)) (v:=?_) rfl (by kernel_rfl) (by kernel_rfl) (by kernel_rfl) (fun _ _ _ h=>h) (Or.inl ⟨by rfl,?_⟩) (by with_reducible assumption) ?_
   rotate_left
   ·intro w hSw
    (try dsimp only at hSw)
    first|(go_simp;done)|(go_simp;with_reducible rfl)
   (try simp only[Act.put,List.setIfInBounds_toArray,List.set_cons_zero,List.set_cons_succ])
   refine wpAnyH_done (by kernel_rfl) ?_ _
   exact⟨_,_,_,_,_,_,_,_,_,_,_,_,_,_,sh,ah,nh,ch,sl,al,nl,cl,rfl,A_105,B_110,WH_106,WL_107,FH_108,FL_109,(by omega),(by omega),hS104.2⟩
  refine AllReadyH.cons (o:=({dst:=some 9,op:=Op.alloc 24,type:=0,pos:= "ladder.go:81",after:=#[],guard:=none}:Oper)) rfl (fun K hK=>?_) AllReadyH.nil
  have ltBA:=lt_of_get2 A_77
  go_simp
  refine hK.out _ _ ⟨⟨keepG ((Gr.refl wa74).alloc (.cells #[.bool false,.slice none 0 0] 24)) hH75.1.1,keepG ((Gr.refl wa74).alloc (.cells #[.bool false,.slice none 0 0] 24)) hH75.1.2.1,keepG ((Gr.refl wa74).alloc (.cells #[.bool false,.slice none 0 0] 24)) hH75.1.2.2.1,keepG ((Gr.refl wa74).alloc (.cells #[.bool false,.slice none 0 0] 24)) hH75.1.2.2.2.1,keepG ((Gr.refl wa74).alloc (.cells #[.bool false,.slice none 0 0] 24)) hH75.1.2.2.2.2⟩,hH75.2.trans ((Gr.refl wa74).alloc (.cells #[.bool false,.slice none 0 0] 24))⟩ (fun hH112=>?_)
  clear hK K
  (try simp only[Act.put,List.setIfInBounds_toArray,List.set_cons_zero,List.set_cons_succ])
  have B_114:=blk1 wa74 (.cells #[.bool false,.slice none 0 0] 24)
  have gg113:=(Gr.refl wa74).alloc (.cells #[.bool false,.slice none 0 0] 24)
  have lB115:=hH75.2.size
  have A_116:=keepO gg113 A_77
  clear A_77
  generalize wa74.alloc (.cells #[.bool false,.slice none 0 0] 24)=wa111 at *
  refine wpAnyH_ready (rs:=[7]) (by kernel_rfl) (by simp) ?_
  refine AllReadyH.cons (o:=({dst:=some 32,op:=Op.call {callee:=Callee.value (Operand.func 77),args:=#[Operand.tmp 25,Operand.tmp 31],argTypes:=#[24,24]},type:=99,pos:= "ladder.go:81",after:=#[{on:=0,ground:=Ground.data},{on:=6,ground:=Ground.data}],guard:=none}:Oper)) rfl (fun K hK=>?_) AllReadyH.nil
  go_simp
  with_reducible refine(X1.out _ hH112.2).mono ?_
  rintro r wc117 ⟨sh,ah,nh,ch,sl,al,nl,cl,rfl,WH_120,WL_121,FH_122,FL_123,gg119⟩
  replace WH_120:=WH_120.out
  replace WL_121:=WL_121.out
  replace FH_122:=FH_122.out
  replace FL_123:=FL_123.out
  refine hK.out _ _ ⟨⟨keepG gg119 hH112.1.1,keepG gg119 hH112.1.2.1,keepG gg119 hH112.1.2.2.1,keepG gg119 hH112.1.2.2.2.1,keepG gg119 hH112.1.2.2.2.2⟩,hH112.2.trans gg119⟩ (fun hH118=>?_)
  have hzwc117:=hH112.2.size
  clear hK K
  (try simp only[Act.put,List.setIfInBounds_toArray,List.set_cons_zero,List.set_cons_succ])
  have A_124:=keepO gg119 A_116
  clear A_116
  have B_125:=keepO gg119 B_114
  clear B_114
  refine wpAnyH_take (i:=8) (oi:=({dst:=some 24,op:=Op.move (Operand.tmp 32),type:=99,pos:= "ladder.go:81",after:=#[{on:=7,ground:=Ground.data}],guard:=none}:Oper)) (v:=?_) rfl (by kernel_rfl) (by kernel_rfl) (by kernel_rfl) (fun _ _ _ h=>h) (Or.inl ⟨by rfl,?_⟩) (by with_reducible assumption) ?_
  rotate_left
  ·intro w hSw
   (try dsimp only at hSw)
   first|(go_simp;done)|(go_simp;with_reducible rfl)
  (try simp only[Act.put,List.setIfInBounds_toArray,List.set_cons_zero,List.set_cons_succ])
  refine wpAnyH_take (i:=9) (oi:=({dst:=some 33,op:=Op.extract (Operand.tmp 24) 0,type:=24,pos:= "ladder.go:81",after:=#[{on:=8,ground:=Ground.data}],guard:=none}:Oper)) (v:=?_) rfl (by kernel_rfl) (by kernel_rfl) (by kernel_rfl) (fun _ _ _ h=>h) (Or.inl ⟨by rfl,?_⟩) (by with_reducible assumption) ?_
  rotate_left
  ·intro w hSw
   (try dsimp only at hSw)
   first|(go_simp;done)|(go_simp;with_reducible rfl)
  (try simp only[Act.put,List.setIfInBounds_toArray,List.set_cons_zero,List.set_cons_succ])
  refine wpAnyH_take (i:=10) (oi:=({dst:=some 34,op:=Op.extract (Operand.tmp 24) 1,type:=24,pos:= "ladder.go:81",after:=#[{on:=8,ground:=Ground.data},{on:=14,ground:=Ground.gcOnly Departure.lateStores}],guard:=none}:Oper)) (v:=?_) rfl (by kernel_rfl) (by kernel_rfl) (by kernel_rfl) (fun _ _ _ h=>h) (Or.inl ⟨by rfl,?_⟩) (by with_reducible assumption) ?_
  rotate_left
  ·intro w hSw
   (try dsimp only at hSw)
   first|(go_simp;done)|(go_simp;with_reducible rfl)
  (try simp only[Act.put,List.setIfInBounds_toArray,List.set_cons_zero,List.set_cons_succ])
  refine wpAnyH_take (i:=11) (oi:=({dst:=some 35,op:=Op.extract (Operand.tmp 24) 2,type:=27,pos:= "ladder.go:81",after:=#[{on:=8,ground:=Ground.data},{on:=15,ground:=Ground.gcOnly Departure.lateStores}],guard:=none}:Oper)) (v:=?_) rfl (by kernel_rfl) (by kernel_rfl) (by kernel_rfl) (fun _ _ _ h=>h) (Or.inl ⟨by rfl,?_⟩) (by with_reducible assumption) ?_
  rotate_left
  ·intro w hSw
   (try dsimp only at hSw)
   first|(go_simp;done)|(go_simp;with_reducible rfl)
  (try simp only[Act.put,List.setIfInBounds_toArray,List.set_cons_zero,List.set_cons_succ])
  refine wpAnyH_ready (rs:=[14]) (by kernel_rfl) (by simp) ?_
  refine AllReadyH.cons (o:=({dst:=none,op:=Op.store 24 (Operand.tmp 8) (Operand.tmp 33),type:=0,pos:= "ladder.go:81",after:=#[{on:=12,ground:=Ground.data},{on:=9,ground:=Ground.data},{on:=7,ground:=Ground.chain},{on:=0,ground:=Ground.phase},{on:=1,ground:=Ground.phase},{on:=2,ground:=Ground.phase},{on:=3,ground:=Ground.phase},{on:=4,ground:=Ground.phase},{on:=5,ground:=Ground.phase},{on:=6,ground:=Ground.phase},{on:=7,ground:=Ground.phase},{on:=8,ground:=Ground.phase},{on:=9,ground:=Ground.phase},{on:=10,ground:=Ground.textOnly Departure.lateStores},{on:=11,ground:=Ground.textOnly Departure.lateStores},{on:=12,ground:=Ground.phase},{on:=13,ground:=Ground.phase}],guard:=none}:Oper)) rfl (fun K hK=>?_) AllReadyH.nil
  obtain⟨t0',t1',u0',u1'⟩:=outAny A_124
  go_simp
  refine hK.out _ _ ⟨⟨far2 (B:=wd.heap.size) (by omega) hH118.1.1,far2 (B:=wd.heap.size) (by omega) hH118.1.2.1,far2 (B:=wd.heap.size) (by omega) hH118.1.2.2.1,far2 (B:=wd.heap.size) (by omega) hH118.1.2.2.2.1,far2 (B:=wd.heap.size) (by omega) hH118.1.2.2.2.2⟩,((hH118.2.setCell (p:=⟨wd.heap.size,0,none⟩) (by show _<=wd.heap.size;omega) _).setCell (p:=⟨wd.heap.size,1,none⟩) (by show _<=wd.heap.size;omega) _)⟩ (fun hS126=>?_)
  clear hK K t0' t1' u0' u1'
  (try simp only[Act.put,List.setIfInBounds_toArray,List.set_cons_zero,List.set_cons_succ])
  have B_127:=heap_farW (q:=wd.heap.size) (i:=1) (v:=.slice ah nh ch) (heap_farW (q:=wd.heap.size) (i:=0) (v:=.bool sh) B_125 (by omega)) (by omega)
  have WH_128:=wh_set2W WH_120 FH_122 A_124 (.bool sh) (.slice ah nh ch) (by decide)
  have WL_129:=wh_set2W WL_121 FL_123 A_124 (.bool sh) (.slice ah nh ch) (by decide)
  have FH_130:=fresh_set2 FH_122 A_124 (.bool sh) (.slice ah nh ch) (by decide)
  have FL_131:=fresh_set2 FL_123 A_124 (.bool sh) (.slice ah nh ch) (by decide)
  have A_132:=put2_block A_124 (.bool sh) (.slice ah nh ch)
  clear B_125 WH_120 WL_121 FH_122 FL_123 A_124
  refine wpAnyH_ready (rs:=[15]) (by kernel_rfl) (by simp) ?_
  refine AllReadyH.cons (o:=({dst:=none,op:=Op.store 24 (Operand.tmp 9) (Operand.tmp 34),type:=0,pos:= "ladder.go:81",after:=#[{on:=13,ground:=Ground.data},{on:=10,ground:=Ground.data},{on:=14,ground:=Ground.chain},{on:=0,ground:=Ground.phase},{on:=1,ground:=Ground.phase},{on:=2,ground:=Ground.phase},{on:=3,ground:=Ground.phase},{on:=4,ground:=Ground.phase},{on:=5,ground:=Ground.phase},{on:=6,ground:=Ground.phase},{on:=7,ground:=Ground.phase},{on:=8,ground:=Ground.phase},{on:=9,ground:=Ground.phase},{on:=10,ground:=Ground.phase},{on:=11,ground:=Ground.textOnly Departure.lateStores},{on:=12,ground:=Ground.phase},{on:=13,ground:=Ground.phase},{on:=14,ground:=Ground.phase}],guard:=none}:Oper)) rfl (fun K hK=>?_) AllReadyH.nil
  obtain⟨t0',t1',u0',u1'⟩:=outAny B_127
  go_simp
  refine hK.out _ _ ⟨⟨far2 (B:=wa74.heap.size) (by omega) hS126.1.1,far2 (B:=wa74.heap.size) (by omega) hS126.1.2.1,far2 (B:=wa74.heap.size) (by omega) hS126.1.2.2.1,far2 (B:=wa74.heap.size) (by omega) hS126.1.2.2.2.1,far2 (B:=wa74.heap.size) (by omega) hS126.1.2.2.2.2⟩,((hS126.2.setCell (p:=⟨wa74.heap.size,0,none⟩) (by show _<=wa74.heap.size;omega) _).setCell (p:=⟨wa74.heap.size,1,none⟩) (by show _<=wa74.heap.size;omega) _)⟩ (fun hS133=>?_)
  clear hK K t0' t1' u0' u1'
  (try simp only[Act.put,List.setIfInBounds_toArray,List.set_cons_zero,List.set_cons_succ])
  have A_134:=heap_farW (q:=wa74.heap.size) (i:=1) (v:=.slice al nl cl) (heap_farW (q:=wa74.heap.size) (i:=0) (v:=.bool sl) A_132 (by omega)) (by omega)
  have WH_135:=wh_set2W WH_128 FH_130 B_127 (.bool sl) (.slice al nl cl) (by decide)
  have WL_136:=wh_set2W WL_129 FL_131 B_127 (.bool sl) (.slice al nl cl) (by decide)
  have FH_137:=fresh_set2 FH_130 B_127 (.bool sl) (.slice al nl cl) (by decide)
  have FL_138:=fresh_set2 FL_131 B_127 (.bool sl) (.slice al nl cl) (by decide)
  have B_139:=put2_block B_127 (.bool sl) (.slice al nl cl)
  clear A_132 WH_128 WL_129 FH_130 FL_131 B_127
  refine wpAnyH_take (i:=16) (oi:=({dst:=some 10,op:=Op.assign (Operand.tmp 35),type:=27,pos:= "ladder.go:81",after:=#[{on:=11,ground:=Ground.data},{on:=15,ground:=Ground.chain},{on:=0,ground:=Ground.phase},{on:=1,ground:=Ground.phase},{on:=2,ground:=Ground.phase},{on:=3,ground:=Ground.phase},{on:=4,ground:=Ground.phase},{on:=5,ground:=Ground.phase},{on:=6,ground:=Ground.phase},{on:=7,ground:=Ground.phase},{on:=8,ground:=Ground.phase},{on:=9,ground:=Ground.phase},{on:=10,ground:=Ground.phase},{on:=11,ground:=Ground.phase},{on:=12,ground:=Ground.phase},{on:=13,ground:=Ground.phase},{on:=14,ground:=Ground.phase},{on:=15,ground:=Ground.phase}],guard:=none}:Oper)) (v:=?_) rfl (by kernel_rfl) (by kernel_rfl) (by kernel_rfl) (fun _ _ _ h=>h) (Or.inl ⟨by rfl,?_⟩) (by with_reducible assumption) ?_
  rotate_left
  ·intro w hSw
   (try dsimp only at hSw)
   first|(go_simp;done)|(go_simp;with_reducible rfl)
  (try simp only[Act.put,List.setIfInBounds_toArray,List.set_cons_zero,List.set_cons_succ])
  refine wpAnyH_done (by kernel_rfl) ?_ _
  exact⟨_,_,_,_,_,_,_,_,_,_,_,_,_,_,sh,ah,nh,ch,sl,al,nl,cl,rfl,A_134,B_139,WH_135,WL_136,FH_137,FL_138,(by omega),(by omega),hS133.2⟩
 refine AllReadyH.cons (o:=({dst:=some 9,op:=Op.alloc 24,type:=0,pos:= "ladder.go:81",after:=#[],guard:=none}:Oper)) rfl (fun K hK=>?_) AllReadyH.nil
 go_simp
 refine hK.out _ _ ⟨⟨keepG ((Gr.refl wd).alloc (.cells #[.bool false,.slice none 0 0] 24)) hHeld.1.1,keepG ((Gr.refl wd).alloc (.cells #[.bool false,.slice none 0 0] 24)) hHeld.1.2.1,keepG ((Gr.refl wd).alloc (.cells #[.bool false,.slice none 0 0] 24)) hHeld.1.2.2.1,keepG ((Gr.refl wd).alloc (.cells #[.bool false,.slice none 0 0] 24)) hHeld.1.2.2.2.1,keepG ((Gr.refl wd).alloc (.cells #[.bool false,.slice none 0 0] 24)) hHeld.1.2.2.2.2⟩,hHeld.2.trans ((Gr.refl wd).alloc (.cells #[.bool false,.slice none 0 0] 24))⟩ (fun hH141=>?_)
 clear hK K
 (try simp only[Act.put,List.setIfInBounds_toArray,List.set_cons_zero,List.set_cons_succ])
 have B_143:=blk1 wd (.cells #[.bool false,.slice none 0 0] 24)
 have gg142:=(Gr.refl wd).alloc (.cells #[.bool false,.slice none 0 0] 24)
 have lB144:=hHeld.2.size
 generalize wd.alloc (.cells #[.bool false,.slice none 0 0] 24)=wa140 at *
 refine wpAnyH_ready (rs:=[7,12]) (by kernel_rfl) (by simp) ?_
 refine AllReadyH.cons (o:=({dst:=some 32,op:=Op.call {callee:=Callee.value (Operand.func 77),args:=#[Operand.tmp 25,Operand.tmp 31],argTypes:=#[24,24]},type:=99,pos:= "ladder.go:81",after:=#[{on:=0,ground:=Ground.data},{on:=6,ground:=Ground.data}],guard:=none}:Oper)) rfl (fun K hK=>?_) ?_
 ·go_simp
  with_reducible refine(X1.out _ hH141.2).mono ?_
  rintro r wc145 ⟨sh,ah,nh,ch,sl,al,nl,cl,rfl,WH_148,WL_149,FH_150,FL_151,gg147⟩
  replace WH_148:=WH_148.out
  replace WL_149:=WL_149.out
  replace FH_150:=FH_150.out
  replace FL_151:=FL_151.out
  refine hK.out _ _ ⟨⟨keepG gg147 hH141.1.1,keepG gg147 hH141.1.2.1,keepG gg147 hH141.1.2.2.1,keepG gg147 hH141.1.2.2.2.1,keepG gg147 hH141.1.2.2.2.2⟩,hH141.2.trans gg147⟩ (fun hH146=>?_)
  have hzwc145:=hH141.2.size
  clear hK K
  (try simp only[Act.put,List.setIfInBounds_toArray,List.set_cons_zero,List.set_cons_succ])
  have B_152:=keepO gg147 B_143
  clear B_143
  refine wpAnyH_take (i:=8) (oi:=({dst:=some 24,op:=Op.move (Operand.tmp 32),type:=99,pos:= "ladder.go:81",after:=#[{on:=7,ground:=Ground.data}],guard:=none}:Oper)) (v:=?_) rfl (by kernel_rfl) (by kernel_rfl) (by kernel_rfl) (fun _ _ _ h=>h) (Or.inl ⟨by rfl,?_⟩) (by with_reducible assumption) ?_
  rotate_left
  ·intro w hSw
   (try dsimp only at hSw)
   first|(go_simp;done)|(go_simp;with_reducible rfl)
  (try simp only[Act.put,List.setIfInBounds_toArray,List.set_cons_zero,List.set_cons_succ])
  refine wpAnyH_take (i:=9) (oi:=({dst:=some 33,op:=Op.extract (Operand.tmp 24) 0,type:=24,pos:= "ladder.go:81",after:=#[{on:=8,ground:=Ground.data}],guard:=none}:Oper)) (v:=?_) rfl (by kernel_rfl) (by kernel_rfl) (by kernel_rfl) (fun _ _ _ h=>h) (Or.inl ⟨by rfl,?_⟩) (by with_reducible assumption) ?_
  rotate_left
  ·intro w hSw
   (try dsimp only at hSw)
   first|(go_simp;done)|(go_simp;with_reducible rfl)
  (try simp only[Act.put,List.setIfInBounds_toArray,List.set_cons_zero,List.set_cons_succ])
  refine wpAnyH_take (i:=10) (oi:=({dst:=some 34,op:=Op.extract (Operand.tmp 24) 1,type:=24,pos:= "ladder.go:81",after:=#[{on:=8,ground:=Ground.data},{on:=14,ground:=Ground.gcOnly Departure.lateStores}],guard:=none}:Oper)) (v:=?_) rfl (by kernel_rfl) (by kernel_rfl) (by kernel_rfl) (fun _ _ _ h=>h) (Or.inl ⟨by rfl,?_⟩) (by with_reducible assumption) ?_
  rotate_left
  ·intro w hSw
   (try dsimp only at hSw)
   first|(go_simp;done)|(go_simp;with_reducible rfl)
  (try simp only[Act.put,List.setIfInBounds_toArray,List.set_cons_zero,List.set_cons_succ])
  refine wpAnyH_take (i:=11) (oi:=({dst:=some 35,op:=Op.extract (Operand.tmp 24) 2,type:=27,pos:= "ladder.go:81",after:=#[{on:=8,ground:=Ground.data},{on:=15,ground:=Ground.gcOnly Departure.lateStores}],guard:=none}:Oper)) (v:=?_) rfl (by kernel_rfl) (by kernel_rfl) (by kernel_rfl) (fun _ _ _ h=>h) (Or.inl ⟨by rfl,?_⟩) (by with_reducible assumption) ?_
  rotate_left
  ·intro w hSw
   (try dsimp only at hSw)
   first|(go_simp;done)|(go_simp;with_reducible rfl)
  (try simp only[Act.put,List.setIfInBounds_toArray,List.set_cons_zero,List.set_cons_succ])
  refine wpAnyH_ready (rs:=[12]) (by kernel_rfl) (by simp) ?_
  refine AllReadyH.cons (o:=({dst:=some 8,op:=Op.alloc 24,type:=0,pos:= "ladder.go:81",after:=#[],guard:=none}:Oper)) rfl (fun K hK=>?_) AllReadyH.nil
  have ltAB:=lt_of_get2 B_152
  go_simp
  refine hK.out _ _ ⟨⟨keepG ((Gr.refl wc145).alloc (.cells #[.bool false,.slice none 0 0] 24)) hH146.1.1,keepG ((Gr.refl wc145).alloc (.cells #[.bool false,.slice none 0 0] 24)) hH146.1.2.1,keepG ((Gr.refl wc145).alloc (.cells #[.bool false,.slice none 0 0] 24)) hH146.1.2.2.1,keepG ((Gr.refl wc145).alloc (.cells #[.bool false,.slice none 0 0] 24)) hH146.1.2.2.2.1,keepG ((Gr.refl wc145).alloc (.cells #[.bool false,.slice none 0 0] 24)) hH146.1.2.2.2.2⟩,hH146.2.trans ((Gr.refl wc145).alloc (.cells #[.bool false,.slice none 0 0] 24))⟩ (fun hH154=>?_)
  clear hK K
  (try simp only[Act.put,List.setIfInBounds_toArray,List.set_cons_zero,List.set_cons_succ])
  have A_156:=blk1 wc145 (.cells #[.bool false,.slice none 0 0] 24)
  have gg155:=(Gr.refl wc145).alloc (.cells #[.bool false,.slice none 0 0] 24)
  have lA157:=hH146.2.size
  have B_158:=keepO gg155 B_152
  clear B_152
  have WH_159:=WH_148.gr gg155
  clear WH_148
  have WL_160:=WL_149.gr gg155
  clear WL_149
  have FH_161:=FH_150.gr gg155
  clear FH_150
  have FL_162:=FL_151.gr gg155
  clear FL_151
  generalize wc145.alloc (.cells #[.bool false,.slice none 0 0] 24)=wa153 at *
  refine wpAnyH_ready (rs:=[14]) (by kernel_rfl) (by simp) ?_
  refine AllReadyH.cons (o:=({dst:=none,op:=Op.store 24 (Operand.tmp 8) (Operand.tmp 33),type:=0,pos:= "ladder.go:81",after:=#[{on:=12,ground:=Ground.data},{on:=9,ground:=Ground.data},{on:=7,ground:=Ground.chain},{on:=0,ground:=Ground.phase},{on:=1,ground:=Ground.phase},{on:=2,ground:=Ground.phase},{on:=3,ground:=Ground.phase},{on:=4,ground:=Ground.phase},{on:=5,ground:=Ground.phase},{on:=6,ground:=Ground.phase},{on:=7,ground:=Ground.phase},{on:=8,ground:=Ground.phase},{on:=9,ground:=Ground.phase},{on:=10,ground:=Ground.textOnly Departure.lateStores},{on:=11,ground:=Ground.textOnly Departure.lateStores},{on:=12,ground:=Ground.phase},{on:=13,ground:=Ground.phase}],guard:=none}:Oper)) rfl (fun K hK=>?_) AllReadyH.nil
  obtain⟨t0',t1',u0',u1'⟩:=outAny A_156
  go_simp
  refine hK.out _ _ ⟨⟨far2 (B:=wc145.heap.size) (by omega) hH154.1.1,far2 (B:=wc145.heap.size) (by omega) hH154.1.2.1,far2 (B:=wc145.heap.size) (by omega) hH154.1.2.2.1,far2 (B:=wc145.heap.size) (by omega) hH154.1.2.2.2.1,far2 (B:=wc145.heap.size) (by omega) hH154.1.2.2.2.2⟩,((hH154.2.setCell (p:=⟨wc145.heap.size,0,none⟩) (by show _<=wc145.heap.size;omega) _).setCell (p:=⟨wc145.heap.size,1,none⟩) (by show _<=wc145.heap.size;omega) _)⟩ (fun hS163=>?_)
  clear hK K t0' t1' u0' u1'
  (try simp only[Act.put,List.setIfInBounds_toArray,List.set_cons_zero,List.set_cons_succ])
  have B_164:=heap_farW (q:=wc145.heap.size) (i:=1) (v:=.slice ah nh ch) (heap_farW (q:=wc145.heap.size) (i:=0) (v:=.bool sh) B_158 (by omega)) (by omega)
  have WH_165:=wh_set2W WH_159 FH_161 A_156 (.bool sh) (.slice ah nh ch) (by decide)
  have WL_166:=wh_set2W WL_160 FL_162 A_156 (.bool sh) (.slice ah nh ch) (by decide)
  have FH_167:=fresh_set2 FH_161 A_156 (.bool sh) (.slice ah nh ch) (by decide)
  have FL_168:=fresh_set2 FL_162 A_156 (.bool sh) (.slice ah nh ch) (by decide)
  have A_169:=put2_block A_156 (.bool sh) (.slice ah nh ch)
  clear B_158 WH_159 WL_160 FH_161 FL_162 A_156
  refine wpAnyH_ready (rs:=[15]) (by kernel_rfl) (by simp) ?_
  refine AllReadyH.cons (o:=({dst:=none,op:=Op.store 24 (Operand.tmp 9) (Operand.tmp 34),type:=0,pos:= "ladder.go:81",after:=#[{on:=13,ground:=Ground.data},{on:=10,ground:=Ground.data},{on:=14,ground:=Ground.chain},{on:=0,ground:=Ground.phase},{on:=1,ground:=Ground.phase},{on:=2,ground:=Ground.phase},{on:=3,ground:=Ground.phase},{on:=4,ground:=Ground.phase},{on:=5,ground:=Ground.phase},{on:=6,ground:=Ground.phase},{on:=7,ground:=Ground.phase},{on:=8,ground:=Ground.phase},{on:=9,ground:=Ground.phase},{on:=10,ground:=Ground.phase},{on:=11,ground:=Ground.textOnly Departure.lateStores},{on:=12,ground:=Ground.phase},{on:=13,ground:=Ground.phase},{on:=14,ground:=Ground.phase}],guard:=none}:Oper)) rfl (fun K hK=>?_) AllReadyH.nil
  obtain⟨t0',t1',u0',u1'⟩:=outAny B_164
  go_simp
  refine hK.out _ _ ⟨⟨far2 (B:=wd.heap.size) (by omega) hS163.1.1,far2 (B:=wd.heap.size) (by omega) hS163.1.2.1,far2 (B:=wd.heap.size) (by omega) hS163.1.2.2.1,far2 (B:=wd.heap.size) (by omega) hS163.1.2.2.2.1,far2 (B:=wd.heap.size) (by omega) hS163.1.2.2.2.2⟩,((hS163.2.setCell (p:=⟨wd.heap.size,0,none⟩) (by show _<=wd.heap.size;omega) _).setCell (p:=⟨wd.heap.size,1,none⟩) (by show _<=wd.heap.size;omega) _)⟩ (fun hS170=>?_)
  clear hK K t0' t1' u0' u1'
  (try simp only[Act.put,List.setIfInBounds_toArray,List.set_cons_zero,List.set_cons_succ])
  have WH_171:=wh_set2W WH_165 FH_167 B_164 (.bool sl) (.slice al nl cl) (by decide)
  have WL_172:=wh_set2W WL_166 FL_168 B_164 (.bool sl) (.slice al nl cl) (by decide)
  have FH_173:=fresh_set2 FH_167 B_164 (.bool sl) (.slice al nl cl) (by decide)
  have FL_174:=fresh_set2 FL_168 B_164 (.bool sl) (.slice al nl cl) (by decide)
  have A_175:=heap_farW (q:=wd.heap.size) (i:=1) (v:=.slice al nl cl) (heap_farW (q:=wd.heap.size) (i:=0) (v:=.bool sl) A_169 (by omega)) (by omega)
  have B_176:=put2_block B_164 (.bool sl) (.slice al nl cl)
  clear WH_165 WL_166 FH_167 FL_168 A_169 B_164
  refine wpAnyH_take (i:=16) (oi:=({dst:=some 10,op:=Op.assign (Operand.tmp 35),type:=27,pos:= "ladder.go:81",after:=#[{on:=11,ground:=Ground.data},{on:=15,ground:=Ground.chain},{on:=0,ground:=Ground.phase},{on:=1,ground:=Ground.phase},{on:=2,ground:=Ground.phase},{on:=3,ground:=Ground.phase},{on:=4,ground:=Ground.phase},{on:=5,ground:=Ground.phase},{on:=6,ground:=Ground.phase},{on:=7,ground:=Ground.phase},{on:=8,ground:=Ground.phase},{on:=9,ground:=Ground.phase},{on:=10,ground:=Ground.phase},{on:=11,ground:=Ground.phase},{on:=12,ground:=Ground.phase},{on:=13,ground:=Ground.phase},{on:=14,ground:=Ground.phase},{on:=15,ground:=Ground.phase}],guard:=none}:Oper)) (v:=?_) rfl (by kernel_rfl) (by kernel_rfl) (by kernel_rfl) (fun _ _ _ h=>h) (Or.inl ⟨by rfl,?_⟩) (by with_reducible assumption) ?_
  rotate_left
  ·intro w hSw
   (try dsimp only at hSw)
   first|(go_simp;done)|(go_simp;with_reducible rfl)
  (try simp only[Act.put,List.setIfInBounds_toArray,List.set_cons_zero,List.set_cons_succ])
  refine wpAnyH_done (by kernel_rfl) ?_ _
  exact⟨_,_,_,_,_,_,_,_,_,_,_,_,_,_,sh,ah,nh,ch,sl,al,nl,cl,rfl,A_175,B_176,WH_171,WL_172,FH_173,FL_174,(by omega),(by omega),hS170.2⟩
 refine AllReadyH.cons (o:=({dst:=some 8,op:=Op.alloc 24,type:=0,pos:= "ladder.go:81",after:=#[],guard:=none}:Oper)) rfl (fun K hK=>?_) AllReadyH.nil
 have ltAB:=lt_of_get2 B_143
 go_simp
 refine hK.out _ _ ⟨⟨keepG ((Gr.refl wa140).alloc (.cells #[.bool false,.slice none 0 0] 24)) hH141.1.1,keepG ((Gr.refl wa140).alloc (.cells #[.bool false,.slice none 0 0] 24)) hH141.1.2.1,keepG ((Gr.refl wa140).alloc (.cells #[.bool false,.slice none 0 0] 24)) hH141.1.2.2.1,keepG ((Gr.refl wa140).alloc (.cells #[.bool false,.slice none 0 0] 24)) hH141.1.2.2.2.1,keepG ((Gr.refl wa140).alloc (.cells #[.bool false,.slice none 0 0] 24)) hH141.1.2.2.2.2⟩,hH141.2.trans ((Gr.refl wa140).alloc (.cells #[.bool false,.slice none 0 0] 24))⟩ (fun hH178=>?_)
 clear hK K
 (try simp only[Act.put,List.setIfInBounds_toArray,List.set_cons_zero,List.set_cons_succ])
 have A_180:=blk1 wa140 (.cells #[.bool false,.slice none 0 0] 24)
 have gg179:=(Gr.refl wa140).alloc (.cells #[.bool false,.slice none 0 0] 24)
 have lA181:=hH141.2.size
 have B_182:=keepO gg179 B_143
 clear B_143
 generalize wa140.alloc (.cells #[.bool false,.slice none 0 0] 24)=wa177 at *
 refine wpAnyH_ready (rs:=[7]) (by kernel_rfl) (by simp) ?_
 refine AllReadyH.cons (o:=({dst:=some 32,op:=Op.call {callee:=Callee.value (Operand.func 77),args:=#[Operand.tmp 25,Operand.tmp 31],argTypes:=#[24,24]},type:=99,pos:= "ladder.go:81",after:=#[{on:=0,ground:=Ground.data},{on:=6,ground:=Ground.data}],guard:=none}:Oper)) rfl (fun K hK=>?_) AllReadyH.nil
 go_simp
 with_reducible refine(X1.out _ hH178.2).mono ?_
 rintro r wc183 ⟨sh,ah,nh,ch,sl,al,nl,cl,rfl,WH_186,WL_187,FH_188,FL_189,gg185⟩
 replace WH_186:=WH_186.out
 replace WL_187:=WL_187.out
 replace FH_188:=FH_188.out
 replace FL_189:=FL_189.out
 refine hK.out _ _ ⟨⟨keepG gg185 hH178.1.1,keepG gg185 hH178.1.2.1,keepG gg185 hH178.1.2.2.1,keepG gg185 hH178.1.2.2.2.1,keepG gg185 hH178.1.2.2.2.2⟩,hH178.2.trans gg185⟩ (fun hH184=>?_)
 have hzwc183:=hH178.2.size
 clear hK K
 (try simp only[Act.put,List.setIfInBounds_toArray,List.set_cons_zero,List.set_cons_succ])
 have B_190:=keepO gg185 B_182
 clear B_182
 have A_191:=keepO gg185 A_180
 clear A_180
 refine wpAnyH_take (i:=8) (oi:=({dst:=some 24,op:=Op.move (Operand.tmp 32),type:=99,pos:= "ladder.go:81",after:=#[{on:=7,ground:=Ground.data}],guard:=none}:Oper)) (v:=?_) rfl (by kernel_rfl) (by kernel_rfl) (by kernel_rfl) (fun _ _ _ h=>h) (Or.inl ⟨by rfl,?_⟩) (by with_reducible assumption) ?_
 rotate_left
 ·intro w hSw
  (try dsimp only at hSw)
  first|(go_simp;done)|(go_simp;with_reducible rfl)
 (try simp only[Act.put,List.setIfInBounds_toArray,List.set_cons_zero,List.set_cons_succ])
 refine wpAnyH_take (i:=9) (oi:=({dst:=some 33,op:=Op.extract (Operand.tmp 24) 0,type:=24,pos:= "ladder.go:81",after:=#[{on:=8,ground:=Ground.data}],guard:=none}:Oper)) (v:=?_) rfl (by kernel_rfl) (by kernel_rfl) (by kernel_rfl) (fun _ _ _ h=>h) (Or.inl ⟨by rfl,?_⟩) (by with_reducible assumption) ?_
 rotate_left
 ·intro w hSw
  (try dsimp only at hSw)
  first|(go_simp;done)|(go_simp;with_reducible rfl)
 (try simp only[Act.put,List.setIfInBounds_toArray,List.set_cons_zero,List.set_cons_succ])
 refine wpAnyH_take (i:=10) (oi:=({dst:=some 34,op:=Op.extract (Operand.tmp 24) 1,type:=24,pos:= "ladder.go:81",after:=#[{on:=8,ground:=Ground.data},{on:=14,ground:=Ground.gcOnly Departure.lateStores}],guard:=none}:Oper)) (v:=?_) rfl (by kernel_rfl) (by kernel_rfl) (by kernel_rfl) (fun _ _ _ h=>h) (Or.inl ⟨by rfl,?_⟩) (by with_reducible assumption) ?_
 rotate_left
 ·intro w hSw
  (try dsimp only at hSw)
  first|(go_simp;done)|(go_simp;with_reducible rfl)
 (try simp only[Act.put,List.setIfInBounds_toArray,List.set_cons_zero,List.set_cons_succ])
 refine wpAnyH_take (i:=11) (oi:=({dst:=some 35,op:=Op.extract (Operand.tmp 24) 2,type:=27,pos:= "ladder.go:81",after:=#[{on:=8,ground:=Ground.data},{on:=15,ground:=Ground.gcOnly Departure.lateStores}],guard:=none}:Oper)) (v:=?_) rfl (by kernel_rfl) (by kernel_rfl) (by kernel_rfl) (fun _ _ _ h=>h) (Or.inl ⟨by rfl,?_⟩) (by with_reducible assumption) ?_
 rotate_left
 ·intro w hSw
  (try dsimp only at hSw)
  first|(go_simp;done)|(go_simp;with_reducible rfl)
 (try simp only[Act.put,List.setIfInBounds_toArray,List.set_cons_zero,List.set_cons_succ])
 refine wpAnyH_ready (rs:=[14]) (by kernel_rfl) (by simp) ?_
 refine AllReadyH.cons (o:=({dst:=none,op:=Op.store 24 (Operand.tmp 8) (Operand.tmp 33),type:=0,pos:= "ladder.go:81",after:=#[{on:=12,ground:=Ground.data},{on:=9,ground:=Ground.data},{on:=7,ground:=Ground.chain},{on:=0,ground:=Ground.phase},{on:=1,ground:=Ground.phase},{on:=2,ground:=Ground.phase},{on:=3,ground:=Ground.phase},{on:=4,ground:=Ground.phase},{on:=5,ground:=Ground.phase},{on:=6,ground:=Ground.phase},{on:=7,ground:=Ground.phase},{on:=8,ground:=Ground.phase},{on:=9,ground:=Ground.phase},{on:=10,ground:=Ground.textOnly Departure.lateStores},{on:=11,ground:=Ground.textOnly Departure.lateStores},{on:=12,ground:=Ground.phase},{on:=13,ground:=Ground.phase}],guard:=none}:Oper)) rfl (fun K hK=>?_) AllReadyH.nil
 obtain⟨t0',t1',u0',u1'⟩:=outAny A_191
 go_simp
 refine hK.out _ _ ⟨⟨far2 (B:=wa140.heap.size) (by omega) hH184.1.1,far2 (B:=wa140.heap.size) (by omega) hH184.1.2.1,far2 (B:=wa140.heap.size) (by omega) hH184.1.2.2.1,far2 (B:=wa140.heap.size) (by omega) hH184.1.2.2.2.1,far2 (B:=wa140.heap.size) (by omega) hH184.1.2.2.2.2⟩,((hH184.2.setCell (p:=⟨wa140.heap.size,0,none⟩) (by show _<=wa140.heap.size;omega) _).setCell (p:=⟨wa140.heap.size,1,none⟩) (by show _<=wa140.heap.size;omega) _)⟩ (fun hS192=>?_)
 clear hK K t0' t1' u0' u1'
 (try simp only[Act.put,List.setIfInBounds_toArray,List.set_cons_zero,List.set_cons_succ])
 have B_193:=heap_farW (q:=wa140.heap.size) (i:=1) (v:=.slice ah nh ch) (heap_farW (q:=wa140.heap.size) (i:=0) (v:=.bool sh) B_190 (by omega)) (by omega)
 have WH_194:=wh_set2W WH_186 FH_188 A_191 (.bool sh) (.slice ah nh ch) (by decide)
 have WL_195:=wh_set2W WL_187 FL_189 A_191 (.bool sh) (.slice ah nh ch) (by decide)
 have FH_196:=fresh_set2 FH_188 A_191 (.bool sh) (.slice ah nh ch) (by decide)
 have FL_197:=fresh_set2 FL_189 A_191 (.bool sh) (.slice ah nh ch) (by decide)
 have A_198:=put2_block A_191 (.bool sh) (.slice ah nh ch)
 clear B_190 WH_186 WL_187 FH_188 FL_189 A_191
 refine wpAnyH_ready (rs:=[15]) (by kernel_rfl) (by simp) ?_
 refine AllReadyH.cons (o:=({dst:=none,op:=Op.store 24 (Operand.tmp 9) (Operand.tmp 34),type:=0,pos:= "ladder.go:81",after:=#[{on:=13,ground:=Ground.data},{on:=10,ground:=Ground.data},{on:=14,ground:=Ground.chain},{on:=0,ground:=Ground.phase},{on:=1,ground:=Ground.phase},{on:=2,ground:=Ground.phase},{on:=3,ground:=Ground.phase},{on:=4,ground:=Ground.phase},{on:=5,ground:=Ground.phase},{on:=6,ground:=Ground.phase},{on:=7,ground:=Ground.phase},{on:=8,ground:=Ground.phase},{on:=9,ground:=Ground.phase},{on:=10,ground:=Ground.phase},{on:=11,ground:=Ground.textOnly Departure.lateStores},{on:=12,ground:=Ground.phase},{on:=13,ground:=Ground.phase},{on:=14,ground:=Ground.phase}],guard:=none}:Oper)) rfl (fun K hK=>?_) AllReadyH.nil
 obtain⟨t0',t1',u0',u1'⟩:=outAny B_193
 go_simp
 refine hK.out _ _ ⟨⟨far2 (B:=wd.heap.size) (by omega) hS192.1.1,far2 (B:=wd.heap.size) (by omega) hS192.1.2.1,far2 (B:=wd.heap.size) (by omega) hS192.1.2.2.1,far2 (B:=wd.heap.size) (by omega) hS192.1.2.2.2.1,far2 (B:=wd.heap.size) (by omega) hS192.1.2.2.2.2⟩,((hS192.2.setCell (p:=⟨wd.heap.size,0,none⟩) (by show _<=wd.heap.size;omega) _).setCell (p:=⟨wd.heap.size,1,none⟩) (by show _<=wd.heap.size;omega) _)⟩ (fun hS199=>?_)
 clear hK K t0' t1' u0' u1'
 (try simp only[Act.put,List.setIfInBounds_toArray,List.set_cons_zero,List.set_cons_succ])
 have A_200:=heap_farW (q:=wd.heap.size) (i:=1) (v:=.slice al nl cl) (heap_farW (q:=wd.heap.size) (i:=0) (v:=.bool sl) A_198 (by omega)) (by omega)
 have WH_201:=wh_set2W WH_194 FH_196 B_193 (.bool sl) (.slice al nl cl) (by decide)
 have WL_202:=wh_set2W WL_195 FL_197 B_193 (.bool sl) (.slice al nl cl) (by decide)
 have FH_203:=fresh_set2 FH_196 B_193 (.bool sl) (.slice al nl cl) (by decide)
 have FL_204:=fresh_set2 FL_197 B_193 (.bool sl) (.slice al nl cl) (by decide)
 have B_205:=put2_block B_193 (.bool sl) (.slice al nl cl)
 clear A_198 WH_194 WL_195 FH_196 FL_197 B_193
 refine wpAnyH_take (i:=16) (oi:=({dst:=some 10,op:=Op.assign (Operand.tmp 35),type:=27,pos:= "ladder.go:81",after:=#[{on:=11,ground:=Ground.data},{on:=15,ground:=Ground.chain},{on:=0,ground:=Ground.phase},{on:=1,ground:=Ground.phase},{on:=2,ground:=Ground.phase},{on:=3,ground:=Ground.phase},{on:=4,ground:=Ground.phase},{on:=5,ground:=Ground.phase},{on:=6,ground:=Ground.phase},{on:=7,ground:=Ground.phase},{on:=8,ground:=Ground.phase},{on:=9,ground:=Ground.phase},{on:=10,ground:=Ground.phase},{on:=11,ground:=Ground.phase},{on:=12,ground:=Ground.phase},{on:=13,ground:=Ground.phase},{on:=14,ground:=Ground.phase},{on:=15,ground:=Ground.phase}],guard:=none}:Oper)) (v:=?_) rfl (by kernel_rfl) (by kernel_rfl) (by kernel_rfl) (fun _ _ _ h=>h) (Or.inl ⟨by rfl,?_⟩) (by with_reducible assumption) ?_
 rotate_left
 ·intro w hSw
  (try dsimp only at hSw)
  first|(go_simp;done)|(go_simp;with_reducible rfl)
 (try simp only[Act.put,List.setIfInBounds_toArray,List.set_cons_zero,List.set_cons_succ])
 refine wpAnyH_done (by kernel_rfl) ?_ _
 exact⟨_,_,_,_,_,_,_,_,_,_,_,_,_,_,sh,ah,nh,ch,sl,al,nl,cl,rfl,A_200,B_205,WH_201,WL_202,FH_203,FL_204,(by omega),(by omega),hS199.2⟩
end Go.Proofs.YtapnglidnblmcaaGreat
