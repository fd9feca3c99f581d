import Derived.Test.YtapnglidnblmcaaGreatQ21
import Derived.Test.YtapnglidnblmcaaGreatQ05
import Derived.Test.YtapnglidnblmcaaGreatQ06
import Derived.Laws.OwnMore
import Derived.Deep.RegionHeld3
namespace Go.Proofs.YtapnglidnblmcaaGreat
open Go.RowKit
set_option linter.unusedVariables false
set_option linter.unusedSimpArgs false
set_option maxHeartbeats 1600000 in
theorem squareT (s:Bool) (ad:Option Addr) (n cap:Nat) (X:Int) (w:World) (hx:Wh w s ad n cap X) :
  Calls Tryz.prog 75 #[.agg #[.bool s,.slice ad n cap]] w fun r w'=>∃a b c d e,r = .returned (.tuple #[.agg #[.bool a,.slice b c d],.int .i64 e])/\Hid (Tol w.heap.size w' a b c d e (X*X))/\Gr w w':=by
 have ML:Hid (∀w1,Gr w w1->Calls Tryz.prog 85 #[.agg #[.bool s,.slice ad n cap],.agg #[.bool s,.slice ad n cap]] w1 fun r w'=>∃a b c d e,r = .returned (.tuple #[.agg #[.bool a,.slice b c d],.int .i64 e])/\Hid (Tol w1.heap.size w' a b c d e (X*X))/\Gr w1 w'):=fun w1 g=>mulT s s ad ad n n cap cap X X w1 (hx.gr g) (hx.gr g)
 obtain⟨H1,HO⟩:=blk2 w (.cells #[.bool s,.slice ad n cap] 24) (.cells #[.bool false,.slice none 0 0] 24)
 have GW:Gr w ((w.alloc (.cells #[.bool s,.slice ad n cap] 24)).alloc (.cells #[.bool false,.slice none 0 0] 24)):=((Gr.refl w).alloc _).alloc _
 obtain⟨x1,y1⟩:=bx2 H1
 clear hx
 go_enter Tryz.func75,Tryz.ntmps75
 go_wp2_with (go_at_call 85;(with_reducible refine(ML.out _ GW).mono ?_);rintro r w1 ⟨a5,b5,c5,d5,e5,rfl,T5,g1⟩;replace HO:=keepO g1 HO;have lz:=GW.size;replace GW:=GW.trans g1;obtain⟨xO,yO,vO,zO⟩:=outAny HO)
 have PO:=put2_block HO (.bool a5) (.slice b5 c5 d5)
 obtain⟨e0,e1⟩:=bx2 PO
 refine bodyPost_ret (v:=.tuple #[.agg #[.bool a5,.slice b5 c5 d5],.int .i64 e5]) ?_ rfl ⟨a5,b5,c5,d5,e5,rfl,(T5.out.low lz).set2 HO _ _ (by decide),(GW.setCell (p:=⟨(w.heap.size+1),0,none⟩) (by show _<=(w.heap.size+1);omega) (.bool a5)).setCell (p:=⟨(w.heap.size+1),1,none⟩) (by show _<=(w.heap.size+1);omega) (.slice b5 c5 d5)⟩
 simp[results,Tryz.results75,go_sem,e0,e1]
theorem ofLimbB (x:Nat) (hx:x<18446744073709551616) (w:World) :
  Calls Tryz.prog 74 #[.int .u64 (x:Int)] w fun r w'=>∃a b c d,r = .returned (.agg #[.bool a,.slice b c d])/\Hid (Wh w' a b c d (x:Int))/\Hid (Fresh w.heap.size w' b c d)/\Gr w w':=by
 have GW:Gr w (w.alloc (.cells #[.bool false,.slice none 0 0] 24)):=(Gr.refl w).alloc _
 have HO:=blk1 w (.cells #[.bool false,.slice none 0 0] 24)
 obtain⟨xO,yO,vO,zO⟩:=outAny HO
 by_cases h0:x=0
 ·subst h0
  go_enter Tryz.func74,Tryz.ntmps74
  go_wp2
  obtain⟨e0,e1⟩:=bx2 (blk1 w (.cells #[.bool false,.slice none 0 0] 24))
  refine bodyPost_ret (v:=.agg #[.bool false,.slice none 0 0]) ?_ rfl ⟨false,none,0,0,rfl,Wh.nil _,Fresh.nil _ _,(Gr.refl w).alloc _⟩
  simp[results,Tryz.results74,go_sem,e0,e1]
 ·have e0:((x:Int)==0)=false:=by simp;omega
  go_enter Tryz.func74,Tryz.ntmps74
  go_wp2
  have hs:(w.alloc (.cells #[.bool false,.slice (some ⟨w.heap.size+1,0,none⟩) 1 1] 24)).heap.size=w.heap.size+1:=by simp
  have WV:=wh1 (w.alloc (.cells #[.bool false,.slice (some ⟨w.heap.size+1,0,none⟩) 1 1] 24)) false x (by omega) hx
  have FV0:Fresh (w.alloc (.cells #[.bool false,.slice (some ⟨w.heap.size+1,0,none⟩) 1 1] 24)).heap.size _ _ 1 1:=⟨[x],own1 (w.alloc (.cells #[.bool false,.slice (some ⟨w.heap.size+1,0,none⟩) 1 1] 24)) x⟩
  have FV:=FV0.low (show w.heap.size<=_ by rw[hs];omega)
  rw[hs] at WV FV
  have HO2:=keepO ((Gr.refl (w.alloc (.cells #[.bool false,.slice (some ⟨w.heap.size+1,0,none⟩) 1 1] 24))).alloc (.cells #[.int .u64 (x:Int)] 71)) (blk1 w (.cells #[.bool false,.slice (some ⟨w.heap.size+1,0,none⟩) 1 1] 24))
  obtain⟨e0,e1⟩:=bx2 HO2
  refine bodyPost_ret (v:=.agg #[.bool false,.slice (some ⟨w.heap.size+1,0,none⟩) 1 1]) ?_ rfl ⟨false,_,1,1,rfl,WV.to (by simp[iv]),FV,((Gr.refl w).alloc _).alloc _⟩
  simp[results,Tryz.results74,go_sem,e0,e1]
theorem Tryz.infoW2:(Tryz.prog.info? 24).map (fun i=>(i.zero,i.size,i.bytes))=some (some (.agg #[.bool false,.slice none 0 0]),2,32):=by kernel_rfl
theorem wpList_pushW {w0:World} {ops:Array Oper} {rest:List Oper} {o:Oper} {a:Act} {Q:Exit->Act->World->Prop} (hgd:o.guard=none) (s x:Operand)
  (ho:o.op = .call {callee:=.builtin .append,args:=#[s,x],argTypes:=#[81,81]}) {base:Nat} {v:Value} {n:Nat} {zs:List Value} (hown:w0.ownsRow base 24 2 v n zs) (y:Bool) (q:Option Addr) (m d:Nat)
  (hs:a.eval s=v) (hx:a.eval x = .slice (some ⟨w0.heap.size,0,none⟩) 1 1) (hn:n<=1000000) (hb:base<=w0.heap.size)
  (h:∀v' w',w'.ownsRow base 24 2 v' (n+1) (zs++[.bool y,.slice q m d])->(w0.alloc (.cells #[.bool y,.slice q m d] 24)).grownBy w' v.ownBlock->wpList Tryz.prog ops Q rest (a.put o.dst v') w') :
  wpList Tryz.prog ops Q (o :: rest) a (w0.alloc (.cells #[.bool y,.slice q m d] 24)):=by
 obtain⟨i0,hi,hz0,hz1,hz2⟩:=info_parts Tryz.infoW2
 refine wpList_append_own _ hgd s x 81 ho base 24 i0 (.agg #[.bool false,.slice none 0 0]) 2 32 Tryz.underlying81 hi hz0 hz1 hz2 rfl (by decide) v n zs hs (hown.alloc _) ⟨w0.heap.size,0,none⟩ 1 1 [.bool y,.slice q m d] hx (by simp) ?_ ?_ (by unfold maxLen;omega) (by omega) (by simp;omega) ?_
 ·intro j u hj
  match j,hj with
  | 0,hj=>simp at hj;subst hj;simp[Addr.add]
  | 1,hj=>simp at hj;subst hj;simp[Addr.add]
  | j+2,hj=>simp at hj
 ·intro u hu
  simp only[List.mem_cons,List.not_mem_nil,or_false] at hu
  rcases hu with rfl|rfl <;> rfl
 ·intro v' w' hown' hgr _
  exact h v' w' hown' hgr
theorem Fresh.adne {B:Nat} {w:World} {ad:Option Addr} {n cap:Nat} (h:Fresh B w ad n cap) {v:Value} {base j:Nat} {xs:List Value} (ho:w.ownsRow base 24 2 v j xs):∀b,ad=some b->some b.block≠v.ownBlock:=by
 intro b e
 rcases ho.2 with ⟨rfl,_⟩|⟨g,cap',cur,rfl,hb,hg,_⟩
 ·simp[Value.ownBlock]
 ·have:=h.ne hg (by decide) b e
  simp only[Value.ownBlock,ne_eq,Option.some.injEq]
  exact this
theorem Row.gb {w w':World} {row:Option Nat} {ad:Option Addr} {n cap:Nat} {xs:List Nat} (h:Row w ad n cap xs) (g:w.grownBy w' row) (hne:∀b,ad=some b->some b.block≠row):Row w' ad n cap xs:=by
 refine⟨h.len,h.le,h.max,h.nil,fun hp=>?_⟩
 obtain⟨b,off,e,hb,hc⟩:=h.cells hp
 refine⟨b,off,e,Nat.lt_of_lt_of_le hb g.size,fun j hj=>?_⟩
 rw[World.cell?_of_block (w:=w) (a:=⟨b,off+j,none⟩) (g.block b hb (hne _ e))]
 exact hc j hj
theorem Wh.gb {w w':World} {row:Option Nat} {s:Bool} {ad:Option Addr} {n cap:Nat} {X:Int} (h:Wh w s ad n cap X) (g:w.grownBy w' row) (hne:∀b,ad=some b->some b.block≠row):Wh w' s ad n cap X:=by
 obtain⟨xs,h1,h2⟩:=h.lim
 exact⟨⟨xs,h1.gb g hne,h2⟩,h.le,h.zero,h.val⟩
theorem Fresh.gb {B:Nat} {w w':World} {row:Option Nat} {ad:Option Addr} {n cap:Nat} (h:Fresh B w ad n cap) (g:w.grownBy w' row) (hne:∀b,ad=some b->some b.block≠row):Fresh B w' ad n cap:=by
 obtain⟨xs,ho⟩:=h
 refine⟨xs,ho.1,?_⟩
 rcases ho.2 with hn|⟨g',cap',cur,e1,hb,hgg,rest⟩
 ·exact .inl hn
 ·refine .inr ⟨g',cap',cur,e1,hb,?_,rest⟩
  rw[g.block g' (Array.getElem?_eq_some_iff.1 hgg).1 ?_]
  ·exact hgg
  ·simp only[Value.slice.injEq] at e1
   exact hne ⟨g',0,none⟩ e1.1
structure LR (w:World) (B F:Nat) (v:Value) (j P:Nat) (xs:List Value):Prop where
 own:w.ownsRow B 24 2 v j xs
 elem:∀k,k<j->∃a q m d,xs[k*2]? = some (.bool a)/\xs[k*2+1]? = some (.slice q m d)/\Wh w a q m d ((P ^ 2 ^ k:Nat):Int)/\Fresh F w q m d
theorem LR.gr {w w':World} {B F:Nat} {v:Value} {j P:Nat} {xs:List Value} (h:LR w B F v j P xs) (g:Gr w w'):LR w' B F v j P xs:=by
 refine⟨g.owns h.own,fun k hk=>?_⟩
 obtain⟨a,q,m,d,h1,h2,h3,h4⟩:=h.elem k hk
 exact⟨a,q,m,d,h1,h2,h3.gr g,h4.gr g⟩
theorem owns_below {w:World} {base:Nat} {e:TypeId} {size:Nat} {v:Value} {n:Nat} {xs:List Value} (ho:w.ownsRow base e size v n xs) {p:Addr} (hp:p.block<base) (u:Value):(w.setCell p u).ownsRow base e size v n xs:=by
 refine⟨ho.1,?_⟩
 rcases ho.2 with hn|⟨g,cap,cur,rfl,hb,hgg,rest⟩
 ·exact .inl hn
 ·refine .inr ⟨g,cap,cur,rfl,hb,?_,rest⟩
  exact(Below.heap_setCell _ _ _ _ (by omega)).trans hgg
theorem LR.set {w:World} {B F:Nat} {v:Value} {j P:Nat} {xs:List Value} (h:LR w B F v j P xs) {b i:Nat} {cs:Array Value} {T:TypeId} {fr:Nat × Nat} (hb:w.heap[b]? = some (.cells cs T fr)) (hT:T≠71) (hlt:b<B) (u:Value):LR (w.setCell ⟨b,i,none⟩ u) B F v j P xs:=by
 refine⟨owns_below h.own hlt u,fun k hk=>?_⟩
 obtain⟨a,q,m,d,h1,h2,h3,h4⟩:=h.elem k hk
 have hne:=h4.ne hb hT
 exact⟨a,q,m,d,h1,h2,h3.far hne _,h4.far hne _⟩
theorem LR.push {w w':World} {B F:Nat} {v v':Value} {j P:Nat} {xs:List Value} {a:Bool} {q:Option Addr} {m d:Nat} (h:LR w B F v j P xs) (hw:Wh w a q m d ((P ^ 2 ^ j:Nat):Int)) (hf:Fresh F w q m d)
  (ho:w'.ownsRow B 24 2 v' (j+1) (xs++[.bool a,.slice q m d])) (hg:(w.alloc (.cells #[.bool a,.slice q m d] 24)).grownBy w' v.ownBlock):LR w' B F v' (j+1) P (xs++[.bool a,.slice q m d]):=by
 have ga:Gr w (w.alloc (.cells #[.bool a,.slice q m d] 24)):=(Gr.refl w).alloc _
 have h1:=h.gr ga
 have hl:xs.length=j*2:=h.own.1
 refine⟨ho,fun k hk=>?_⟩
 by_cases hkj:k<j
 ·obtain⟨a',q',m',d',e1,e2,e3,e4⟩:=h1.elem k hkj
  have hne:=e4.adne h1.own
  exact⟨a',q',m',d',by rw[List.getElem?_append_left (by omega)];exact e1,by rw[List.getElem?_append_left (by omega)];exact e2,e3.gb hg hne,e4.gb hg hne⟩
 ·obtain rfl:k=j:=by omega
  have hne:=(hf.gr ga).adne h1.own
  refine⟨a,q,m,d,?_,?_,(hw.gr ga).gb hg hne,(hf.gr ga).gb hg hne⟩
  ·rw[List.getElem?_append_right (by omega),hl,Nat.sub_self];rfl
  ·rw[List.getElem?_append_right (by omega),hl,show k*2+1-k*2=1 by omega];rfl
theorem LR.nil (w:World) (B F P:Nat):LR w B F (.slice none 0 0) 0 P []:=⟨World.ownsRow_nil _ _ _ _,fun k hk=>absurd hk (by omega)⟩
theorem LR.shape {w:World} {B F:Nat} {v:Value} {j P:Nat} {xs:List Value} (h:LR w B F v j P xs):∃la lc,v = .slice la j lc:=by
 rcases h.own.2 with ⟨rfl,rfl⟩|⟨g,cap,cur,rfl,_⟩
 ·exact⟨none,0,rfl⟩
 ·exact⟨_,cap,rfl⟩
theorem LR.ld {w:World} {B F:Nat} {la:Option Addr} {j lc P:Nat} {xs:List Value} (h:LR w B F (.slice la j lc) j P xs):Ld w P la j lc:=by
 rcases h.own.2 with ⟨e,rfl⟩|⟨g,cap,cur,e,hb,hg,h1,h2,h3,h4⟩
 ·simp only[Value.slice.injEq] at e
  obtain⟨rfl,-,rfl⟩:=e
  exact⟨Nat.le_refl _,by omega,fun _=>⟨rfl,rfl⟩,fun k hk=>absurd hk (by omega)⟩
 ·simp only[Value.slice.injEq,true_and] at e
  obtain⟨rfl,rfl⟩:=e
  refine⟨h1,h2,(fun e=>by cases e),fun k hk=>?_⟩
  obtain⟨a,q,m,d,e1,e2,e3,e4⟩:=h.elem k hk
  have hl:xs.length=j*2:=h.own.1
  exact⟨g,a,q,m,d,rfl,(World.ownsRow.cellAt h.own (k*2) (by omega)).trans e1,(World.ownsRow.cellAt h.own (k*2+1) (by omega)).trans e2,e3⟩
structure R8 (w:World) (g o n:Nat) (ds:List Nat):Prop where
 len:ds.length=n
 cell:∀j,j<n->w.cell? ⟨g,o+j,none⟩=some (.int .u8 ((ds.getD j 0:Nat):Int))
theorem R8.gr {w w':World} {g o n:Nat} {ds:List Nat} (h:R8 w g o n ds) (k:Gr w w'):R8 w' g o n ds:=⟨h.len,fun j hj=>keepG k (h.cell j hj)⟩
theorem R8.take {w:World} {g o n k:Nat} {ds:List Nat} (h:R8 w g o n ds) (hk:k<=n):R8 w g o k (ds.take k):=by
 refine⟨by rw[List.length_take,h.len];omega,fun j hj=>?_⟩
 rw[h.cell j (by omega),List.getD_eq_getElem?_getD,List.getD_eq_getElem?_getD,List.getElem?_take_of_lt hj]
theorem R8.drop {w:World} {g o n k:Nat} {ds:List Nat} (h:R8 w g o n ds) (hk:k<=n):R8 w g (o+k) (n-k) (ds.drop k):=by
 refine⟨by rw[List.length_drop,h.len],fun j hj=>?_⟩
 rw[Nat.add_assoc,h.cell (k+j) (by omega),List.getD_eq_getElem?_getD,List.getD_eq_getElem?_getD,List.getElem?_drop]
theorem R8.of {w:World} {B:Nat} {v:Value} {n:Nat} {ds:List Nat} (h:w.ownsRow B 5 1 v n (b8 ds)) (hn:0<n):∃g c,v = .slice (some ⟨g,0,none⟩) n c/\n<=c/\c<=9223372036854775807/\R8 w g 0 n ds:=by
 have hl:ds.length=n:=by have:=h.1;rw[b8_length] at this;omega
 rcases h.2 with ⟨_,h0⟩|⟨g,cap,cur,rfl,hb,hg,h1,h2,h3,h4⟩
 ·omega
 ·refine⟨g,cap,rfl,h1,h2,hl,fun j hj=>?_⟩
  rw[Nat.zero_add,World.ownsRow.cellAt h j (by omega),b8_getD (by omega)]
set_option maxHeartbeats 1000000 in
theorem readPieceB (b p g o n c:Nat) (la:Option Addr) (ln lc:Nat) (ds:List Nat) (w:World) (h2:2<=b) (h36:b<=36) (hr:R8 w g o n ds) (hlt:∀d∈ds,d<b) (hP:b ^ n<18446744073709551616) (hn:n<=1048576) :
  Calls Tryz.prog 84 #[.agg #[.int .i64 (b:Int),.int .i64 (p:Int),.slice la ln lc],.slice (some ⟨g,o,none⟩) n c] w
   fun r w'=>∃a b' c' d,r = .returned (.agg #[.bool a,.slice b' c' d])/\Hid (Wh w' a b' c' d ((Bs.wv b ds:Nat):Int))/\Hid (Fresh w.heap.size w' b' c' d)/\Gr w w':=by
 obtain⟨H1,H2⟩:=blk2 w (.cells #[.int .i64 (b:Int),.int .i64 (p:Int),.slice la ln lc] 83) (.cells #[.bool false,.slice none 0 0] 24)
 have GW:Gr w ((w.alloc (.cells #[.int .i64 (b:Int),.int .i64 (p:Int),.slice la ln lc] 83)).alloc (.cells #[.bool false,.slice none 0 0] 24)):=((Gr.refl w).alloc _).alloc _
 obtain⟨x0,x1,x2⟩:=lad_box H1
 have hr':=hr.gr GW
 have HR:Hid (R8 ((w.alloc (.cells #[.int .i64 (b:Int),.int .i64 (p:Int),.slice la ln lc] 83)).alloc (.cells #[.bool false,.slice none 0 0] 24)) g o n ds):=hr'
 have HLT:Hid (∀d∈ds,d<b):=hlt
 have hl:=hr.len
 have OL:Hid (∀(x:Nat) w1,x<18446744073709551616->Calls Tryz.prog 74 #[.int .u64 (x:Int)] w1 fun r w'=>∃a b c d,r = .returned (.agg #[.bool a,.slice b c d])/\Hid (Wh w' a b c d (x:Int))/\Hid (Fresh w1.heap.size w' b c d)/\Gr w1 w'):=fun x w1 hx=>ofLimbB x hx w1
 have HG:Hid (Gr w ((w.alloc (.cells #[.int .i64 (b:Int),.int .i64 (p:Int),.slice la ln lc] 83)).alloc (.cells #[.bool false,.slice none 0 0] 24))):=GW
 have HO:Hid (((w.alloc (.cells #[.int .i64 (b:Int),.int .i64 (p:Int),.slice la ln lc] 83)).alloc (.cells #[.bool false,.slice none 0 0] 24)).heap[w.heap.size+1]? = some (.cells #[.bool false,.slice none 0 0] 24)):=H2
 have hWV:∀j,j<=n->Bs.wv b (ds.take j)<18446744073709551616:=fun j hj=>by
  have h1:=Bs.wv_lt (b:=b) (ds:=ds.take j) (fun d hd=>hlt d (List.mem_of_mem_take hd))
  rw[List.length_take,hl,Nat.min_eq_left hj] at h1
  have h3:b ^ j<=b ^ n:=Nat.pow_le_pow_right (by omega) hj
  omega
 have HWV:Hid (∀j,j<=n->Bs.wv b (ds.take j)<18446744073709551616):=hWV
 clear hr hr' hlt H1 H2 GW hP hWV
 go_enter Tryz.func84,Tryz.ntmps84
 go_wp2
 generalize ((w.alloc (.cells #[.int .i64 (b:Int),.int .i64 (p:Int),.slice la ln lc] 83)).alloc (.cells #[.bool false,.slice none 0 0] 24))=w2 at *
 go_loopw [5,10] (fun z i wr=>∃j x:Nat,j<=n/\i = .int .i64 (j:Int)/\z = .int .u64 (x:Int)/\x<18446744073709551616/\Hid (x=Bs.wv b (ds.take j))/\wr=w2) (fun _ i _=>n-(intOf i).toNat)
 case atStart=>exact⟨0,0,by omega,rfl,rfl,by omega,(by rw[List.take_zero];exact rfl),rfl⟩
 case round =>
  obtain⟨j,x,hj,rfl,rfl,hx,hxv,rfl⟩:=hrel
  by_cases hc:j<n
  ·have hcell:=HR.out.cell j hc
   obtain⟨d,hd⟩:∃d,ds.getD j 0=d:=⟨_,rfl⟩
   rw[hd] at hcell
   have hdb:d<b:=by rw[<-hd];exact HLT.out _ (getD_mem (by omega))
   have HY:Hid (x*b+d=Bs.wv b (ds.take (j+1))):=by
    rw[List.take_succ_eq_append_getElem (by omega:j<ds.length),Bs.wv_snoc,<-hxv.out,<-hd,List.getD_eq_getElem?_getD,List.getElem?_eq_getElem (by omega)]
    exact rfl
   obtain⟨m,hm⟩:∃m,x*b=m:=⟨_,rfl⟩
   have hmI:(x:Int)*(b:Int)=(m:Int):=by rw[<-hm];simp
   obtain⟨y,hy⟩:∃y,m+d=y:=⟨_,rfl⟩
   have hyI:(m:Int)+(d:Int)=(y:Int):=by omega
   have hy64:y<18446744073709551616:=by
    have h1:=HY.out
    have h3:=HWV.out (j+1) (by omega)
    omega
   have hm64:m<18446744073709551616:=by omega
   have HY2:Hid (y=Bs.wv b (ds.take (j+1))):=by
    have h1:=HY.out
    show y=_
    omega
   clear hd HY hm hy
   have i1:(j:Int)<(n:Int):=by omega
   go_wp2
   go_roundw
   case rel=>exact⟨j+1,y,by omega,by go_num,by go_num,hy64,HY2,(by first|trivial|rfl)⟩
   case measure=>simp only[intOf];omega
  ·have hjn:j=n:=by omega
   subst hjn
   have i1:¬(j:Int)<(j:Int):=by omega
   have HXV:Hid (x=Bs.wv b ds):=by
    have:=hxv.out
    rw[List.take_of_length_le (by omega)] at this
    exact this
   clear x0 x1 x2
   go_wp2_with (first|(go_at_call 74;(with_reducible refine(OL.out x _ hx).mono ?_);rintro r w3 ⟨a5,b5,c5,d5,rfl,W5,F5,g5⟩;have HO3:=keepO g5 HO.out;obtain⟨z0,z1,z2,z3⟩:=outAny HO3))
   have PO:=put2_block HO3 (.bool a5) (.slice b5 c5 d5)
   obtain⟨e0,e1⟩:=bx2 PO
   have V9:=wh_set2W W5.out F5.out HO3 (.bool a5) (.slice b5 c5 d5) (by decide)
   have Y9:=fresh_set2 F5.out HO3 (.bool a5) (.slice b5 c5 d5) (by decide)
   refine bodyPost_ret (v:=.agg #[.bool a5,.slice b5 c5 d5]) ?_ rfl ⟨a5,b5,c5,d5,rfl,V9.to (by rw[HXV.out]),Y9.low HG.out.size,((HG.out.trans g5).setCell (p:=⟨w.heap.size+1,0,none⟩) (by show _<=w.heap.size+1;omega) _).setCell (p:=⟨w.heap.size+1,1,none⟩) (by show _<=w.heap.size+1;omega) _⟩
   simp[results,Tryz.results84,go_sem,e0,e1]
end Go.Proofs.YtapnglidnblmcaaGreat
