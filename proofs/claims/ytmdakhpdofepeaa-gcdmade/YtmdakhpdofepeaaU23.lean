import Derived.Test.YtmdakhpdofepeaaU07
import Derived.Test.YtmdakhpdofepeaaU18
import Derived.Test.YtmdakhpdofepeaaU22
namespace Go.Proofs.Ytmdakhpdofepeaa
open Go.RowKit
set_option linter.unusedVariables false
set_option linter.unusedSimpArgs false
structure Gk (S:Nat->Prop) (w w':World):Prop where
 os:w'.os=w.os
 output:w'.output=w.output
 size:w.heap.size<=w'.heap.size
 block:∀k,k<w.heap.size->¬S k->w'.heap[k]? = w.heap[k]?
theorem Gk.refl (S:Nat->Prop) (w:World):Gk S w w:=⟨rfl,rfl,Nat.le_refl _,fun _ _ _=>rfl⟩
theorem Gk.of_gr {S:Nat->Prop} {w w':World} (h:Gr w w'):Gk S w w':=⟨h.os,h.output,h.size,fun k hk _=>h.block k hk⟩
theorem Gk.trans {S T:Nat->Prop} {a b c:World} (h:Gk S a b) (k:Gk T b c) (hT:∀i,T i->i<a.heap.size->S i):Gk S a c:=
 ⟨k.os.trans h.os,k.output.trans h.output,Nat.le_trans h.size k.size,fun i hi hn=>(k.block i (Nat.lt_of_lt_of_le hi h.size) (fun ht=>hn (hT i ht hi))).trans (h.block i hi hn)⟩
theorem Gk.gr {S:Nat->Prop} {a b c:World} (h:Gk S a b) (k:Gr b c):Gk S a c:=h.trans (T:=fun _=>False) ⟨k.os,k.output,k.size,fun i hi _=>k.block i hi⟩ (fun _ h=>h.elim)
theorem Gk.to_gr {S:Nat->Prop} {a b:World} (h:Gk S a b) (hS:∀k,S k->a.heap.size<=k):Gr a b:=
 ⟨h.os,h.output,h.size,fun k hk=>h.block k hk (fun hs=>by have:=hS k hs;omega)⟩
theorem Gk.mono {S T:Nat->Prop} {a b:World} (h:Gk S a b) (hT:∀k,S k->k<a.heap.size->T k):Gk T a b:=⟨h.os,h.output,h.size,fun k hk hn=>h.block k hk (fun hs=>hn (hT k hs hk))⟩
theorem Gk.set {S:Nat->Prop} {a w:World} (h:Gk S a w) {p:Addr} (hp:p.block<a.heap.size->S p.block) (u:Value):Gk S a (w.setCell p u):=
 ⟨h.os,h.output,by simpa [World.setCell] using h.size,fun k hk hn=>(Below.heap_setCell _ _ _ _ (fun e=>by subst e;exact hn (hp hk))).trans (h.block k hk hn)⟩
theorem Gk.grown {S:Nat->Prop} {a w w':World} {row:Option Nat} (h:Gk S a w) (g:w.grownBy w' row) (hr:∀k,row=some k->k<a.heap.size->S k):Gk S a w':=
 ⟨g.os.trans h.os,g.output.trans h.output,Nat.le_trans h.size g.size,fun k hk hn=>(g.block k (Nat.lt_of_lt_of_le hk h.size) (fun e=>hn (hr k e.symm hk))).trans (h.block k hk hn)⟩
theorem Gk.heap {S:Nat->Prop} {w w':World} (h:Gk S w w') {k:Nat} {o:Obj} (hk:w.heap[k]? = some o) (hn:¬S k):w'.heap[k]? = some o:=(h.block k (lt_of_get2 hk) hn).trans hk
theorem Row.gk {S:Nat->Prop} {w w':World} {ad:Option Addr} {n cap:Nat} {xs:List Nat} (h:Row w ad n cap xs) (k:Gk S w w') (hne:∀b,ad=some b->¬S b.block):Row w' ad n cap xs:=by
 refine⟨h.len,h.le,h.max,h.nil,fun hp=>?_⟩
 obtain⟨b,off,e,hb,hc⟩:=h.cells hp
 refine⟨b,off,e,Nat.lt_of_lt_of_le hb k.size,fun j hj=>?_⟩
 rw[World.cell?_of_block (w:=w) (a:=⟨b,off+j,none⟩) (k.block b hb (hne _ e))]
 exact hc j hj
theorem owns_gk {S:Nat->Prop} {w w':World} {B n:Nat} {v:Value} {xs:List Value} {T:TypeId} {sz:Nat} (h:w.ownsRow B T sz v n xs) (k:Gk S w w') (hne:∀b,v.ownBlock=some b->¬S b):w'.ownsRow B T sz v n xs:=by
 refine⟨h.1,?_⟩
 rcases h.2 with hn|⟨g,cap,cur,e1,hb,hgg,rest⟩
 ·exact .inl hn
 ·exact .inr ⟨g,cap,cur,e1,hb,k.heap hgg (hne g (by rw[e1];rfl)),rest⟩
theorem Lim.gk {S:Nat->Prop} {w w':World} {ad:Option Addr} {n cap B x:Nat} (h:Lim w ad n cap B x) (k:Gk S w w') (hne:∀b,ad=some b->¬S b.block):Lim w' ad n cap B x:=by
 obtain⟨xs,h1,h2⟩:=h
 exact⟨xs,h1.gk k hne,h2⟩
theorem Wh.gk {S:Nat->Prop} {w w':World} {s:Bool} {ad:Option Addr} {n cap:Nat} {X:Int} (h:Wh w s ad n cap X) (k:Gk S w w') (hne:∀b,ad=some b->¬S b.block):Wh w' s ad n cap X:=⟨h.lim.gk k hne,h.le,h.zero,h.val⟩
theorem Fresh.gk {S:Nat->Prop} {w w':World} {B:Nat} {ad:Option Addr} {n cap:Nat} (h:Fresh B w ad n cap) (k:Gk S w w') (hne:∀b,ad=some b->¬S b.block):Fresh B w' ad n cap:=by
 obtain⟨xs,h⟩:=h
 refine⟨xs,owns_gk h k fun b hb=>?_⟩
 cases ad with
 | none=>cases hb
 | some a=>exact hne a rfl |> fun q=>by injection hb with hb;rw[<-hb];exact q
structure Sl where
 ad:Option Addr
 n:Nat
 c:Nat
def Sl.bk (s:Sl):Option Nat:=s.ad.map Addr.block
theorem Sl.bk_iff {s:Sl} {k:Nat}:s.bk=some k ↔ ∃b,s.ad=some b/\b.block=k:=by
 unfold Sl.bk
 cases s.ad <;> simp
theorem own_bk (s:Sl):(Value.slice s.ad s.n s.c).ownBlock=s.bk:=by
 unfold Sl.bk
 cases s.ad <;> rfl
def Nm (w:World) (s:Sl) (X:Int):Prop:=Wh w false s.ad s.n s.c X/\Fresh 0 w s.ad s.n s.c
theorem Nm.gk {S:Nat->Prop} {w w':World} {s:Sl} {X:Int} (h:Nm w s X) (k:Gk S w w') (hne:∀b,s.bk=some b->¬S b):Nm w' s X:=
 ⟨h.1.gk k (fun b e=>hne _ (Sl.bk_iff.2 ⟨b,e,rfl⟩)),h.2.gk k (fun b e=>hne _ (Sl.bk_iff.2 ⟨b,e,rfl⟩))⟩
theorem Nm.gr {w w':World} {s:Sl} {X:Int} (h:Nm w s X) (k:Gr w w'):Nm w' s X:=⟨h.1.gr k,h.2.gr k⟩
theorem Nm.lt {w:World} {s:Sl} {X:Int} (h:Nm w s X) {k:Nat} (hk:s.bk=some k):k<w.heap.size:=by
 obtain⟨xs,ho⟩:=h.2
 rw[<-own_bk] at hk
 exact(ho.lt k hk).2
theorem Nm.ne {w:World} {s:Sl} {X:Int} (h:Nm w s X) {p:Nat} {cs:Array Value} {T:TypeId} {fr:Nat × Nat} (hb:w.heap[p]? = some (.cells cs T fr)) (hT:T≠52):s.bk≠some p:=fun e=>by
 obtain⟨b,e1,e2⟩:=Sl.bk_iff.1 e
 exact h.2.ne hb hT b e1 e2
theorem Nm.of {w:World} {B:Nat} {ad:Option Addr} {n c:Nat} {X:Int} (h:Wh w false ad n c X) (f:Fresh B w ad n c):Nm w ⟨ad,n,c⟩ X/\∀k,(Sl.mk ad n c).bk=some k->B<=k:=by
 refine⟨⟨h,f.low (Nat.zero_le _)⟩,fun k hk=>?_⟩
 obtain⟨xs,ho⟩:=f
 rw[<-own_bk] at hk
 exact(ho.lt k hk).1
theorem Nm.pos {w:World} {s:Sl} {X:Int} (h:Nm w s X):0<=X:=by
 have:=h.1.val
 rw[iv_f] at this
 omega
theorem Nm.rows {w:World} {s:Sl} {X:Int} (h:Nm w s X):∃xs,w.ownsRow 0 52 1 (.slice s.ad s.n s.c) s.n (u64s xs)/\Dg 18446744073709551616 X.toNat xs:=by
 obtain⟨xs,ho⟩:=h.2
 obtain⟨ys,rx,dx⟩:=h.1.lim
 obtain⟨ad',cap',e,ry⟩:=Row.of_owns ho
 simp only[Value.slice.injEq,true_and] at e
 obtain⟨e1,e2⟩:=e
 rw[<-e1,<-e2] at ry
 have hxy:xs=ys:=by
  apply List.ext_getElem?
  intro j
  by_cases hj:j<s.n
  ·obtain⟨b,off,eb,_,hc⟩:=rx.cells (by omega)
   obtain⟨b',off',eb',_,hc'⟩:=ry.cells (by omega)
   rw[eb] at eb'
   injection eb' with eb'
   injection eb' with q1 q2
   subst q1 q2
   have c1:=hc j hj
   have c2:=hc' j hj
   rw[c1] at c2
   injection c2 with c2
   injection c2 with _ c2
   have l1:=rx.len
   have l2:=ry.len
   rw[List.getElem?_eq_getElem (by omega),List.getElem?_eq_getElem (by omega)]
   rw[List.getD_eq_getElem?_getD,List.getD_eq_getElem?_getD,List.getElem?_eq_getElem (by omega),List.getElem?_eq_getElem (by omega)] at c2
   simp only[Option.getD_some] at c2
   congr 1
   omega
  ·rw[List.getElem?_eq_none (by rw[ry.len];omega),List.getElem?_eq_none (by rw[rx.len];omega)]
 subst hxy
 have:=h.pos
 rw[show X.natAbs=X.toNat by omega] at dx
 exact⟨xs,ho,dx⟩
def Ap (s t:Sl):Prop:=∀k,s.bk=some k->t.bk≠some k
theorem Ap.symm {s t:Sl} (h:Ap s t):Ap t s:=fun k h1 h2=>h k h2 h1
theorem Ap.new {w:World} {s t:Sl} {X:Int} (h:Nm w s X) (ht:∀k,t.bk=some k->w.heap.size<=k):Ap s t:=fun k h1 h2=>by
 have:=h.lt h1
 have:=ht k h2
 omega
theorem run_appendG {P:Program} (w:World) (base:Nat) (t ty e:TypeId) (i:TypeInfo) (z:Value) (size bytes:Nat) (ht:P.underlying t=some (.slice e)) (hi:P.info? e=some i) (hz:i.zero=some z)
  (hsize:i.size=size) (hby:i.bytes=bytes) (hzs:z.cells.size=size) (hsz:0<size)
  (v:Value) (n:Nat) (xs:List Value) (hown:w.ownsRow base e size v n xs)
  (a:Addr) (m c:Nat) (news:List Value) (hl:news.length=m*size) (hnews:∀j u,news[j]? = some u->w.cell? (a.add j)=some u) (h1:∀u∈news,u.oneCell'=true)
  (h63:n+m<=maxLen) (hbytes:(n+m)*bytes<=140737488355328) (hbase:base<=w.heap.size) (hm0:0<m) :
  ∃v' w',(Builtin.append_ #[t,t] ty #[v,.slice (some a) m c]).run P w = .ok v' w'/\w'.ownsRow base e size v' (n+m) (xs++news)/\w.grownBy w' v.ownBlock /\
   (v'.ownBlock=v.ownBlock\/v'.ownBlock=some w.heap.size):=by
 obtain⟨v',w',hr,h2,h3,_⟩:=run_append_own (P:=P) w base t ty e i z size bytes ht hi hz hsize hby hzs hsz v n xs hown a m c news hl hnews h1 h63 hbytes hbase
 refine⟨v',w',hr,h2,h3,?_⟩
 subst hsize
 subst hby
 have hsmall:n+m<=9223372036854775807:=by simp only[maxLen] at h63;omega
 rcases hown.2 with ⟨rfl,rfl⟩|⟨g,cap,cur,rfl,hbg,hg,hnc,hcm,hcs,htake⟩
 ·have hr':=run_append_nil (P:=P) w t ty e i z ht hi hz a m c news hl hnews (by omega) (by omega) (by have hb:=hbytes;simp only[Nat.zero_add] at hb;omega)
  rw[hr] at hr'
  injection hr' with e1 _
  rw[e1]
  exact Or.inr rfl
 ·by_cases hroom:n+m<=cap
  ·have hfit:n*i.size+news.length<=cur.size:=by rw[hl,hcs,<-Nat.add_mul];exact Nat.mul_le_mul_right _ hroom
   have hr':=run_append_room (P:=P) w t ty e i ht hi g n cap cur hg a m c news hl hnews h1 hroom hfit
   rw[hr] at hr'
   injection hr' with e1 _
   rw[e1]
   exact Or.inl rfl
  ·have holds:∀j u,xs[j]? = some u->w.cell? ((⟨g,0,none⟩:Addr).add j)=some u:=hown.cells (g:=g) rfl
   have hr':=run_append_grow (P:=P) w t ty e i z ht hi hz ⟨g,0,none⟩ n cap xs hown.1 holds a m c news hl hnews (by omega) (by omega) (growslice_fits (by omega) hbytes)
   rw[hr] at hr'
   injection hr' with e1 _
   rw[e1]
   exact Or.inr rfl
theorem wpList_pushG {w0:World} {ops:Array Oper} {rest:List Oper} {o:Oper} {a:Act} {Q:Exit->Act->World->Prop} (hgd:o.guard=none) (s x:Operand)
  (ho:o.op = .call {callee:=.builtin .append,args:=#[s,x],argTypes:=#[22,22]}) {v:Value} {n:Nat} {xs:List Nat} (hown:w0.ownsRow 0 52 1 v n (u64s xs)) {Y:Int} (y:Nat) (hY:Y=(y:Int))
  (hs:a.eval s=v) (hx:a.eval x = .slice (some ⟨w0.heap.size,0,none⟩) 1 1) (hn:n<=4398046511104)
  (h:∀v' w',w'.ownsRow 0 52 1 v' (n+1) (u64s (xs++[y]))->Gk (fun k=>v.ownBlock=some k) w0 w'->(∀k,v'.ownBlock=some k->v.ownBlock=some k\/w0.heap.size<=k)->wpList Try.prog ops Q rest (a.put o.dst v') w') :
  wpList Try.prog ops Q (o :: rest) a (w0.alloc (.cells #[.int .u64 Y] 52)):=by
 subst hY
 obtain⟨i0,hi,hz0,hz1,hz2⟩:=info_parts Try.info52
 obtain⟨v',w',hr,h2,h3,h4⟩:=run_appendG (P:=Try.prog) (w0.alloc (.cells #[.int .u64 (y:Int)] 52)) 0 22 o.type 52 i0 (.int .u64 0) 1 8 Try.underlying22 hi hz0 hz1 hz2 rfl (by decide) v n (u64s xs) (hown.alloc _) ⟨w0.heap.size,0,none⟩ 1 1 (u64s [y]) rfl (by
  intro j u hj
  match j,hj with
  | 0,hj=>simp[u64s] at hj;subst hj;simp[Addr.add]) (one_u64 _) (by unfold maxLen;omega) (by omega) (Nat.zero_le _) (by omega)
 refine wpList_plain hgd fun _ hK=>?_
 unfold Oper.wp execOp
 simp only[ho,resolve,invoke,builtin,Sem.run_bind,Sem.run_pure,Result.andThen_ok,List.map_toArray,List.map_cons,List.map_nil,hs,hx,hr]
 refine hK _ _ (h v' w' (by rw[u64s_append];exact h2) ?_ ?_)
 ·exact(Gk.of_gr ((Gr.refl w0).alloc _)).grown h3 (fun k e _=>e)
 ·intro k hk
  rcases h4 with e|e
  ·exact Or.inl (e ▸ hk)
  ·right
   rw[e] at hk
   injection hk with hk
   simp at hk
   omega
def lenV:Value->Nat
 | .slice _ n _=>n
 | _=>0
theorem owns_sl {w:World} {v:Value} {n:Nat} {xs:List Nat} (h:w.ownsRow 0 52 1 v n (u64s xs)):∃s:Sl,v = .slice s.ad s.n s.c/\s.n=n:=by
 obtain⟨ad,cap,e,_⟩:=Row.of_owns h
 exact⟨⟨ad,n,cap⟩,e,rfl⟩
set_option maxHeartbeats 2000000 in
theorem paddedG (s:Sl) (k:Nat) (xs:List Nat) (w:World) (ho:w.ownsRow 0 52 1 (.slice s.ad s.n s.c) s.n (u64s xs)) (hn:s.n<=k) (hk:k<=1099511627776) :
  Calls Try.prog 77 #[.slice s.ad s.n s.c,.int .i64 (k:Int)] w fun e w'=>∃t:Sl,e = .returned (.slice t.ad t.n t.c)/\t.n=k/\Hid (w'.ownsRow 0 52 1 (.slice t.ad t.n t.c) k (u64s (xs++List.replicate (k-s.n) 0)))/\Hid (Gk (fun b=>s.bk=some b) w w')/\Hid (∀b,t.bk=some b->s.bk=some b\/w.heap.size<=b):=by
 obtain⟨ad0,n0,c0⟩:=s
 simp only at *
 have HO:=hide ho
 have hl0:xs.length=n0:=by have:=ho.1;rw[u64s_length] at this;omega
 clear ho
 go_enter Try.func77,Try.ntmps77
 go_wp2
 go_loopw [0] (fun v wr=>∃(ad:Option Addr) (m c:Nat),v = .slice ad m c/\n0<=m/\m<=k/\Hid (wr.ownsRow 0 52 1 (.slice ad m c) m (u64s (xs++List.replicate (m-n0) 0)))/\Hid (Gk (fun b=>(Sl.mk ad0 n0 c0).bk=some b) w wr)/\Hid (∀b,(Sl.mk ad m c).bk=some b->(Sl.mk ad0 n0 c0).bk=some b\/w.heap.size<=b)) (fun v _=>k-lenV v)
 case atStart=>exact⟨ad0,n0,c0,rfl,by omega,by omega,by show World.ownsRow _ _ _ _ _ _ _;simpa using HO.out,Gk.refl _ _,fun b h=>Or.inl h⟩
 case round =>
  obtain⟨ad,m,c,rfl,hnm,hmk,hO,hG,hB⟩:=hrel
  by_cases hlt:m<k
  ·have hi:(m:Int)<(k:Int):=by omega
   go_wp2_with (at_builtin;refine wpList_pushG rfl _ _ rfl hO.out (y:=0) rfl rfl rfl (by omega) ?_)
   intro v' w' ho' hg' hb'
   obtain⟨u,rfl,hu⟩:=owns_sl ho'
   obtain⟨ad2,m2,c2⟩:=u
   simp only at hu ho'
   subst hu
   have O2:=hide ho'
   have G2:Hid (Gk (fun b=>(Sl.mk ad0 n0 c0).bk=some b) w w'):=hG.out.trans hg' (fun i h hi=>by
    rw[own_bk (Sl.mk ad m c)] at h
    rcases hB.out i h with q|q
    ·exact q
    ·omega)
   have B2:Hid (∀b,(Sl.mk ad2 (m+1) c2).bk=some b->(Sl.mk ad0 n0 c0).bk=some b\/w.heap.size<=b):=fun b h=>by
    rw[<-own_bk (Sl.mk ad2 (m+1) c2)] at h
    rcases hb' b h with q|q
    ·rw[own_bk (Sl.mk ad m c)] at q
     exact hB.out b q
    ·have:=hG.out.size;exact Or.inr (by omega)
   clear ho' hg' hb'
   go_wp2
   go_roundw
   case rel=>exact⟨ad2,m+1,c2,rfl,by omega,by omega,by show World.ownsRow _ _ _ _ _ _ _;have:=O2.out;rw[<-List.replicate_succ'] at this;rw[show m+1-n0=m-n0+1 by omega];exact this,G2,B2⟩
   case measure=>simp only[lenV];omega
  ·have hi:¬(m:Int)<(k:Int):=by omega
   obtain rfl:m=k:=by omega
   go_wp2
   go_ret
   exact⟨⟨ad,m,c⟩,rfl,rfl,hO,hG,hB⟩
set_option maxHeartbeats 2000000 in
theorem followingG (r a b s c d:Nat) (w:World) (h0:0<s) (hr:r<18446744073709551616) (hs:s<18446744073709551616) (h1:a+r / s*c<18446744073709551616) (h2:b+r / s*d<18446744073709551616) :
  Calls Try.prog 59 #[.agg #[.int .u64 (r:Int),.int .u64 (a:Int),.int .u64 (b:Int)],.agg #[.int .u64 (s:Int),.int .u64 (c:Int),.int .u64 (d:Int)]] w fun e w'=>e = .returned (.agg #[.int .u64 ((r % s:Nat):Int),.int .u64 ((a+r / s*c:Nat):Int),.int .u64 ((b+r / s*d:Nat):Int)])/\Gr w w':=by
 have e1:Hid (IntKind.u64.wrap ((r:Int) / s)=((r / s:Nat):Int)):=by
  show _=_
  have hq:=Nat.div_le_self r s
  have e:(r:Int) / s=((r / s:Nat):Int):=(Int.natCast_ediv r s).symm
  rw[e]
  generalize r / s=q at *
  rw[IntKind.wrap_u64]
  omega
 have e2:Hid ((r:Int) % s=((r % s:Nat):Int)):=by show _=_;omega
 obtain⟨q,hq⟩:∃q,r / s=q:=⟨_,rfl⟩
 obtain⟨m,hm⟩:∃m,r % s=m:=⟨_,rfl⟩
 rw[hq] at e1 h1 h2
 rw[hm] at e2
 rw[hq,hm]
 have f1:Hid (IntKind.u64.wrap ((a:Int)+IntKind.u64.wrap ((q:Int)*c))=((a+q*c:Nat):Int)):=by
  show _=_
  rw[<-Int.natCast_mul,IntKind.wrap_u64,IntKind.wrap_u64]
  omega
 have f2:Hid (IntKind.u64.wrap ((b:Int)+IntKind.u64.wrap ((q:Int)*d))=((b+q*d:Nat):Int)):=by
  show _=_
  rw[<-Int.natCast_mul,IntKind.wrap_u64,IntKind.wrap_u64]
  omega
 clear hq hm h1 h2
 have G:Hid (Gr w ((((w.alloc (.cells #[.int .u64 (r:Int),.int .u64 (a:Int),.int .u64 (b:Int)] 65)).alloc (.cells #[.int .u64 (s:Int),.int .u64 (c:Int),.int .u64 (d:Int)] 65)).alloc (.cells #[.int .u64 0,.int .u64 0,.int .u64 0] 65)).alloc (.cells #[.int .u64 (m:Int),.int .u64 0,.int .u64 0] 65))):=((((Gr.refl w).alloc _).alloc _).alloc _).alloc _
 go_enter Try.func59,Try.ntmps59
 go_wp2
 rw[e1.out,e2.out]
 refine wp_loop_rounds 3 ?_
 rw[rounds_succ]
 go_wp2
 go_region
 go_wp2
 rw[rounds_succ]
 go_wp2
 go_region
 go_wp2
 rw[rounds_succ]
 go_wp2
 rw[f1.out,f2.out]
 refine bodyPost_ret (v:=.agg #[.int .u64 (m:Int),.int .u64 ((a+q*c:Nat):Int),.int .u64 ((b+q*d:Nat):Int)]) ?_ rfl ⟨rfl,(((((Gr.refl w).alloc _).alloc _).alloc _).alloc _).drew.drew⟩
 simp[results,Try.results59,go_sem]
set_option maxHeartbeats 2000000 in
theorem isSureG (s o p s' o' p':Nat) (w:World) (h1:s'<s) (h2:o'<=s'->p+p'<18446744073709551616) (hs:s<18446744073709551616) :
  Calls Try.prog 60 #[.agg #[.int .u64 (s:Int),.int .u64 (o:Int),.int .u64 (p:Int)],.agg #[.int .u64 (s':Int),.int .u64 (o':Int),.int .u64 (p':Int)]] w fun e w'=>e = .returned (.bool (decide (o'<=s'/\p+p'<=s-s')))/\Gr w w':=by
 by_cases k1:o'<=s'
 ·have k1':((s':Int)>=(o':Int)):=by omega
  have h2:=h2 k1
  go_enter Try.func60,Try.ntmps60
  go_wp2
  go_ret
  refine⟨?_,((Gr.refl w).alloc _).alloc _⟩
  have:decide ((p:Int)+p'<=(s:Int)-s')=decide (o'<=s'/\p+p'<=s-s'):=by
   by_cases h9:p+p'<=s-s'
   ·rw[decide_eq_true (show(p:Int)+p'<=(s:Int)-s' by omega),decide_eq_true ⟨k1,h9⟩]
   ·rw[decide_eq_false (show ¬(p:Int)+p'<=(s:Int)-s' by omega),decide_eq_false (fun h=>h9 h.2)]
  simp[this]
 ·have k1':¬((o':Int)<=(s':Int)):=by omega
  go_enter Try.func60,Try.ntmps60
  go_wp2
  go_ret
  exact⟨by simp[k1],((Gr.refl w).alloc _).alloc _⟩
theorem setG {w:World} {b i:Nat} {cs:Array Value} {T:TypeId} {fr:Nat × Nat} (h:w.heap[b]? = some (.cells cs T fr)) (v:Value):(w.setCell ⟨b,i,none⟩ v).heap[b]? = some (.cells (cs.setIfInBounds i v) T fr):=put1_at h v
theorem cellG {w:World} {b i:Nat} {cs:Array Value} {T:TypeId} {fr:Nat × Nat} {v:Value} (h:w.heap[b]? = some (.cells cs T fr)) (hv:cs[i]? = some v):w.cell? ⟨b,i,none⟩=some v:=by
 simp[World.cell?,h,hv]
theorem frzG {w:World} {b i:Nat} {cs:Array Value} {T:TypeId} (h:w.heap[b]? = some (.cells cs T)):w.frozen? ⟨b,i,none⟩=false:=by
 simp[World.frozen?,h]
theorem bx6G {w:World} {b:Nat} {v0 v1 v2 v3 v4 v5:Value} {T:TypeId} (h:w.heap[b]? = some (.cells #[v0,v1,v2,v3,v4,v5] T)):w.cell? ⟨b,0,none⟩=some v0/\w.cell? ⟨b,1,none⟩=some v1/\w.cell? ⟨b,2,none⟩=some v2/\w.cell? ⟨b,3,none⟩=some v3/\w.cell? ⟨b,4,none⟩=some v4/\w.cell? ⟨b,5,none⟩=some v5:=
 ⟨cellG h rfl,cellG h rfl,cellG h rfl,cellG h rfl,cellG h rfl,cellG h rfl⟩
theorem bx3G {w:World} {b:Nat} {v0 v1 v2:Value} {T:TypeId} (h:w.heap[b]? = some (.cells #[v0,v1,v2] T)):w.cell? ⟨b,0,none⟩=some v0/\w.cell? ⟨b,1,none⟩=some v1/\w.cell? ⟨b,2,none⟩=some v2:=
 ⟨cellG h rfl,cellG h rfl,cellG h rfl⟩
theorem drewH {w:World} {b:Nat} {o:Option Obj} (h:w.heap[b]? = o):w.drew.heap[b]? = o:=h
theorem fz6G {w:World} {b:Nat} {cs:Array Value} {T:TypeId} (h:w.heap[b]? = some (.cells cs T)):w.frozen? ⟨b,0,none⟩=false/\w.frozen? ⟨b,1,none⟩=false/\w.frozen? ⟨b,2,none⟩=false/\w.frozen? ⟨b,3,none⟩=false/\w.frozen? ⟨b,4,none⟩=false/\w.frozen? ⟨b,5,none⟩=false:=
 ⟨frzG h,frzG h,frzG h,frzG h,frzG h,frzG h⟩
theorem set6G {w:World} {b:Nat} {v0 v1 v2 v3 v4 v5:Value} {T:TypeId} (h:w.heap[b]? = some (.cells #[v0,v1,v2,v3,v4,v5] T)) (u0 u1 u2 u3 u4 u5:Value):((((((w.setCell ⟨b,0,none⟩ u0).setCell ⟨b,1,none⟩ u1).setCell ⟨b,2,none⟩ u2).setCell ⟨b,3,none⟩ u3).setCell ⟨b,4,none⟩ u4).setCell ⟨b,5,none⟩ u5).heap[b]? = some (.cells #[u0,u1,u2,u3,u4,u5] T):=by
 rw[setG (setG (setG (setG (setG (setG h u0) u1) u2) u3) u4) u5]
 rfl
theorem blk4G (w:World) (o1 o2 o3 o4:Obj):((((w.alloc o1).alloc o2).alloc o3).alloc o4).heap[w.heap.size]? = some o1/\((((w.alloc o1).alloc o2).alloc o3).alloc o4).heap[w.heap.size+1]? = some o2/\((((w.alloc o1).alloc o2).alloc o3).alloc o4).heap[w.heap.size+1+1]? = some o3/\((((w.alloc o1).alloc o2).alloc o3).alloc o4).heap[w.heap.size+1+1+1]? = some o4:=
 ⟨keepO ((Gr.refl _).alloc _) (blk3 w o1 o2 o3).1,keepO ((Gr.refl _).alloc _) (blk3 w o1 o2 o3).2.1,keepO ((Gr.refl _).alloc _) (blk3 w o1 o2 o3).2.2,by have:=blk1 (((w.alloc o1).alloc o2).alloc o3) o4;simpa using this⟩
def natAt (w:World) (b o:Nat):Nat:=match w.cell? ⟨b,o,none⟩ with
 | some (.int _ v)=>v.toNat
 | _=>0
theorem natAt_of {w:World} {b o n:Nat} {k:IntKind} (h:w.cell? ⟨b,o,none⟩=some (.int k (n:Int))):natAt w b o=n:=by
 unfold natAt;rw[h];simp
end Go.Proofs.Ytmdakhpdofepeaa
