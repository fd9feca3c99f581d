import Derived.Test.YtmdakhpdofepeaaU06
import Derived.Test.YtmdakhpdofepeaaU31
import Derived.Test.YtmdakhpdofepeaaU05
import Derived.Test.YtmdakhpdofepeaaU16
namespace Go.Proofs.Ytmdakhpdofepeaa
open Go.RowKit
set_option linter.unusedVariables false
set_option linter.unusedSimpArgs false
theorem lsetW {listed:Array Bool} {i j:Nat} (h:(listed.setIfInBounds i true).getD j false=true):j=i\/listed.getD j false=true:=by
 by_cases e:j=i
 ·exact Or.inl e
 ·refine Or.inr ?_
  simp only[Array.getD_eq_getD_getElem?,Array.getElem?_setIfInBounds] at h ⊢
  rw[if_neg (Ne.symm e)] at h
  exact h
theorem listed_notW {listed:Array Bool} {i:Nat} (h:listed.getD i false=true):¬listed.getD i true=false:=by
 intro h2
 rcases Nat.lt_or_ge i listed.size with h'|h'
 ·simp[h'] at h h2
  rw[h] at h2;cases h2
 ·simp[Array.getD,Nat.not_lt.2 h'] at h2
theorem lkeepW {listed:Array Bool} {i j:Nat} (h:listed.getD j false=true):(listed.setIfInBounds i true).getD j false=true:=by
 have hj:j<listed.size:=by
  refine Nat.lt_of_not_le fun hle=>?_
  simp[Array.getD,Nat.not_lt.2 hle] at h
 simp only[Array.getD_eq_getD_getElem?,Array.getElem?_setIfInBounds] at h ⊢
 by_cases e:i=j
 ·subst e;simp[hj]
 ·rw[if_neg e];exact h
theorem put_getW {a:Act} {d j:Nat} {v:Value} (h:j≠d):(a.put (some d) v).tmps[j]? = a.tmps[j]?:=by
 simp only[Act.put,Array.getElem?_setIfInBounds]
 rw[if_neg (Ne.symm h)]
theorem put_atW {a:Act} {d:Nat} {v:Value} (h:d<a.tmps.size):(a.put (some d) v).tmps[d]? = some v:=by
 simp only[Act.put,Array.getElem?_setIfInBounds]
 rw[if_pos trivial,if_pos h]
theorem set2_otherW {w:World} {b k:Nat} (hk:k≠b) (v0 v1:Value):((w.setCell ⟨b,0,none⟩ v0).setCell ⟨b,1,none⟩ v1).heap[k]? = w.heap[k]?:=by
 rw[Below.heap_setCell _ _ _ _ hk,Below.heap_setCell _ _ _ _ hk]
theorem set2_blockW {w:World} {b:Nat} {c0 c1:Value} {T:TypeId} (h:w.heap[b]? = some (.cells #[c0,c1] T)) (v0 v1:Value):((w.setCell ⟨b,0,none⟩ v0).setCell ⟨b,1,none⟩ v1).heap[b]? = some (.cells #[v0,v1] T):=by
 simp[World.setCell,Array.getElem?_modify,h]
structure Stb (F:World->Value->Prop):Prop where
 gr:∀{w w':World} {v:Value},Gr w w'->F w v->F w' v
 st:∀{w:World} {v:Value} {p:Nat} {cs:Array Value} (u0 u1:Value),w.heap[p]? = some (.cells cs 24)->F w v->F ((w.setCell ⟨p,0,none⟩ u0).setCell ⟨p,1,none⟩ u1) v
def isC (c:Value) (_:World) (v:Value):Prop:=v=c
theorem stb_c (c:Value):Stb (isC c):=⟨fun _ h=>h,fun _ _ _ h=>h⟩
def NumF (P:Int->Prop) (w:World) (v:Value):Prop:=∃a b c d Z,v = .agg #[.bool a,.slice b c d]/\Nw w a b c d Z/\P Z
theorem stb_n (P:Int->Prop):Stb (NumF P):=
 ⟨fun g ⟨a,b,c,d,Z,e,h1,h2⟩=>⟨a,b,c,d,Z,e,h1.gr g,h2⟩,fun u0 u1 hb ⟨a,b,c,d,Z,e,h1,h2⟩=>⟨a,b,c,d,Z,e,h1.set2 hb u0 u1 (by decide),h2⟩⟩
def RowF (B:Nat) (s:Bool) (n:Nat) (xs:List Nat) (w:World) (v:Value):Prop:=∃ad c,v = .agg #[.bool s,.slice ad n c]/\Row w ad n c xs/\Fresh B w ad n c
theorem stb_r (B:Nat) (s:Bool) (n:Nat) (xs:List Nat):Stb (RowF B s n xs):=
 ⟨fun g ⟨a,c,e,h1,h2⟩=>⟨a,c,e,h1.gr g,h2.gr g⟩,fun u0 u1 hb ⟨a,c,e,h1,h2⟩=>⟨a,c,e,(h1.far (h2.ne hb (by decide)) _).far (h2.ne hb (by decide)) _,fresh_set2 h2 hb u0 u1 (by decide)⟩⟩
def TupF (Fs:List (World->Value->Prop)) (w:World) (v:Value):Prop:=∃vs:List Value,v = .tuple vs.toArray/\vs.length=Fs.length/\∀(i:Nat) (F:World->Value->Prop) (u:Value),Fs[i]? = some F->vs[i]? = some u->F w u
theorem stb_t {Fs:List (World->Value->Prop)} (h:∀F∈Fs,Stb F):Stb (TupF Fs):=
 ⟨fun g ⟨vs,e,l,k⟩=>⟨vs,e,l,fun i F u h1 h2=>(h F (List.mem_of_getElem? h1)).gr g (k i F u h1 h2)⟩,fun u0 u1 hb ⟨vs,e,l,k⟩=>⟨vs,e,l,fun i F u h1 h2=>(h F (List.mem_of_getElem? h1)).st u0 u1 hb (k i F u h1 h2)⟩⟩
def AlF (B:Nat) (w:World) (v:Value):Prop:=∃p u0 u1,v = .pointer (some ⟨p,0,none⟩)/\B<=p/\w.heap[p]? = some (.cells #[u0,u1] 24)
theorem stb_a (B:Nat):Stb (AlF B):=
 ⟨fun g ⟨p,u0,u1,e,h1,h2⟩=>⟨p,u0,u1,e,h1,keepO g h2⟩,fun {w v q cs} x0 x1 hb ⟨p,u0,u1,e,h1,h2⟩=>by
  by_cases hq:p=q
  ·subst hq;exact⟨p,x0,x1,e,h1,set2_blockW h2 x0 x1⟩
  ·exact⟨p,u0,u1,e,h1,by rw[set2_otherW hq];exact h2⟩⟩
def StF (B:Nat) (P:Int->Prop) (w:World) (v:Value):Prop:=∃p a b c d Z,v = .pointer (some ⟨p,0,none⟩)/\B<=p/\w.heap[p]? = some (.cells #[.bool a,.slice b c d] 24)/\Nw w a b c d Z/\P Z
theorem StF.gr {B:Nat} {Z:Int->Prop} {w w':World} {v:Value} (g:Gr w w') (h:StF B Z w v):StF B Z w' v:=by
 obtain⟨p,a,b,c,d,Z,e,h1,h2,h3,h4⟩:=h
 exact⟨p,a,b,c,d,Z,e,h1,keepO g h2,h3.gr g,h4⟩
theorem StF.st {B:Nat} {Z:Int->Prop} {w:World} {v:Value} {q:Nat} {cs:Array Value} (u0 u1:Value) (hb:w.heap[q]? = some (.cells cs 24)) (hq:v ≠ .pointer (some ⟨q,0,none⟩)) (h:StF B Z w v):StF B Z ((w.setCell ⟨q,0,none⟩ u0).setCell ⟨q,1,none⟩ u1) v:=by
 obtain⟨p,a,b,c,d,Z,e,h1,h2,h3,h4⟩:=h
 refine⟨p,a,b,c,d,Z,e,h1,?_,h3.set2 hb u0 u1 (by decide),h4⟩
 rw[set2_otherW (fun e'=>hq (by rw[e,e']))]
 exact h2
inductive Ro where
 | g (d:Nat) (F:World->Value->Prop)
 | a (d:Nat)
 | s (A X:Nat) (Z:Int->Prop)
def Ro.dn:Ro->Nat
 | .g d _=>d
 | .a d=>d
 | .s A _ _=>100000+A
def Ro.at (B:Nat) (a:Act) (w:World):Ro->Prop
 | .g d F=>∃v,a.tmps[d]? = some v/\F w v
 | .a d=>∃v,a.tmps[d]? = some v/\AlF B w v
 | .s A _ Z=>∃v,a.tmps[A]? = some v/\StF B Z w v
def Ro.fin (B:Nat) (f:Nat->Value) (w:World):Ro->Prop
 | .g d F=>F w (f d)
 | .a d=>AlF B w (f d)
 | .s A _ Z=>StF B Z w (f A)
def hasE (af:Array Edge) (k:Nat):Bool:=af.any fun e=>e.on==k && Region.binds .any e
theorem hasE_out {af:Array Edge} {k:Nat} (h:hasE af k=true):∃e∈af,e.on=k/\Region.binds .any e=true:=by
 simp only[hasE,Array.any_eq_true,Bool.and_eq_true,beq_iff_eq] at h
 obtain⟨i,hi,h1,h2⟩:=h
 exact⟨af[i],Array.getElem_mem hi,h1,h2⟩
def Ob (ops:Array Oper) (rs:List Ro) (T:Array Value) (w0:World) (Q:Exit->Act->World->Prop) (i:Nat):Ro->Prop
 | .g d F=>Stb F/\d<T.size/\d<100000/\∀(a:Act) (w:World),Gr w0 w->(∀j,j ∉ rs.map Ro.dn->a.tmps[j]? = T[j]?)->(∀o,ops[i]? = some o->∀e∈o.after,Region.binds .any e=true->∀r,rs[e.on]? = some r->r.at w0.heap.size a w)->∀K:Act->World->Prop,(∀v w',F w' v->Gr w w'->K (a.put (some d) v) w')->wpOp Try.prog ops Q i K a w
 | .a d=>d<T.size/\d<100000/\∃ty ps af,ops[i]? = some ({dst:=some d,op:=Op.alloc 24,type:=ty,pos:=ps,after:=af,guard:=none}:Oper)
 | .s A X Z=>∃ty ps af ka kx,ops[i]? = some ({dst:=none,op:=Op.store 24 (Operand.tmp A) (Operand.tmp X),type:=ty,pos:=ps,after:=af,guard:=none}:Oper)/\rs[ka]? = some (.a A)/\rs[kx]? = some (.g X (NumF Z))/\hasE af ka=true/\hasE af kx=true
def AllO (Pr:Nat->Ro->Prop):Nat->List Ro->Prop
 | _,[]=>True
 | k,r :: rs=>Pr k r/\AllO Pr (k+1) rs
theorem AllO.at {Pr:Nat->Ro->Prop}:∀{rs:List Ro} {k i:Nat} {r:Ro},AllO Pr k rs->rs[i]? = some r->Pr (k+i) r
 | [],_,_,_,_,h=>by simp at h
 | _ :: _,k,0,_,⟨h1,_⟩,h=>by simp at h;subst h;exact h1
 | _ :: rs,k,i+1,r,⟨_,h2⟩,h=>by
  have:=AllO.at (i:=i) h2 (by simpa using h)
  rwa [show k+1+i=k+(i+1) by omega] at this
structure InvR (rs:List Ro) (T:Array Value) (w0:World) (listed:Array Bool) (a:Act) (w:World):Prop where
 len:listed.size=rs.length
 dfr:a.defers=[]
 size:a.tmps.size=T.size
 off:∀j,j ∉ rs.map Ro.dn->a.tmps[j]? = T[j]?
 gr:Gr w0 w
 fa:∀i r,rs[i]? = some r->listed.getD i false=true->r.at w0.heap.size a w
 lt:∀i A X Z,rs[i]? = some (.s A X Z)->listed.getD i false=true->∃k,rs[k]? = some (.a A)/\listed.getD k false=true
 dj:∀i j d d',rs[i]? = some (.a d)->rs[j]? = some (.a d')->i≠j->listed.getD i false=true->listed.getD j false=true->a.tmps[d]? ≠ a.tmps[d']?
theorem dn_ne {rs:List Ro} (nd:(rs.map Ro.dn).Nodup) {i j:Nat} {r r':Ro} (hi:rs[i]? = some r) (hj:rs[j]? = some r') (h:i≠j):r.dn≠r'.dn:=by
 intro e
 have h1:(rs.map Ro.dn)[i]? = some r.dn:=by rw[List.getElem?_map,hi];rfl
 have h2:(rs.map Ro.dn)[j]? = some r'.dn:=by rw[List.getElem?_map,hj];rfl
 obtain⟨l1,e1⟩:=List.getElem?_eq_some_iff.1 h1
 obtain⟨l2,e2⟩:=List.getElem?_eq_some_iff.1 h2
 rcases Nat.lt_or_gt_of_ne h with hlt|hgt
 ·exact List.pairwise_iff_getElem.1 nd i j l1 l2 hlt (by rw[e1,e2,e])
 ·exact List.pairwise_iff_getElem.1 nd j i l2 l1 hgt (by rw[e1,e2,e])
theorem dn_mem {rs:List Ro} {i:Nat} {r:Ro} (hi:rs[i]? = some r):r.dn∈rs.map Ro.dn:=List.mem_map.2 ⟨r,List.mem_of_getElem? hi,rfl⟩
theorem at_put {rs:List Ro} {B:Nat} {a:Act} {w w':World} {d:Nat} {v:Value} {r:Ro} (g:Gr w w') (hst:∀d' F,r = .g d' F->Stb F) (h:r.at B a w) (h1:∀d' F,r = .g d' F->d'≠d) (h2:∀d',r = .a d'->d'≠d) (h3:∀A X Z,r = .s A X Z->A≠d):r.at B (a.put (some d) v) w':=by
 cases r with
 | g d' F=>obtain⟨u,e,k⟩:=h;exact⟨u,by rw[put_getW (h1 d' F rfl)];exact e,(hst d' F rfl).gr g k⟩
 | a d'=>obtain⟨u,e,k⟩:=h;exact⟨u,by rw[put_getW (h2 d' rfl)];exact e,(stb_a B).gr g k⟩
 | s A X Z=>obtain⟨u,e,k⟩:=h;exact⟨u,by rw[put_getW (h3 A X Z rfl)];exact e,k.gr g⟩
theorem InvR.step {ops:Array Oper} {rs:List Ro} {T:Array Value} {w0:World} {Q:Exit->Act->World->Prop} (hO:AllO (Ob ops rs T w0 Q) 0 rs) (nd:(rs.map Ro.dn).Nodup) (hsz:ops.size=rs.length) {listed:Array Bool} {a:Act} {w:World} (i:Nat) (h:InvR rs T w0 listed a w) (hi:i∈Region.ready .any ops listed):wpOp Try.prog ops Q i (InvR rs T w0 (listed.setIfInBounds i true)) a w:=by
 obtain⟨hu,o,ho,hall⟩:=mem_ready.1 hi
 have hlt:i<rs.length:=by rw[<-hsz];exact(Array.getElem?_eq_some_iff.1 ho).1
 have hun:¬listed.getD i false=true:=fun e=>listed_notW e hu
 obtain⟨r,hr⟩:∃r,rs[i]? = some r:=⟨_,List.getElem?_eq_getElem hlt⟩
 have hob:=hO.at hr
 rw[Nat.zero_add] at hob
 have stb:∀(j d':Nat) (F:World->Value->Prop),rs[j]? = some (Ro.g d' F)->Stb F:=fun j d' F hj=>by
  have:=hO.at hj
  exact this.1
 have sm:∀(j d':Nat) (F:World->Value->Prop),rs[j]? = some (Ro.g d' F)->d'<100000:=fun j d' F hj=>by
  have:=hO.at hj
  exact this.2.2.1
 have sma:∀(j d':Nat),rs[j]? = some (Ro.a d')->d'<100000:=fun j d' hj=>by
  have:=hO.at hj
  exact this.2.1
 cases r with
 | g d F =>
  obtain⟨st,hd,hd2,run⟩:=hob
  refine run a w h.gr h.off (fun o' ho' e he hb r' hr'=>?_) _ (fun v w' hF g=>?_)
  ·obtain rfl:=Option.some.inj (ho'.symm.trans ho)
   exact h.fa _ _ hr' (hall e he hb)
  ·refine⟨by simp[h.len],h.dfr,by simp[Act.put,h.size],fun j hj=>?_,h.gr.trans g,fun j r' hj hl=>?_,fun j A X Z hj hl=>?_,fun j k d1 d2 hj hk hne l1 l2=>?_⟩
   ·rw[put_getW (fun e=>hj (by rw[e];exact dn_mem hr))];exact h.off j hj
   ·by_cases e:j=i
    ·subst e
     obtain rfl:=Option.some.inj (hr.symm.trans hj)
     exact⟨v,put_atW (by rw[h.size];exact hd),hF⟩
    ·have hl':=(lsetW hl).resolve_left e
     refine at_put (rs:=rs) g (fun d' F' e'=>stb j d' F' (by rw[hj,e'])) (h.fa j r' hj hl') (fun d' F' e'=>?_) (fun d' e'=>?_) (fun A X Z e'=>?_)
     ·subst e';exact dn_ne nd hj hr e
     ·subst e';exact dn_ne nd hj hr e
     ·subst e'
      obtain⟨k,hk,lk⟩:=h.lt j A X Z hj hl'
      exact dn_ne nd hk hr (fun e2=>by subst e2;exact hun lk)
   ·rcases lsetW hl with e|hl'
    ·subst e;rw[hr] at hj;cases hj
    ·obtain⟨k,hk,lk⟩:=h.lt j A X Z hj hl'
     exact⟨k,hk,lkeepW lk⟩
   ·have n1:j≠i:=fun e=>by subst e;rw[hr] at hj;cases hj
    have n2:k≠i:=fun e=>by subst e;rw[hr] at hk;cases hk
    rw[put_getW (show d1≠d from dn_ne nd hj hr n1),put_getW (show d2≠d from dn_ne nd hk hr n2)]
    exact h.dj j k d1 d2 hj hk hne ((lsetW l1).resolve_left n1) ((lsetW l2).resolve_left n2)
 | a d =>
  obtain⟨hd,hd2,ty,ps,af,e⟩:=hob
  have g:Gr w (w.alloc (.cells #[.bool false,.slice none 0 0] 24)):=(Gr.refl w).alloc _
  refine wpOp_value e rfl run_al ?_
  show InvR rs T w0 _ (a.put (some d) _) _
  refine⟨by simp[h.len],h.dfr,by simp[Act.put,h.size],fun j hj=>?_,h.gr.trans g,fun j r' hj hl=>?_,fun j A X Z hj hl=>?_,fun j k d1 d2 hj hk hne l1 l2=>?_⟩
  ·rw[put_getW (fun e=>hj (by rw[e];exact dn_mem hr))];exact h.off j hj
  ·by_cases e:j=i
   ·subst e
    obtain rfl:=Option.some.inj (hr.symm.trans hj)
    exact⟨_,put_atW (by rw[h.size];exact hd),w.heap.size,_,_,rfl,h.gr.size,blk1 w _⟩
   ·have hl':=(lsetW hl).resolve_left e
    refine at_put (rs:=rs) g (fun d' F' e'=>stb j d' F' (by rw[hj,e'])) (h.fa j r' hj hl') (fun d' F' e'=>?_) (fun d' e'=>?_) (fun A X Z e'=>?_)
    ·subst e';exact dn_ne nd hj hr e
    ·subst e';exact dn_ne nd hj hr e
    ·subst e'
     obtain⟨k,hk,lk⟩:=h.lt j A X Z hj hl'
     exact dn_ne nd hk hr (fun e2=>by subst e2;exact hun lk)
  ·rcases lsetW hl with e|hl'
   ·subst e;rw[hr] at hj;cases hj
   ·obtain⟨k,hk,lk⟩:=h.lt j A X Z hj hl'
    exact⟨k,hk,lkeepW lk⟩
  ·have new:∀(q d':Nat),rs[q]? = some (Ro.a d')->q≠i->listed.getD q false=true->a.tmps[d']? ≠ some (.pointer (some ⟨w.heap.size,0,none⟩)):=fun q d' hq hn hl he=>by
    obtain⟨v,ev,p,u0,u1,e1,e2,e3⟩:=h.fa q _ hq hl
    rw[ev,e1] at he
    have:=lt_of_get2 e3
    injection he with he
    injection he with he
    injection he with he
    injection he with he
    omega
   by_cases n1:j=i
   ·subst n1
    obtain rfl:d=d1:=by have:=hr.symm.trans hj;cases this;rfl
    have n2:k≠j:=Ne.symm hne
    rw[put_atW (by rw[h.size];exact hd),put_getW (show d2≠d from dn_ne nd hk hr n2)]
    exact Ne.symm (new k d2 hk n2 ((lsetW l2).resolve_left n2))
   ·by_cases n2:k=i
    ·subst n2
     obtain rfl:d=d2:=by have:=hr.symm.trans hk;cases this;rfl
     rw[put_atW (by rw[h.size];exact hd),put_getW (show d1≠d from dn_ne nd hj hr n1)]
     exact new j d1 hj n1 ((lsetW l1).resolve_left n1)
    ·rw[put_getW (show d1≠d from dn_ne nd hj hr n1),put_getW (show d2≠d from dn_ne nd hk hr n2)]
     exact h.dj j k d1 d2 hj hk hne ((lsetW l1).resolve_left n1) ((lsetW l2).resolve_left n2)
 | s A X Z =>
  obtain⟨ty,ps,af,ka,kx,e,ra,rx,ea,ex⟩:=hob
  obtain rfl:_=o:=Option.some.inj (e.symm.trans ho)
  obtain⟨e1,m1,o1,b1⟩:=hasE_out ea
  obtain⟨e2,m2,o2,b2⟩:=hasE_out ex
  have la:listed.getD ka false=true:=by rw[<-o1];exact hall e1 m1 b1
  have lx:listed.getD kx false=true:=by rw[<-o2];exact hall e2 m2 b2
  obtain⟨va,ta,p,u0,u1,rfl,hp,hb⟩:=h.fa ka _ ra la
  obtain⟨vx,tx,xa,xb,xc,xd,xZ,rfl,hw,hf⟩:=h.fa kx _ rx lx
  refine wpOp_skip e rfl (run_st ta tx hb) ?_
  have hput:a.put none undef=a:=rfl
  show InvR rs T w0 _ (a.put none undef) _
  rw[hput]
  refine⟨by simp[h.len],h.dfr,h.size,h.off,(h.gr.setCell (p:=⟨p,0,none⟩) hp _).setCell (p:=⟨p,1,none⟩) hp _,fun j r' hj hl=>?_,fun j A' X' Z' hj hl=>?_,fun j k d1 d2 hj hk hne l1 l2=>?_⟩
  ·by_cases e9:j=i
   ·subst e9
    obtain rfl:=Option.some.inj (hr.symm.trans hj)
    exact⟨_,ta,p,xa,xb,xc,xd,xZ,rfl,hp,set2_blockW hb _ _,hw.set2 hb _ _ (by decide),hf⟩
   ·have hl':=(lsetW hl).resolve_left e9
    have old:=h.fa j r' hj hl'
    cases r' with
    | g d' F=>obtain⟨u,q,k⟩:=old;exact⟨u,q,(stb j d' F hj).st _ _ hb k⟩
    | a d'=>obtain⟨u,q,k⟩:=old;exact⟨u,q,(stb_a _).st _ _ hb k⟩
    | s A' X' Z' =>
     obtain⟨u,q,k⟩:=old
     obtain⟨k',hk',lk'⟩:=h.lt j A' X' Z' hj hl'
     have hAA:A'≠A:=fun ee=>dn_ne nd hj hr e9 (by show 100000+A'=100000+A;rw[ee])
     have hkk:k'≠ka:=fun ee=>by
      subst ee
      have:=hk'.symm.trans ra
      cases this
      exact hAA rfl
     refine⟨u,q,k.st _ _ hb fun ee=>?_⟩
     exact h.dj k' ka A' A hk' ra hkk lk' la (by rw[q,ta,ee])
  ·rcases lsetW hl with e9|hl'
   ·subst e9
    have:=hr.symm.trans hj
    cases this
    exact⟨ka,ra,lkeepW la⟩
   ·obtain⟨k,hk,lk⟩:=h.lt j A' X' Z' hj hl'
    exact⟨k,hk,lkeepW lk⟩
  ·have n1:j≠i:=fun e=>by subst e;rw[hr] at hj;cases hj
   have n2:k≠i:=fun e=>by subst e;rw[hr] at hk;cases hk
   exact h.dj j k d1 d2 hj hk hne ((lsetW l1).resolve_left n1) ((lsetW l2).resolve_left n2)
theorem fold_getW (f:Nat->Value):∀(ks:List Nat) (T:Array Value),∀j,(ks.foldl (fun t x=>t.setIfInBounds x (f x)) T)[j]? = if j∈ks/\j<T.size then some (f j) else T[j]?:=by
 intro ks
 induction ks with
 | nil=>intro T j;simp
 | cons x ks ih =>
  intro T j
  rw[List.foldl_cons,ih (T.setIfInBounds x (f x)) j,Array.size_setIfInBounds,Array.getElem?_setIfInBounds]
  by_cases hj:j<T.size
  ·by_cases h1:j∈ks
   ·simp[h1,hj]
   ·by_cases h2:x=j
    ·subst h2;simp[hj]
    ·simp[h1,hj,h2,Ne.symm h2]
  ·by_cases h2:x=j
   ·subst h2;simp[hj]
   ·simp[hj,h2]
theorem all_listedW {ops:Array Oper} (back:∀(i:Nat) (o:Oper),ops[i]? = some o->∀e∈o.after,Region.binds .any e=true->e.on<i) (listed:Array Bool) (hl:listed.size=ops.size) (hr:Region.ready .any ops listed=[]):∀i,i<ops.size->listed.getD i false=true:=by
 intro i
 induction i using Nat.strongRecOn with
 | ind i ih =>
  intro hi
  refine Classical.byContradiction fun hn=>?_
  have hu:listed.getD i true=false:=by
   have h':i<listed.size:=by omega
   simp[h'] at hn ⊢
   exact hn
  have:i∈Region.ready .any ops listed:=mem_ready.2 ⟨hu,ops[i],Array.getElem?_eq_getElem hi,fun e he hb=>ih e.on (back i _ (Array.getElem?_eq_getElem hi) e he hb) (Nat.lt_trans (back i _ (Array.getElem?_eq_getElem hi) e he hb) hi)⟩
  rw[hr] at this
  cases this
theorem region_roles {id:Nat} {ops:Array Oper} {rs:List Ro} {T:Array Value} {w0:World} {Q:Exit->Act->World->Prop} (back:∀(i:Nat) (o:Oper),ops[i]? = some o->∀e∈o.after,Region.binds .any e=true->e.on<i) (nd:(rs.map Ro.dn).Nodup) (hsz:ops.size=rs.length) (hO:AllO (Ob ops rs T w0 Q) 0 rs)
  (hQ:∀(f:Nat->Value) (w:World),Gr w0 w->(∀(i:Nat) (r:Ro),rs[i]? = some r->r.fin w0.heap.size f w)->Q .normal ⟨(rs.map Ro.dn).foldl (fun t x=>t.setIfInBounds x (f x)) T,[]⟩ w) :
  Code.wp Try.prog (Code.region id ops true) Q ⟨T,[]⟩ w0:=by
 have hne:∀i,(Array.replicate ops.size false).getD i false=true->False:=by
  intro i h
  simp only[Array.getD_eq_getD_getElem?,Array.getElem?_replicate] at h
  split at h <;> simp at h
 refine wp_region_any (by kernel_rfl) (any_inv (InvR rs T w0) (fun l a w i h hi=>InvR.step hO nd hsz i h hi) (fun l a w h hr=>?_) _ _ _ _ (by simp) ?_)
 ·have hall:=all_listedW back l (by rw[h.len,hsz]) hr
  rw[hsz] at hall
  obtain⟨tm,df⟩:=a
  have hd:df=[]:=h.dfr
  subst hd
  have hsz2:tm.size=T.size:=h.size
  have key:tm=(rs.map Ro.dn).foldl (fun t x=>t.setIfInBounds x ((fun j=>(tm[j]?).getD undef) x)) T:=by
   refine Array.ext_getElem? fun j=>?_
   rw[fold_getW (fun j=>(tm[j]?).getD undef)]
   by_cases c:j∈rs.map Ro.dn/\j<T.size
   ·rw[if_pos c]
    have hjs:j<tm.size:=by omega
    simp[hjs]
   ·rw[if_neg c]
    by_cases c2:j<T.size
    ·exact h.off j (fun e=>c ⟨e,c2⟩)
    ·simp[c2,hsz2]
  have FIN:=hQ (fun j=>(tm[j]?).getD undef) w h.gr (fun i r hr'=>?_)
  ·rw[<-key] at FIN
   exact FIN
  ·have hi:=(List.getElem?_eq_some_iff.1 hr').1
   have hf:=h.fa i r hr' (hall i hi)
   cases r with
   | g d F=>obtain⟨v,e,k⟩:=hf;show F w ((tm[d]?).getD undef);rw[show tm[d]? = some v from e];exact k
   | a d=>obtain⟨v,e,k⟩:=hf;show AlF _ w ((tm[d]?).getD undef);rw[show tm[d]? = some v from e];exact k
   | s A X Z=>obtain⟨v,e,k⟩:=hf;show StF _ Z w ((tm[A]?).getD undef);rw[show tm[A]? = some v from e];exact k
 ·refine⟨by simp[hsz],rfl,rfl,fun _ _=>rfl,(Gr.refl w0).drew,fun i r hi hl=>(hne _ hl).elim,fun i A X Z hi hl=>(hne _ hl).elim,fun i j d d' hi hj hn h1 h2=>(hne _ h1).elim⟩
set_option maxHeartbeats 1600000 in
theorem copyLW (ad:Option Addr) (n cap:Nat) (xs:List Nat) (w:World) (rx:Row w ad n cap xs) (n0:0<n) (hn:n<=4398046511104) :
  Calls Try.prog 22 #[.slice ad n cap] w fun r w'=>∃ad' cap',r = .returned (.slice ad' n cap')/\Row w' ad' n cap' xs/\Fresh w.heap.size w' ad' n cap'/\Gr w w':=by
 have hlen:=rx.len
 have hle:=rx.le
 have hmax:=rx.max
 obtain⟨b,off,rfl,hb,hc⟩:=rx.cells n0
 have HC:Hid (∀j,j<n->w.cell? ⟨b,off+j,none⟩=some (.int .u64 ((xs.getD j 0:Nat):Int))):=hc
 have RX:=hide rx
 clear hc rx
 obtain⟨i0,hi,hz0,hz1,hz2⟩:=info_parts Try.info52
 go_enter Try.func22,Try.ntmps22
 go_wp2_with (at_builtin;refine wpList_append_own _ rfl _ _ 22 rfl w.heap.size 52 i0 (.int .u64 0) 1 8 Try.underlying22 hi hz0 hz1 hz2 rfl (by decide) _ _ _ rfl (World.ownsRow_nil _ _ _ _) ⟨b,off,none⟩ n cap (u64s (xs.take n)) rfl ?c1 ?c2 ?c3 ?c4 ?c5 ?c6 ?_)
 case c1=>rw[u64s_length,List.length_take,hlen];omega
 case c2 =>
  intro j u hu
  have:=cells_u64 HC.out n (Nat.le_refl _) hlen j u hu
  unfold Addr.add
  split
  ·rename_i h0
   subst h0
   exact this
  ·exact this
 case c3=>exact one_u64 _
 case c4=>unfold maxLen;omega
 case c5=>omega
 case c6=>exact Nat.le_refl _
 intro v' w' hown hgr _
 obtain⟨ad',cap',rfl,hrow⟩:=Row.of_owns hown
 rw[List.take_of_length_le (by omega)] at hrow
 go_wp2
 go_ret
 exact⟨_,_,rfl,hrow,⟨_,hown⟩,(Gr.refl w).grown hgr (fun k h=>by cases h)⟩
theorem copyL0W (ad:Option Addr) (cap:Nat) (w:World) (hc:cap<=9223372036854775807) (h0:ad=none->cap=0) :
  Calls Try.prog 22 #[.slice ad 0 cap] w fun r w'=>r = .returned (.slice none 0 0)/\Gr w w':=by
 cases ad with
 | none =>
  obtain rfl:=h0 rfl
  go_enter Try.func22,Try.ntmps22
  go_wp2
  go_ret
  exact⟨rfl,Gr.refl _⟩
 | some a =>
  clear h0
  have hp:(Sem.run Try.prog (pure (#[]:Array Value)) w) = .ok #[] w:=rfl
  go_enter Try.func22,Try.ntmps22
  go_wp2
  go_ret
  exact⟨rfl,Gr.refl _⟩
theorem fz2W {w:World} {B i:Nat} {cs:Array Value} {T:TypeId} (h:w.heap[B]? = some (.cells cs T)):w.frozen? ⟨B,i,none⟩=false:=by simp[World.frozen?,h]
theorem Row.otherW {w:World} {ad:Option Addr} {n cap:Nat} {xs:List Nat} (h:Row w ad n cap xs) {B i:Nat} {s:Bool} {a':Option Addr} {n' c':Nat} {T:TypeId} (hb:w.heap[B]? = some (.cells #[.bool s,.slice a' n' c'] T)) (v:Value):Row (w.setCell ⟨B,i,none⟩ v) ad n cap xs:=by
 refine⟨h.len,h.le,h.max,h.nil,fun hp=>?_⟩
 obtain⟨b,off,e,hlt,hc⟩:=h.cells hp
 have hne:b≠B:=by
  rintro rfl
  have h0:=hc 0 hp
  simp only[World.cell?,hb] at h0
  rcases (show off+0=0\/off+0=1\/2<=off+0 by omega) with e|e|e
  ·rw[e] at h0;simp at h0
  ·rw[e] at h0;simp at h0
  ·rw[Array.getElem?_eq_none (by simpa using e)] at h0;cases h0
 exact⟨b,off,e,by simpa [World.setCell] using hlt,fun j hj=>(World.cell?_setCell_other _ _ _ _ (ne_block (Ne.symm hne))).trans (hc j hj)⟩
theorem set_pairW {w:World} {B:Nat} {v0 v1:Value} {T:TypeId} (h:w.heap[B]? = some (.cells #[v0,v1] T)) (u:Value):(w.setCell ⟨B,1,none⟩ u).heap[B]? = some (.cells #[v0,u] T):=by
 have hl:=(Array.getElem?_eq_some_iff.1 h)
 obtain⟨h1,h2⟩:=hl
 show(w.heap.modify B _)[B]? = _
 rw[Array.getElem?_eq_getElem (by rw[Array.size_modify];exact h1),Array.getElem_modify_self,h2]
 rfl
theorem set_pair0W {w:World} {B:Nat} {v0 v1:Value} {T:TypeId} (h:w.heap[B]? = some (.cells #[v0,v1] T)) (u:Value):(w.setCell ⟨B,0,none⟩ u).heap[B]? = some (.cells #[u,v1] T):=by
 have hl:=(Array.getElem?_eq_some_iff.1 h)
 obtain⟨h1,h2⟩:=hl
 show(w.heap.modify B _)[B]? = _
 rw[Array.getElem?_eq_getElem (by rw[Array.size_modify];exact h1),Array.getElem_modify_self,h2]
 rfl
theorem copyIntW (s:Bool) (ad:Option Addr) (n cap:Nat) (xs:List Nat) (w:World) (rx:Row w ad n cap xs) (hn:n<=4398046511104) :
  Calls Try.prog 7 #[.agg #[.bool s,.slice ad n cap]] w fun r w'=>∃ad' cap',r = .returned (.agg #[.bool s,.slice ad' n cap'])/\Hid (Row w' ad' n cap' xs)/\Hid (Fresh w.heap.size w' ad' n cap')/\Gr w w':=by
 have C:Hid (∀w1,Gr w w1->Calls Try.prog 22 #[.slice ad n cap] w1 fun r w'=>∃ad' cap',r = .returned (.slice ad' n cap')/\Hid (Row w' ad' n cap' xs)/\Hid (Fresh w.heap.size w' ad' n cap')/\Gr w1 w'):=fun w1 g=>by
  by_cases h0:0<n
  ·refine(copyLW ad n cap xs w1 (rx.gr g) h0 hn).mono ?_
   rintro r w' ⟨a1,c1,rfl,h1,h2,h3⟩
   exact⟨a1,c1,rfl,h1,h2.low g.size,h3⟩
  ·obtain rfl:n=0:=by omega
   refine(copyL0W ad cap w1 rx.max rx.nil).mono ?_
   rintro r w' ⟨rfl,g1⟩
   have e:xs=[]:=List.eq_nil_of_length_eq_zero rx.len
   subst e
   exact⟨none,0,rfl,Row.empty (by omega) (fun _=>rfl),Fresh.nil _ _,g1⟩
 have BX:=blk2 w (.cells #[.bool s,.slice ad n cap] 24) (.cells #[.bool false,.slice none 0 0] 24)
 have G0:Gr w ((w.alloc (.cells #[.bool s,.slice ad n cap] 24)).alloc (.cells #[.bool false,.slice none 0 0] 24)):=((Gr.refl w).alloc _).alloc _
 obtain⟨t0,t1⟩:=bx2 BX.1
 have BB:=hide BX
 clear rx BX
 go_enter Try.func7,Try.ntmps7
 go_wp2_with (go_at_call 22;(with_reducible refine(C.out _ G0).mono ?_);rintro r w1 ⟨ad',cap',rfl,hl,hf,g1⟩;have Q0:=keepO g1 BB.out.1;have Q1:=keepO g1 BB.out.2;have d0:=(bx2 Q0).1;have d1:=(bx2 Q0).2;have e0:=(bx2 Q1).1;have e1:=(bx2 Q1).2;have f1:=fz2W (i:=1) Q0;have f2:=fz2W (i:=0) Q1;have f3:=fz2W (i:=1) Q1;have QQ:=hide (And.intro Q0 Q1);have G1:=hide (G0.trans g1);clear Q0 Q1 g1)
 obtain⟨Q0,Q1⟩:=QQ.out
 have q0:(w1.setCell ⟨w.heap.size,1,none⟩ (.slice ad' n cap')).heap[w.heap.size+1]? = some (.cells #[.bool false,.slice none 0 0] 24):=(Below.heap_setCell _ _ _ _ (by show w.heap.size+1≠w.heap.size;omega)).trans Q1
 have q1:=set_pair0W q0 (.bool s)
 have q2:=set_pairW q1 (.slice ad' n cap')
 obtain⟨z0,z1⟩:=bx2 q2
 have R1:=((hl.out.otherW Q0 (i:=1) (.slice ad' n cap')).otherW q0 (i:=0) (.bool s)).otherW q1 (i:=1) (.slice ad' n cap')
 have F1:=hf.out.far (i:=1) (hf.out.ne Q0 (by decide)) (.slice ad' n cap')
 have F2:=F1.far (i:=0) (F1.ne q0 (by decide)) (.bool s)
 have F3:=F2.far (i:=1) (F2.ne q1 (by decide)) (.slice ad' n cap')
 refine bodyPost_ret (v:=.agg #[.bool s,.slice ad' n cap']) ?_ rfl ⟨_,_,rfl,R1,F3,?_⟩
 ·simp[results,Try.results7,go_sem,z0,z1]
 ·exact((G1.out.setCell (p:=⟨w.heap.size,1,none⟩) (Nat.le_refl _) _).setCell (p:=⟨w.heap.size+1,0,none⟩) (by show _<=w.heap.size+1;omega) _).setCell (p:=⟨w.heap.size+1,1,none⟩) (by show _<=w.heap.size+1;omega) _
end Go.Proofs.Ytmdakhpdofepeaa
