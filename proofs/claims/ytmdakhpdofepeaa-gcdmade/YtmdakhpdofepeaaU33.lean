import Derived.Test.YtmdakhpdofepeaaU32
namespace Go.Proofs.Ytmdakhpdofepeaa
open Go.RowKit
set_option linter.unusedVariables false
set_option linter.unusedSimpArgs false
theorem run_ldI {a:Act} {w:World} {l p ty:Nat} {ps:String} {af:Array Edge} {q:Nat} {v0 v1:Value} (hp:a.tmps[p]? = some (.pointer (some ⟨q,0,none⟩))) (c0:w.cell? ⟨q,0,none⟩=some v0) (c1:w.cell? ⟨q,1,none⟩=some v1) :
  (execOp a.eval ({dst:=some l,op:=Op.load 24 (Operand.tmp p),type:=ty,pos:=ps,after:=af,guard:=none}:Oper)).run Try.prog w = .ok (.value (.agg #[v0,v1])) w:=by
 have e:=eval_tmp hp
 simp only[execOp,e]
 first|(go_simp;done)|(go_simp;with_reducible rfl)
theorem run_c1 {a:Act} {w:World} {l p ty f:Nat} {at':Array TypeId} {ps:String} {af:Array Edge} {v:Value} (hf:∀(vs:Array Value) (w:World),(callFunc f vs).run Try.prog w = .ok (.enter f vs) w) (hp:a.tmps[p]? = some v) :
  (execOp a.eval ({dst:=some l,op:=Op.call {callee:=Callee.value (Operand.func f),args:=#[Operand.tmp p],argTypes:=at'},type:=ty,pos:=ps,after:=af,guard:=none}:Oper)).run Try.prog w = .ok (.enter f #[v]) w:=by
 have e:=eval_tmp hp
 simp only[execOp,e]
 first|(go_simp;done)|(go_simp;exact hf _ _)
theorem run_c2 {a:Act} {w:World} {l p p' ty f:Nat} {at':Array TypeId} {ps:String} {af:Array Edge} {v v':Value} (hf:∀(vs:Array Value) (w:World),(callFunc f vs).run Try.prog w = .ok (.enter f vs) w) (hp:a.tmps[p]? = some v) (hp':a.tmps[p']? = some v') :
  (execOp a.eval ({dst:=some l,op:=Op.call {callee:=Callee.value (Operand.func f),args:=#[Operand.tmp p,Operand.tmp p'],argTypes:=at'},type:=ty,pos:=ps,after:=af,guard:=none}:Oper)).run Try.prog w = .ok (.enter f #[v,v']) w:=by
 have e:=eval_tmp hp
 have e':=eval_tmp hp'
 simp only[execOp,e,e']
 first|(go_simp;done)|(go_simp;exact hf _ _)
theorem run_mv {a:Act} {w:World} {l p ty:Nat} {ps:String} {af:Array Edge} {v:Value} (hp:a.tmps[p]? = some v) :
  (execOp a.eval ({dst:=some l,op:=Op.move (Operand.tmp p),type:=ty,pos:=ps,after:=af,guard:=none}:Oper)).run Try.prog w = .ok (.value v) w:=by
 have e:=eval_tmp hp
 simp only[execOp,e]
 first|(go_simp;done)|(go_simp;with_reducible rfl)
theorem run_as {a:Act} {w:World} {l p ty:Nat} {ps:String} {af:Array Edge} {v:Value} (hp:a.tmps[p]? = some v) :
  (execOp a.eval ({dst:=some l,op:=Op.assign (Operand.tmp p),type:=ty,pos:=ps,after:=af,guard:=none}:Oper)).run Try.prog w = .ok (.value v) w:=by
 have e:=eval_tmp hp
 simp only[execOp,e]
 first|(go_simp;done)|(go_simp;with_reducible rfl)
theorem run_ex {a:Act} {w:World} {l p ty j:Nat} {ps:String} {af:Array Edge} {vs:List Value} {u:Value} (hp:a.tmps[p]? = some (.tuple vs.toArray)) (hu:vs[j]? = some u) :
  (execOp a.eval ({dst:=some l,op:=Op.extract (Operand.tmp p) j,type:=ty,pos:=ps,after:=af,guard:=none}:Oper)).run Try.prog w = .ok (.value u) w:=by
 have e:=eval_tmp hp
 have hu':vs.toArray[j]? = some u:=by simpa using hu
 simp only[execOp,e]
 first|(go_simp;done)|(go_simp;with_reducible rfl)
theorem blt_out {x y:Nat} (h:Nat.blt x y=true):x<y:=by rwa [Nat.blt_eq] at h
theorem not_mem_out {l:List Nat} {p:Nat} (h:l.contains p=false):p ∉ l:=fun hm=>by
 rw[List.contains_iff_mem.2 hm] at h
 cases h
def ndB:List Nat->Bool
 | []=>true
 | x :: xs=>!(xs.contains x) && ndB xs
theorem ndB_out:∀{l:List Nat},ndB l=true->l.Nodup
 | [],_=>List.nodup_nil
 | x :: xs,h=>by
  simp only[ndB,Bool.and_eq_true,Bool.not_eq_true'] at h
  exact List.nodup_cons.2 ⟨not_mem_out h.1,ndB_out h.2⟩
section
variable {ops:Array Oper} {rs:List Ro} {T:Array Value} {w0:World} {Q:Exit->Act->World->Prop} {i d:Nat}
theorem dep_at {p k:Nat} {F:World->Value->Prop} {o:Oper} {a:Act} {w:World} (ho:ops[i]? = some o) (dep:∀o,ops[i]? = some o->∀e∈o.after,Region.binds .any e=true->∀r:Ro,rs[e.on]? = some r->r.at w0.heap.size a w) (hk:hasE o.after k=true) (hr:rs[k]? = some (.g p F)):∃v,a.tmps[p]? = some v/\F w v:=by
 obtain⟨e,m,on,b⟩:=hasE_out hk
 exact dep o ho e m b (.g p F) (by rw[on];exact hr)
theorem ob_ld {p q n c ty:Nat} {s:Bool} {ad:Option Addr} {ps:String} {af:Array Edge} (ho:ops[i]? = some ({dst:=some d,op:=Op.load 24 (Operand.tmp p),type:=ty,pos:=ps,after:=af,guard:=none}:Oper)) (hd:Nat.blt d T.size=true) (hd2:Nat.blt d 100000=true) (hp:(rs.map Ro.dn).contains p=false) (ht:T[p]? = some (.pointer (some ⟨q,0,none⟩))) (hb:w0.heap[q]? = some (.cells #[.bool s,.slice ad n c] 24)):Ob ops rs T w0 Q i (.g d (isC (.agg #[.bool s,.slice ad n c]))):=by
 refine⟨stb_c _,blt_out hd,blt_out hd2,fun a w g off dep K hK=>?_⟩
 have hc:=bx2 (keepO g hb)
 exact wpOp_value ho rfl (run_ldI ((off p (not_mem_out hp)).trans ht) hc.1 hc.2) (hK _ _ rfl (Gr.refl w))
theorem ob_al {ty:Nat} {ps:String} {af:Array Edge} (ho:ops[i]? = some ({dst:=some d,op:=Op.alloc 24,type:=ty,pos:=ps,after:=af,guard:=none}:Oper)) (hd:Nat.blt d T.size=true) (hd2:Nat.blt d 100000=true):Ob ops rs T w0 Q i (.a d):=⟨blt_out hd,blt_out hd2,ty,ps,af,ho⟩
theorem ob_c1 {p k ty f:Nat} {F F':World->Value->Prop} {at':Array TypeId} {ps:String} {af:Array Edge} (hf:∀(vs:Array Value) (w:World),(callFunc f vs).run Try.prog w = .ok (.enter f vs) w) (ho:ops[i]? = some ({dst:=some d,op:=Op.call {callee:=Callee.value (Operand.func f),args:=#[Operand.tmp p],argTypes:=at'},type:=ty,pos:=ps,after:=af,guard:=none}:Oper)) (hd:Nat.blt d T.size=true) (hd2:Nat.blt d 100000=true) (st:Stb F) (hr:rs[k]? = some (.g p F')) (hk:hasE af k=true) (X:∀w1 v,Gr w0 w1->F' w1 v->Calls Try.prog f #[v] w1 fun e w'=>∃u,e = .returned u/\F w' u/\Gr w1 w'):Ob ops rs T w0 Q i (.g d F):=by
 refine⟨st,blt_out hd,blt_out hd2,fun a w g off dep K hK=>?_⟩
 obtain⟨v,e1,e2⟩:=dep_at ho dep hk hr
 refine wpOp_call ho rfl (run_c1 hf e1) ((X w v g e2).mono ?_)
 rintro e w' ⟨u,rfl,hu,g'⟩
 exact⟨u,rfl,hK u w' hu g'⟩
theorem ob_c2 {p p' k k' ty f:Nat} {F F' F'':World->Value->Prop} {at':Array TypeId} {ps:String} {af:Array Edge} (hf:∀(vs:Array Value) (w:World),(callFunc f vs).run Try.prog w = .ok (.enter f vs) w) (ho:ops[i]? = some ({dst:=some d,op:=Op.call {callee:=Callee.value (Operand.func f),args:=#[Operand.tmp p,Operand.tmp p'],argTypes:=at'},type:=ty,pos:=ps,after:=af,guard:=none}:Oper)) (hd:Nat.blt d T.size=true) (hd2:Nat.blt d 100000=true) (st:Stb F) (hr:rs[k]? = some (.g p F')) (hk:hasE af k=true) (hr':rs[k']? = some (.g p' F'')) (hk':hasE af k'=true) (X:∀w1 v v',Gr w0 w1->F' w1 v->F'' w1 v'->Calls Try.prog f #[v,v'] w1 fun e w'=>∃u,e = .returned u/\F w' u/\Gr w1 w'):Ob ops rs T w0 Q i (.g d F):=by
 refine⟨st,blt_out hd,blt_out hd2,fun a w g off dep K hK=>?_⟩
 obtain⟨v,e1,e2⟩:=dep_at ho dep hk hr
 obtain⟨v',e1',e2'⟩:=dep_at ho dep hk' hr'
 refine wpOp_call ho rfl (run_c2 hf e1 e1') ((X w v v' g e2 e2').mono ?_)
 rintro e w' ⟨u,rfl,hu,g'⟩
 exact⟨u,rfl,hK u w' hu g'⟩
theorem ob_mv {p k ty:Nat} {F:World->Value->Prop} {ps:String} {af:Array Edge} (ho:ops[i]? = some ({dst:=some d,op:=Op.move (Operand.tmp p),type:=ty,pos:=ps,after:=af,guard:=none}:Oper)) (hd:Nat.blt d T.size=true) (hd2:Nat.blt d 100000=true) (st:Stb F) (hr:rs[k]? = some (.g p F)) (hk:hasE af k=true):Ob ops rs T w0 Q i (.g d F):=by
 refine⟨st,blt_out hd,blt_out hd2,fun a w g off dep K hK=>?_⟩
 obtain⟨v,e1,e2⟩:=dep_at ho dep hk hr
 exact wpOp_value ho rfl (run_mv e1) (hK _ _ e2 (Gr.refl w))
theorem ob_as {p k ty:Nat} {F:World->Value->Prop} {ps:String} {af:Array Edge} (ho:ops[i]? = some ({dst:=some d,op:=Op.assign (Operand.tmp p),type:=ty,pos:=ps,after:=af,guard:=none}:Oper)) (hd:Nat.blt d T.size=true) (hd2:Nat.blt d 100000=true) (st:Stb F) (hr:rs[k]? = some (.g p F)) (hk:hasE af k=true):Ob ops rs T w0 Q i (.g d F):=by
 refine⟨st,blt_out hd,blt_out hd2,fun a w g off dep K hK=>?_⟩
 obtain⟨v,e1,e2⟩:=dep_at ho dep hk hr
 exact wpOp_value ho rfl (run_as e1) (hK _ _ e2 (Gr.refl w))
theorem ob_ex {p k j ty:Nat} {F:World->Value->Prop} {Fs:List (World->Value->Prop)} {ps:String} {af:Array Edge} (ho:ops[i]? = some ({dst:=some d,op:=Op.extract (Operand.tmp p) j,type:=ty,pos:=ps,after:=af,guard:=none}:Oper)) (hd:Nat.blt d T.size=true) (hd2:Nat.blt d 100000=true) (st:Stb F) (hr:rs[k]? = some (.g p (TupF Fs))) (hk:hasE af k=true) (hF:Fs[j]? = some F):Ob ops rs T w0 Q i (.g d F):=by
 refine⟨st,blt_out hd,blt_out hd2,fun a w g off dep K hK=>?_⟩
 obtain⟨v,e1,vs,rfl,l,h⟩:=dep_at ho dep hk hr
 have hj:j<vs.length:=by rw[l];exact(List.getElem?_eq_some_iff.1 hF).1
 have hu:vs[j]? = some vs[j]:=List.getElem?_eq_getElem hj
 exact wpOp_value ho rfl (run_ex e1 hu) (hK _ _ (h j F _ hF hu) (Gr.refl w))
end
theorem stb_2 {F G:World->Value->Prop} (h1:Stb F) (h2:Stb G):Stb (TupF [F,G]):=stb_t (fun H hH=>by
 rcases List.mem_cons.1 hH with rfl|hH
 ·exact h1
 ·rcases List.mem_cons.1 hH with rfl|hH
  ·exact h2
  ·cases hH)
theorem stb_3 {F G K:World->Value->Prop} (h1:Stb F) (h2:Stb G) (h3:Stb K):Stb (TupF [F,G,K]):=stb_t (fun H hH=>by
 rcases List.mem_cons.1 hH with rfl|hH
 ·exact h1
 ·rcases List.mem_cons.1 hH with rfl|hH
  ·exact h2
  ·rcases List.mem_cons.1 hH with rfl|hH
   ·exact h3
   ·cases hH)
theorem copyF {B:Nat} {s:Bool} {ad:Option Addr} {n c:Nat} {xs:List Nat} {w0:World} (hB:B<=w0.heap.size) (rx:Row w0 ad n c xs) (hn:n<=4398046511104):∀w1 v,Gr w0 w1->isC (.agg #[.bool s,.slice ad n c]) w1 v->Calls Try.prog 7 #[v] w1 fun e w'=>∃u,e = .returned u/\RowF B s n xs w' u/\Gr w1 w':=by
 rintro w1 v g rfl
 refine(copyIntW s ad n c xs w1 (rx.gr g) hn).mono ?_
 rintro r w' ⟨a,k,rfl,h1,h2,h3⟩
 exact⟨_,rfl,⟨a,k,rfl,h1.out,h2.out.low (Nat.le_trans hB g.size)⟩,h3⟩
theorem Try.ent_CopyInt (vs:Array Value) (w:World):(callFunc 7 vs).run Try.prog w = .ok (.enter 7 vs) w:=by
 first|(go_simp;done)|(go_simp;with_reducible rfl)
theorem Try.ent_Of (vs:Array Value) (w:World):(callFunc 6 vs).run Try.prog w = .ok (.enter 6 vs) w:=by
 first|(go_simp;done)|(go_simp;with_reducible rfl)
theorem Try.ent_Bezout (vs:Array Value) (w:World):(callFunc 8 vs).run Try.prog w = .ok (.enter 8 vs) w:=by
 first|(go_simp;done)|(go_simp;with_reducible rfl)
theorem Try.ent_Lcm (vs:Array Value) (w:World):(callFunc 9 vs).run Try.prog w = .ok (.enter 9 vs) w:=by
 first|(go_simp;done)|(go_simp;with_reducible rfl)
def isZ (k z:Int):Prop:=z=k
theorem Try.ent_sizeOf (vs:Array Value) (w:World):(callFunc 29 vs).run Try.prog w = .ok (.enter 29 vs) w:=by
 first|(go_simp;done)|(go_simp;with_reducible rfl)
theorem Try.ent_Trunc (vs:Array Value) (w:World):(callFunc 28 vs).run Try.prog w = .ok (.enter 28 vs) w:=by
 first|(go_simp;done)|(go_simp;with_reducible rfl)
theorem stb_4 {F G K L:World->Value->Prop} (h1:Stb F) (h2:Stb G) (h3:Stb K) (h4:Stb L):Stb (TupF [F,G,K,L]):=stb_t (fun H hH=>by
 rcases List.mem_cons.1 hH with rfl|hH
 ·exact h1
 ·rcases List.mem_cons.1 hH with rfl|hH
  ·exact h2
  ·rcases List.mem_cons.1 hH with rfl|hH
   ·exact h3
   ·rcases List.mem_cons.1 hH with rfl|hH
    ·exact h4
    ·cases hH)
theorem tup2 {w:World} {F G:World->Value->Prop} {u v:Value} (h1:F w u) (h2:G w v):TupF [F,G] w (.tuple #[u,v]):=⟨[u,v],rfl,rfl,fun i H x hF hu=>by
 match i,hF,hu with
 | 0,hF,hu=>cases hF;cases hu;exact h1
 | 1,hF,hu=>cases hF;cases hu;exact h2⟩
theorem tup3 {w:World} {F G K:World->Value->Prop} {u v x:Value} (h1:F w u) (h2:G w v) (h3:K w x):TupF [F,G,K] w (.tuple #[u,v,x]):=⟨[u,v,x],rfl,rfl,fun i H x hF hu=>by
 match i,hF,hu with
 | 0,hF,hu=>cases hF;cases hu;exact h1
 | 1,hF,hu=>cases hF;cases hu;exact h2
 | 2,hF,hu=>cases hF;cases hu;exact h3⟩
theorem tup4 {w:World} {F G K L:World->Value->Prop} {u v x y:Value} (h1:F w u) (h2:G w v) (h3:K w x) (h4:L w y):TupF [F,G,K,L] w (.tuple #[u,v,x,y]):=⟨[u,v,x,y],rfl,rfl,fun i H x hF hu=>by
 match i,hF,hu with
 | 0,hF,hu=>cases hF;cases hu;exact h1
 | 1,hF,hu=>cases hF;cases hu;exact h2
 | 2,hF,hu=>cases hF;cases hu;exact h3
 | 3,hF,hu=>cases hF;cases hu;exact h4⟩
theorem back_ofW {ops:Array Oper} (h:(ops.toList.zipIdx.all fun p=>p.1.after.all fun e=>!(Region.binds .any e) || decide (e.on<p.2))=true):∀(i:Nat) (o:Oper),ops[i]? = some o->∀e∈o.after,Region.binds .any e=true->e.on<i:=by
 intro i o ho e he hb
 rw[List.all_eq_true] at h
 have hm:(o,i)∈ops.toList.zipIdx:=by
  rw[List.mem_zipIdx_iff_getElem?]
  simpa using ho
 have h2:=h (o,i) hm
 rw[Array.all_eq_true_iff_forall_mem] at h2
 have h3:=h2 e he
 rw[hb] at h3
 simpa using h3
end Go.Proofs.Ytmdakhpdofepeaa
