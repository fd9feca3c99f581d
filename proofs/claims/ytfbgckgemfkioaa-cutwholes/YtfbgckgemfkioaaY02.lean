import Derived.Test.YtfbgckgemfkioaaY01
import Derived.RangeFuncNested
import Derived.RangeFuncBound
import Derived.RangeFuncCalls
import Derived.RangeFuncLeaves
import Derived.Test.YtfbgckgemfkioaaProg
import Derived.Shelf.Abstract
import Derived.Shelf.RegionOpen
import Derived.OwnWalkIn
import Derived.TacticsInMore
import Derived.LoopNIn
import Derived.LoopIn
import Derived.Maps.AppendAt
import Derived.Laws.AppendOwnNone
namespace Go.Proofs.Ytfbgckgemfkioaa
open Go.RowKit
set_option linter.unusedVariables false
structure GrE (E:Nat->Prop) (w w':World):Prop where
 os:w'.os=w.os
 output:w'.output=w.output
 size:w.heap.size<=w'.heap.size
 block:∀k,k<w.heap.size->¬E k->w'.heap[k]? = w.heap[k]?
theorem GrE.refl (E:Nat->Prop) (w:World):GrE E w w:=⟨rfl,rfl,Nat.le_refl _,fun _ _ _=>rfl⟩
theorem GrE.trans {E:Nat->Prop} {a b c:World} (h:GrE E a b) (k:GrE E b c):GrE E a c:=
 ⟨k.os.trans h.os,k.output.trans h.output,Nat.le_trans h.size k.size,fun i hi hE=>(k.block i (Nat.lt_of_lt_of_le hi h.size) hE).trans (h.block i hi hE)⟩
theorem GrE.mono {E E':Nat->Prop} {a b:World} (h:GrE E a b) (hE:∀k,k<a.heap.size->E k->E' k):GrE E' a b:=
 ⟨h.os,h.output,h.size,fun i hi hn=>h.block i hi fun he=>hn (hE i hi he)⟩
theorem GrE.of_gr {E:Nat->Prop} {a b:World} (h:Gr a b):GrE E a b:=⟨h.os,h.output,h.size,fun i hi _=>h.block i hi⟩
theorem GrE.gr {E:Nat->Prop} {a b:World} (h:GrE E a b) (hE:∀k,k<a.heap.size->¬E k):Gr a b:=⟨h.os,h.output,h.size,fun i hi=>h.block i hi (hE i hi)⟩
theorem GrE.drew {E:Nat->Prop} {a w:World} (h:GrE E a w):GrE E a w.drew:=⟨h.os,h.output,h.size,h.block⟩
theorem GrE.alloc {E:Nat->Prop} {a w:World} (h:GrE E a w) (o:Obj):GrE E a (w.alloc o):=h.trans (GrE.of_gr ((Gr.refl w).alloc o))
theorem GrE.setCell {E:Nat->Prop} {a w:World} (h:GrE E a w) {p:Addr} (hp:a.heap.size<=p.block\/E p.block) (u:Value):GrE E a (w.setCell p u):=
 ⟨h.os,h.output,by simpa [World.setCell] using h.size,fun k hk hn=>by
  refine(Below.heap_setCell _ _ _ _ ?_).trans (h.block k hk hn)
  rintro rfl
  rcases hp with hp|hp
  ·omega
  ·exact hn hp⟩
theorem GrE.putObj {E:Nat->Prop} {a w:World} (h:GrE E a w) {l:Nat} (hp:a.heap.size<=l\/E l) (o:Obj):GrE E a (w.putObj l o):=
 ⟨h.os,h.output,by rw[World.putObj_size];exact h.size,fun k hk hn=>by
  refine(World.putObj_heap_other ?_).trans (h.block k hk hn)
  rintro rfl
  rcases hp with hp|hp
  ·omega
  ·exact hn hp⟩
theorem GrE.grown {E:Nat->Prop} {a w w':World} {row:Option Nat} (h:GrE E a w) (hg:w.grownBy w' row) (hr:∀k,row=some k->a.heap.size<=k\/E k):GrE E a w':=
 ⟨hg.os.trans h.os,hg.output.trans h.output,Nat.le_trans h.size hg.size,fun k hk hn=>(hg.block k (Nat.lt_of_lt_of_le hk h.size) (fun e=>by rcases hr k e.symm with h|h;omega;exact hn h)).trans (h.block k hk hn)⟩
theorem GrE.cell {E:Nat->Prop} {w w':World} (h:GrE E w w') {p:Addr} (hp:p.block<w.heap.size) (hn:¬E p.block):w'.cell? p=w.cell? p:=World.cell?_of_block (w:=w) (h.block p.block hp hn)
theorem GrE.frozen {E:Nat->Prop} {w w':World} (h:GrE E w w') {p:Addr} (hp:p.block<w.heap.size) (hn:¬E p.block):w'.frozen? p=w.frozen? p:=World.frozen?_of_block (w:=w) (h.block p.block hp hn)
theorem GrE.keep {E:Nat->Prop} {w w':World} (h:GrE E w w') {b o:Nat} {v:Value} (hc:w.cell? ⟨b,o,none⟩=some v) (hn:¬E b):w'.cell? ⟨b,o,none⟩=some v:=(h.cell (p:=⟨b,o,none⟩) (lt_of_cell' hc) hn).trans hc
theorem GrE.keepB {E:Nat->Prop} {w w':World} (h:GrE E w w') {b:Nat} {o:Obj} (hc:w.heap[b]? = some o) (hn:¬E b):w'.heap[b]? = some o:=(h.block b (Array.getElem?_eq_some_iff.1 hc).1 hn).trans hc
theorem GrE.boxed {E:Nat->Prop} {w w':World} (h:GrE E w w') {b:Nat} {t:TypeId} {v:Value} (hc:Boxed w b t v) (hn:¬E b):Boxed w' b t v:=h.keepB hc hn
theorem GrE.owns {E:Nat->Prop} {w w':World} (h:GrE E w w') {base:Nat} {e:TypeId} {size:Nat} {v:Value} {n:Nat} {xs:List Value} (ho:w.ownsRow base e size v n xs) (hn:∀b,v.ownBlock=some b->¬E b):w'.ownsRow base e size v n xs:=by
 refine⟨ho.1,?_⟩
 rcases ho.2 with hn'|⟨g,cap,cur,rfl,hb,hgg,rest⟩
 ·exact .inl hn'
 ·refine .inr ⟨g,cap,cur,rfl,hb,?_,rest⟩
  exact h.keepB hgg (hn g rfl)
def Btw (lo m:Nat) (k:Nat):Prop:=lo<=k/\k<lo+m
variable {P:Program}
theorem RoundIn.any {m m':Nat} {l:Nat} {f:FuncId} {tmps:Array Value} {assign body:Code} {w:World} {R:Ending->World->Prop}
  (h:RoundIn Fence.wide m P l f tmps assign body w R):RoundIn Fence.wide m' P l f tmps assign body w R:=⟨h.1,fun c cs _=>h.2 c cs (room_wide _)⟩
theorem RoundIn.inR {m:Nat} {l' l:Nat} {f:FuncId} {tmps:Array Value} {assign body:Code} {w:World} {R:Ending->World->Prop} (h:RoundIn Fence.wide m P l f tmps assign body w R):RoundIn (Fence.wide.inRound l') m P l f tmps assign body w R:=h
theorem YieldAt.any {m:Nat} (m':Nat) {l:Nat} {args:Array Value} {W:World} {R:Ending->World->Prop} (h:YieldAt Fence.wide m P l args W R):YieldAt Fence.wide m' P l args W R:=by
 obtain⟨fn,tmps,assign,body,hy,hR⟩:=h
 exact⟨fn,tmps,assign,body,hy,RoundIn.any hR⟩
def SeqQ (P:Program) (gf:Nat) (lb:Array Value) (E:Nat->Prop) (m:Nat) (xs:List Int) (w₀:World):Prop:=
 ∀(n l:Nat) (J:List Int->World->Prop) (W:World),GrE E w₀ W ->
  (∀pre A B,J pre A->GrE (Btw W.heap.size m) A B->J pre B) ->
  (∀pre x A,J pre A->W.heap.size+m<=A.heap.size->pre++[x] <+: xs->YieldAt Fence.wide 9 P l #[.int .i64 x] A fun e B=>e = .returned (.bool true)/\J (pre++[x]) B/\GrE (fun k=>E k/\¬Btw W.heap.size m k) A B) ->
  J [] W ->
  CallsIn Fence.wide n P gf (#[.func (.yield l) #[] #[]]++lb) W fun e B=>(∃v,e = .returned v)/\J xs B/\GrE E W B
def postQ (J:World->Prop):Exit->Act->World->Prop
 | .normal,_,W'=>J W'
 | _,_,_=>False
def qN (R:Act->World->Prop):Exit->Act->World->Prop
 | .normal,a,w=>R a w
 | _,_,_=>False
theorem wpIn_rangeQ {n:Nat} {g:Operand} {ps:Array Tmp} {assign body:Code} {Q:Exit->Act->World->Prop} {a:Act} {w:World}
  {gf:Nat} {lb:Array Value} (hg:a.eval g = .func (.func gf) #[] lb) (eg:∀args w,(callFunc gf args).run P w = .ok (.enter gf args) w)
  {E:Nat->Prop} {m:Nat} {xs:List Int} {w₀:World} (hseq:SeqQ P gf lb E m xs w₀) (hw₀:GrE E w₀ w) (hn₀:∀k,w.heap.size<=k->E k) (hps:ps.size=1)
  (I:List Int->World->Prop) (hI:∀pre A B,I pre A->GrE (Btw w.heap.size (m+2)) A B->I pre B) (h0:I [] w) (a₁:Int->Act)
  (hassign:∀(l:Nat) (x:Int) (W:World) (K:Act->World->Prop),K (a₁ x) W ->
   assign.wpIn (Fence.wide.inRound l) 9 P (Exit.then K (fun _ _ _=>False)) {tmps:=(ps.zip #[Value.int .i64 x]).foldl (fun t (p,v)=>t.setIfInBounds p v) a.tmps,defers:=[]} W)
  (hbody:∀(l:Nat) (pre:List Int) (x:Int) (W:World),I pre W->pre++[x] <+: xs->w.heap.size+(m+2)<=W.heap.size->body.wpIn (Fence.wide.inRound l) 9 P (postQ fun W'=>I (pre++[x]) W'/\GrE (fun k=>E k/\¬Btw w.heap.size (m+2) k) W W') (a₁ x) W)
  (hdone:∀(W:World),I xs W->GrE E w W->w.heap.size+2<=W.heap.size->W.heap[w.heap.size]? = some (.deferred (some []))->Q .normal {a with defers:={target:=.collected w.heap.size,args:=#[]} :: a.defers} W) :
  (Code.rangeFunc g ps assign body).wpIn Fence.wide n P Q a w:=by
 refine wpIn_rangeFunc ?_
 intro fn hfn
 rw[show Fence.wide.round=none from rfl]
 obtain⟨rec,hrec⟩:∃rec:LoopState->Option Code->Loop,rec=fun st pe=>{state:=st,pending:=pe,fn,tmps:=a.tmps,params:=ps,assign,body,defers:=w.heap.size}:=⟨_,rfl⟩
 obtain⟨W1,hW1⟩:∃W1,(w.alloc (.deferred (some []))).alloc (.loop (rec .ready none))=W1:=⟨_,rfl⟩
 have hL1:W1.heap[w.heap.size+1]? = some (.loop (rec .ready none)):=by
  rw[<-hW1];have:=World.alloc_heap_new (w.alloc (.deferred (some []))) (.loop (rec .ready none));rwa [World.size_alloc] at this
 have hK1:W1.heap[w.heap.size]? = some (.deferred (some [])):=by
  rw[<-hW1];exact(Below.heap_alloc _ _ _ (by simp)).trans (World.alloc_heap_new w _)
 have hG1:Gr w W1:=by rw[<-hW1];exact((Gr.refl w).alloc _).alloc _
 have hs1:W1.heap.size=w.heap.size+2:=by rw[<-hW1];simp
 have hI1:I [] W1:=hI _ _ _ h0 (GrE.of_gr hG1)
 refine⟨w.heap.size+1,[{target:=.collected w.heap.size,args:=#[]}],W1,{target:=.fn (.func gf) lb,args:=#[.func (.yield (w.heap.size+1)) #[] #[]]},W1,gf,
  #[.func (.yield (w.heap.size+1)) #[] #[]]++lb,W1,?_,?_,?_,?_,fun h=>(by cases h),?_⟩
 ·rw[<-hW1,hrec];exact run_enterLoop_outer _ _ _ _ _
 ·simp only[resolve,hg]
  simp[go_sem]
 ·intro f' hf';exact trivial
 ·simp[invoke,go_sem,eg]
 ·refine(hseq (n-1) (w.heap.size+1)
   (fun pre W=>I pre W/\W.heap[w.heap.size+1]? = some (.loop (rec .ready none))/\W.heap[w.heap.size]? = some (.deferred (some []))/\w.heap.size+2<=W.heap.size)
   W1 (hw₀.trans (GrE.of_gr hG1)) ?_ ?_ ⟨hI1,hL1,hK1,by omega⟩).mono ?_
  ·rintro pre A B ⟨hi,hl,hk,hz⟩ hE
   rw[hs1] at hE
   refine⟨hI _ _ _ hi (hE.mono fun k _ hk=>⟨by have:=hk.1;omega,by have:=hk.2;omega⟩),hE.keepB hl (fun h=>by have:=h.1;omega),hE.keepB hk (fun h=>by have:=h.1;omega),Nat.le_trans hz hE.size⟩
  ·rintro pre x W ⟨hi,hl,hk,hz⟩ hsz hpre
   have hlt:w.heap.size+1<W.heap.size:=(Array.getElem?_eq_some_iff.1 hl).1
   have hy:=run_yield (P:=P) (args:=#[Value.int .i64 x]) hl (by rw[hrec];simp[hps])
   rw[hrec] at hy
   refine⟨fn,_,assign,body,hy,roundIn_of_wpIn hfn (hassign _ x W _ ?_)⟩
   clear hy
   refine⟨_,run_beginRound hl (by rw[hrec]),?_⟩
   have hl2:(W.putObj (w.heap.size+1) (.loop {rec .ready none with state:=.busy})).heap[w.heap.size+1]? = some (.loop {rec .ready none with state:=.busy}):=World.putObj_heap_same hlt
   have hk2:(W.putObj (w.heap.size+1) (.loop {rec .ready none with state:=.busy})).heap[w.heap.size]? = some (.deferred (some [])):=(World.putObj_heap_other (by omega)).trans hk
   have hB:∀j,j<2->Btw w.heap.size (m+2) (w.heap.size+j):=fun j hj=>⟨by omega,by omega⟩
   have hG2:GrE (Btw w.heap.size (m+2)) W (W.putObj (w.heap.size+1) (.loop {rec .ready none with state:=.busy})):=(GrE.refl _ W).putObj (Or.inr (hB 1 (by omega))) _
   refine wpIn_mono (hbody _ pre x _ (hI _ _ _ hi hG2) hpre (by rw[World.putObj_size];omega)) ?_
   rintro e a3 W3 hp
   cases e with
   | normal =>
    obtain⟨hi3,hg3⟩:=hp
    have hl3:=hg3.keepB hl2 (fun h=>h.2 (hB 1 (by omega)))
    have hk3:=hg3.keepB hk2 (fun h=>h.2 (hB 0 (by omega)))
    have hr:=run_endRound (P:=P) none hl3
    rw[hrec] at hr
    have hsz3:w.heap.size+1<W3.heap.size:=(Array.getElem?_eq_some_iff.1 hl3).1
    have hz3:w.heap.size+2<=W3.heap.size:=hsz3
    refine⟨_,_,hr,rfl,⟨hI _ _ _ hi3 ((GrE.refl _ W3).putObj (Or.inr (hB 1 (by omega))) _),?_,(World.putObj_heap_other (by omega)).trans hk3,by rw[World.putObj_size];exact hz3⟩,?_⟩
    ·rw[World.putObj_heap_same hsz3]
     rw[hrec]
     rfl
    ·have q1:GrE (fun k=>E k/\¬Btw W1.heap.size m k) W (W.putObj (w.heap.size+1) (.loop {rec .ready none with state:=.busy})):=(GrE.refl _ W).putObj (Or.inr ⟨hn₀ _ (by omega),fun h=>by have:=h.1;omega⟩) _
     refine(q1.trans (hg3.mono fun k _ hk=>⟨hk.1,fun h=>hk.2 ⟨?_,?_⟩⟩)).putObj (Or.inr ⟨hn₀ _ (by omega),fun h=>by have:=h.1;omega⟩) _
     ·have:=h.1;omega
     ·have:=h.2;omega
   | _=>exact hp.elim
  ·rintro e W2 ⟨⟨v,rfl⟩,⟨hi,hl,hk,hz⟩,hG⟩
   refine⟨none,_,by have:=run_endLoop (P:=P) hl (by rw[hrec];simp);rw[hrec] at this;exact this,hdone _ (hI _ _ _ hi ((GrE.refl _ W2).putObj (Or.inr ⟨by omega,by omega⟩) _)) ?_ ?_ ((World.putObj_heap_other (by omega)).trans hk)⟩
   ·exact((GrE.of_gr hG1).trans hG).putObj (Or.inl (by omega)) _
   ·rw[World.putObj_size];exact hz
theorem hide {p:Prop} (h:p):Hid p:=h
theorem owns_take {w:World} {B:Nat} {e:TypeId} {g N cap:Nat} {xs:List Value} (h:w.ownsRow B e 1 (.slice (some ⟨g,0,none⟩) N cap) N xs) {k:Nat} (hk:k<=N):w.ownsRow B e 1 (.slice (some ⟨g,0,none⟩) k cap) k (xs.take k):=by
 have hl:=h.1
 refine⟨by rw[List.length_take];omega,?_⟩
 rcases h.2 with ⟨h1,_⟩|⟨g',cap',cur,h1,h2,h3,h4,h5,h6,h7⟩
 ·cases h1
 ·injection h1 with e1 e2 e3
  injection e1 with e1
  injection e1 with e1
  subst e1
  subst e3
  refine Or.inr ⟨_,_,cur,rfl,h2,h3,by omega,h5,h6,?_⟩
  rw[<-h7,List.take_take,Nat.mul_one,Nat.mul_one,Nat.min_eq_left hk]
theorem owns_low {w:World} {B B':Nat} {e:TypeId} {size:Nat} {v:Value} {n:Nat} {xs:List Value} (h:w.ownsRow B e size v n xs) (hb:B'<=B):w.ownsRow B' e size v n xs:=by
 refine⟨h.1,?_⟩
 rcases h.2 with h2|⟨g,cap,cur,e1,h3,h4⟩
 ·exact Or.inl h2
 ·exact Or.inr ⟨g,cap,cur,e1,Nat.le_trans hb h3,h4⟩
theorem owns_far {w:World} {B:Nat} {e:TypeId} {size:Nat} {v:Value} {n:Nat} {xs:List Value} (h:w.ownsRow B e size v n xs) {b:Nat} (hb:v.ownBlock≠some b) (i:Nat) (u:Value):(w.setCell ⟨b,i,none⟩ u).ownsRow B e size v n xs:=by
 refine⟨h.1,?_⟩
 rcases h.2 with h2|⟨g,cap,cur,e1,h3,h4,h5⟩
 ·exact Or.inl h2
 ·refine Or.inr ⟨g,cap,cur,e1,h3,?_,h5⟩
  rw[<-h4]
  have:b≠g:=fun e=>hb (by rw[e1,e];rfl)
  simp only[World.setCell,Array.getElem?_modify,if_neg this]
def Fresh (B:Nat) (w:World) (ad:Option Addr) (n cap:Nat):Prop:=∃xs,w.ownsRow B 44 1 (.slice ad n cap) n (u64s xs)
theorem Fresh.nil (B:Nat) (w:World):Fresh B w none 0 0:=⟨[],World.ownsRow_nil _ _ _ _⟩
theorem Fresh.take {w:World} {B g N cap:Nat} {xs:List Nat} (h:w.ownsRow B 44 1 (.slice (some ⟨g,0,none⟩) N cap) N (u64s xs)) {k:Nat} (hk:k<=N):Fresh B w (some ⟨g,0,none⟩) k cap:=
 ⟨xs.take k,by have:=owns_take h hk;rwa [show(u64s xs).take k=u64s (xs.take k) by simp[u64s,List.map_take]] at this⟩
theorem Fresh.gr {B:Nat} {w w':World} {ad:Option Addr} {n cap:Nat} (h:Fresh B w ad n cap) (g:Gr w w'):Fresh B w' ad n cap:=by
 obtain⟨xs,h⟩:=h
 exact⟨xs,g.owns h⟩
theorem Fresh.low {B B':Nat} {w:World} {ad:Option Addr} {n cap:Nat} (h:Fresh B w ad n cap) (hb:B'<=B):Fresh B' w ad n cap:=by
 obtain⟨xs,h⟩:=h
 exact⟨xs,owns_low h hb⟩
theorem Fresh.set3 {B:Nat} {w:World} {ad:Option Addr} {n cap:Nat} (h:Fresh B w ad n cap) {B2:Nat} (hb:∀a,ad=some a->a.block≠B2) (v0 v1 v2:Value):Fresh B (((w.setCell ⟨B2,0,none⟩ v0).setCell ⟨B2,1,none⟩ v1).setCell ⟨B2,2,none⟩ v2) ad n cap:=by
 obtain⟨xs,h⟩:=h
 have hne:(Value.slice ad n cap).ownBlock≠some B2:=by
  cases ad with
  | none=>simp[Value.ownBlock]
  | some a=>exact fun e=>hb a rfl (by simpa [Value.ownBlock] using e)
 exact⟨xs,owns_far (owns_far (owns_far h hne _ _) hne _ _) hne _ _⟩
theorem Fresh.ne {B:Nat} {w:World} {ad:Option Addr} {n cap:Nat} (h:Fresh B w ad n cap) {B2:Nat} {cs:Array Value} {T:TypeId} {fr:Nat × Nat} (hb:w.heap[B2]? = some (.cells cs T fr)) (hT:T≠44):∀a,ad=some a->a.block≠B2:=by
 obtain⟨xs,h⟩:=h
 intro a ha he
 rcases h.2 with ⟨h1,_⟩|⟨g,cap',cur,h1,_,h2,_⟩
 ·injection h1 with h1
  rw[ha] at h1
  cases h1
 ·injection h1 with h1
  rw[ha] at h1
  injection h1 with h1
  subst h1
  simp only at he
  rw[he,hb] at h2
  injection h2 with h2
  injection h2 with _ h2
  exact hT h2
def NewR (B:Nat) (w:World) (r:Ending):Prop:=∃a ad n cap f g,r = .returned (.tuple #[.agg #[.bool a,.slice ad n cap,.int .i64 f],.int .i64 g])/\Fresh B w ad n cap/\n<=4096
theorem NewR.zero (B:Nat) (w:World) (g:Int):NewR B w (.returned (.tuple #[.agg #[.bool false,.slice none 0 0,.int .i64 0],.int .i64 g])):=⟨_,_,_,_,_,_,rfl,Fresh.nil _ _,by omega⟩
theorem NewR.gr {B:Nat} {w w':World} {r:Ending} (h:NewR B w r) (g:Gr w w'):NewR B w' r:=by
 obtain⟨a,ad,n,cap,f,k,h1,h2,h3⟩:=h
 exact⟨a,ad,n,cap,f,k,h1,h2.gr g,h3⟩
theorem NewR.low {B B':Nat} {w:World} {r:Ending} (h:NewR B w r) (hb:B'<=B):NewR B' w r:=by
 obtain⟨a,ad,n,cap,f,k,h1,h2,h3⟩:=h
 exact⟨a,ad,n,cap,f,k,h1,h2.low hb,h3⟩
theorem NewR.set3 {B:Nat} {w:World} {r:Ending} (h:NewR B w r) {B2:Nat} {cs:Array Value} {T:TypeId} {fr:Nat × Nat} (hb:w.heap[B2]? = some (.cells cs T fr)) (v0 v1 v2:Value) (hT:T≠44):NewR B (((w.setCell ⟨B2,0,none⟩ v0).setCell ⟨B2,1,none⟩ v1).setCell ⟨B2,2,none⟩ v2) r:=by
 obtain⟨a,ad,n,cap,f,k,h1,h2,h3⟩:=h
 exact⟨a,ad,n,cap,f,k,h1,h2.set3 (h2.ne hb hT) v0 v1 v2,h3⟩
end Go.Proofs.Ytfbgckgemfkioaa
namespace Go.Proofs.Ytfbgckgemfkioaa
open Go.RowKit Go.Shelf
set_option linter.unusedVariables false
set_option linter.unusedSimpArgs false
attribute [local go_sem] Oper.semAt_some
def iz (xs:List Int):List Value:=xs.map fun x=>Value.int .i64 x
theorem iz_length (xs:List Int):(iz xs).length=xs.length:=by simp[iz]
theorem iz_get {xs:List Int} {j:Nat} (h:j<xs.length):(iz xs)[j]? = some (.int .i64 (xs.getD j 0)):=by
 simp[iz,List.getElem?_map,List.getElem?_eq_getElem h,List.getD_eq_getElem?_getD]
theorem iz_append (xs ys:List Int):iz (xs++ys)=iz xs++iz ys:=by simp[iz]
theorem iz_app (xs ys:List Int):iz (xs++ys)=iz xs++iz ys:=by simp[iz]
theorem iz_one (xs:List Int):∀u∈iz xs,u.oneCell'=true:=by
 intro u hu
 simp only[iz,List.mem_map] at hu
 obtain⟨x,_,rfl⟩:=hu
 rfl
theorem infoI:(Try.prog.info? 2).map (fun i=>(i.zero,i.size,i.bytes))=some (some (.int .i64 0),1,8):=by kernel_rfl
theorem own_len {w:World} {base:Nat} {v:Value} {n:Nat} {xs:List Int} (h:w.ownsRow base 2 1 v n (iz xs)):xs.length=n:=by have:=h.1;rw[iz_length] at this;omega
structure RI (w:World) (ad:Option Addr) (n c:Nat) (xs:List Int):Prop where
 len:xs.length=n
 le:n<=c
 max:c<=maxLen
 nil:ad=none->n=0/\c=0
 cell:∀b,ad=some b->∀j,j<n->b.block<w.heap.size/\w.cell? (b.add j)=some (.int .i64 (xs.getD j 0))
theorem add_block (b:Addr) (j:Nat):(b.add j).block=b.block:=by unfold Addr.add;split <;> rfl
theorem RI.grE {E:Nat->Prop} {w w':World} {ad:Option Addr} {n c:Nat} {xs:List Int} (h:RI w ad n c xs) (g:GrE E w w') (hE:∀b,ad=some b->0<n->¬E b.block):RI w' ad n c xs:=
 ⟨h.len,h.le,h.max,h.nil,fun b e j hj=>⟨Nat.lt_of_lt_of_le (h.cell b e j hj).1 g.size,by rw[g.cell (p:=b.add j) (by rw[add_block];exact(h.cell b e j hj).1) (by rw[add_block];exact hE b e (by omega))];exact(h.cell b e j hj).2⟩⟩
theorem RI.gr {w w':World} {ad:Option Addr} {n c:Nat} {xs:List Int} (h:RI w ad n c xs) (g:Gr w w'):RI w' ad n c xs:=
 h.grE (E:=fun _=>False) (GrE.of_gr g) (fun _ _ _ h=>h)
theorem RI.at {w:World} {ad:Option Addr} {n c:Nat} {xs:List Int} (h:RI w ad n c xs):∀b,ad=some b->∀j u,(iz xs)[j]? = some u->w.cell? (b.add j)=some u:=by
 intro b e j u hu
 have hj:j<n:=by
  have:=(List.getElem?_eq_some_iff.1 hu).1
  rw[iz_length,h.len] at this
  exact this
 rw[iz_get (by rw[h.len];exact hj)] at hu
 rw[<-hu]
 exact(h.cell b e j hj).2
theorem RI.of_owns {w:World} {base:Nat} {v:Value} {n:Nat} {xs:List Int} (h:w.ownsRow base 2 1 v n (iz xs)):∃ad cap,v = .slice ad n cap/\RI w ad n cap xs/\(∀b,ad=some b->base<=b.block):=by
 have hl:=own_len h
 rcases h.2 with ⟨rfl,rfl⟩|⟨g,cap,cur,rfl,hb,hg,h1,h2,h3,h4⟩
 ·exact⟨none,0,rfl,⟨hl,Nat.le_refl _,by unfold maxLen;omega,fun _=>⟨rfl,rfl⟩,fun b e=>by cases e⟩,fun b e=>by cases e⟩
 ·refine⟨_,cap,rfl,⟨hl,h1,h2,fun e=>(by cases e),fun b e j hj=>?_⟩,fun b e=>by cases e;exact hb⟩
  cases e
  refine⟨(h.lt g rfl).2,?_⟩
  rw[show(⟨g,0,none⟩:Addr).add j=⟨g,j,none⟩ by simp[Addr.add];omega,h.cellAt j (by omega),iz_get (by omega)]
theorem take_snoc {xs:List Int} {k:Nat} (h:k<xs.length):xs.take k++[xs.getD k 0]=xs.take (k+1):=by
 rw[List.take_add_one,List.getD_eq_getElem?_getD,List.getElem?_eq_getElem h]
 rfl
theorem valuesC (ad:Option Addr) (n cap:Nat) (w:World) :
  Calls Try.prog 32 #[.slice ad n cap] w fun e w'=>e = .returned (.func (.func 47) #[] #[.pointer (some ⟨w.heap.size,0,none⟩)])/\w'=w.alloc (.cells #[.slice ad n cap] 27):=by
 go_enter Try.func32,Try.ntmps32
 go_wp2
 go_ret
 exact⟨rfl,rfl⟩
set_option maxRecDepth 100000 in
set_option maxHeartbeats 2000000 in
theorem valuesQ (Bs:Nat) (E:Nat->Prop) (ad:Option Addr) (n cap:Nat) (xs:List Int) (w₀:World) (hr:RI w₀ ad n cap xs) (hb:∀b,ad=some b->0<n->¬E b.block) (hBs:¬E Bs) (hc:w₀.cell? ⟨Bs,0,none⟩=some (.slice ad n cap)) :
  SeqQ Try.prog 47 #[.pointer (some ⟨Bs,0,none⟩)] E 0 xs w₀:=by
 intro nn l J W hW hJ hY h0
 have hcW:=hW.keep hc hBs
 have HR:Hid (RI W ad n cap xs):=hr.grE hW hb
 have hm:=hr.max
 have hle:=hr.le
 have hlen:=hr.len
 have hcap:n<=9223372036854775807:=by unfold maxLen at hm;omega
 have HJ:Hid (∀pre A B,J pre A->GrE (Btw W.heap.size 0) A B->J pre B):=hJ
 have HY:Hid (∀pre x A,J pre A->W.heap.size+0<=A.heap.size->pre++[x] <+: xs->YieldAt Fence.wide 9 Try.prog l #[.int .i64 x] A fun e B=>e = .returned (.bool true)/\J (pre++[x]) B/\GrE (fun k=>E k/\¬Btw W.heap.size 0 k) A B):=hY
 have HB:Hid (∀b,ad=some b->0<n->¬E b.block):=hb
 clear hJ hY hb hr hc hW
 refine callsIn_of_wp Try.func47 rfl trivial ?_ rfl
 simp only[Try.ntmps47,List.size_toArray,List.length_cons,List.length_nil,Nat.reduceAdd,Nat.reduceSub,Array.replicate_succ,Array.replicate_zero,List.push_toArray,List.append_toArray,List.nil_append,List.cons_append]
 gi_wp2
 gi_loopw [7] (fun i wr=>∃k:Nat,k<=n/\i = .int .i64 k/\Hid (J (xs.take k) wr)/\Hid (GrE E W wr)) (fun i _=>n-(intOf i).toNat)
 case atStart=>exact⟨0,Nat.zero_le _,rfl,h0,GrE.refl _ _⟩
 case round =>
  obtain⟨k,hk,rfl,hJs,hnx⟩:=hrel
  by_cases hlt:k<n
  ·obtain⟨fn,tmps,assign,body,hy,hR⟩:=YieldAt.any (nn-1) (HY.out _ (xs.getD k 0) wr hJs.out hnx.out.size (by rw[take_snoc (by omega)];exact List.take_prefix _ _))
   have RR:=HR.out.grE hnx.out HB.out
   cases had:ad with
   | none=>have:=(RR.nil had).1;omega
   | some b =>
    have hcx:=(RR.cell b had k hlt).2
    subst had
    clear RR
    rw[take_snoc (by omega)] at hR
    generalize xs.getD k 0=x at *
    gi_wp2
    refine⟨fun h=>(by cases h),hR.mono ?_⟩
    rintro e W3 ⟨rfl,hJ3,hk3⟩
    gi_wp2
    go_roundw
    case rel=>exact⟨k+1,by omega,by simp,hJ3,hnx.out.trans (hk3.mono fun k _ h=>h.1)⟩
    case measure=>simp[intOf];omega
  ·obtain rfl:k=n:=by omega
   gi_wp2
   go_end0
   exact⟨⟨_,rfl⟩,by have:=hJs.out;rwa [List.take_of_length_le (by omega)] at this,hnx.out⟩
theorem wrap_i64_small (x:Int) (h1:0<=x) (h2:x<9223372036854775808):IntKind.i64.wrap x=x:=by rw[IntKind.wrap_i64];omega
theorem and_i64 (q:Int) (b:Nat) (hb:b<4294967296):bits .and .i64 q (b:Int)=(((q % 18446744073709551616).toNat &&& b:Nat):Int):=by
 have hx:(q % 18446744073709551616).toNat &&& b<=b:=Nat.and_le_right
 have h1:(BitVec.ofInt 64 q).toNat=(q % 18446744073709551616).toNat:=by
  rw[BitVec.toNat_ofInt];rfl
 have h2:(BitVec.ofInt 64 (b:Int)).toNat=b:=by
  rw[BitVec.ofInt_natCast,BitVec.toNat_ofNat];exact Nat.mod_eq_of_lt (by omega)
 show IntKind.i64.wrap ((BitVec.ofInt 64 q &&& BitVec.ofInt 64 (b:Int)).toNat:Int)=_
 rw[BitVec.toNat_and,h1,h2,wrap_i64_small _ (by omega) (by omega)]
theorem B_facts {b:Nat} (hb1:2<=b) (hb2:b<=30):∃h:Int,(2:Int) ^ b=2*h/\2<=h/\h<=536870912/\h=2 ^ (b-1):=by
 obtain⟨k,rfl⟩:∃k,b=k+1:=⟨b-1,by omega⟩
 have h1:=Nat.pow_le_pow_right (n:=2) (by omega) (show 1<=k by omega)
 have h2:=Nat.pow_le_pow_right (n:=2) (by omega) (show k<=29 by omega)
 have e:(2:Int) ^ k=((2 ^ k:Nat):Int):=by simp
 refine⟨2 ^ k,by rw[Int.pow_succ];omega,by omega,by omega,by simp⟩
theorem and_mask {b:Nat} (hb1:2<=b) (hb2:b<=30) (q:Int):bits .and .i64 q (2 ^ b-1)=q % 2 ^ b:=by
 have hp:=Nat.two_pow_pos b
 have h2:=Nat.pow_le_pow_right (n:=2) (by omega) hb2
 have e:(2:Int) ^ b=((2 ^ b:Nat):Int):=by simp
 have e1:(2:Int) ^ b-1=((2 ^ b-1:Nat):Int):=by omega
 rw[e1,and_i64 q _ (by omega),Nat.and_two_pow_sub_one_eq_mod]
 have hd:((2 ^ b:Nat):Int) ∣ 18446744073709551616:=⟨((2 ^ (64-b):Nat):Int),by rw[<-Int.natCast_mul,<-Nat.pow_add,show b+(64-b)=64 by omega];rfl⟩
 rw[Int.natCast_emod,Int.toNat_of_nonneg (Int.emod_nonneg _ (by omega)),Int.emod_emod_of_dvd _ hd,e]
theorem w64 {x:Int} (h1 : -9223372036854775808<=x) (h2:x<=9223372036854775807):wrap64 x=x:=by
 unfold wrap64;omega
theorem dig_vals {b:Nat} (hb1:2<=b) (hb2:b<=30) {l v c:Int} (l1 : -536870912<=l) (l2:l<=0) (v1 : -9223372036854775808<=v) (v2:v<=9223372036854775807) (c1 : -4611686018427387904<=c) (c2:c<=4611686018427387904) :
  wrap64 (wrap64 (v / 2 ^ b+c / 2 ^ b)+wrap64 (wrap64 (bits BinOp.and IntKind.i64 v (2 ^ b-1)+bits BinOp.and IntKind.i64 c (2 ^ b-1))-l) / 2 ^ b)=cS (2 ^ b) l v c /\
  wrap64 (bits BinOp.and IntKind.i64 (wrap64 (wrap64 (bits BinOp.and IntKind.i64 v (2 ^ b-1)+bits BinOp.and IntKind.i64 c (2 ^ b-1))-l)) (2 ^ b-1)+l)=dS (2 ^ b) l v c:=by
 simp only[and_mask hb1 hb2]
 rw[<-dS_low,<-cS_low (B:=2 ^ b) (Int.pow_pos (by omega))]
 have hcb:=cS_bd (B:=2 ^ b) (l:=l) (v:=v) (c:=c) (by obtain⟨h,e,h1,_⟩:=B_facts hb1 hb2;omega) l1 l2 v1 v2 c1 c2
 rw[<-cS_low (B:=2 ^ b) (Int.pow_pos (by omega))] at hcb
 obtain⟨h,e,h1,h2,_⟩:=B_facts hb1 hb2
 rw[e] at hcb ⊢
 have m1:=Int.emod_nonneg v (show 2*h≠0 by omega)
 have m2:=Int.emod_lt_of_pos v (show 0<2*h by omega)
 have m3:=Int.emod_nonneg c (show 2*h≠0 by omega)
 have m4:=Int.emod_lt_of_pos c (show 0<2*h by omega)
 rw[w64 (x:=v % (2*h)+c % (2*h)) (by omega) (by omega),w64 (x:=v % (2*h)+c % (2*h)-l) (by omega) (by omega)]
 have d1 : -9223372036854775808 / 4<=v / (2*h)/\v / (2*h)<=9223372036854775807:=by
  have e1:=Int.emod_add_mul_ediv v (2*h)
  constructor
  ·refine Int.le_ediv_of_mul_le (by omega) ?_
   have:4*(2305843009213693952:Int)<=2*h*2305843009213693952:=Int.mul_le_mul_of_nonneg_right (by omega) (by omega)
   omega
  ·refine Int.le_of_lt_add_one (Int.ediv_lt_of_lt_mul (by omega) ?_)
   have:1*(9223372036854775807+1:Int)<=2*h*(9223372036854775807+1):=Int.mul_le_mul_of_nonneg_right (by omega) (by omega)
   rw[Int.mul_comm]
   omega
 have d2:v / (2*h)<=2305843009213693952:=by
  refine Int.le_of_lt_add_one (Int.ediv_lt_of_lt_mul (by omega) ?_)
  have:4*(2305843009213693952+1:Int)<=2*h*(2305843009213693952+1):=Int.mul_le_mul_of_nonneg_right (by omega) (by omega)
  rw[Int.mul_comm]
  omega
 have d3 : -4611686018427387904<=c / (2*h)/\c / (2*h)<=4611686018427387904:=by
  constructor
  ·refine Int.le_ediv_of_mul_le (by omega) ?_
   have:1*(4611686018427387904:Int)<=2*h*4611686018427387904:=Int.mul_le_mul_of_nonneg_right (by omega) (by omega)
   omega
  ·refine Int.le_of_lt_add_one (Int.ediv_lt_of_lt_mul (by omega) ?_)
   have:1*(4611686018427387904+1:Int)<=2*h*(4611686018427387904+1):=Int.mul_le_mul_of_nonneg_right (by omega) (by omega)
   rw[Int.mul_comm]
   omega
 rw[w64 (x:=v / (2*h)+c / (2*h)) (by omega) (by omega),w64 (by omega) (by omega)]
 have m5:=Int.emod_nonneg (v % (2*h)+c % (2*h)-l) (show 2*h≠0 by omega)
 have m6:=Int.emod_lt_of_pos (v % (2*h)+c % (2*h)-l) (show 0<2*h by omega)
 rw[w64 (by omega) (by omega)]
 exact⟨rfl,rfl⟩
set_option maxRecDepth 20000 in
set_option maxHeartbeats 2000000 in
theorem digitC (Bm Bc Bl Bb b:Nat) (l v c:Int) (w:World) (hb1:2<=b) (hb2:b<=30) (q1:w.cell? ⟨Bm,0,none⟩=some (.int .i64 (2 ^ b-1))) (q2:w.cell? ⟨Bc,0,none⟩=some (.int .i64 c)) (q3:w.cell? ⟨Bl,0,none⟩=some (.int .i64 l)) (q4:w.cell? ⟨Bb,0,none⟩=some (.int .i64 (b:Int))) (q5:w.frozen? ⟨Bc,0,none⟩=false)
  (n1:Bm≠Bc) (n2:Bl≠Bc) (l1 : -536870912<=l) (l2:l<=0) (v1 : -9223372036854775808<=v) (v2:v<=9223372036854775807) (c1 : -4611686018427387904<=c) (c2:c<=4611686018427387904) :
  Calls Try.prog 60 #[.int .i64 v,.pointer (some ⟨Bm,0,none⟩),.pointer (some ⟨Bc,0,none⟩),.pointer (some ⟨Bl,0,none⟩),.pointer (some ⟨Bb,0,none⟩)] w fun e w'=>e = .returned (.int .i64 (dS (2 ^ b) l v c))/\w'=(w.setCell ⟨Bc,0,none⟩ (.int .i64 (cS (2 ^ b) l v c))).drew:=by
 obtain⟨E1,E2⟩:=dig_vals hb1 hb2 (l:=l) (v:=v) (c:=c) l1 l2 v1 v2 c1 c2
 have E1:=hide E1
 have E2:=hide E2
 have Q1:=hide q1
 have Q3:=hide q3
 have N1:=hide n1
 have N2:=hide n2
 clear l1 l2 v1 v2 c1 c2 n1 n2
 generalize (2:Int) ^ b-1=M at *
 go_enter Try.func60,Try.ntmps60
 go_wp2
 go_region
 obtain⟨X,hX⟩:∃X,cS (2 ^ b) l v c=X:=⟨_,rfl⟩
 rw[E1.out,hX]
 have p1:(w.setCell ⟨Bc,0,none⟩ (.int .i64 X)).cell? ⟨Bm,0,none⟩=some (.int .i64 M):=(World.cell?_setCell_other _ _ _ _ (fun e=>N1.out (by injection e with e;omega))).trans Q1.out
 have p3:(w.setCell ⟨Bc,0,none⟩ (.int .i64 X)).cell? ⟨Bl,0,none⟩=some (.int .i64 l):=(World.cell?_setCell_other _ _ _ _ (fun e=>N2.out (by injection e with e;omega))).trans Q3.out
 clear q1 q2 q3 q4 q5
 generalize hw2:w.setCell ⟨Bc,0,none⟩ (.int .i64 X)=w2 at *
 replace hX:=hide hX
 replace hw2:=hide hw2
 go_wp2
 go_ret
 exact⟨by rw[E2.out];rfl,by rw[<-hw2.out,hX.out]⟩
end Go.Proofs.Ytfbgckgemfkioaa
