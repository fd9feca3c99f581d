import Derived.Test.YtmdakhpdofepeaaU02
namespace Go.Proofs.Ytmdakhpdofepeaa
open Go.RowKit
set_option linter.unusedVariables false
set_option maxHeartbeats 1600000 in
theorem minusL (ad1 ad2:Option Addr) (n1 n2 c1 c2 x y:Nat) (w:World) (hx:Lim w ad1 n1 c1 18446744073709551616 x) (hy:Lim w ad2 n2 c2 18446744073709551616 y) (b1:n1<=1099511627776) (hyx:y<=x) :
  Calls Try.prog 54 #[.slice ad1 n1 c1,.slice ad2 n2 c2] w fun e w'=>∃g zs,w.heap.size<=g/\e = .returned (.slice (some ⟨g,0,none⟩) n1 n1)/\w'.ownsRow g 52 1 (.slice (some ⟨g,0,none⟩) n1 n1) n1 (u64s zs)/\(∀z∈zs,z<18446744073709551616)/\nv 18446744073709551616 zs=x-y/\Gr w w':=by
 obtain⟨xs,rx,dx⟩:=hx
 obtain⟨ys,ry,dy⟩:=hy
 have RX:Hid (Row w ad1 n1 c1 xs):=rx
 have RY:Hid (Row w ad2 n2 c2 ys):=ry
 have DX:Hid (Dg 18446744073709551616 x xs):=dx
 have DY:Hid (Dg 18446744073709551616 y ys):=dy
 clear rx ry dx dy
 have h21:n2<=n1:=by
  have:=DY.out.len_le (by omega) DX.out hyx
  rw[RX.out.len,RY.out.len] at this
  exact this
 have HYX:Hid (y<=x):=hyx
 clear hyx
 go_enter Try.func54,Try.ntmps54
 have tok0:True:=trivial
 go_wp2_with (first|(go_at_call 72;have _t:=tok0;with_reducible refine(limbsOfL _ _ _ _).mono ?_;rintro e w1 ⟨rfl,hb1,g1⟩;clear tok0)|(go_at_call 72;with_reducible refine(limbsOfL _ _ _ _).mono ?_;rintro e w2 ⟨rfl,hb2,g2⟩)|(at_make;refine wpList_made rfl _ _ rfl n1 _ rfl rfl ?_ ?_ ?_;rotate_right;intro w3 hown0 g3))
 case' refine_1=>omega
 case' refine_2=>omega
 have GW:Hid (Gr w w3):=(g1.trans g2).trans g3
 have HB1:Hid (w3.cell? ⟨w.heap.size,0,none⟩=some (.slice ad1 n1 c1)):=keepG g3 (keepG g2 hb1)
 have HB2:Hid (w3.cell? ⟨w1.heap.size,0,none⟩=some (.slice ad2 n2 c2)):=keepG g3 hb2
 have hs1:w.heap.size<w1.heap.size:=lt_of_cell' hb1
 have hs2:w1.heap.size<w2.heap.size:=lt_of_cell' hb2
 clear hb1 hb2 g1 g2 g3
 generalize w1.heap.size=q1 at *
 generalize w2.heap.size=q2 at *
 go_loopw [8,19] (fun cr i wr=>∃(k c:Nat) (zs:List Nat),k<=n1/\c<=1/\i = .int .i64 (k:Int)/\cr = .int .u64 (c:Int)/\wr.ownsRow q2 52 1 (.slice (some ⟨q2,0,none⟩) n1 n1) n1 (u64s zs)/\Hid (SubAt xs ys zs k c n1)/\Hid (Gr w wr)/\Hid (wr.cell? ⟨w.heap.size,0,none⟩=some (.slice ad1 n1 c1))/\Hid (wr.cell? ⟨q1,0,none⟩=some (.slice ad2 n2 c2))) (fun _ i _=>n1-(intOf i).toNat)
 case atStart=>exact⟨0,0,List.replicate n1 0,by omega,by omega,rfl,rfl,hown0,SubAt.start,GW,HB1,HB2⟩
 case round =>
  clear HB1 HB2 GW hown0
  obtain⟨k,c,zs,hk,hc,rfl,rfl,hown,hA,hg,HB1,HB2⟩:=hrel
  by_cases hlt:k<n1
  ·have hcell3:=owns_cell hown k (by omega)
   have hfz:=hown.frozenAt k
   have C1:Hid (Calls Try.prog 88 #[.int .i64 (k:Int),.pointer (some ⟨w.heap.size,0,none⟩)] wr fun e w'=>e = .returned (.int .u64 ((xs.getD k 0:Nat):Int))/\w'=wr):=by
    have:=limbAtL w.heap.size ad1 n1 c1 xs k wr HB1.out (RX.out.gr hg.out)
    rw[xa_nat] at this
    exact this
   have C2:Hid (Calls Try.prog 88 #[.int .i64 (k:Int),.pointer (some ⟨q1,0,none⟩)] wr fun e w'=>e = .returned (.int .u64 ((ys.getD k 0:Nat):Int))/\w'=wr):=by
    have:=limbAtL q1 ad2 n2 c2 ys k wr HB2.out (RY.out.gr hg.out)
    rw[xa_nat] at this
    exact this
   have bxk:xs.getD k 0<18446744073709551616:=getD_lt (by omega) DX.out.2.1 k
   have byk:ys.getD k 0<18446744073709551616:=getD_lt (by omega) DY.out.2.1 k
   have NX:=hA.out.next (by omega) rfl rfl bxk byk hc
   generalize xs.getD k 0=xk at *
   generalize ys.getD k 0=yk at *
   have A:Hid (∀w,(callFunc 74 #[.int .u64 (xk:Int),.int .u64 (yk:Int),.int .u64 (c:Int)]).run Try.prog w = .ok (.value (.tuple #[.int .u64 (((xk+18446744073709551616-yk-c) % 18446744073709551616:Nat):Int),.int .u64 (((if xk<yk+c then 1 else 0):Nat):Int)])) w):=fun w=>sub64N xk yk c hc w
   have hd1:(if xk<yk+c then 1 else 0)<=1:=by split <;> omega
   generalize (xk+18446744073709551616-yk-c) % 18446744073709551616=sv at A NX
   generalize (if xk<yk+c then 1 else 0)=dv at A NX hd1
   have NX':Hid (SubAt xs ys (zs.set k sv) (k+1) dv n1):=NX
   clear NX
   have i3:(k:Int)<(n1:Int):=by omega
   have e1:wr.setCell ⟨q2,k,none⟩ (.int .u64 (sv:Int))=wr.setCell ⟨q2,k,none⟩ (.int .u64 (sv:Int)):=rfl
   go_wp2_with (first|(go_at_call 88;with_reducible refine C1.out.mono ?_;rintro e w' ⟨rfl,rfl⟩)|(go_at_call 88;with_reducible refine C2.out.mono ?_;rintro e w' ⟨rfl,rfl⟩)|(simp only[A.out]))
   go_roundw
   case rel=>exact⟨k+1,dv,_,by omega,hd1,by go_num,rfl,owns_set hown k sv,NX'.out,hg.out.setCell (by show w.heap.size<=q2;omega) _,(World.cell?_setCell_other _ _ _ _ (ne_block (by omega))).trans HB1.out,(World.cell?_setCell_other _ _ _ _ (ne_block (by omega))).trans HB2.out⟩
   case measure=>simp only[intOf];omega
  ·have hk2:k=n1:=by omega
   subst hk2
   have FIN:Hid (nv 18446744073709551616 zs=x-y):=sub_fin DX.out DY.out HYX.out RX.out.len hA.out
   go_wp2
   go_ret
   exact⟨q2,zs,by omega,rfl,hown,hA.out.lt,FIN.out,hg.out⟩
structure ShAt (x:Nat) (b:Int) (zs:List Nat) (k N:Nat):Prop where
 len:zs.length=N
 lt:∀z∈zs,z<18446744073709551616
 dig:∀i,i<k->zs.getD i 0=shN x b / 18446744073709551616 ^ i % 18446744073709551616
theorem ShAt.start {x:Nat} {b:Int} {N:Nat}:ShAt x b (List.replicate N 0) 0 N:=
 ⟨by simp,(fun x hx=>by rw[List.mem_replicate] at hx;omega),fun i hi=>absurd hi (by omega)⟩
theorem ShAt.next {x r:Nat} {L:Int} {zs:List Nat} {k N:Nat} (h:ShAt x (64*L+r) zs k N) (hr:r<64) (hk:k<N):ShAt x (64*L+r) (zs.set k (xi x ((k:Int)-L)*2 ^ r % 18446744073709551616+xi x ((k:Int)-L-1) / 2 ^ (64-r))) (k+1) N:=by
 have hl:=h.len
 have e:=sh_at (x:=x) (i:=k) (L:=L) hr
 refine⟨by rw[List.length_set];exact hl,set_lt h.lt ?_,fun i hi=>?_⟩
 ·rw[<-e];exact Nat.mod_lt _ (by omega)
 ·rw[getD_set _ _ _ _ (by omega)]
  by_cases hik:k=i
  ·rw[if_pos hik,<-hik,e]
  ·rw[if_neg hik];exact h.dig i (by omega)
def K4:Nat:=4096
theorem K4_eq:K4=4096:=rfl
@[irreducible] def TopN:Nat:=18446744073709551616 ^ K4
theorem topN_eq:TopN=18446744073709551616 ^ K4:=by unfold TopN;rfl
theorem topN_len {x:Nat} {xs:List Nat} (h:Dg 18446744073709551616 x xs):xs.length<=4096 ↔ x<TopN:=by
 rw[topN_eq,<-K4_eq]
 generalize K4=k
 constructor
 ·intro hl
  exact Nat.lt_of_lt_of_le h.upper (Nat.pow_le_pow_right (by omega) hl)
 ·intro hx
  refine Nat.le_of_not_lt fun hlt=>?_
  have h1:=h.lower (k:=xs.length-1) (by omega)
  have h2:18446744073709551616 ^ k<=18446744073709551616 ^ (xs.length-1):=Nat.pow_le_pow_right (by omega) (by omega)
  exact absurd (Nat.lt_of_lt_of_le hx h2) (Nat.not_lt.2 h1)
theorem topN_pow {k:Nat} (h:k<=262144):2 ^ k<=TopN:=by
 have e:=K4_eq
 rw[topN_eq,pow64]
 exact Nat.pow_le_pow_right (by omega) (by omega)
theorem topN_bl {x:Nat}:bl x<=262144 ↔ x<TopN:=by
 have e:=K4_eq
 rw[topN_eq,pow64,show(262144:Nat)=64*K4 by omega]
 generalize 64*K4=k
 constructor
 ·intro h;exact Nat.lt_of_lt_of_le (bl_lt x) (Nat.pow_le_pow_right (by omega) h)
 ·intro h;exact bl_le_of_lt h
theorem topN_pos:0<TopN:=Nat.lt_of_lt_of_le (Nat.two_pow_pos 0) (topN_pow (k:=0) (by omega))
def RightN (s:Bool) (xs:List Nat):Prop:=(xs.length=0/\s=false)\/(0<xs.length/\xs.length<=4096/\xs.getD (xs.length-1) 0≠0)
instance (s:Bool) (xs:List Nat):Decidable (RightN s xs):=by unfold RightN;infer_instance
def rightN (s:Bool) (xs:List Nat):Bool:=decide (RightN s xs)
theorem rightN_t {s:Bool} {xs:List Nat} (h:RightN s xs):rightN s xs=true:=by simp[rightN,h]
theorem rightN_f {s:Bool} {xs:List Nat} (h:¬RightN s xs):rightN s xs=false:=by simp[rightN,h]
structure Wh (w:World) (s:Bool) (ad:Option Addr) (n cap:Nat) (X:Int):Prop where
 lim:Lim w ad n cap 18446744073709551616 X.natAbs
 le:n<=4096
 zero:X=0->s=false
 val:X=iv s X.natAbs
theorem Wh.gr {w w':World} {s:Bool} {ad:Option Addr} {n cap:Nat} {X:Int} (h:Wh w s ad n cap X) (g:Gr w w'):Wh w' s ad n cap X:=⟨h.lim.gr g,h.le,h.zero,h.val⟩
theorem Wh.lt {w:World} {s:Bool} {ad:Option Addr} {n cap:Nat} {X:Int} (h:Wh w s ad n cap X):X.natAbs<TopN:=by
 obtain⟨xs,rx,dx⟩:=h.lim
 exact(topN_len dx).1 (by rw[rx.len];exact h.le)
theorem Wh.n0 {w:World} {s:Bool} {ad:Option Addr} {n cap:Nat} {X:Int} (h:Wh w s ad n cap X):n=0 ↔ X=0:=by
 obtain⟨xs,rx,dx⟩:=h.lim
 have:=dx.zero_iff (by omega)
 rw[rx.len] at this
 omega
theorem Wh.neg_iff {w:World} {s:Bool} {ad:Option Addr} {n cap:Nat} {X:Int} (h:Wh w s ad n cap X):s=true ↔ X<0:=by
 have h1:=h.val
 have h2:=h.zero
 cases s
 ·rw[iv_f] at h1
  constructor
  ·intro h;cases h
  ·intro h;omega
 ·rw[iv_t] at h1
  constructor
  ·intro _
   have:X≠0:=fun e=>by have:=h2 e;cases this
   omega
  ·intro _;rfl
theorem Wh.right {w:World} {s:Bool} {ad:Option Addr} {n cap:Nat} {X:Int} (h:Wh w s ad n cap X):∃xs,Row w ad n cap xs/\Dg 18446744073709551616 X.natAbs xs/\RightN s xs:=by
 obtain⟨xs,rx,dx⟩:=h.lim
 refine⟨xs,rx,dx,?_⟩
 have hl:=rx.len
 have h4:=h.le
 by_cases h0:xs.length=0
 ·have:=(dx.zero_iff (by omega)).1 h0
  exact Or.inl ⟨h0,h.zero (by omega)⟩
 ·exact Or.inr ⟨by omega,by omega,dx.2.2 (xs.length-1) (by omega)⟩
theorem Wh.of {w:World} {s:Bool} {ad:Option Addr} {n cap:Nat} {xs:List Nat} (rx:Row w ad n cap xs) (hx:∀x∈xs,x<18446744073709551616) (hR:RightN s xs):Wh w s ad n cap (iv s (nv 18446744073709551616 xs)):=by
 have hl:=rx.len
 have dx:Dg 18446744073709551616 (nv 18446744073709551616 xs) xs:=by
  refine⟨rfl,hx,fun k hk=>?_⟩
  rcases hR with ⟨h0,_⟩|⟨_,_,h3⟩
  ·omega
  ·rw[show k=xs.length-1 by omega];exact h3
 have ha:=iv_abs s (nv 18446744073709551616 xs)
 refine⟨⟨xs,rx,by rw[ha];exact dx⟩,?_,fun h=>?_,by rw[ha]⟩
 ·rcases hR with ⟨h0,_⟩|⟨_,h2,_⟩ <;> omega
 ·have h0:nv 18446744073709551616 xs=0:=by rw[<-ha,h];rfl
  have h1:=(dx.zero_iff (by omega)).2 h0
  rcases hR with ⟨_,hs⟩|⟨h2,_⟩
  ·exact hs
  ·omega
theorem Wh.nil (w:World):Wh w false none 0 0 0:=⟨⟨[],Row.empty (by omega) (fun _=>rfl),Dg.nil⟩,by omega,fun _=>rfl,rfl⟩
theorem Wh.to {w:World} {s:Bool} {ad:Option Addr} {n cap:Nat} {X Y:Int} (h:Wh w s ad n cap X) (e:X=Y):Wh w s ad n cap Y:=e ▸ h
theorem Row.far {w:World} {ad:Option Addr} {n cap:Nat} {xs:List Nat} (h:Row w ad n cap xs) {B i:Nat} (hb:∀a,ad=some a->a.block≠B) (v:Value):Row (w.setCell ⟨B,i,none⟩ v) ad n cap xs:=by
 refine⟨h.len,h.le,h.max,h.nil,fun hp=>?_⟩
 obtain⟨b,off,e,hlt,hc⟩:=h.cells hp
 refine⟨b,off,e,by simpa [World.setCell] using hlt,fun j hj=>?_⟩
 rw[World.cell?_setCell_other _ _ _ _ (ne_block (fun e'=>hb _ e e'.symm))]
 exact hc j hj
theorem Wh.far {w:World} {s:Bool} {ad:Option Addr} {n cap:Nat} {X:Int} (h:Wh w s ad n cap X) {B i:Nat} (hb:∀a,ad=some a->a.block≠B) (v:Value):Wh (w.setCell ⟨B,i,none⟩ v) s ad n cap X:=by
 obtain⟨xs,rx,dx⟩:=h.lim
 exact⟨⟨xs,rx.far hb v,dx⟩,h.le,h.zero,h.val⟩
theorem Fresh.far {B:Nat} {w:World} {ad:Option Addr} {n cap:Nat} (h:Fresh B w ad n cap) {B2 i:Nat} (hb:∀a,ad=some a->a.block≠B2) (v:Value):Fresh B (w.setCell ⟨B2,i,none⟩ v) ad n cap:=by
 obtain⟨xs,h⟩:=h
 have hne:(Value.slice ad n cap).ownBlock≠some B2:=by
  cases ad with
  | none=>simp[Value.ownBlock]
  | some a=>exact fun e=>hb a rfl (by simpa [Value.ownBlock] using e)
 exact⟨xs,owns_far h hne _ _⟩
def Tol (B:Nat) (w:World) (a:Bool) (b:Option Addr) (c d:Nat) (g X:Int):Prop:=
 (X.natAbs<TopN/\g=0/\Wh w a b c d X/\Fresh B w b c d)\/(TopN<=X.natAbs/\a=false/\b=none/\c=0/\d=0/\g=3)
theorem Tol.gr {B:Nat} {w w':World} {a:Bool} {b:Option Addr} {c d:Nat} {e X:Int} (h:Tol B w a b c d e X) (g:Gr w w'):Tol B w' a b c d e X:=by
 rcases h with ⟨h1,h2,h3,h4⟩|h
 ·exact Or.inl ⟨h1,h2,h3.gr g,h4.gr g⟩
 ·exact Or.inr h
theorem Tol.low {B B':Nat} {w:World} {a:Bool} {b:Option Addr} {c d:Nat} {e X:Int} (h:Tol B w a b c d e X) (hb:B'<=B):Tol B' w a b c d e X:=by
 rcases h with ⟨h1,h2,h3,h4⟩|h
 ·exact Or.inl ⟨h1,h2,h3,h4.low hb⟩
 ·exact Or.inr h
theorem Tol.fits {B:Nat} {w:World} {a:Bool} {b:Option Addr} {c d:Nat} {e X:Int} (h:Tol B w a b c d e X) (hX:X.natAbs<TopN):e=0/\Wh w a b c d X/\Fresh B w b c d:=by
 rcases h with ⟨h1,h2,h3,h4⟩|⟨h1,_⟩
 ·exact⟨h2,h3,h4⟩
 ·exact absurd hX (Nat.not_lt.2 h1)
theorem Tol.set2 {B:Nat} {w:World} {a:Bool} {b:Option Addr} {c d:Nat} {e X:Int} (h:Tol B w a b c d e X) {B2:Nat} {cs:Array Value} {T:TypeId} {fr:Nat × Nat} (hb:w.heap[B2]? = some (.cells cs T fr)) (v0 v1:Value) (hT:T≠52):Tol B ((w.setCell ⟨B2,0,none⟩ v0).setCell ⟨B2,1,none⟩ v1) a b c d e X:=by
 rcases h with ⟨h1,h2,h3,h4⟩|h
 ·have hne:=h4.ne hb hT
  exact Or.inl ⟨h1,h2,(h3.far hne _).far hne _,(h4.far hne _).far hne _⟩
 ·exact Or.inr h
structure Out2 (w:World) (B:Nat):Prop where
 c0:w.cell? ⟨B,0,none⟩=some (.bool false)
 c1:w.cell? ⟨B,1,none⟩=some (.slice none 0 0)
 f0:w.frozen? ⟨B,0,none⟩=false
 f1:w.frozen? ⟨B,1,none⟩=false
theorem Out2.of {w:World} {B:Nat} (h:w.heap[B]? = some (.cells #[.bool false,.slice none 0 0] 24)):Out2 w B:=
 ⟨by simp[World.cell?,h],by simp[World.cell?,h],by simp[World.frozen?,h],by simp[World.frozen?,h]⟩
theorem lt_of_get2 {w:World} {k:Nat} {o:Obj} (h:w.heap[k]? = some o):k<w.heap.size:=by
 refine Nat.lt_of_not_le fun hle=>?_
 rw[Array.getElem?_eq_none hle] at h
 cases h
theorem keepO {w w':World} (g:Gr w w') {k:Nat} {o:Obj} (h:w.heap[k]? = some o):w'.heap[k]? = some o:=(g.block k (lt_of_get2 h)).trans h
theorem blk1 (w:World) (o1:Obj):(w.alloc o1).heap[w.heap.size]? = some o1:=by
 show(w.heap.push _)[w.heap.size]? = _
 simp only[Array.getElem?_push]
 rw[if_pos trivial]
theorem blk2 (w:World) (o1 o2:Obj):((w.alloc o1).alloc o2).heap[w.heap.size]? = some o1/\((w.alloc o1).alloc o2).heap[w.heap.size+1]? = some o2:=
 ⟨keepO ((Gr.refl _).alloc _) (blk1 w o1),by have:=blk1 (w.alloc o1) o2;simpa using this⟩
theorem blk3 (w:World) (o1 o2 o3:Obj):(((w.alloc o1).alloc o2).alloc o3).heap[w.heap.size]? = some o1/\(((w.alloc o1).alloc o2).alloc o3).heap[w.heap.size+1]? = some o2/\(((w.alloc o1).alloc o2).alloc o3).heap[w.heap.size+1+1]? = some o3:=
 ⟨keepO ((Gr.refl _).alloc _) (blk2 w o1 o2).1,keepO ((Gr.refl _).alloc _) (blk2 w o1 o2).2,by have:=blk1 ((w.alloc o1).alloc o2) o3;simpa using this⟩
theorem bx2 {w:World} {B:Nat} {v0 v1:Value} {T:TypeId} (h:w.heap[B]? = some (.cells #[v0,v1] T)):w.cell? ⟨B,0,none⟩=some v0/\w.cell? ⟨B,1,none⟩=some v1:=⟨by simp[World.cell?,h],by simp[World.cell?,h]⟩
set_option maxHeartbeats 1600000 in
theorem rightL (s:Bool) (ad:Option Addr) (n cap:Nat) (xs:List Nat) (w:World) (rx:Row w ad n cap xs) :
  Calls Try.prog 10 #[.agg #[.bool s,.slice ad n cap]] w fun r w'=>r = .returned (.bool (rightN s xs))/\Gr w w':=by
 have hl:=rx.le
 have hm:=rx.max
 have hlen:=rx.len
 by_cases hn:n=0
 ·clear rx
  subst hn
  cases s
  ·rw[rightN_t (Or.inl ⟨hlen,rfl⟩)]
   go_enter Try.func10,Try.ntmps10
   go_wp2
   go_ret
   exact⟨rfl,(Gr.refl w).alloc _⟩
  ·rw[rightN_f (by rintro (⟨_,h⟩|⟨h,_⟩);exact absurd h (by simp);omega)]
   go_enter Try.func10,Try.ntmps10
   go_wp2
   go_ret
   exact⟨rfl,(Gr.refl w).alloc _⟩
 ·obtain⟨p,o,rfl,hp,hc⟩:=rx.cells (by omega)
  have hcl:=keepG ((Gr.refl w).alloc (.cells #[.bool s,.slice (some ⟨p,o,none⟩) n cap] 24)) (hc (n-1) (by omega))
  have H:Hid (RightN s xs ↔ (n<=4096/\xs.getD (n-1) 0≠0)):=by
   show _ ↔ _
   unfold RightN
   rw[hlen]
   omega
  clear rx hc hlen
  generalize xs.getD (n-1) 0=vl at *
  have hz:((n:Int)==0)=false:=by simp;omega
  by_cases h1:n<=4096
  ·have h1':(n:Int)<=4096:=by omega
   by_cases h2:vl=0
   ·subst h2
    rw[rightN_f (by rw[H.out];omega)]
    go_enter Try.func10,Try.ntmps10
    go_wp2
    go_ret
    exact⟨rfl,(Gr.refl w).alloc _⟩
   ·have h2':((vl:Int) != 0)=true:=by simp;omega
    rw[rightN_t (by rw[H.out];omega)]
    go_enter Try.func10,Try.ntmps10
    go_wp2
    go_ret
    exact⟨rfl,(Gr.refl w).alloc _⟩
  ·have h1':¬(n:Int)<=4096:=by omega
   rw[rightN_f (by rw[H.out];omega)]
   go_enter Try.func10,Try.ntmps10
   go_wp2
   go_ret
   exact⟨rfl,(Gr.refl w).alloc _⟩
set_option maxHeartbeats 1600000 in
theorem settleL (s:Bool) (ad:Option Addr) (N C B v:Nat) (zs:List Nat) (w:World) (hown:w.ownsRow B 52 1 (.slice ad N C) N (u64s zs)) (hz:∀z∈zs,z<18446744073709551616) (hv:nv 18446744073709551616 zs=v) (hN:N<=1099511627776) :
  Calls Try.prog 44 #[.bool s,.slice ad N C] w fun r w'=>∃a b c d e,r = .returned (.tuple #[.agg #[.bool a,.slice b c d],.int .i64 e])/\Hid (Tol B w' a b c d e (iv s v))/\Gr w w':=by
 have HT:Hid (∀w1,Gr w w1->Calls Try.prog 64 #[.slice ad N C] w1 fun e w'=>∃j,e = .returned (.slice ad j C)/\j<=N/\Hid (Lim w ad j C 18446744073709551616 v)/\Hid (Fresh B w ad j C)/\((j:Int)=0 ↔ v=0)/\((j:Int)<=4096 ↔ v<TopN)/\w'=w1):=fun w1 gr=>(trimLO hown hz hv gr).mono (by
  rintro e w' ⟨j,h1,h2,h3,h4,h5⟩
  obtain⟨xs,rx,dx⟩:=id h3
  have z1:=dx.zero_iff (by omega)
  have z2:=topN_len dx
  rw[rx.len] at z1 z2
  exact⟨j,h1,h2,h3,h4,by omega,by omega,h5⟩)
 clear hown hz hv
 have GA:Gr w (w.alloc (.cells #[.bool false,.slice none 0 0] 24)):=(Gr.refl w).alloc _
 have ha:=iv_abs s v
 by_cases h0:v=0
 ·have I0:iv s v=0:=by rw[h0];cases s <;> rfl
  rw[I0]
  have HT0:Hid (∀w1,Gr w w1->Calls Try.prog 64 #[.slice ad N C] w1 fun e w'=>∃j:Nat,e = .returned (.slice ad 0 C)/\w'=w1):=fun w1 gr=>(HT.out w1 gr).mono (by
   rintro e w' ⟨j,h1,h2,h3,h4,h5,h6,h7⟩
   have:j=0:=by have:=h5.2 h0;omega
   subst this
   exact⟨0,h1,h7⟩)
  clear HT I0 h0 ha
  go_enter Try.func44,Try.ntmps44
  go_wp2_with (first|(go_at_call 64;with_reducible refine(HT0.out _ GA).mono ?_;rintro e w1 ⟨j,rfl,rfl⟩))
  refine bodyPost_ret (v:=.tuple #[.agg #[.bool false,.slice none 0 0],.int .i64 0]) ?_ rfl ⟨_,_,_,_,_,rfl,Or.inl ⟨topN_pos,rfl,Wh.nil _,Fresh.nil _ _⟩,(Gr.refl w).alloc _⟩
  simp[results,Try.results44,go_sem]
 ·by_cases h4:v<TopN
  ·have HT0:Hid (∀w1,Gr w w1->Calls Try.prog 64 #[.slice ad N C] w1 fun e w'=>∃j:Nat,e = .returned (.slice ad j C)/\((j:Int)==0)=false/\((j:Int)<=4096)/\Hid (Wh w s ad j C (iv s v))/\Hid (Fresh B w ad j C)/\w'=w1):=fun w1 gr=>(HT.out w1 gr).mono (by
    rintro e w' ⟨j,h1,h2,h3,h4',h5,h6,h7⟩
    refine⟨j,h1,by simp;omega,h6.2 h4,⟨by rw[ha];exact h3.out,by have:=h6.2 h4;omega,fun h=>?_,by rw[ha]⟩,h4',h7⟩
    have:v=0:=by rw[<-ha,h];rfl
    omega)
   clear HT
   have hV:(iv s v).natAbs<TopN:=by rw[ha];exact h4
   have HV:Hid ((iv s v).natAbs<TopN):=hV
   clear hV ha h4 h0
   go_enter Try.func44,Try.ntmps44
   go_wp2_with (first|(go_at_call 64;with_reducible refine(HT0.out _ GA).mono ?_;rintro e w1 ⟨j,rfl,hj0,hj4,hw,hf,rfl⟩))
   refine bodyPost_ret (v:=.tuple #[.agg #[.bool s,.slice ad j C],.int .i64 0]) ?_ rfl ⟨_,_,_,_,_,rfl,Or.inl ⟨HV.out,rfl,hw.out.gr ((Gr.refl w).alloc _),hf.out.gr ((Gr.refl w).alloc _)⟩,(Gr.refl w).alloc _⟩
   simp[results,Try.results44,go_sem]
  ·have HT0:Hid (∀w1,Gr w w1->Calls Try.prog 64 #[.slice ad N C] w1 fun e w'=>∃j:Nat,e = .returned (.slice ad j C)/\((j:Int)==0)=false/\¬((j:Int)<=4096)/\w'=w1):=fun w1 gr=>(HT.out w1 gr).mono (by
    rintro e w' ⟨j,h1,h2,h3,h4',h5,h6,h7⟩
    exact⟨j,h1,by simp;omega,fun h=>h4 (h6.1 h),h7⟩)
   clear HT
   have HV:Hid (TopN<=(iv s v).natAbs):=by show _<=_;rw[ha];exact Nat.not_lt.1 h4
   clear ha h4 h0
   go_enter Try.func44,Try.ntmps44
   go_wp2_with (first|(go_at_call 64;with_reducible refine(HT0.out _ GA).mono ?_;rintro e w1 ⟨j,rfl,hj0,hj4,rfl⟩;have hj5:4096<(j:Int):=(by omega)))
   refine bodyPost_ret (v:=.tuple #[.agg #[.bool false,.slice none 0 0],.int .i64 3]) ?_ rfl ⟨_,_,_,_,_,rfl,Or.inr ⟨HV.out,rfl,rfl,rfl,rfl,rfl⟩,(Gr.refl w).alloc _⟩
   simp[results,Try.results44,go_sem]
end Go.Proofs.Ytmdakhpdofepeaa
