import Derived.Test.YtfbgckgemfkioaaDoorV05
import Derived.Test.YtfbgckgemfkioaaDoorV01
import Derived.Test.YtfbgckgemfkioaaDoorV03
namespace Go.Proofs.YtfbgckgemfkioaaDoor
open Go.RowKit
set_option linter.unusedVariables false
def K4:Nat:=4096
theorem K4_eq:K4=4096:=rfl
@[irreducible] def TopN:Nat:=18446744073709551616 ^ K4
theorem topN_eq:TopN=18446744073709551616 ^ K4:=by unfold TopN;rfl
theorem topN_len {x:Nat} {xs:List Nat} (h:Dg 18446744073709551616 x xs):xs.length<=4096 ↔ x<TopN:=by
 rw[topN_eq,<-K4_eq]
 generalize K4=k
 constructor
 ·intro hl
  exact Nat.lt_of_lt_of_le h.upper (Nat.pow_le_pow_right (by omega) hl)
 ·intro hx
  refine Nat.le_of_not_lt fun hlt=>?_
  have h1:=h.lower (k:=xs.length-1) (by omega)
  have h2:18446744073709551616 ^ k<=18446744073709551616 ^ (xs.length-1):=Nat.pow_le_pow_right (by omega) (by omega)
  exact absurd (Nat.lt_of_lt_of_le hx h2) (Nat.not_lt.2 h1)
theorem topN_pow {k:Nat} (h:k<=262144):2 ^ k<=TopN:=by
 have e:=K4_eq
 rw[topN_eq,pow64]
 exact Nat.pow_le_pow_right (by omega) (by omega)
theorem topN_bl {x:Nat}:bl x<=262144 ↔ x<TopN:=by
 have e:=K4_eq
 rw[topN_eq,pow64,show(262144:Nat)=64*K4 by omega]
 generalize 64*K4=k
 constructor
 ·intro h;exact Nat.lt_of_lt_of_le (bl_lt x) (Nat.pow_le_pow_right (by omega) h)
 ·intro h;exact bl_le_of_lt h
theorem topN_pos:0<TopN:=Nat.lt_of_lt_of_le (Nat.two_pow_pos 0) (topN_pow (k:=0) (by omega))
def RightN (s:Bool) (xs:List Nat):Prop:=(xs.length=0/\s=false)\/(0<xs.length/\xs.length<=4096/\xs.getD (xs.length-1) 0≠0)
instance (s:Bool) (xs:List Nat):Decidable (RightN s xs):=by unfold RightN;infer_instance
def rightN (s:Bool) (xs:List Nat):Bool:=decide (RightN s xs)
theorem rightN_t {s:Bool} {xs:List Nat} (h:RightN s xs):rightN s xs=true:=by simp[rightN,h]
theorem rightN_f {s:Bool} {xs:List Nat} (h:¬RightN s xs):rightN s xs=false:=by simp[rightN,h]
structure Wh (w:World) (s:Bool) (ad:Option Addr) (n cap:Nat) (X:Int):Prop where
 lim:Lim w ad n cap 18446744073709551616 X.natAbs
 le:n<=4096
 zero:X=0->s=false
 val:X=iv s X.natAbs
theorem Wh.gr {w w':World} {s:Bool} {ad:Option Addr} {n cap:Nat} {X:Int} (h:Wh w s ad n cap X) (g:Gr w w'):Wh w' s ad n cap X:=⟨h.lim.gr g,h.le,h.zero,h.val⟩
theorem Wh.lt {w:World} {s:Bool} {ad:Option Addr} {n cap:Nat} {X:Int} (h:Wh w s ad n cap X):X.natAbs<TopN:=by
 obtain⟨xs,rx,dx⟩:=h.lim
 exact(topN_len dx).1 (by rw[rx.len];exact h.le)
theorem Wh.n0 {w:World} {s:Bool} {ad:Option Addr} {n cap:Nat} {X:Int} (h:Wh w s ad n cap X):n=0 ↔ X=0:=by
 obtain⟨xs,rx,dx⟩:=h.lim
 have:=dx.zero_iff (by omega)
 rw[rx.len] at this
 omega
theorem Wh.neg_iff {w:World} {s:Bool} {ad:Option Addr} {n cap:Nat} {X:Int} (h:Wh w s ad n cap X):s=true ↔ X<0:=by
 have h1:=h.val
 have h2:=h.zero
 cases s
 ·rw[iv_f] at h1
  constructor
  ·intro h;cases h
  ·intro h;omega
 ·rw[iv_t] at h1
  constructor
  ·intro _
   have:X≠0:=fun e=>by have:=h2 e;cases this
   omega
  ·intro _;rfl
theorem Wh.right {w:World} {s:Bool} {ad:Option Addr} {n cap:Nat} {X:Int} (h:Wh w s ad n cap X):∃xs,Row w ad n cap xs/\Dg 18446744073709551616 X.natAbs xs/\RightN s xs:=by
 obtain⟨xs,rx,dx⟩:=h.lim
 refine⟨xs,rx,dx,?_⟩
 have hl:=rx.len
 have h4:=h.le
 by_cases h0:xs.length=0
 ·have:=(dx.zero_iff (by omega)).1 h0
  exact Or.inl ⟨h0,h.zero (by omega)⟩
 ·exact Or.inr ⟨by omega,by omega,dx.2.2 (xs.length-1) (by omega)⟩
theorem Wh.of {w:World} {s:Bool} {ad:Option Addr} {n cap:Nat} {xs:List Nat} (rx:Row w ad n cap xs) (hx:∀x∈xs,x<18446744073709551616) (hR:RightN s xs):Wh w s ad n cap (iv s (nv 18446744073709551616 xs)):=by
 have hl:=rx.len
 have dx:Dg 18446744073709551616 (nv 18446744073709551616 xs) xs:=by
  refine⟨rfl,hx,fun k hk=>?_⟩
  rcases hR with ⟨h0,_⟩|⟨_,_,h3⟩
  ·omega
  ·rw[show k=xs.length-1 by omega];exact h3
 have ha:=iv_abs s (nv 18446744073709551616 xs)
 refine⟨⟨xs,rx,by rw[ha];exact dx⟩,?_,fun h=>?_,by rw[ha]⟩
 ·rcases hR with ⟨h0,_⟩|⟨_,h2,_⟩ <;> omega
 ·have h0:nv 18446744073709551616 xs=0:=by rw[<-ha,h];rfl
  have h1:=(dx.zero_iff (by omega)).2 h0
  rcases hR with ⟨_,hs⟩|⟨h2,_⟩
  ·exact hs
  ·omega
theorem Wh.nil (w:World):Wh w false none 0 0 0:=⟨⟨[],Row.empty (by omega) (fun _=>rfl),Dg.nil⟩,by omega,fun _=>rfl,rfl⟩
theorem Wh.to {w:World} {s:Bool} {ad:Option Addr} {n cap:Nat} {X Y:Int} (h:Wh w s ad n cap X) (e:X=Y):Wh w s ad n cap Y:=e ▸ h
theorem Row.far {w:World} {ad:Option Addr} {n cap:Nat} {xs:List Nat} (h:Row w ad n cap xs) {B i:Nat} (hb:∀a,ad=some a->a.block≠B) (v:Value):Row (w.setCell ⟨B,i,none⟩ v) ad n cap xs:=by
 refine⟨h.len,h.le,h.max,h.nil,fun hp=>?_⟩
 obtain⟨b,off,e,hlt,hc⟩:=h.cells hp
 refine⟨b,off,e,by simpa [World.setCell] using hlt,fun j hj=>?_⟩
 rw[World.cell?_setCell_other _ _ _ _ (ne_block (fun e'=>hb _ e e'.symm))]
 exact hc j hj
theorem Wh.far {w:World} {s:Bool} {ad:Option Addr} {n cap:Nat} {X:Int} (h:Wh w s ad n cap X) {B i:Nat} (hb:∀a,ad=some a->a.block≠B) (v:Value):Wh (w.setCell ⟨B,i,none⟩ v) s ad n cap X:=by
 obtain⟨xs,rx,dx⟩:=h.lim
 exact⟨⟨xs,rx.far hb v,dx⟩,h.le,h.zero,h.val⟩
theorem Fresh.far {B:Nat} {w:World} {ad:Option Addr} {n cap:Nat} (h:Fresh B w ad n cap) {B2 i:Nat} (hb:∀a,ad=some a->a.block≠B2) (v:Value):Fresh B (w.setCell ⟨B2,i,none⟩ v) ad n cap:=by
 obtain⟨xs,h⟩:=h
 have hne:(Value.slice ad n cap).ownBlock≠some B2:=by
  cases ad with
  | none=>simp[Value.ownBlock]
  | some a=>exact fun e=>hb a rfl (by simpa [Value.ownBlock] using e)
 exact⟨xs,owns_far h hne _ _⟩
def Tol (B:Nat) (w:World) (a:Bool) (b:Option Addr) (c d:Nat) (g X:Int):Prop:=
 (X.natAbs<TopN/\g=0/\Wh w a b c d X/\Fresh B w b c d)\/(TopN<=X.natAbs/\a=false/\b=none/\c=0/\d=0/\g=3)
theorem Tol.gr {B:Nat} {w w':World} {a:Bool} {b:Option Addr} {c d:Nat} {e X:Int} (h:Tol B w a b c d e X) (g:Gr w w'):Tol B w' a b c d e X:=by
 rcases h with ⟨h1,h2,h3,h4⟩|h
 ·exact Or.inl ⟨h1,h2,h3.gr g,h4.gr g⟩
 ·exact Or.inr h
theorem Tol.low {B B':Nat} {w:World} {a:Bool} {b:Option Addr} {c d:Nat} {e X:Int} (h:Tol B w a b c d e X) (hb:B'<=B):Tol B' w a b c d e X:=by
 rcases h with ⟨h1,h2,h3,h4⟩|h
 ·exact Or.inl ⟨h1,h2,h3,h4.low hb⟩
 ·exact Or.inr h
theorem Tol.fits {B:Nat} {w:World} {a:Bool} {b:Option Addr} {c d:Nat} {e X:Int} (h:Tol B w a b c d e X) (hX:X.natAbs<TopN):e=0/\Wh w a b c d X/\Fresh B w b c d:=by
 rcases h with ⟨h1,h2,h3,h4⟩|⟨h1,_⟩
 ·exact⟨h2,h3,h4⟩
 ·exact absurd hX (Nat.not_lt.2 h1)
theorem Tol.set2 {B:Nat} {w:World} {a:Bool} {b:Option Addr} {c d:Nat} {e X:Int} (h:Tol B w a b c d e X) {B2:Nat} {cs:Array Value} {T:TypeId} {fr:Nat × Nat} (hb:w.heap[B2]? = some (.cells cs T fr)) (v0 v1:Value) (hT:T≠39):Tol B ((w.setCell ⟨B2,0,none⟩ v0).setCell ⟨B2,1,none⟩ v1) a b c d e X:=by
 rcases h with ⟨h1,h2,h3,h4⟩|h
 ·have hne:=h4.ne hb hT
  exact Or.inl ⟨h1,h2,(h3.far hne _).far hne _,(h4.far hne _).far hne _⟩
 ·exact Or.inr h
structure Out2 (w:World) (B:Nat):Prop where
 c0:w.cell? ⟨B,0,none⟩=some (.bool false)
 c1:w.cell? ⟨B,1,none⟩=some (.slice none 0 0)
 f0:w.frozen? ⟨B,0,none⟩=false
 f1:w.frozen? ⟨B,1,none⟩=false
theorem Out2.of {w:World} {B:Nat} (h:w.heap[B]? = some (.cells #[.bool false,.slice none 0 0] 27)):Out2 w B:=
 ⟨by simp[World.cell?,h],by simp[World.cell?,h],by simp[World.frozen?,h],by simp[World.frozen?,h]⟩
theorem lt_of_get2 {w:World} {k:Nat} {o:Obj} (h:w.heap[k]? = some o):k<w.heap.size:=by
 refine Nat.lt_of_not_le fun hle=>?_
 rw[Array.getElem?_eq_none hle] at h
 cases h
theorem keepO {w w':World} (g:Gr w w') {k:Nat} {o:Obj} (h:w.heap[k]? = some o):w'.heap[k]? = some o:=(g.block k (lt_of_get2 h)).trans h
theorem blk1 (w:World) (o1:Obj):(w.alloc o1).heap[w.heap.size]? = some o1:=by
 show(w.heap.push _)[w.heap.size]? = _
 simp only[Array.getElem?_push]
 rw[if_pos trivial]
theorem blk2 (w:World) (o1 o2:Obj):((w.alloc o1).alloc o2).heap[w.heap.size]? = some o1/\((w.alloc o1).alloc o2).heap[w.heap.size+1]? = some o2:=
 ⟨keepO ((Gr.refl _).alloc _) (blk1 w o1),by have:=blk1 (w.alloc o1) o2;simpa using this⟩
theorem blk3 (w:World) (o1 o2 o3:Obj):(((w.alloc o1).alloc o2).alloc o3).heap[w.heap.size]? = some o1/\(((w.alloc o1).alloc o2).alloc o3).heap[w.heap.size+1]? = some o2/\(((w.alloc o1).alloc o2).alloc o3).heap[w.heap.size+1+1]? = some o3:=
 ⟨keepO ((Gr.refl _).alloc _) (blk2 w o1 o2).1,keepO ((Gr.refl _).alloc _) (blk2 w o1 o2).2,by have:=blk1 ((w.alloc o1).alloc o2) o3;simpa using this⟩
theorem bx2 {w:World} {B:Nat} {v0 v1:Value} {T:TypeId} (h:w.heap[B]? = some (.cells #[v0,v1] T)):w.cell? ⟨B,0,none⟩=some v0/\w.cell? ⟨B,1,none⟩=some v1:=⟨by simp[World.cell?,h],by simp[World.cell?,h]⟩
set_option maxHeartbeats 1600000 in
theorem rightL (s:Bool) (ad:Option Addr) (n cap:Nat) (xs:List Nat) (w:World) (rx:Row w ad n cap xs) :
  Calls Tryd.prog 20 #[.agg #[.bool s,.slice ad n cap]] w fun r w'=>r = .returned (.bool (rightN s xs))/\Gr w w':=by
 have hl:=rx.le
 have hm:=rx.max
 have hlen:=rx.len
 by_cases hn:n=0
 ·clear rx
  subst hn
  cases s
  ·rw[rightN_t (Or.inl ⟨hlen,rfl⟩)]
   go_enter Tryd.func20,Tryd.ntmps20
   go_wp2
   go_ret
   exact⟨rfl,(Gr.refl w).alloc _⟩
  ·rw[rightN_f (by rintro (⟨_,h⟩|⟨h,_⟩);exact absurd h (by simp);omega)]
   go_enter Tryd.func20,Tryd.ntmps20
   go_wp2
   go_ret
   exact⟨rfl,(Gr.refl w).alloc _⟩
 ·obtain⟨p,o,rfl,hp,hc⟩:=rx.cells (by omega)
  have hcl:=keepG ((Gr.refl w).alloc (.cells #[.bool s,.slice (some ⟨p,o,none⟩) n cap] 27)) (hc (n-1) (by omega))
  have H:Hid (RightN s xs ↔ (n<=4096/\xs.getD (n-1) 0≠0)):=by
   show _ ↔ _
   unfold RightN
   rw[hlen]
   omega
  clear rx hc hlen
  generalize xs.getD (n-1) 0=vl at *
  have hz:((n:Int)==0)=false:=by simp;omega
  by_cases h1:n<=4096
  ·have h1':(n:Int)<=4096:=by omega
   by_cases h2:vl=0
   ·subst h2
    rw[rightN_f (by rw[H.out];omega)]
    go_enter Tryd.func20,Tryd.ntmps20
    go_wp2
    go_ret
    exact⟨rfl,(Gr.refl w).alloc _⟩
   ·have h2':((vl:Int) != 0)=true:=by simp;omega
    rw[rightN_t (by rw[H.out];omega)]
    go_enter Tryd.func20,Tryd.ntmps20
    go_wp2
    go_ret
    exact⟨rfl,(Gr.refl w).alloc _⟩
  ·have h1':¬(n:Int)<=4096:=by omega
   rw[rightN_f (by rw[H.out];omega)]
   go_enter Tryd.func20,Tryd.ntmps20
   go_wp2
   go_ret
   exact⟨rfl,(Gr.refl w).alloc _⟩
set_option maxHeartbeats 1600000 in
theorem settleL (s:Bool) (ad:Option Addr) (N C B v:Nat) (zs:List Nat) (w:World) (hown:w.ownsRow B 39 1 (.slice ad N C) N (u64s zs)) (hz:∀z∈zs,z<18446744073709551616) (hv:nv 18446744073709551616 zs=v) (hN:N<=1099511627776) :
  Calls Tryd.prog 22 #[.bool s,.slice ad N C] w fun r w'=>∃a b c d e,r = .returned (.tuple #[.agg #[.bool a,.slice b c d],.int .i64 e])/\Hid (Tol B w' a b c d e (iv s v))/\Gr w w':=by
 have HT:Hid (∀w1,Gr w w1->Calls Tryd.prog 38 #[.slice ad N C] w1 fun e w'=>∃j,e = .returned (.slice ad j C)/\j<=N/\Hid (Lim w ad j C 18446744073709551616 v)/\Hid (Fresh B w ad j C)/\((j:Int)=0 ↔ v=0)/\((j:Int)<=4096 ↔ v<TopN)/\w'=w1):=fun w1 gr=>(trimLO hown hz hv gr).mono (by
  rintro e w' ⟨j,h1,h2,h3,h4,h5⟩
  obtain⟨xs,rx,dx⟩:=id h3
  have z1:=dx.zero_iff (by omega)
  have z2:=topN_len dx
  rw[rx.len] at z1 z2
  exact⟨j,h1,h2,h3,h4,by omega,by omega,h5⟩)
 clear hown hz hv
 have GA:Gr w (w.alloc (.cells #[.bool false,.slice none 0 0] 27)):=(Gr.refl w).alloc _
 have ha:=iv_abs s v
 by_cases h0:v=0
 ·have I0:iv s v=0:=by rw[h0];cases s <;> rfl
  rw[I0]
  have HT0:Hid (∀w1,Gr w w1->Calls Tryd.prog 38 #[.slice ad N C] w1 fun e w'=>∃j:Nat,e = .returned (.slice ad 0 C)/\w'=w1):=fun w1 gr=>(HT.out w1 gr).mono (by
   rintro e w' ⟨j,h1,h2,h3,h4,h5,h6,h7⟩
   have:j=0:=by have:=h5.2 h0;omega
   subst this
   exact⟨0,h1,h7⟩)
  clear HT I0 h0 ha
  go_enter Tryd.func22,Tryd.ntmps22
  go_wp2_with (first|(go_at_call 38;with_reducible refine(HT0.out _ GA).mono ?_;rintro e w1 ⟨j,rfl,rfl⟩))
  refine bodyPost_ret (v:=.tuple #[.agg #[.bool false,.slice none 0 0],.int .i64 0]) ?_ rfl ⟨_,_,_,_,_,rfl,Or.inl ⟨topN_pos,rfl,Wh.nil _,Fresh.nil _ _⟩,(Gr.refl w).alloc _⟩
  simp[results,Tryd.results22,go_sem]
 ·by_cases h4:v<TopN
  ·have HT0:Hid (∀w1,Gr w w1->Calls Tryd.prog 38 #[.slice ad N C] w1 fun e w'=>∃j:Nat,e = .returned (.slice ad j C)/\((j:Int)==0)=false/\((j:Int)<=4096)/\Hid (Wh w s ad j C (iv s v))/\Hid (Fresh B w ad j C)/\w'=w1):=fun w1 gr=>(HT.out w1 gr).mono (by
    rintro e w' ⟨j,h1,h2,h3,h4',h5,h6,h7⟩
    refine⟨j,h1,by simp;omega,h6.2 h4,⟨by rw[ha];exact h3.out,by have:=h6.2 h4;omega,fun h=>?_,by rw[ha]⟩,h4',h7⟩
    have:v=0:=by rw[<-ha,h];rfl
    omega)
   clear HT
   have hV:(iv s v).natAbs<TopN:=by rw[ha];exact h4
   have HV:Hid ((iv s v).natAbs<TopN):=hV
   clear hV ha h4 h0
   go_enter Tryd.func22,Tryd.ntmps22
   go_wp2_with (first|(go_at_call 38;with_reducible refine(HT0.out _ GA).mono ?_;rintro e w1 ⟨j,rfl,hj0,hj4,hw,hf,rfl⟩))
   refine bodyPost_ret (v:=.tuple #[.agg #[.bool s,.slice ad j C],.int .i64 0]) ?_ rfl ⟨_,_,_,_,_,rfl,Or.inl ⟨HV.out,rfl,hw.out.gr ((Gr.refl w).alloc _),hf.out.gr ((Gr.refl w).alloc _)⟩,(Gr.refl w).alloc _⟩
   simp[results,Tryd.results22,go_sem]
  ·have HT0:Hid (∀w1,Gr w w1->Calls Tryd.prog 38 #[.slice ad N C] w1 fun e w'=>∃j:Nat,e = .returned (.slice ad j C)/\((j:Int)==0)=false/\¬((j:Int)<=4096)/\w'=w1):=fun w1 gr=>(HT.out w1 gr).mono (by
    rintro e w' ⟨j,h1,h2,h3,h4',h5,h6,h7⟩
    exact⟨j,h1,by simp;omega,fun h=>h4 (h6.1 h),h7⟩)
   clear HT
   have HV:Hid (TopN<=(iv s v).natAbs):=by show _<=_;rw[ha];exact Nat.not_lt.1 h4
   clear ha h4 h0
   go_enter Tryd.func22,Tryd.ntmps22
   go_wp2_with (first|(go_at_call 38;with_reducible refine(HT0.out _ GA).mono ?_;rintro e w1 ⟨j,rfl,hj0,hj4,rfl⟩;have hj5:4096<(j:Int):=(by omega)))
   refine bodyPost_ret (v:=.tuple #[.agg #[.bool false,.slice none 0 0],.int .i64 3]) ?_ rfl ⟨_,_,_,_,_,rfl,Or.inr ⟨HV.out,rfl,rfl,rfl,rfl,rfl⟩,(Gr.refl w).alloc _⟩
   simp[results,Tryd.results22,go_sem]
end Go.Proofs.YtfbgckgemfkioaaDoor
namespace Go.Proofs.YtfbgckgemfkioaaDoor
set_option linter.unusedVariables false
theorem nv_digit {xs:List Nat} (h:∀x∈xs,x<18446744073709551616) (j:Nat):xs.getD j 0=nv 18446744073709551616 xs / 18446744073709551616 ^ j % 18446744073709551616:=by
 by_cases hj:j<xs.length
 ·have h1:=nv_split 18446744073709551616 xs j hj
  have h2:=nv_lt 18446744073709551616 (xs.take j) (fun y hy=>h y (List.mem_of_mem_take hy))
  rw[List.length_take,Nat.min_eq_left (by omega)] at h2
  have h3:=getD_lt (by omega) h j
  rw[h1,Nat.add_mul_div_left _ _ (Nat.pow_pos (by omega)),Nat.div_eq_of_lt h2,Nat.zero_add,Nat.add_mul_mod_self_left,Nat.mod_eq_of_lt h3]
 ·rw[getD_out (by omega),Nat.div_eq_of_lt]
  exact Nat.lt_of_lt_of_le (nv_lt _ xs h) (Nat.pow_le_pow_right (by omega) (by omega))
def pc (b X k:Nat):Nat:=X / 2 ^ (b*k) % 2 ^ b
theorem pc_lt (b X k:Nat):pc b X k<2 ^ b:=Nat.mod_lt _ (Nat.two_pow_pos b)
def pcI (s:Bool) (b X m:Nat):List Int:=(List.range m).map fun k=>iv s (pc b X k)
theorem pcI_len (s:Bool) (b X m:Nat):(pcI s b X m).length=m:=by simp[pcI]
theorem pcI_succ (s:Bool) (b X m:Nat):pcI s b X (m+1)=pcI s b X m++[iv s (pc b X m)]:=by simp[pcI,List.range_succ]
theorem iv_add (s:Bool) (a c:Nat):iv s (a+c)=iv s a+iv s c:=by unfold iv;cases s <;> simp <;> omega
theorem iv_mul (s:Bool) (a c:Nat):iv s (a*c)=(a:Int)*iv s c:=by unfold iv;cases s <;> simp[Int.mul_neg]
theorem pcI_dv (s:Bool) (b X m:Nat):dv (2 ^ b) (pcI s b X m)=iv s (X % 2 ^ (b*m)):=by
 induction m with
 | zero=>simp[pcI,dv,Nat.mod_one];cases s <;> rfl
 | succ m ih =>
  rw[pcI_succ,dv_snoc,ih,pcI_len]
  have e:X % 2 ^ (b*(m+1))=X % 2 ^ (b*m)+2 ^ (b*m)*pc b X m:=by
   unfold pc
   rw[Nat.mul_succ,Nat.pow_add,Nat.mod_mul]
  rw[e,iv_add,iv_mul]
  congr 2
  rw[<-Int.pow_mul]
  simp
theorem pcI_all {b X m:Nat} (s:Bool) (h:X<2 ^ (b*m)):dv (2 ^ b) (pcI s b X m)=iv s X:=by
 rw[pcI_dv,Nat.mod_eq_of_lt h]
theorem w_dvd {b:Nat} (hb:b<=64):2 ^ b ∣ 18446744073709551616:=⟨2 ^ (64-b),by rw[<-Nat.pow_add,show b+(64-b)=64 by omega]⟩
theorem pc_limbs {X i a b k:Nat} (hk:b*k=64*i+a) (ha:a<64) (hb:b<=64) :
  (X / 18446744073709551616 ^ i % 18446744073709551616 / 2 ^ a+X / 18446744073709551616 ^ (i+1) % 18446744073709551616*2 ^ (64-a) % 18446744073709551616) % 2 ^ b=pc b X k:=by
 unfold pc
 have e1:X / 18446744073709551616 ^ (i+1)=X / 18446744073709551616 ^ i / 18446744073709551616:=by rw[Nat.pow_succ,Nat.div_div_eq_div_mul]
 have e2:X / 2 ^ (b*k)=X / 18446744073709551616 ^ i / 2 ^ a:=by rw[hk,Nat.pow_add,<-pow64,Nat.div_div_eq_div_mul]
 rw[e1,e2]
 generalize X / 18446744073709551616 ^ i=Q
 by_cases h0:a=0
 ·subst h0
  rw[Nat.pow_zero,Nat.div_one,Nat.div_one,show 64-0=64 from rfl,show(2:Nat) ^ 64=18446744073709551616 from rfl,Nat.mul_mod_left,Nat.add_zero,Nat.mod_mod_of_dvd _ (w_dvd hb)]
 ·have:=sh_digit (Q:=Q) (r:=64-a) (by omega)
  rw[show 64-(64-a)=a by omega] at this
  rw[Nat.add_comm,<-this,Nat.mod_mod_of_dvd _ (w_dvd hb)]
theorem or_addC {a c r:Nat} (h:a<2 ^ r):a ||| (c*2 ^ r)=a+c*2 ^ r:=by
 rw[Nat.mul_comm c,Nat.or_comm,Nat.add_comm]
 exact(Nat.two_pow_add_eq_or_of_lt h c).symm
theorem pc_or {lo hi a:Nat} (hl:lo<18446744073709551616) (hh:hi<18446744073709551616) (ha:a<64):(lo / 2 ^ a ||| hi*2 ^ (64-a) % 18446744073709551616)=lo / 2 ^ a+hi*2 ^ (64-a) % 18446744073709551616:=by
 by_cases h0:a=0
 ·subst h0
  rw[show 64-0=64 from rfl,show(2:Nat) ^ 64=18446744073709551616 from rfl,Nat.mul_mod_left]
  simp
 ·rw[shl_mod (by omega) hh]
  exact or_addC (shr_lt' ha hl)
theorem pack_at {zs:List Nat} {S p b k i r:Nat} (hz:∀z∈zs,z<18446744073709551616) (hS:nv 18446744073709551616 zs=S) (hlt:S<2 ^ (b*k)) (hp:p<2 ^ b) (hb:b<=30) (hk:b*k=64*i+r) (hr:r<64) (hi:i+1<zs.length) :
  zs.getD i 0<2 ^ r/\zs.getD (i+1) 0=0/\(zs.getD i 0 ||| p*2 ^ r % 18446744073709551616)=zs.getD i 0+p*2 ^ r % 18446744073709551616 /\
  nv 18446744073709551616 ((zs.set i (zs.getD i 0 ||| p*2 ^ r % 18446744073709551616)).set (i+1) (p / 2 ^ (64-r)))=S+2 ^ (b*k)*p /\
  ∀z∈(zs.set i (zs.getD i 0 ||| p*2 ^ r % 18446744073709551616)).set (i+1) (p / 2 ^ (64-r)),z<18446744073709551616:=by
 have hpw:p<18446744073709551616:=Nat.lt_of_lt_of_le hp (by have:=Nat.pow_le_pow_right (n:=2) (by omega) hb;omega)
 have h1:zs.getD i 0<2 ^ r:=by
  rw[nv_digit hz i,hS]
  refine Nat.lt_of_le_of_lt (Nat.mod_le _ _) (Nat.div_lt_of_lt_mul ?_)
  rw[pow64,<-Nat.pow_add,<-hk]
  exact hlt
 have h2:zs.getD (i+1) 0=0:=by
  rw[nv_digit hz (i+1),hS,Nat.div_eq_of_lt,Nat.zero_mod]
  rw[pow64]
  exact Nat.lt_of_lt_of_le hlt (Nat.pow_le_pow_right (by omega) (by omega))
 have h3:(zs.getD i 0 ||| p*2 ^ r % 18446744073709551616)=zs.getD i 0+p*2 ^ r % 18446744073709551616:=by
  rw[shl_mod hr hpw]
  exact or_addC h1
 have h4:zs.getD i 0+p*2 ^ r % 18446744073709551616<18446744073709551616:=by
  rw[shl_mod hr hpw]
  have h5:p % 2 ^ (64-r)+1<=2 ^ (64-r):=Nat.mod_lt _ (Nat.two_pow_pos _)
  have h6:=Nat.mul_le_mul_right (2 ^ r) h5
  rw[<-Nat.pow_add,show 64-r+r=64 by omega,Nat.add_mul,Nat.one_mul,show(2:Nat) ^ 64=18446744073709551616 from rfl] at h6
  omega
 have h7:p / 2 ^ (64-r)<18446744073709551616:=Nat.lt_of_le_of_lt (Nat.div_le_self _ _) hpw
 refine⟨h1,h2,h3,?_,set_lt (set_lt hz (by rw[h3];exact h4)) h7⟩
 have e1:=nv_set 18446744073709551616 zs i (zs.getD i 0 ||| p*2 ^ r % 18446744073709551616) (by omega)
 have e2:=nv_set 18446744073709551616 (zs.set i (zs.getD i 0 ||| p*2 ^ r % 18446744073709551616)) (i+1) (p / 2 ^ (64-r)) (by simpa using hi)
 rw[getD_set _ _ _ _ (by omega),if_neg (by omega),h2,Nat.mul_zero,Nat.add_zero] at e2
 rw[hS,h3,Nat.mul_add] at e1
 have e3:=shl_parts hr hpw
 have e4:2 ^ (b*k)*p=18446744073709551616 ^ i*(p*2 ^ r):=by rw[hk,Nat.pow_add,<-pow64];ac_rfl
 have e5:18446744073709551616 ^ i*(p*2 ^ r)=18446744073709551616 ^ i*(p*2 ^ r % 18446744073709551616)+18446744073709551616 ^ (i+1)*(p / 2 ^ (64-r)):=by
  conv=>lhs;rw[<-e3]
  rw[Nat.mul_add,Nat.pow_succ,Nat.mul_assoc]
 rw[e2,h3,e4,e5]
 omega
theorem dv_take {B:Int} {ds:List Int} {k:Nat} (h0:∀i,k<=i->i<ds.length->ds.getD i 0=0):dv B (ds.take k)=dv B ds:=by
 induction ds generalizing k with
 | nil=>simp
 | cons d ds ih =>
  cases k with
  | zero =>
   have e:=ih (k:=0) fun i _ hi=>by simpa using h0 (i+1) (by omega) (by simp;omega)
   have hd:d=0:=by simpa using h0 0 (by omega) (by simp)
   simp only[List.take_zero,dv] at e ⊢
   rw[hd,<-e]
   simp
  | succ k =>
   have e:=ih (k:=k) fun i hk hi=>by simpa using h0 (i+1) (by omega) (by simp;omega)
   simp only[List.take_succ_cons,dv,e]
theorem NT.take {ds:List Int} {k:Nat} (hk:k<=ds.length) (h1:k=0\/ds.getD (k-1) 0≠0):NT (ds.take k):=by
 intro j hj
 rw[List.length_take,Nat.min_eq_left hk] at hj
 subst hj
 rw[List.getD_eq_getElem?_getD,List.getElem?_take_of_lt (by omega),<-List.getD_eq_getElem?_getD]
 rcases h1 with h|h
 ·omega
 ·simpa using h
end Go.Proofs.YtfbgckgemfkioaaDoor
namespace Go.Proofs.YtfbgckgemfkioaaDoor
open Go.RowKit Go.Shelf
set_option linter.unusedVariables false
set_option linter.unusedSimpArgs false
theorem trimI (ad:Option Addr) (n cap:Nat) (xs:List Int) (w:World) (h:RI w ad n cap xs) :
  Calls Tryd.prog 31 #[.slice ad n cap] w fun e w'=>∃k:Nat,e = .returned (.slice ad k cap)/\k<=n/\(∀i,k<=i->i<n->xs.getD i 0=0)/\(k=0\/xs.getD (k-1) 0≠0)/\w'=w:=by
 have h1:=h.le
 have h2:=h.max
 have h3:cap<=9223372036854775807:=by unfold maxLen at h2;omega
 have H:Hid (RI w ad n cap xs):=h
 clear h h2
 go_enter Tryd.func31,Tryd.ntmps31
 go_wp2
 go_loop [3] (fun t=>∃k:Nat,k<=n/\t = .int .i64 k/\Hid (∀i,k<=i->i<n->xs.getD i 0=0)) (fun t=>(intOf t).toNat)
 case atStart=>exact⟨n,Nat.le_refl _,rfl,fun i a b=>absurd b (by omega)⟩
 case round =>
  obtain⟨k,hk,rfl,hz⟩:=hrel
  by_cases hk0:k=0
  ·subst hk0
   go_wp2
   go_ret
   exact⟨0,rfl,by omega,hz.out,Or.inl rfl,rfl⟩
  ·cases had:ad with
   | none=>have:=(H.out.nil had).1;omega
   | some b =>
    have hcell:=(H.out.cell b had (k-1) (by omega)).2
    subst had
    by_cases hx:xs.getD (k-1) 0=0
    ·rw[hx] at hcell
     go_wp2
     go_round
     case rel=>exact⟨k-1,by omega,by go_num,fun i a b=>if e:i=k-1 then e ▸ hx else hz.out i (by omega) b⟩
     case measure=>simp[intOf];omega
    ·have HX:Hid (xs.getD (k-1) 0≠0):=hx
     generalize hv:xs.getD (k-1) 0=v at hcell hx
     have hv0:(v==0)=false:=by simpa using hx
     clear hv hx
     go_wp2
     go_ret
     exact⟨k,rfl,hk,hz.out,Or.inr HX.out,rfl⟩
theorem trimU (ad:Option Addr) (n cap:Nat) (xs:List Nat) (w:World) (h:Row w ad n cap xs) :
  Calls Tryd.prog 35 #[.slice ad n cap] w fun e w'=>∃k,e = .returned (.slice ad k cap)/\k<=n/\(∀i,k<=i->i<n->xs.getD i 0=0)/\(k=0\/xs.getD (k-1) 0≠0)/\w'=w:=by
 have h1:=h.le
 have h2:=h.max
 have H:Hid (Row w ad n cap xs):=h
 clear h
 go_enter Tryd.func35,Tryd.ntmps35
 go_wp2
 go_loop [3] (fun t=>∃k:Nat,k<=n/\t = .int .i64 k/\Hid (∀i,k<=i->i<n->xs.getD i 0=0)) (fun t=>(intOf t).toNat)
 case atStart=>exact⟨n,Nat.le_refl _,rfl,fun i a b=>absurd b (by omega)⟩
 case round =>
  obtain⟨k,hk,rfl,hz⟩:=hrel
  by_cases hk0:k=0
  ·subst hk0
   go_wp2
   go_ret
   exact⟨0,rfl,by omega,hz.out,Or.inl rfl,rfl⟩
  ·obtain⟨b,off,rfl,hb,hc⟩:=H.out.cells (by omega)
   have hcell:=hc (k-1) (by omega)
   clear hc
   by_cases hx:xs.getD (k-1) 0=0
   ·rw[hx] at hcell
    go_wp2
    go_round
    case rel=>exact⟨k-1,by omega,by go_num,fun i a b=>if e:i=k-1 then e ▸ hx else hz.out i (by omega) b⟩
    case measure=>simp[intOf];omega
   ·have HX:Hid (xs.getD (k-1) 0≠0):=hx
    generalize hv:xs.getD (k-1) 0=v at hcell hx
    have hv0:(((v:Nat):Int)==0)=false:=by simp;omega
    clear hv hx
    go_wp2
    go_ret
    exact⟨k,rfl,hk,hz.out,Or.inr HX.out,rfl⟩
theorem runC_append (B l:Int) (xs ys:List Int) (c:Int):runC B l (xs++ys) c=runC B l ys (runC B l xs c):=by
 induction xs generalizing c with
 | nil=>rfl
 | cons x xs ih=>exact ih _
theorem cS_half {h c:Int} (hh:2<=h) {t:Nat} (hc:c.natAbs<2 ^ (t+1)):(cS (2*h) (-h) 0 c).natAbs<2 ^ t:=by
 unfold cS
 have e:=Int.emod_add_mul_ediv (0+c - -h) (2*h)
 have h1:=Int.emod_nonneg (0+c - -h) (show 2*h≠0 by omega)
 have h2:=Int.emod_lt_of_pos (0+c - -h) (show 0<2*h by omega)
 generalize (0+c - -h) / (2*h)=q at *
 generalize (0+c - -h) % (2*h)=r at *
 rw[Nat.pow_succ] at hc
 have hp:=Nat.two_pow_pos t
 by_cases hq:0<=q
 ·by_cases h0:q=0
  ·subst h0;simpa using hp
  ·have h6:2*h*1+4*(q-1)<=2*h*q:=by
    have:4*(q-1)<=2*h*(q-1):=Int.mul_le_mul_of_nonneg_right (by omega) (by omega)
    have:2*h*q=2*h*1+2*h*(q-1):=by rw[<-Int.mul_add];congr 1;omega
    omega
   omega
 ·have h4:2*h*1+4*(-q-1)<=2*h*(-q):=by
   have:4*(-q-1)<=2*h*(-q-1):=Int.mul_le_mul_of_nonneg_right (by omega) (by omega)
   have:2*h*(-q)=2*h*1+2*h*(-q-1):=by rw[<-Int.mul_add];congr 1;omega
   omega
  have h5:2*h*(-q) = -(2*h*q):=by rw[Int.mul_neg]
  omega
theorem ends {h:Int} (hh:2<=h):∀(t:Nat) (c:Int),c.natAbs<2 ^ t->∃j,j<=t/\runC (2*h) (-h) (List.replicate j 0) c=0/\∀i,i<j->runC (2*h) (-h) (List.replicate i 0) c≠0/\(cS (2*h) (-h) 0 (runC (2*h) (-h) (List.replicate i 0) c)).natAbs<(runC (2*h) (-h) (List.replicate i 0) c).natAbs:=by
 intro t
 induction t with
 | zero=>intro c hc;exact⟨0,Nat.le_refl _,by simp at hc;subst hc;rfl,fun i hi=>absurd hi (by omega)⟩
 | succ t ih =>
  intro c hc
  by_cases h0:c=0
  ·exact⟨0,by omega,by subst h0;rfl,fun i hi=>absurd hi (by omega)⟩
  ·obtain⟨j,h1,h2,h3⟩:=ih _ (cS_half hh hc)
   refine⟨j+1,by omega,by rw[List.replicate_succ];exact h2,fun i hi=>?_⟩
   cases i with
   | zero=>exact⟨h0,cS_less rfl hh h0⟩
   | succ i=>rw[List.replicate_succ];exact h3 i (by omega)
theorem run_bd {B l:Int} (hB:4<=B) (l1 : -536870912<=l) (l2:l<=0) (vs:List Int) (hv:∀v∈vs,-9223372036854775808<=v/\v<=9223372036854775807) (c:Int) (c1 : -4611686018427387904<=c) (c2:c<=4611686018427387904) : -4611686018427387904<=runC B l vs c/\runC B l vs c<=4611686018427387904:=by
 induction vs generalizing c with
 | nil=>exact⟨c1,c2⟩
 | cons v vs ih =>
  have h0:=hv v (by simp)
  obtain⟨d1,d2⟩:=cS_bd hB l1 l2 h0.1 h0.2 c1 c2
  exact ih (fun x hx=>hv x (by simp[hx])) _ d1 d2
set_option maxHeartbeats 2000000 in
theorem rowC (gf b:Nat) (lb:Array Value) (vs:List Int) (w:World) (h:Int) (hb1:2<=b) (hb2:b<=30) (hB:(2:Int) ^ b=2*h) (hh:2<=h) (hh2:h<=536870912) (hhb:h=2 ^ (b-1)) (eg:∀args w,(callFunc gf args).run Tryd.prog w = .ok (.enter gf args) w)
  (hseq:∀n₁ w₁,w.heap.size<=n₁->Gr w w₁->SeqQ Tryd.prog gf lb (fun k=>n₁<=k) 0 vs w₁) (hv:∀v∈vs,-9223372036854775808<=v/\v<=9223372036854775807) (hlen:vs.length<=2199023255552) :
  Calls Tryd.prog 16 #[.func (.func gf) #[] lb,.int .i64 (b:Int)] w fun e w'=>∃ad k cap ds,e = .returned (.slice ad k cap)/\w'.ownsRow w.heap.size 2 1 (.slice ad k cap) k (iz ds)/\(∀d∈ds,-h<=d/\d<h)/\NT ds/\dv (2*h) ds=dv (2*h) vs/\k<=vs.length+63/\Gr w w':=by
 have hcb:=run_bd (B:=2*h) (l:=-h) (by omega) (by omega) (by omega) vs hv 0 (by omega) (by omega)
 obtain⟨j,hj,hj1,hj2⟩:=ends hh 63 (runC (2*h) (-h) vs 0) (by omega)
 obtain⟨w1,hw1⟩:∃w1,((w.alloc (.cells #[.func (.func gf) #[] lb] 46)).alloc (.cells #[.int .i64 (b:Int)] 3)).alloc (.cells #[.int .i64 (-h)] 2)=w1:=⟨_,rfl⟩
 have G1:Gr w w1:=by rw[<-hw1];exact(((Gr.refl w).alloc _).alloc _).alloc _
 have s1:w1.heap.size=w.heap.size+3:=by rw[<-hw1];simp
 have HS:=settledC gf lb (b:Int) (-h) w
 rw[hw1] at HS
 have c0:w1.cell? ⟨w.heap.size,0,none⟩=some (.func (.func gf) #[] lb):=by rw[<-hw1];exact(((Boxed.new w _ _).alloc _).alloc _).cell
 have c1:w1.cell? ⟨w.heap.size+1,0,none⟩=some (.int .i64 (b:Int)):=by
  rw[<-hw1]
  have:=Boxed.new (w.alloc (.cells #[.func (.func gf) #[] lb] 46)) 3 (.int .i64 (b:Int))
  rw[World.size_alloc] at this
  exact(this.alloc _).cell
 have c2:w1.cell? ⟨w.heap.size+2,0,none⟩=some (.int .i64 (-h)):=by
  rw[<-hw1]
  have:=Boxed.new ((w.alloc (.cells #[.func (.func gf) #[] lb] 46)).alloc (.cells #[.int .i64 (b:Int)] 3)) 2 (.int .i64 (-h))
  simp only[World.size_alloc] at this
  exact this.cell
 have SQ:=settledQ (w.heap.size+1) (w.heap.size+2) w.heap.size (fun k=>w1.heap.size<=k) b j gf lb (-h) vs w1 hb1 hb2 (by omega) (by omega) hv (by omega) (by omega) (by omega) (fun k hk=>hk) c1 c2 c0 eg (hseq _ _ (by omega) G1) (by rw[hB,runC_append];exact hj1) (by intro i hi;rw[hB,runC_append];exact hj2 i hi)
 obtain⟨ds,hds⟩:∃ds,runD (2 ^ b) (-h) (vs++List.replicate j 0) 0=ds:=⟨_,rfl⟩
 have dlen:ds.length=vs.length+j:=by rw[<-hds,runD_len];simp
 have din:∀d∈ds,-h<=d/\d<h:=by
  intro d hd
  rw[<-hds,hB] at hd
  have:=runD_in (B:=2*h) (by omega) (-h) _ _ d hd
  omega
 have dval:dv (2*h) ds=dv (2*h) vs:=by
  have e:=run_eq (2*h) (-h) (vs++List.replicate j 0) 0
  rw[<-hB,hds,hB,runC_append,hj1,dv_append,dv_zeros] at e
  simp only[Int.mul_zero,Int.add_zero] at e
  exact e.symm
 rw[hds] at SQ
 have CC:=hide (collectC 48 6 _ ds w1 (enters_of Tryd.func48 (by kernel_rfl) rfl) SQ (by omega))
 have HS2:Hid (Calls Tryd.prog 33 #[.func (.func gf) #[] lb,.int .i64 (b:Int),.int .i64 (wrap64 (-2 ^ (b-1)))] w fun e w'=>e = .returned (.func (.func 48) #[] #[.pointer (some ⟨w.heap.size+1,0,none⟩),.pointer (some ⟨w.heap.size+2,0,none⟩),.pointer (some ⟨w.heap.size,0,none⟩)])/\w'=w1):=by rw[<-hhb,w64 (x:=-h) (by omega) (by omega)];exact HS
 have G1:=hide G1
 have hbm:(b:Int)-1=((b-1:Nat):Int):=by omega
 have ODS:=hide (And.intro din (And.intro dval dlen))
 clear SQ HS c0 c1 c2 hseq eg hj1 hj2 hcb hv hds din dval dlen hw1 hhb
 go_enter Tryd.func16,Tryd.ntmps16
 go_wp2_with (first|(go_at_call 33;with_reducible refine HS2.out.mono ?_;rintro e w' ⟨rfl,rfl⟩)|(go_at_call 32;with_reducible refine CC.out.mono ?_;rintro e w2 ⟨v,rfl,ho,g2⟩;obtain⟨ad,cap,rfl,hri,hge⟩:=RI.of_owns ho;have HO:=hide ho;have G2:=hide g2;clear ho g2)|(go_at_call 31;with_reducible refine(trimI _ _ _ _ _ hri).mono ?_;rintro e w3 ⟨k,rfl,hk,hk1,hk2,rfl⟩))
 go_ret
 obtain⟨din,dval,dlen⟩:=ODS.out
 refine⟨ad,k,cap,ds.take k,rfl,?_,fun d hd=>din d (List.mem_of_mem_take hd),NT.take hk hk2,?_,by omega,G1.out.trans G2.out⟩
 ·have e:iz (ds.take k)=(iz ds).take k:=by simp[iz]
  rw[e]
  cases ad with
  | none =>
   have h0:=(hri.nil rfl)
   obtain⟨e1,e2⟩:=h0
   subst e2
   have:k=0:=by omega
   subst this
   exact World.ownsRow_nil _ _ _ _
  | some a =>
   have hx:=HO.out
   rcases hx.2 with ⟨h1,_⟩|⟨g,cap',cur,h1,_⟩
   ·cases h1
   ·injection h1 with e1 e2 e3
    injection e1 with e1
    subst e1
    exact owns_low (owns_take hx hk) (by omega)
 ·rw[dv_take (fun i h1 h2=>hk1 i h1 h2)]
  exact dval
end Go.Proofs.YtfbgckgemfkioaaDoor
