import Derived.Test.YtapnglidnblmcaaGreatQ05
import Derived.Test.YtapnglidnblmcaaGreatQ01
import Derived.Laws.OwnMore
namespace Go.Proofs.YtapnglidnblmcaaGreat
open Go.RowKit
set_option linter.unusedVariables false
def OU (w:World) (g N C:Nat) (zs:List Nat):Prop:=w.ownsRow g 71 1 (.slice (some ⟨g,0,none⟩) N C) N (u64s zs)
theorem OU.cell {w:World} {g N C:Nat} {zs:List Nat} (h:OU w g N C zs) (j:Nat) (hj:j<N):w.cell? ⟨g,j,none⟩=some (.int .u64 ((zs.getD j 0:Nat):Int)):=by
 have hl:zs.length=N:=by have:=h.1;rw[u64s_length] at this;omega
 rw[World.ownsRow.cellAt h j (by omega),u64s_getD (by omega)]
theorem OU.set {w:World} {g N C:Nat} {zs:List Nat} (h:OU w g N C zs) (j v:Nat):OU (w.setCell ⟨g,j,none⟩ (.int .u64 (v:Int))) g N C (zs.set j v):=by
 have:=(World.ownsRow.stored h j (.int .u64 (v:Int))).1
 unfold OU
 rw[show u64s (zs.set j v)=(u64s zs).set j (.int .u64 (v:Int)) by simp[u64s]]
 exact this
theorem OU.len {w:World} {g N C:Nat} {zs:List Nat} (h:OU w g N C zs):zs.length=N:=by
 have:=h.1;rw[u64s_length] at this;omega
theorem OU.fz {w:World} {g N C:Nat} {zs:List Nat} (h:OU w g N C zs) (j:Nat):w.frozen? ⟨g,j,none⟩=false:=World.ownsRow.frozenAt h j
structure Gt (g:Nat) (w w':World):Prop where
 os:w'.os=w.os
 output:w'.output=w.output
 size:w.heap.size<=w'.heap.size
 block:∀k,k<w.heap.size->k≠g->w'.heap[k]? = w.heap[k]?
theorem Gt.refl (g:Nat) (w:World):Gt g w w:=⟨rfl,rfl,Nat.le_refl _,fun _ _ _=>rfl⟩
theorem Gt.trans {g:Nat} {a b c:World} (h:Gt g a b) (k:Gt g b c):Gt g a c:=
 ⟨k.os.trans h.os,k.output.trans h.output,Nat.le_trans h.size k.size,fun i hi hn=>(k.block i (Nat.lt_of_lt_of_le hi h.size) hn).trans (h.block i hi hn)⟩
theorem Gt.of_gr {g:Nat} {w w':World} (h:Gr w w'):Gt g w w':=⟨h.os,h.output,h.size,fun k hk _=>h.block k hk⟩
theorem Gt.setCell {g:Nat} {a w:World} (h:Gt g a w) {p:Addr} (hp:p.block=g) (u:Value):Gt g a (w.setCell p u):=
 ⟨h.os,h.output,by simpa [World.setCell] using h.size,fun k hk hn=>(Below.heap_setCell _ _ _ _ (by omega)).trans (h.block k hk hn)⟩
theorem Gt.gr {g:Nat} {a w w':World} (h:Gr a w) (k:Gt g w w') (hg:a.heap.size<=g):Gr a w':=
 ⟨k.os.trans h.os,k.output.trans h.output,Nat.le_trans h.size k.size,fun i hi=>(k.block i (Nat.lt_of_lt_of_le hi h.size) (by omega)).trans (h.block i hi)⟩
theorem Gt.drew {g:Nat} {a w:World} (h:Gt g a w):Gt g a w.drew:=⟨h.os,h.output,h.size,h.block⟩
theorem Gt.drewN {g:Nat} {a w:World} (h:Gt g a w) (n:Nat):Gt g a (w.drewN n):=⟨h.os,h.output,h.size,h.block⟩
theorem Row.gt {g:Nat} {w w':World} {ad:Option Addr} {n cap:Nat} {xs:List Nat} (h:Row w ad n cap xs) (k:Gt g w w') (hne:0<n->∀b,ad=some b->b.block≠g):Row w' ad n cap xs:=by
 refine⟨h.len,h.le,h.max,h.nil,fun hp=>?_⟩
 obtain⟨b,off,e,hb,hc⟩:=h.cells hp
 refine⟨b,off,e,Nat.lt_of_lt_of_le hb k.size,fun j hj=>?_⟩
 rw[World.cell?_of_block (w:=w) (a:=⟨b,off+j,none⟩) (k.block b hb (hne hp _ e))]
 exact hc j hj
theorem OU.gt {f g:Nat} {w w':World} {N C:Nat} {zs:List Nat} (h:OU w f N C zs) (k:Gt g w w') (hne:f≠g):OU w' f N C zs:=by
 refine⟨h.1,?_⟩
 rcases h.2 with hn|⟨g',cap,cur,e1,hb,hgg,rest⟩
 ·exact .inl hn
 ·refine .inr ⟨g',cap,cur,e1,hb,?_,rest⟩
  have:g'=f:=by
   simp only[Value.slice.injEq,Option.some.injEq,Addr.mk.injEq] at e1
   exact e1.1.1.symm
  rw[k.block g' (Array.getElem?_eq_some_iff.1 hgg).1 (by omega)]
  exact hgg
set_option maxHeartbeats 1600000 in
theorem putTimesT (g N C k m2 cp x:Nat) (ad2:Option Addr) (n2 c2:Nat) (ys zs0:List Nat) (w:World) (ry:Row w ad2 n2 c2 ys) (hne:0<n2->∀b,ad2=some b->b.block≠g) (hy:∀x∈ys,x<18446744073709551616) (bx:x<18446744073709551616) (h0:∀z∈zs0,z<18446744073709551616)
  (hkN:k+n2<=N) (hNm:N<=4398046511104) (hm2:n2<=m2) (hcp:m2<=cp) (hcp2:cp<=9223372036854775807) (how:OU w g N C zs0) :
  Calls Tryz.prog 119 #[.slice (some ⟨g,k,none⟩) m2 cp,.slice ad2 n2 c2,.int .u64 (x:Int)] w fun e w'=>∃(c:Nat) (zs:List Nat),e = .returned (.int .u64 (c:Int))/\c<18446744073709551616/\Hid (MulAt ys zs zs0 k n2 x c N)/\Hid (OU w' g N C zs)/\Hid (Gt g w w'):=by
 have RY:Hid (∀w',Gt g w w'->Row w' ad2 n2 c2 ys):=fun w' k=>ry.gt k hne
 have HY:Hid (∀x∈ys,x<18446744073709551616):=hy
 have H0:Hid (∀x∈zs0,x<18446744073709551616):=h0
 have HO:Hid (OU w g N C zs0):=how
 have hl2:=ry.le
 have hm3:=ry.max
 clear ry hy h0 hne how
 go_enter Tryz.func119,Tryz.ntmps119
 go_wp2
 go_loopw [7,19] (fun cr i wr=>∃(j c:Nat) (zs:List Nat),j<=n2/\c<18446744073709551616/\i = .int .i64 (j:Int)/\cr = .int .u64 (c:Int)/\Hid (OU wr g N C zs)/\Hid (MulAt ys zs zs0 k j x c N)/\Hid (Gt g w wr)) (fun _ i _=>n2-(intOf i).toNat)
 case atStart=>exact⟨0,0,zs0,by omega,by omega,rfl,rfl,HO,⟨HO.out.len,H0.out,by simp[nv],fun _ _=>rfl⟩,Gt.refl _ _⟩
 case round =>
  obtain⟨j,c,zs,hj,hc,rfl,rfl,hown,hA,hg⟩:=hrel
  by_cases hlt:j<n2
  ·obtain⟨p2,o2,hp2e,hp2,hc2⟩:=(RY.out wr hg.out).cells (by omega)
   have hcell2:=hc2 j hlt
   have hcell3:=hown.out.cell (k+j) (by omega)
   have hfz:=hown.out.fz (k+j)
   subst hp2e
   obtain⟨yk,hyk⟩:∃yk,yk=ys.getD j 0:=⟨_,rfl⟩
   obtain⟨ok,hok⟩:∃ok,ok=zs.getD (k+j) 0:=⟨_,rfl⟩
   rw[<-hyk] at hcell2
   rw[<-hok] at hcell3
   have byk:yk<18446744073709551616:=hyk ▸ getD_lt (by omega) HY.out j
   have bok:ok<18446744073709551616:=hok ▸ getD_lt (by omega) hA.out.lt (k+j)
   have NX:=hA.out.next (by omega) hok hyk
   have MUL:=fun w=>Tryz.bits_Mul64 yk x byk bx w
   have hm:=prod_le bx byk
   rw[Nat.mul_comm yk x] at MUL
   clear hyk hok hc2
   generalize x*yk=m at *
   obtain⟨hi,hhi⟩:∃hi,hi=m / 18446744073709551616:=⟨_,rfl⟩
   obtain⟨lo,hlo⟩:∃lo,lo=m % 18446744073709551616:=⟨_,rfl⟩
   rw[<-hhi,<-hlo] at MUL
   have M:Hid (∀w1,Calls Tryz.prog 116 #[.int .u64 (yk:Int),.int .u64 (x:Int)] w1 fun e w'=>e = .returned (.tuple #[.int .u64 (hi:Int),.int .u64 (lo:Int)])/\w'=w1):=MUL
   have A1:=fun w=>add64N lo c 0 (by omega) w
   obtain⟨l1,hl1⟩:∃l1,l1=(lo+c+0) % 18446744073709551616:=⟨_,rfl⟩
   obtain⟨m1,hm1⟩:∃m1,m1=(lo+c+0) / 18446744073709551616:=⟨_,rfl⟩
   rw[<-hl1,<-hm1] at A1
   have A1':Hid (∀w,(callFunc 117 #[.int .u64 (lo:Int),.int .u64 (c:Int),.int .u64 0]).run Tryz.prog w = .ok (.value (.tuple #[.int .u64 (l1:Int),.int .u64 (m1:Int)])) w):=A1
   have A2:=fun w=>add64N l1 ok 0 (by omega) w
   obtain⟨l2,hl2'⟩:∃l2,l2=(l1+ok+0) % 18446744073709551616:=⟨_,rfl⟩
   obtain⟨m2',hm2'⟩:∃m2,m2=(l1+ok+0) / 18446744073709551616:=⟨_,rfl⟩
   rw[<-hl2',<-hm2'] at A2
   have A2':Hid (∀w,(callFunc 117 #[.int .u64 (l1:Int),.int .u64 (ok:Int),.int .u64 0]).run Tryz.prog w = .ok (.value (.tuple #[.int .u64 (l2:Int),.int .u64 (m2':Int)])) w):=A2
   have e1:(m+ok+c) % 18446744073709551616=l2:=by omega
   have e2:(m+ok+c) / 18446744073709551616=hi+m1+m2':=by omega
   have b1:hi+m1+m2'<18446744073709551616:=by omega
   rw[e1,e2] at NX
   have NX':Hid (MulAt ys (zs.set (k+j) l2) zs0 k (j+1) x (hi+m1+m2') N):=NX
   clear NX e1 e2 A1 A2 MUL hhi hlo hl1 hm1 hl2' hm2' hm
   have i1:(j:Int)<(n2:Int):=by omega
   go_wp2_with (first|(simp only[A1'.out])|(simp only[A2'.out])|(go_at_call 116;with_reducible refine(M.out _).mono ?_;rintro e w' ⟨rfl,rfl⟩))
   go_roundw
   case rel=>exact⟨j+1,hi+m1+m2',_,by omega,b1,by go_num,by go_num,hown.out.set (k+j) l2,NX',hg.out.setCell rfl _⟩
   case measure=>simp only[intOf];omega
  ·have hk2:j=n2:=by omega
   subst hk2
   go_wp2
   go_ret
   exact⟨c,zs,rfl,hc,hA,hown,hg⟩
end Go.Proofs.YtapnglidnblmcaaGreat
namespace Go.Proofs.YtapnglidnblmcaaGreat
open Go.RowKit
set_option linter.unusedVariables false
set_option linter.unusedSimpArgs false
def b8 (zs:List Nat):List Value:=zs.map fun (x:Nat)=>Value.int .u8 (x:Int)
theorem b8_length (zs:List Nat):(b8 zs).length=zs.length:=by simp[b8]
theorem b8_getD {xs:List Nat} {j:Nat} (h:j<xs.length):(b8 xs)[j]? = some (.int .u8 ((xs.getD j 0:Nat):Int)):=by
 unfold b8
 rw[List.getElem?_map,List.getElem?_eq_getElem h,List.getD_eq_getElem?_getD,List.getElem?_eq_getElem h]
 rfl
def OB (w:World) (g N C:Nat) (zs:List Nat):Prop:=w.ownsRow g 5 1 (.slice (some ⟨g,0,none⟩) N C) N (b8 zs)
theorem OB.len {w:World} {g N C:Nat} {zs:List Nat} (h:OB w g N C zs):zs.length=N:=by
 have:=h.1;rw[b8_length] at this;omega
theorem OB.cell {w:World} {g N C:Nat} {zs:List Nat} (h:OB w g N C zs) (j:Nat) (hj:j<N):w.cell? ⟨g,j,none⟩=some (.int .u8 ((zs.getD j 0:Nat):Int)):=by
 have hl:=h.len
 rw[World.ownsRow.cellAt h j (by omega),b8_getD (by omega)]
theorem OB.set {w:World} {g N C:Nat} {zs:List Nat} (h:OB w g N C zs) (j v:Nat):OB (w.setCell ⟨g,j,none⟩ (.int .u8 (v:Int))) g N C (zs.set j v):=by
 have:=(World.ownsRow.stored h j (.int .u8 (v:Int))).1
 unfold OB
 rw[show b8 (zs.set j v)=(b8 zs).set j (.int .u8 (v:Int)) by simp[b8]]
 exact this
theorem OB.fz {w:World} {g N C:Nat} {zs:List Nat} (h:OB w g N C zs) (j:Nat):w.frozen? ⟨g,j,none⟩=false:=World.ownsRow.frozenAt h j
theorem OB.gt {f g:Nat} {w w':World} {N C:Nat} {zs:List Nat} (h:OB w f N C zs) (k:Gt g w w') (hne:f≠g):OB w' f N C zs:=by
 refine⟨h.1,?_⟩
 rcases h.2 with hn|⟨g',cap,cur,e1,hb,hgg,rest⟩
 ·exact .inl hn
 ·refine .inr ⟨g',cap,cur,e1,hb,?_,rest⟩
  have:g'=f:=by
   simp only[Value.slice.injEq,Option.some.injEq,Addr.mk.injEq] at e1
   exact e1.1.1.symm
  rw[k.block g' (Array.getElem?_eq_some_iff.1 hgg).1 (by omega)]
  exact hgg
theorem OB.gr {f:Nat} {w w':World} {N C:Nat} {zs:List Nat} (h:OB w f N C zs) (k:Gr w w'):OB w' f N C zs:=⟨h.1,(k.owns h).2⟩
theorem OB.lt {w:World} {g N C:Nat} {zs:List Nat} (h:OB w g N C zs):g<w.heap.size:=(World.ownsRow.lt h g rfl).2
def put (zs:List Nat) (o:Nat) (ds:List Nat):List Nat:=zs.take o++ds++zs.drop (o+ds.length)
theorem put_nil (zs:List Nat) (o:Nat):put zs o []=zs:=by simp[put]
theorem put_set {zs ds:List Nat} {o:Nat} (v:Nat) (h:o+1+ds.length<=zs.length):(put zs (o+1) ds).set o v=put zs o (v :: ds):=by
 unfold put
 have h1:(zs.take (o+1)).length=o+1:=by rw[List.length_take];omega
 rw[List.append_assoc,List.set_append_left _ _ (by omega),List.take_succ_eq_append_getElem (by omega),List.set_append_right _ _ (by rw[List.length_take];omega)]
 rw[show o-(zs.take o).length=0 by rw[List.length_take];omega]
 simp only[List.set_cons_zero,List.length_cons,List.append_assoc,List.cons_append,List.nil_append]
 rw[show o+1+ds.length=o+(ds.length+1) by omega]
theorem put_put {zs d1 d2:List Nat} {o:Nat} (h:o+d1.length+d2.length<=zs.length):put (put zs o d1) (o+d1.length) d2=put zs o (d1++d2):=by
 unfold put
 have h1:(zs.take o++d1).length=o+d1.length:=by rw[List.length_append,List.length_take];omega
 rw[List.take_append_of_le_length (by omega),List.take_of_length_le (by omega)]
 rw[show o+d1.length+d2.length=(zs.take o++d1).length+d2.length by omega,List.drop_append,List.drop_drop]
 rw[h1,List.drop_of_length_le (by rw[h1];omega),List.nil_append,List.length_append]
 rw[show o+d1.length+(o+d1.length+d2.length-(o+d1.length))=o+(d1.length+d2.length) by omega,List.append_assoc (zs.take o) d1 d2]
theorem fx_front {b i X:Nat}:Bs.fx b (i+1) X=(X / b ^ i % b) :: Bs.fx b i X:=by
 induction i generalizing X with
 | zero=>simp[Bs.fx]
 | succ i ih =>
  rw[Bs.fx,ih,Bs.fx]
  rw[Nat.div_div_eq_div_mul,Nat.pow_succ,Nat.mul_comm b (b ^ i)]
  rfl
def alph:ByteArray:={data:=#[48,49,50,51,52,53,54,55,56,57,97,98,99,100,101,102,103,104,105,106,107,108,109,110,111,112,113,114,115,116,117,118,119,120,121,122]}
theorem alph_get:∀r:Nat,(h:r<alph.size)->(alph[r]'h).toNat=Bs.dg r:=by
 have key:∀r:Fin 36,((alph.data[r.val]?).getD 0).toNat=Bs.dg r.val:=by decide +kernel
 intro r h
 have h':r<36:=h
 have:=key ⟨r,h'⟩
 rw[Array.getElem?_eq_getElem (show r<alph.data.size from h)] at this
 exact this
theorem lad_box {w:World} {B:Nat} {v0 v1 v2:Value} {T:TypeId} (h:w.heap[B]? = some (.cells #[v0,v1,v2] T)):w.cell? ⟨B,0,none⟩=some v0/\w.cell? ⟨B,1,none⟩=some v1/\w.cell? ⟨B,2,none⟩=some v2:=⟨by simp[World.cell?,h],by simp[World.cell?,h],by simp[World.cell?,h]⟩
theorem Gt.keep {g:Nat} {w w':World} (h:Gt g w w') {k:Nat} {o:Obj} (hk:w.heap[k]? = some o) (hne:k≠g):w'.heap[k]? = some o:=(h.block k (lt_of_get2 hk) hne).trans hk
set_option maxHeartbeats 1000000 in
theorem writePieceB (b p g N C o L c X:Nat) (la:Option Addr) (ln lc:Nat) (s:Bool) (ad:Option Addr) (n cap:Nat) (zs:List Nat) (w:World) (h2:2<=b) (h36:b<=36)
  (hx:Wh w s ad n cap (X:Int)) (h1:X<18446744073709551616) (hob:OB w g N C zs) (hoL:o+L<=N) (hN:N<=4398046511104) (hc:L<=c) (hc2:c<=9223372036854775807) :
  Calls Tryz.prog 76 #[.agg #[.int .i64 (b:Int),.int .i64 (p:Int),.slice la ln lc],.slice (some ⟨g,o,none⟩) L c,.agg #[.bool s,.slice ad n cap]] w
   fun r w'=>r = .returned (.tuple #[])/\Hid (OB w' g N C (put zs o ((Bs.fx b L X).map Bs.dg)))/\Hid (Gt g w w'):=by
 obtain⟨H1,H2⟩:=blk2 w (.cells #[.int .i64 (b:Int),.int .i64 (p:Int),.slice la ln lc] 83) (.cells #[.bool s,.slice ad n cap] 24)
 have GW:Gr w ((w.alloc (.cells #[.int .i64 (b:Int),.int .i64 (p:Int),.slice la ln lc] 83)).alloc (.cells #[.bool s,.slice ad n cap] 24)):=((Gr.refl w).alloc _).alloc _
 have LO:=limbOfB s ad n cap X _ (hx.gr GW) h1
 have LO':=hide LO
 have hzl:=hob.len
 have hgw:=hob.lt
 have HOB:Hid (OB w g N C zs):=hob
 obtain⟨x2,y2⟩:=bx2 H2
 have hb0:¬((b:Int)=0):=by omega
 have hb1:((b:Int)==0)=false:=by simp;omega
 clear hx hob LO
 go_enter Tryz.func76,Tryz.ntmps76
 go_wp2_with (go_at_call 89;(with_reducible refine LO'.out.mono ?_);rintro r w2 ⟨rfl,g2⟩)
 have G2:=GW.trans g2
 replace H1:=keepO g2 H1
 have HB:Hid (∀wr,Gt g w2 wr->wr.cell? ⟨w.heap.size,0,none⟩=some (.int .i64 (b:Int))):=fun wr k=>(lad_box (k.keep H1 (by omega))).1
 have HO2:Hid (OB w2 g N C zs):=HOB.out.gr G2
 have HG:Hid (Gr w w2):=G2
 have AL:=alph_get
 have ha:alph.size=36:=rfl
 clear H1 H2 x2 y2 LO' g2 GW G2 HOB
 go_loopw [6,12] (fun lf i wr=>∃j q:Nat,j<=L/\i = .int .i64 (j:Int)/\lf = .int .u64 (q:Int)/\q<18446744073709551616/\Hid (q=X / b ^ j)/\Hid (OB wr g N C (put zs (o+(L-j)) ((Bs.fx b j X).map Bs.dg)))/\Hid (Gt g w2 wr)) (fun _ i _=>L-(intOf i).toNat)
 case atStart=>exact⟨0,X,by omega,rfl,rfl,h1,(by rw[Nat.pow_zero,Nat.div_one];exact rfl),(by rw[Bs.fx,List.map_nil,put_nil];exact HO2.out),Gt.refl _ _⟩
 case round =>
  obtain⟨j,q,hj,rfl,rfl,hq,hqx,hown,hg⟩:=hrel
  have hcell:=HB.out wr hg.out
  by_cases hlt:j<L
  ·obtain⟨J,hJ⟩:∃J,L-1-j=J:=⟨_,rfl⟩
   have hfz:=hown.out.fz (o+J)
   have hold:=hown.out.cell (o+J) (by omega)
   generalize (put zs (o+(L-j)) ((Bs.fx b j X).map Bs.dg)).getD (o+J) 0=old at hold
   have hcell4:∀v,(wr.setCell ⟨g,o+J,none⟩ v).cell? ⟨w.heap.size,0,none⟩=some (.int .i64 (b:Int)):=fun v=>HB.out _ (hg.out.setCell rfl v)
   obtain⟨m,hm⟩:∃m,q % b=m:=⟨_,rfl⟩
   obtain⟨d,hd⟩:∃d,q / b=d:=⟨_,rfl⟩
   have em:Int.tmod (q:Int) (b:Int)=(m:Int):=by rw[Int.tmod_eq_emod_of_nonneg (by omega),<-hm];simp
   have ed:Int.tdiv (q:Int) (b:Int)=(d:Int):=by rw[Int.tdiv_eq_ediv_of_nonneg (by omega),<-hd];simp
   have eJ:(L:Int)-1-(j:Int)=(J:Int):=by omega
   have m36:m<36:=by have:=Nat.mod_lt q (show 0<b by omega);omega
   have hdl:d<18446744073709551616:=by have:=Nat.div_le_self q b;omega
   have hmx:Hid (m=X / b ^ j % b):=by rw[<-hm,hqx.out];exact rfl
   have hdx:Hid (d=X / b ^ (j+1)):=by rw[<-hd,hqx.out,Nat.div_div_eq_div_mul,<-Nat.pow_succ];exact rfl
   clear hm hd
   have i1:(j:Int)<(L:Int):=by omega
   go_wp2
   go_roundw
   case rel =>
    refine⟨j+1,d,by omega,by go_num,by go_num,hdl,hdx,?_,hg.out.setCell rfl _⟩
    have e1:=hown.out.set (o+J) (Bs.dg m)
    rw[show o+(L-j)=o+J+1 by omega,put_set _ (by rw[List.length_map,Bs.fx_len];omega)] at e1
    rw[show o+(L-(j+1))=o+J by omega,fx_front,List.map_cons,<-hmx.out]
    have e2:=AL m (by rw[ha];exact m36)
    rw[<-e2]
    rw[<-e2] at e1
    exact e1
   case measure=>simp only[intOf];omega
  ·have hk2:j=L:=by omega
   subst hk2
   have i1:¬(j:Int)<(j:Int):=by omega
   go_wp2
   have hf:=hown.out
   rw[Nat.sub_self,Nat.add_zero] at hf
   exact bodyPost_end (v:=.tuple #[]) (by simp[results,Tryz.results76,go_sem]) rfl ⟨rfl,hf,Gt.trans (Gt.of_gr HG.out) hg.out⟩
end Go.Proofs.YtapnglidnblmcaaGreat
namespace Go.Proofs.YtapnglidnblmcaaGreat
set_option linter.unusedVariables false
theorem dig_out {q r y1 y0 u u0:Nat} (h:q*y1+r=u) (hq:(u*4294967296+u0) / (y1*4294967296+y0)<=q) (hy:0<y1) (hc:q*y0<=4294967296*r+u0):q=(u*4294967296+u0) / (y1*4294967296+y0):=by
 refine Nat.le_antisymm ((Nat.le_div_iff_mul_le (by omega)).2 ?_) hq
 rw[Nat.mul_add,<-Nat.mul_assoc,<-h]
 generalize q*y1=A at *
 generalize q*y0=C at *
 omega
theorem dig_more {q r y1 y0 u u0:Nat} (h:q*y1+r=u) (hy:0<y1) (hlt:u<y1*4294967296+y0) (h0:u0<4294967296) (hc:4294967296<=q\/4294967296*r+u0<q*y0):(u*4294967296+u0) / (y1*4294967296+y0)<q:=by
 refine(Nat.div_lt_iff_lt_mul (by omega)).2 ?_
 rcases hc with hc|hc
 ·have:=Nat.mul_le_mul hc hlt
  generalize q*(y1*4294967296+y0)=A at *
  omega
 ·rw[Nat.mul_add,<-Nat.mul_assoc,<-h]
  generalize q*y1=A at *
  generalize q*y0=C at *
  omega
theorem dig_break {q r y1 y0 u u0:Nat} (h:q*y1+r=u) (hq:(u*4294967296+u0) / (y1*4294967296+y0)<=q) (hy:0<y1) (hb:q<=4294967296) (hr:4294967296<=r) (h0:y0<4294967296):q=(u*4294967296+u0) / (y1*4294967296+y0):=by
 refine dig_out h hq hy ?_
 have:=Nat.mul_le_mul hb (show y0<=4294967295 by omega)
 omega
theorem dig_first {u y1 y0:Nat} (h1:2147483648<=y1) (h0:y0<4294967296) (hu:u<y1*4294967296+y0):u / y1<=4294967297:=by
 have h2:0<y1:=by omega
 have:u / y1<4294967298:=(Nat.div_lt_iff_lt_mul h2).2 (by omega)
 omega
theorem dig_start {u u0 y1 y0:Nat} (h1:0<y1) (h0:u0<4294967296):(u*4294967296+u0) / (y1*4294967296+y0)<=u / y1:=by
 have h2:(u*4294967296+u0) / (y1*4294967296+y0)<=(u*4294967296+u0) / (y1*4294967296):=Nat.div_le_div_left (by omega) (by omega)
 rw[Nat.mul_comm y1 4294967296] at h2 ⊢
 rw[<-Nat.div_div_eq_div_mul,show(u*4294967296+u0) / 4294967296=u by omega] at h2
 exact h2
theorem div_whole {N y s H u1 u0 q1 r1 q0 r0:Nat} (hN:N*2 ^ s=(H*4294967296+u1)*4294967296+u0) (y0:0<y) (h1:q1=(H*4294967296+u1) / (y*2 ^ s)) (h2:r1=(H*4294967296+u1) % (y*2 ^ s)) (h3:q0=(r1*4294967296+u0) / (y*2 ^ s)) (h4:r0=(r1*4294967296+u0) % (y*2 ^ s)) :
  q1*4294967296+q0=N / y/\r0 / 2 ^ s=N % y:=by
 have hs:0<2 ^ s:=Nat.two_pow_pos s
 have hY:0<y*2 ^ s:=Nat.mul_pos y0 hs
 have e1:=Nat.div_add_mod (H*4294967296+u1) (y*2 ^ s)
 have e2:=Nat.div_add_mod (r1*4294967296+u0) (y*2 ^ s)
 rw[<-h1,<-h2] at e1
 rw[<-h3,<-h4] at e2
 have l2:r0<y*2 ^ s:=h4 ▸ Nat.mod_lt _ hY
 have key:N*2 ^ s=((q1*4294967296+q0)*y)*2 ^ s+r0:=by
  rw[hN,<-e1]
  have:(q1*4294967296+q0)*y*2 ^ s=y*2 ^ s*q1*4294967296+y*2 ^ s*q0:=by
   rw[Nat.mul_assoc,Nat.add_mul,Nat.mul_comm q0,Nat.mul_right_comm,Nat.mul_comm q1]
  rw[this]
  generalize y*2 ^ s*q1=A at *
  generalize y*2 ^ s*q0=C at *
  omega
 clear e1 e2 h1 h2 h3 h4 hN
 obtain⟨Q,hQ⟩:∃Q,Q=q1*4294967296+q0:=⟨_,rfl⟩
 rw[<-hQ] at key ⊢
 clear hQ
 have hle:Q*y<=N:=by
  refine Nat.le_of_mul_le_mul_right (c:=2 ^ s) ?_ hs
  omega
 obtain⟨R,rfl⟩:=Nat.exists_eq_add_of_le hle
 have e3:r0=R*2 ^ s:=by rw[Nat.add_mul] at key;omega
 have e4:R<y:=by
  rw[e3] at l2
  exact Nat.lt_of_mul_lt_mul_right l2
 constructor
 ·rw[Nat.mul_comm,Nat.mul_add_div y0,Nat.div_eq_of_lt e4,Nat.add_zero]
 ·rw[e3,Nat.mul_div_cancel _ hs,Nat.mul_comm,Nat.mul_add_mod,Nat.mod_eq_of_lt e4]
theorem norm_lt {y:Nat} (h:y<18446744073709551616) (h0:0<y):y*2 ^ (64-bl y)<18446744073709551616/\9223372036854775808<=y*2 ^ (64-bl y):=by
 have hb:bl y<=64:=bl_le_of_lt h
 have e:(2:Nat) ^ bl y*2 ^ (64-bl y)=18446744073709551616:=by rw[<-Nat.pow_add,show bl y+(64-bl y)=64 by omega]
 have h1:y*2 ^ (64-bl y)<2 ^ bl y*2 ^ (64-bl y):=Nat.mul_lt_mul_of_pos_right (bl_lt y) (Nat.two_pow_pos _)
 have h2:2 ^ bl y*2 ^ (64-bl y)<=2*y*2 ^ (64-bl y):=Nat.mul_le_mul_right _ (bl_le h0)
 rw[Nat.mul_assoc] at h2
 generalize y*2 ^ (64-bl y)=A at *
 generalize 2 ^ bl y*2 ^ (64-bl y)=C at *
 omega
theorem nv_drop_at (B:Nat) {xs:List Nat} {i:Nat} (h:i<xs.length):nv B (xs.drop i)=xs.getD i 0+B*nv B (xs.drop (i+1)):=by
 rw[List.drop_eq_getElem_cons h,nv,List.getD_eq_getElem?_getD,List.getElem?_eq_getElem h]
 rfl
theorem nv_drop_set (B:Nat) {zs:List Nat} {i v:Nat} (h:i<zs.length):nv B ((zs.set i v).drop i)=v+B*nv B (zs.drop (i+1)):=by
 rw[nv_drop_at B (by rw[List.length_set];exact h)]
 congr 1
 ·rw[List.getD_eq_getElem?_getD,List.getElem?_set_self h];rfl
 ·rw[List.drop_set_of_lt (by omega)]
theorem nv_ge (B:Nat) {xs:List Nat} {i:Nat} (h:i<xs.length):B ^ i*xs.getD i 0<=nv B xs:=by
 have h1:=nv_take_succ B xs i
 have h2:=nv_append B (xs.take (i+1)) (xs.drop (i+1))
 rw[List.take_append_drop] at h2
 omega
theorem upper_zero {B m:Nat} (hB:0<B) {xs:List Nat} (h:nv B xs<B ^ m) (i:Nat) (hi:m<=i):xs.getD i 0=0:=by
 by_cases hl:i<xs.length
 ·refine Nat.eq_zero_of_not_pos fun hp=>?_
  have h1:=nv_ge B hl
  have h2:B ^ m<=B ^ i:=Nat.pow_le_pow_right hB hi
  have h3:B ^ i*1<=B ^ i*xs.getD i 0:=Nat.mul_le_mul_left _ hp
  omega
 ·rw[List.getD_eq_getElem?_getD,List.getElem?_eq_none (by omega)];rfl
theorem upper_lt {B m:Nat} {xs:List Nat} (hx:∀x∈xs,x<B) (h:∀i,m<=i->xs.getD i 0=0) (hm:m<=xs.length):nv B xs<B ^ m:=by
 rw[<-nv_take_zeros B xs m (fun i h1 _=>h i h1)]
 have:=nv_lt B (xs.take m) (fun x hx'=>hx x (List.mem_of_mem_take hx'))
 rwa [List.length_take,Nat.min_eq_left hm] at this
theorem three_le {B P U V a b:Nat} (hP:0<P) (hU:U<(a+1)*P) (hV:b*P<=V) (hb:0<b):U / V<=a / b:=by
 have hV0:0<V:=Nat.lt_of_lt_of_le (Nat.mul_pos hb hP) hV
 refine Nat.le_of_lt_succ ((Nat.div_lt_iff_lt_mul hV0).2 ?_)
 have h1:a<(a / b+1)*b:=by
  have:=Nat.lt_div_mul_add (a:=a) hb
  rw[Nat.add_mul,Nat.one_mul];exact this
 have h2:(a+1)*P<=(a / b+1)*b*P:=Nat.mul_le_mul_right _ h1
 rw[Nat.mul_assoc] at h2
 have h3:(a / b+1)*(b*P)<=(a / b+1)*V:=Nat.mul_le_mul_left _ hV
 exact Nat.lt_of_lt_of_le hU (Nat.le_trans h2 h3)
theorem limb_done {P R0 V x Z:Nat} (hP:0<P) (hV:0<V) (h:Z+P*(x*V)=R0) (hx:R0 / P / V<=x):x=R0 / P / V/\Z<P*V:=by
 have h1:x*V<=R0 / P:=(Nat.le_div_iff_mul_le hP).2 (by rw[Nat.mul_comm];omega)
 have h2:x<=R0 / P / V:=(Nat.le_div_iff_mul_le hV).2 h1
 have h3:x=R0 / P / V:=Nat.le_antisymm h2 hx
 refine⟨h3,?_⟩
 have h4:R0 / P<(x+1)*V:=by
  have:=Nat.lt_div_mul_add (a:=R0 / P) hV
  rw[<-h3] at this
  rw[Nat.add_mul,Nat.one_mul];exact this
 have h5:R0<P*((x+1)*V):=by
  have:=Nat.lt_div_mul_add (a:=R0) hP
  have h6:P*(R0 / P+1)<=P*((x+1)*V):=Nat.mul_le_mul_left _ h4
  rw[Nat.mul_add,Nat.mul_one,Nat.mul_comm P (R0 / P)] at h6
  omega
 rw[Nat.add_mul,Nat.one_mul,Nat.mul_add] at h5
 omega
theorem limb_less {P Q R0 V x Z:Nat} (hP:0<P) (hV:0<V) (hZ:Z<Q) (h:Z+P*(x*V)=R0+Q):R0 / P / V<x:=by
 refine(Nat.div_lt_iff_lt_mul hV).2 ((Nat.div_lt_iff_lt_mul hP).2 ?_)
 rw[Nat.mul_comm (x*V)]
 omega
end Go.Proofs.YtapnglidnblmcaaGreat
namespace Go.Proofs.YtapnglidnblmcaaGreat
open Go.RowKit
set_option linter.unusedVariables false
structure TimAt (xs zs:List Nat) (k n2 Y N:Nat):Prop where
 len:zs.length=N
 lt:∀x∈zs,x<18446744073709551616
 val:nv 18446744073709551616 zs=nv 18446744073709551616 (xs.take k)*Y
 zero:∀j,k+n2<=j->zs.getD j 0=0
theorem TimAt.start {xs:List Nat} {n2 Y N:Nat}:TimAt xs (List.replicate N 0) 0 n2 Y N:=
 ⟨by simp,(fun x hx=>by rw[List.mem_replicate] at hx;omega),by simp[nv,nv_zeros],(fun j _=>by rw[List.getD_eq_getElem?_getD,List.getElem?_replicate];split <;> rfl)⟩
theorem TimAt.next {xs ys zs zs0:List Nat} {k n2 Y N x c:Nat} (h:TimAt xs zs0 k n2 Y N) (m:MulAt ys zs zs0 k n2 x c N) (hk:k+n2<N) (dy:Dg 18446744073709551616 Y ys) (hn:ys.length=n2) (hx:x=xs.getD k 0) (hc:c<18446744073709551616) :
  TimAt xs (zs.set (k+n2) c) (k+1) n2 Y N:=by
 have hl:=m.len
 refine⟨by rw[List.length_set];exact hl,set_lt m.lt hc,?_,?_⟩
 ·have h1:=nv_set 18446744073709551616 zs (k+n2) c (by omega)
  rw[m.rest _ (Nat.le_refl _),h.zero _ (Nat.le_refl _),Nat.mul_zero,Nat.add_zero,m.val,h.val,nv_take_all _ ys _ (by omega),dy.1] at h1
  rw[h1,nv_take_succ,Nat.add_mul,<-hx,Nat.mul_assoc]
 ·intro j hj
  rw[getD_set _ _ _ _ (by omega),if_neg (by omega),m.rest j (by omega)]
  exact h.zero j (by omega)
structure Gx (g:Nat) (w w':World):Prop where
 os:w'.os=w.os
 output:w'.output=w.output
 size:w.heap.size<=w'.heap.size
 block:∀k,k<w.heap.size->k≠g->w'.heap[k]? = w.heap[k]?
theorem Gx.refl (g:Nat) (w:World):Gx g w w:=⟨rfl,rfl,Nat.le_refl _,fun _ _ _=>rfl⟩
theorem Gx.trans {g:Nat} {a b c:World} (h:Gx g a b) (k:Gx g b c):Gx g a c:=
 ⟨k.os.trans h.os,k.output.trans h.output,Nat.le_trans h.size k.size,fun i hi hn=>(k.block i (Nat.lt_of_lt_of_le hi h.size) hn).trans (h.block i hi hn)⟩
theorem Gx.of_gr {g:Nat} {w w':World} (h:Gr w w'):Gx g w w':=⟨h.os,h.output,h.size,fun k hk _=>h.block k hk⟩
theorem Gx.setCell {g:Nat} {a w:World} (h:Gx g a w) {p:Addr} (hp:p.block=g) (u:Value):Gx g a (w.setCell p u):=
 ⟨h.os,h.output,by simpa [World.setCell] using h.size,fun k hk hn=>(Below.heap_setCell _ _ _ _ (by omega)).trans (h.block k hk hn)⟩
theorem Gx.owns {g:Nat} {w w':World} (h:Gx g w w') {base:Nat} {e:TypeId} {size:Nat} {f:Nat} {m c:Nat} {n:Nat} {xs:List Value} (hf:f≠g) (ho:w.ownsRow base e size (.slice (some ⟨f,0,none⟩) m c) n xs):w'.ownsRow base e size (.slice (some ⟨f,0,none⟩) m c) n xs:=by
 refine⟨ho.1,?_⟩
 rcases ho.2 with hn|⟨g',cap,cur,e1,hb,hgg,rest⟩
 ·exact .inl hn
 ·refine .inr ⟨g',cap,cur,e1,hb,?_,rest⟩
  have:g'=f:=by
   simp only[Value.slice.injEq,Option.some.injEq,Addr.mk.injEq] at e1
   exact e1.1.1.symm
  rw[h.block g' ?_ (by omega)]
  ·exact hgg
  ·refine Nat.lt_of_not_le fun hle=>?_
   rw[Array.getElem?_eq_none hle] at hgg
   cases hgg
structure TakAt (ys zs zs0:List Nat) (k j x c N:Nat):Prop where
 len:zs.length=N
 lt:∀z∈zs,z<18446744073709551616
 val:nv 18446744073709551616 zs+18446744073709551616 ^ k*(x*nv 18446744073709551616 (ys.take j))=nv 18446744073709551616 zs0+18446744073709551616 ^ (k+j)*c
 rest:∀i,k+j<=i->zs.getD i 0=zs0.getD i 0
theorem tak_step {B P Q Z Z' Z0 A x y o c lo hi new bo:Nat} (h:Z+A=Z0+P*c) (hz:Z'+P*o=Z+P*new) (hn:new+lo=o+B*bo) (hs:x*y+c=lo+B*hi) (hQ:Q=P*B):Z'+(A+P*(x*y))=Z0+Q*(hi+bo):=by
 have h1:P*new+P*lo=P*o+P*(B*bo):=by rw[<-Nat.mul_add,hn,Nat.mul_add]
 have h2:P*(x*y)+P*c=P*lo+P*(B*hi):=by rw[<-Nat.mul_add,hs,Nat.mul_add]
 have h3:Q*(hi+bo)=P*(B*hi)+P*(B*bo):=by rw[hQ,Nat.mul_assoc,Nat.mul_add,Nat.mul_add]
 omega
theorem TakAt.next {ys zs zs0:List Nat} {k j x c N y o lo hi new bo:Nat} (h:TakAt ys zs zs0 k j x c N) (hj:k+j<N) (ho:o=zs.getD (k+j) 0) (hy:y=ys.getD j 0) (hn:new+lo=o+18446744073709551616*bo) (hs:x*y+c=lo+18446744073709551616*hi) (hb:new<18446744073709551616) :
  TakAt ys (zs.set (k+j) new) zs0 k (j+1) x (hi+bo) N:=by
 have hl:=h.len
 refine⟨by rw[List.length_set];exact hl,set_lt h.lt hb,?_,?_⟩
 ·have s1:=nv_set 18446744073709551616 zs (k+j) new (by omega)
  rw[<-ho] at s1
  have:=tak_step h.val s1 hn hs (Q:=18446744073709551616 ^ (k+(j+1))) (by rw[<-Nat.add_assoc,Nat.pow_succ])
  rw[nv_take_succ,<-hy,Nat.mul_add,Nat.mul_add]
  rw[Nat.pow_add,Nat.mul_assoc] at this
  rw[<-this]
  congr 2
  ac_rfl
 ·intro i hi
  rw[getD_set _ _ _ _ (by omega),if_neg (by omega)]
  exact h.rest i (by omega)
theorem TakAt.last {ys zs zs0:List Nat} {k j x c N o new bo:Nat} (h:TakAt ys zs zs0 k j x c N) (hj:k+j<N) (ho:o=zs.getD (k+j) 0) (hn:new+c=o+18446744073709551616*bo) (hl:ys.length<=j) (hb:new<18446744073709551616) :
  (zs.set (k+j) new).length=N/\(∀z∈zs.set (k+j) new,z<18446744073709551616)/\nv 18446744073709551616 (zs.set (k+j) new)+18446744073709551616 ^ k*(x*nv 18446744073709551616 ys)=nv 18446744073709551616 zs0+18446744073709551616 ^ (k+j+1)*bo/\∀i,k+j+1<=i->(zs.set (k+j) new).getD i 0=zs0.getD i 0:=by
 have hz:=h.len
 refine⟨by rw[List.length_set];exact hz,set_lt h.lt hb,?_,?_⟩
 ·have s1:=nv_set 18446744073709551616 zs (k+j) new (by omega)
  rw[<-ho] at s1
  have:=tak_step (x:=0) (y:=0) (lo:=c) (hi:=0) h.val s1 hn (by omega) (Q:=18446744073709551616 ^ (k+j+1)) (by rw[Nat.pow_succ])
  rw[nv_take_all _ _ _ hl,Nat.zero_mul,Nat.mul_zero,Nat.add_zero,Nat.zero_add] at this
  exact this
 ·intro i hi
  rw[getD_set _ _ _ _ (by omega),if_neg (by omega)]
  exact h.rest i (by omega)
structure PutAt (ys zs zs0:List Nat) (k j c N:Nat):Prop where
 len:zs.length=N
 lt:∀z∈zs,z<18446744073709551616
 val:nv 18446744073709551616 zs+18446744073709551616 ^ (k+j)*c=nv 18446744073709551616 zs0+18446744073709551616 ^ k*nv 18446744073709551616 (ys.take j)
 rest:∀i,k+j<=i->zs.getD i 0=zs0.getD i 0
theorem PutAt.next {ys zs zs0:List Nat} {k j c N y o:Nat} (h:PutAt ys zs zs0 k j c N) (hj:k+j<N) (ho:o=zs.getD (k+j) 0) (hy:y=ys.getD j 0) :
  PutAt ys (zs.set (k+j) ((o+y+c) % 18446744073709551616)) zs0 k (j+1) ((o+y+c) / 18446744073709551616) N:=by
 have hl:=h.len
 refine⟨by rw[List.length_set];exact hl,set_lt h.lt (Nat.mod_lt _ (by omega)),?_,?_⟩
 ·have s1:=nv_set 18446744073709551616 zs (k+j) ((o+y+c) % 18446744073709551616) (by omega)
  rw[<-ho] at s1
  have h1:=mul_step (B:=18446744073709551616) (x:=y) (y:=1) (o:=o) (c:=c) h.val (by rw[Nat.mul_one,Nat.add_comm y o];exact s1)
  rw[Nat.mul_one,Nat.add_comm y o] at h1
  rw[<-Nat.add_assoc,Nat.pow_succ,h1,nv_take_succ,<-hy,Nat.mul_add,Nat.pow_add,<-Nat.add_assoc,Nat.mul_assoc]
 ·intro i hi
  rw[getD_set _ _ _ _ (by omega),if_neg (by omega)]
  exact h.rest i (by omega)
theorem PutAt.start {ys zs:List Nat} {k N:Nat} (hl:zs.length=N) (h:∀z∈zs,z<18446744073709551616):PutAt ys zs zs k 0 0 N:=⟨hl,h,by simp[nv],fun _ _=>rfl⟩
theorem TakAt.start {ys zs:List Nat} {k x N:Nat} (hl:zs.length=N) (h:∀z∈zs,z<18446744073709551616):TakAt ys zs zs k 0 x 0 N:=⟨hl,h,by simp[nv],fun _ _=>rfl⟩
end Go.Proofs.YtapnglidnblmcaaGreat
