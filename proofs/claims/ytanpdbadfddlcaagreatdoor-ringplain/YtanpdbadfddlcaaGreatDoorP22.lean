import Derived.Test.YtanpdbadfddlcaaGreatDoorP08
namespace Go.Proofs.YtanpdbadfddlcaaGreatDoor
open Go.RowKit
set_option linter.unusedVariables false
theorem sub64B (o l:Nat) (ho:o<18446744073709551616) (hl:l<18446744073709551616):∃new bo:Nat,new+l=o+18446744073709551616*bo/\bo<=1/\new<18446744073709551616/\(l=0->bo=0)/\∀w,(callFunc 185 #[.int .u64 (o:Int),.int .u64 (l:Int),.int .u64 0]).run Tryz.prog w = .ok (.value (.tuple #[.int .u64 (new:Int),.int .u64 (bo:Int)])) w:=by
 refine⟨(o+18446744073709551616-l-0) % 18446744073709551616,if o<l+0 then 1 else 0,?_,?_,Nat.mod_lt _ (by omega),?_,fun w=>sub64N o l 0 (by omega) w⟩
 ·split <;> omega
 ·split <;> omega
 ·intro h;rw[if_neg (by omega)]
set_option maxHeartbeats 1600000 in
theorem takeTimesN (g N k cp x:Nat) (ad2:Option Addr) (n2 c2:Nat) (ys zs0:List Nat) (w0 w:World) (ry:Row w0 ad2 n2 c2 ys) (hy:∀x∈ys,x<18446744073709551616) (bx:x<18446744073709551616) (h0:∀z∈zs0,z<18446744073709551616)
  (hkN:k+n2+1<=N) (hNm:N<=4398046511104) (hcp:n2+1<=cp) (hg0:Gr w0 w) (hsz:w0.heap.size<=g) (how:w.ownsRow g 34 1 (.slice (some ⟨g,0,none⟩) N N) N (u64s zs0)) :
  Calls Tryz.prog 195 #[.slice (some ⟨g,k,none⟩) ((n2:Nat)+1) cp,.slice ad2 n2 c2,.int .u64 (x:Int)] w fun e w'=>∃(b:Nat) (zs:List Nat),e = .returned (.int .u64 (b:Int))/\b<=1/\(zs.length=N/\(∀z∈zs,z<18446744073709551616)/\nv 18446744073709551616 zs+18446744073709551616 ^ k*(x*nv 18446744073709551616 ys)=nv 18446744073709551616 zs0+18446744073709551616 ^ (k+n2+1)*b/\∀i,k+n2+1<=i->zs.getD i 0=zs0.getD i 0)/\w'.ownsRow g 34 1 (.slice (some ⟨g,0,none⟩) N N) N (u64s zs)/\Gr w0 w'/\Gx g w w':=by
 have RY:Hid (Row w0 ad2 n2 c2 ys):=ry
 have HY:Hid (∀x∈ys,x<18446744073709551616):=hy
 have H0:Hid (∀x∈zs0,x<18446744073709551616):=h0
 have HG:Hid (Gr w0 w/\Gx g w w):=⟨hg0,Gx.refl g w⟩
 have hl2:=ry.le
 clear ry hy hg0 h0
 go_enter Tryz.func195,Tryz.ntmps195
 go_wp2
 go_loopw [7,17] (fun cr i wr=>∃(j c:Nat) (zs:List Nat),j<=n2/\c<18446744073709551616/\i = .int .i64 (j:Int)/\cr = .int .u64 (c:Int)/\wr.ownsRow g 34 1 (.slice (some ⟨g,0,none⟩) N N) N (u64s zs)/\Hid (TakAt ys zs zs0 k j x c N)/\Hid (Gr w0 wr/\Gx g w wr)) (fun _ i _=>n2-(intOf i).toNat)
 case atStart=>exact⟨0,0,zs0,by omega,by omega,rfl,rfl,how,TakAt.start (owns_len how) H0.out,HG⟩
 case round =>
  obtain⟨j,c,zs,hj,hc,rfl,rfl,hown,hA,hg⟩:=hrel
  by_cases hlt:j<n2
  ·obtain⟨p2,o2,rfl,hp2,hc2⟩:=RY.out.lt (by omega)
   have hcell2:=hc2 wr hg.out.1 j hlt
   have hcell3:=owns_cell hown (k+j) (by omega)
   have hfz:=hown.frozenAt (k+j)
   obtain⟨yk,hyk⟩:∃yk,yk=ys.getD j 0:=⟨_,rfl⟩
   obtain⟨ok,hok⟩:∃ok,ok=zs.getD (k+j) 0:=⟨_,rfl⟩
   rw[<-hyk] at hcell2
   rw[<-hok] at hcell3
   have byk:yk<18446744073709551616:=hyk ▸ getD_lt (by omega) HY.out j
   have bok:ok<18446744073709551616:=hok ▸ getD_lt (by omega) hA.out.lt (k+j)
   have MUL:=fun w=>Tryz.bits_Mul64 x yk bx byk w
   have hm:=prod_le bx byk
   obtain⟨m,hmm⟩:∃m,m=x*yk:=⟨_,rfl⟩
   rw[<-hmm] at MUL hm
   obtain⟨hi,hhi⟩:∃hi,hi=m / 18446744073709551616:=⟨_,rfl⟩
   obtain⟨lo,hlo⟩:∃lo,lo=m % 18446744073709551616:=⟨_,rfl⟩
   rw[<-hhi,<-hlo] at MUL
   have M:Hid (∀w1,Calls Tryz.prog 84 #[.int .u64 (x:Int),.int .u64 (yk:Int)] w1 fun e w'=>e = .returned (.tuple #[.int .u64 (hi:Int),.int .u64 (lo:Int)])/\w'=w1):=MUL
   have A1:=fun w=>add64N lo c 0 (by omega) w
   obtain⟨l1,hl1⟩:∃l1,l1=(lo+c+0) % 18446744073709551616:=⟨_,rfl⟩
   obtain⟨m1,hm1⟩:∃m1,m1=(lo+c+0) / 18446744073709551616:=⟨_,rfl⟩
   rw[<-hl1,<-hm1] at A1
   have A1':Hid (∀w,(callFunc 85 #[.int .u64 (lo:Int),.int .u64 (c:Int),.int .u64 0]).run Tryz.prog w = .ok (.value (.tuple #[.int .u64 (l1:Int),.int .u64 (m1:Int)])) w):=A1
   obtain⟨nw,bo,q1,q2,q3,q4,S⟩:=sub64B ok l1 bok (by omega)
   have S':Hid (∀w,(callFunc 185 #[.int .u64 (ok:Int),.int .u64 (l1:Int),.int .u64 0]).run Tryz.prog w = .ok (.value (.tuple #[.int .u64 (nw:Int),.int .u64 (bo:Int)])) w):=S
   have NX':Hid (TakAt ys (zs.set (k+j) nw) zs0 k (j+1) x (hi+m1+bo) N):=hA.out.next (by omega) hok hyk q1 (by rw[<-hmm];omega) q3
   have b1:hi+m1+bo<18446744073709551616:=by
    by_cases z:l1=0
    ·have:=q4 z;omega
    ·omega
   have b2:hi+m1<18446744073709551616:=by omega
   clear A1 MUL hhi hlo hl1 hm1 hm hmm S q1 q4 hyk hok hc2
   have i1:(j:Int)<(n2:Int):=by omega
   go_wp2_with (first|(simp only[A1'.out])|(simp only[S'.out])|(go_at_call 84;with_reducible refine(M.out _).mono ?_;rintro e w' ⟨rfl,rfl⟩))
   go_roundw
   case rel=>exact⟨j+1,hi+m1+bo,_,by omega,b1,by go_num,by go_num,owns_set hown (k+j) nw,NX'.out,⟨hg.out.1.setCell hsz _,hg.out.2.setCell rfl _⟩⟩
   case measure=>simp only[intOf];omega
  ·have hk2:j=n2:=by omega
   subst hk2
   have hcell3:=owns_cell hown (k+j) (by omega)
   have hfz:=hown.frozenAt (k+j)
   obtain⟨ok,hok⟩:∃ok,ok=zs.getD (k+j) 0:=⟨_,rfl⟩
   rw[<-hok] at hcell3
   have bok:ok<18446744073709551616:=hok ▸ getD_lt (by omega) hA.out.lt (k+j)
   obtain⟨nw,bo,q1,q2,q3,q4,S⟩:=sub64B ok c bok hc
   have S':Hid (∀w,(callFunc 185 #[.int .u64 (ok:Int),.int .u64 (c:Int),.int .u64 0]).run Tryz.prog w = .ok (.value (.tuple #[.int .u64 (nw:Int),.int .u64 (bo:Int)])) w):=S
   have F:Hid _:=hA.out.last (by omega) hok q1 (by rw[RY.out.len];exact Nat.le_refl _) q3
   clear S q1 q3 q4 hok
   go_wp2_with (first|(simp only[S'.out]))
   go_ret
   exact⟨bo,_,rfl,q2,F.out,owns_set hown (k+j) nw,⟨hg.out.1.setCell hsz _,hg.out.2.setCell rfl _⟩⟩
set_option maxHeartbeats 1600000 in
theorem copyPlusA (g N k cp:Nat) (ad2:Option Addr) (n2 c2:Nat) (ys zs0:List Nat) (w0 w:World) (ry:Row w0 ad2 n2 c2 ys) (hy:∀x∈ys,x<18446744073709551616) (h0:∀z∈zs0,z<18446744073709551616)
  (hkN:k+n2+1<=N) (hNm:N<=4398046511104) (hcp:n2+1<=cp) (hg0:Gr w0 w) (hsz:w0.heap.size<=g) (how:w.ownsRow g 34 1 (.slice (some ⟨g,0,none⟩) N N) N (u64s zs0)) :
  Calls Tryz.prog 182 #[.slice (some ⟨g,k,none⟩) ((n2:Nat)+1) cp,.slice (some ⟨g,k,none⟩) ((n2:Nat)+1) cp,.slice ad2 n2 c2] w fun e w'=>∃(c:Nat) (zs:List Nat),e = .returned (.int .u64 (c:Int))/\c<=1/\PutAt ys zs zs0 k (n2+1) c N/\w'.ownsRow g 34 1 (.slice (some ⟨g,0,none⟩) N N) N (u64s zs)/\Gr w0 w'/\Gx g w w':=by
 have RY:Hid (Row w0 ad2 n2 c2 ys):=ry
 have HY:Hid (∀x∈ys,x<18446744073709551616):=hy
 have H0:Hid (∀x∈zs0,x<18446744073709551616):=h0
 have HG:Hid (Gr w0 w/\Gx g w w):=⟨hg0,Gx.refl g w⟩
 have hl2:=ry.le
 clear ry hy hg0 h0
 go_enter Tryz.func182,Tryz.ntmps182
 go_wp2
 go_loopw [7,13] (fun cr i wr=>∃(j c:Nat) (zs:List Nat),j<=n2/\c<=1/\i = .int .i64 (j:Int)/\cr = .int .u64 (c:Int)/\wr.ownsRow g 34 1 (.slice (some ⟨g,0,none⟩) N N) N (u64s zs)/\Hid (PutAt ys zs zs0 k j c N)/\Hid (Gr w0 wr/\Gx g w wr)) (fun _ i _=>n2-(intOf i).toNat)
 case atStart=>exact⟨0,0,zs0,by omega,by omega,rfl,rfl,how,PutAt.start (owns_len how) H0.out,HG⟩
 case round =>
  obtain⟨j,c,zs,hj,hc,rfl,rfl,hown,hA,hg⟩:=hrel
  by_cases hlt:j<n2
  ·obtain⟨p2,o2,rfl,hp2,hc2⟩:=RY.out.lt (by omega)
   have hcell2:=hc2 wr hg.out.1 j hlt
   have hcell3:=owns_cell hown (k+j) (by omega)
   have hfz:=hown.frozenAt (k+j)
   obtain⟨yk,hyk⟩:∃yk,yk=ys.getD j 0:=⟨_,rfl⟩
   obtain⟨ok,hok⟩:∃ok,ok=zs.getD (k+j) 0:=⟨_,rfl⟩
   rw[<-hyk] at hcell2
   rw[<-hok] at hcell3
   have byk:yk<18446744073709551616:=hyk ▸ getD_lt (by omega) HY.out j
   have bok:ok<18446744073709551616:=hok ▸ getD_lt (by omega) hA.out.lt (k+j)
   have A:Hid (∀w,(callFunc 85 #[.int .u64 (ok:Int),.int .u64 (yk:Int),.int .u64 (c:Int)]).run Tryz.prog w = .ok (.value (.tuple #[.int .u64 (((ok+yk+c) % 18446744073709551616:Nat):Int),.int .u64 (((ok+yk+c) / 18446744073709551616:Nat):Int)])) w):=fun w=>add64N ok yk c hc w
   have i1:(j:Int)<(n2:Int):=by omega
   have i2:(j:Int)<(n2:Int)+1:=by omega
   have NX:=hA.out.next (by omega) hok hyk
   clear hok hyk hc2
   generalize hs:(ok+yk+c) % 18446744073709551616=sv at A NX
   generalize hd:(ok+yk+c) / 18446744073709551616=dv at A NX
   have hd1:dv<=1:=by omega
   have NX':Hid (PutAt ys (zs.set (k+j) sv) zs0 k (j+1) dv N):=NX
   clear hs hd NX
   go_wp2_with (simp only[A.out])
   go_roundw
   case rel=>exact⟨j+1,dv,_,by omega,hd1,by go_num,rfl,owns_set hown (k+j) sv,NX'.out,⟨hg.out.1.setCell hsz _,hg.out.2.setCell rfl _⟩⟩
   case measure=>simp only[intOf];omega
  ·have hk2:j=n2:=by omega
   subst hk2
   obtain⟨wo,rfl⟩:∃wo:World,wo=wr:=⟨_,rfl⟩
   go_wp2
   go_loopw [7,10] (fun cr i wr=>∃(l c:Nat) (zs:List Nat),j<=l/\l<=j+1/\c<=1/\i = .int .i64 (l:Int)/\cr = .int .u64 (c:Int)/\wr.ownsRow g 34 1 (.slice (some ⟨g,0,none⟩) N N) N (u64s zs)/\Hid (PutAt ys zs zs0 k l c N)/\Hid (Gr w0 wr/\Gx g w wr)) (fun _ i _=>j+1-(intOf i).toNat)
   case atStart=>exact⟨j,c,zs,by omega,by omega,hc,rfl,rfl,hown,hA,hg⟩
   case round =>
    clear hown hA hg
    obtain⟨l,c,zs,hjl,hl,hc,rfl,rfl,hown,hA,hg⟩:=hrel
    by_cases hlt2:l<j+1
    ·have hcell3:=owns_cell hown (k+l) (by omega)
     have hfz:=hown.frozenAt (k+l)
     obtain⟨ok,hok⟩:∃ok,ok=zs.getD (k+l) 0:=⟨_,rfl⟩
     have hyk:0=ys.getD l 0:=(getD_out (by rw[RY.out.len];exact hjl)).symm
     rw[<-hok] at hcell3
     have bok:ok<18446744073709551616:=hok ▸ getD_lt (by omega) hA.out.lt (k+l)
     have A:Hid (∀w,(callFunc 85 #[.int .u64 (ok:Int),.int .u64 0,.int .u64 (c:Int)]).run Tryz.prog w = .ok (.value (.tuple #[.int .u64 (((ok+0+c) % 18446744073709551616:Nat):Int),.int .u64 (((ok+0+c) / 18446744073709551616:Nat):Int)])) w):=fun w=>add64N ok 0 c hc w
     have i2:(l:Int)<(j:Int)+1:=by omega
     have NX:=hA.out.next (by omega) hok hyk
     clear hok hyk
     generalize hs:(ok+0+c) % 18446744073709551616=sv at A NX
     generalize hd:(ok+0+c) / 18446744073709551616=dv at A NX
     have hd1:dv<=1:=by omega
     have NX':Hid (PutAt ys (zs.set (k+l) sv) zs0 k (l+1) dv N):=NX
     clear hs hd NX
     go_wp2_with (simp only[A.out])
     go_roundw
     case rel=>exact⟨l+1,dv,_,by omega,by omega,hd1,by go_num,rfl,owns_set hown (k+l) sv,NX'.out,⟨hg.out.1.setCell hsz _,hg.out.2.setCell rfl _⟩⟩
     case measure=>simp only[intOf];omega
    ·have hj2:l=j+1:=by omega
     subst hj2
     go_wp2
     go_ret
     exact⟨c,zs,rfl,hc,hA.out,hown,hg.out⟩
end Go.Proofs.YtanpdbadfddlcaaGreatDoor
