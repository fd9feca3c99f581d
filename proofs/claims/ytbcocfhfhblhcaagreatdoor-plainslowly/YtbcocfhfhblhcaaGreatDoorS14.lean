import Derived.Test.YtbcocfhfhblhcaaGreatDoorS13
namespace Go.Proofs.YtbcocfhfhblhcaaGreatDoor
open Go.RowKit
set_option linter.unusedVariables false
set_option maxHeartbeats 3200000 in
theorem sum_less (s t:Bool) (hst:(s==t)=false) (ad1 ad2:Option Addr) (n1 n2 c1 c2 x y de df:Nat) (e f:Int) (w:World) (hx:Lim w ad1 (n1+1) c1 18446744073709551616 x) (hy:Lim w ad2 (n2+1) c2 18446744073709551616 y) (b1:n1<=1048576) (b2:n2<=1048576) (e1 : -1048576<=e) (e2:e<=1048576) (f1 : -1048576<=f) (f2:f<=1048576) (hef:¬ 262144<max e f-min e f) (hde:e-min e f=(de:Int)) (hdf:f-min e f=(df:Int)) (hcmp:x*2 ^ de<y*2 ^ df) :
  Calls Tryz.prog 216 #[.agg #[.bool s,.slice ad1 (n1+1) c1,.int .i64 e],.agg #[.bool t,.slice ad2 (n2+1) c2,.int .i64 f]] w fun r w'=>∃ ad n cap,r = .returned (.tuple #[.agg #[.bool t,.slice ad n cap,.int .i64 (min e f)],.int .i64 0])/\n<=1099511627776/\Lim w' ad n cap 18446744073709551616 (y*2 ^ df-x*2 ^ de)/\Gr w w':=by
 have bd:de<=262144:=by omega
 have bf:df<=262144:=by omega
 have H1:Hid (∀ w1,Gr w w1->Calls Tryz.prog 221 #[.slice ad1 (n1+1) c1,.int .i64 (IntKind.i64.wrap (e-min e f))] w1 fun r w'=>∃ ad' n' cap',r = .returned (.slice ad' n' cap')/\n'<=2097152/\Lim w' ad' n' cap' 18446744073709551616 (x*2 ^ de)/\Gr w1 w'):=fun w1 g=>by
  rw [show IntKind.i64.wrap (e-min e f)=(de:Int) from (IntWalk.i64_in _ ⟨by omega,by omega⟩).trans hde]
  refine (shiftUp53 ad1 (n1+1) c1 x de w1 (hx.gr g) (by omega) (by omega)).mono ?_
  rintro r w' ⟨a,b,c,h1,h2,h3,h4⟩
  exact ⟨a,b,c,h1,by omega,h3,h4⟩
 have H2:Hid (∀ w1,Gr w w1->Calls Tryz.prog 221 #[.slice ad2 (n2+1) c2,.int .i64 (IntKind.i64.wrap (f-min e f))] w1 fun r w'=>∃ ad' n' cap',r = .returned (.slice ad' n' cap')/\n'<=2097152/\Lim w' ad' n' cap' 18446744073709551616 (y*2 ^ df)/\Gr w1 w'):=fun w1 g=>by
  rw [show IntKind.i64.wrap (f-min e f)=(df:Int) from (IntWalk.i64_in _ ⟨by omega,by omega⟩).trans hdf]
  refine (shiftUp53 ad2 (n2+1) c2 y df w1 (hy.gr g) (by omega) (by omega)).mono ?_
  rintro r w' ⟨a,b,c,h1,h2,h3,h4⟩
  exact ⟨a,b,c,h1,by omega,h3,h4⟩
 have HC:Hid (x*2 ^ de<y*2 ^ df):=hcmp
 clear hx hy hde hdf hcmp
 go_enter Tryz.func216,Tryz.ntmps216
 go_wp2
 obtain ⟨W0,hW0⟩:∃ W0,W0=((w.alloc (.cells #[.bool s,.slice ad1 (n1+1) c1,.int .i64 e] 140)).alloc (.cells #[.bool t,.slice ad2 (n2+1) c2,.int .i64 f] 140)).alloc (.cells #[.bool false,.slice none 0 0,.int .i64 0] 140):=⟨_,rfl⟩
 rw [<-hW0]
 have hS0:=boxes3 w 140 _ _ _ _ _ _ _ _ _ _ W0 hW0 rfl
 obtain ⟨_,hO,_⟩:=three_blocks w _ _ _ _ _ _ _ W0 hW0
 have HO:Hid (W0.drew.heap[w.heap.size+2]? = some (.cells #[.bool false,.slice none 0 0,.int .i64 0] 140)):=hO
 clear hW0 hO
 have l1 : -1048576<=min e f:=by omega
 have l2:min e f<=1048576:=by omega
 have l3:min e f<=e:=by omega
 have l4:min e f<=f:=by omega
 generalize max e f=M at *
 generalize hLL:min e f=L at *
 have HLL:Hid (min e f=L):=hLL
 clear hLL
 go_region_held3 (fun w'=>(w'.cell? ⟨w.heap.size,0,none⟩=some (.bool s)/\w'.cell? ⟨w.heap.size,1,none⟩=some (.slice ad1 (n1+1) c1)/\w'.cell? ⟨w.heap.size,2,none⟩=some (.int .i64 e)/\w'.cell? ⟨w.heap.size+1,0,none⟩=some (.bool t)/\w'.cell? ⟨w.heap.size+1,1,none⟩=some (.slice ad2 (n2+1) c2)/\w'.cell? ⟨w.heap.size+1,2,none⟩=some (.int .i64 f))/\(w'.cell? ⟨w.heap.size+2,0,none⟩=some (cellV w' (w.heap.size+2) 0)/\w'.cell? ⟨w.heap.size+2,1,none⟩=some (cellV w' (w.heap.size+2) 1)/\w'.cell? ⟨w.heap.size+2,2,none⟩=some (cellV w' (w.heap.size+2) 2)/\w'.frozen? ⟨w.heap.size+2,0,none⟩=false/\w'.frozen? ⟨w.heap.size+2,1,none⟩=false/\w'.frozen? ⟨w.heap.size+2,2,none⟩=false)/\Gr w w') (first | (with_reducible assumption) | (apply keep3;(with_reducible assumption);(with_reducible assumption)) | (refine keepSt3 rfl ?_;(with_reducible assumption))) (first | (go_at_call 221;(with_reducible refine (H1.out _ ?gg).mono ?_);(case gg=>exact And.right (And.right ‹_/\_/\Gr w _›));rintro r w1 ⟨a3,m3,k3,rfl,hm3,hl3,g3⟩) | (go_at_call 221;(with_reducible refine (H2.out _ ?gg).mono ?_);(case gg=>exact And.right (And.right ‹_/\_/\Gr w _›));rintro r w2 ⟨a4,m4,k4,rfl,hm4,hl4,g4⟩))
 have hS2:=keep3 g4 (keep3 g3 hS0)
 have HO2:Hid (w2.heap[w.heap.size+2]? = some (.cells #[.bool false,.slice none 0 0,.int .i64 0] 140)):=g4.keepH (g3.keepH HO.out)
 have H38:Hid (∀ w3,Gr w2 w3->Calls Tryz.prog 225 #[.slice a4 m4 k4,.slice a3 m3 k3] w3 fun r w'=>∃ ad' n' cap',r = .returned (.slice ad' n' cap')/\n'<=1099511627776/\Lim w' ad' n' cap' 18446744073709551616 (y*2 ^ df-x*2 ^ de)/\Gr w3 w'):=fun w3 g=>by
  refine (minus55 a4 a3 m4 m3 k4 k3 _ _ w3 (hl4.gr g) ((hl3.gr g4).gr g) (by omega) (Nat.le_of_lt HC.out)).mono ?_
  rintro r w' ⟨a,b,c,h1,h2,h3,h4⟩
  exact ⟨a,b,c,h1,by omega,h3,h4⟩
 obtain ⟨cm,hcm⟩:∃ cm,cm=cmpI ((x*2 ^ de:Nat):Int) ((y*2 ^ df:Nat):Int):=⟨_,rfl⟩
 have C54:Hid (Calls Tryz.prog 224 #[.slice a3 m3 k3,.slice a4 m4 k4] w2 fun r w'=>r = .returned (.int .i64 cm)/\Gr w2 w'):=by
  rw [hcm]
  exact compare54 a3 a4 m3 m4 k3 k4 _ _ w2 (hl3.gr g4) hl4 (by omega) (by omega)
 have hcs:cm<0:=by
  have:=HC.out
  rw [hcm]
  rw [cmpI_lt (by omega)];omega
 clear hcm HC
 clear hS0 g3 g4 hl3 hl4 H1 H2 HO
 have p0:=hS2.1.1
 have p3:=hS2.1.2.2.2.1
 go_wp2_with (go_at_call 224;(with_reducible refine C54.out.mono ?_);rintro r wc ⟨rfl,gc⟩)
 have hSc:=keep3 gc hS2
 have hS3:=keep3 ((Gr.refl wc).drew) hSc
 go_region_held3 (fun w'=>(w'.cell? ⟨w.heap.size,0,none⟩=some (.bool s)/\w'.cell? ⟨w.heap.size,1,none⟩=some (.slice ad1 (n1+1) c1)/\w'.cell? ⟨w.heap.size,2,none⟩=some (.int .i64 e)/\w'.cell? ⟨w.heap.size+1,0,none⟩=some (.bool t)/\w'.cell? ⟨w.heap.size+1,1,none⟩=some (.slice ad2 (n2+1) c2)/\w'.cell? ⟨w.heap.size+1,2,none⟩=some (.int .i64 f))/\(w'.cell? ⟨w.heap.size+2,0,none⟩=some (cellV w' (w.heap.size+2) 0)/\w'.cell? ⟨w.heap.size+2,1,none⟩=some (cellV w' (w.heap.size+2) 1)/\w'.cell? ⟨w.heap.size+2,2,none⟩=some (cellV w' (w.heap.size+2) 2)/\w'.frozen? ⟨w.heap.size+2,0,none⟩=false/\w'.frozen? ⟨w.heap.size+2,1,none⟩=false/\w'.frozen? ⟨w.heap.size+2,2,none⟩=false)/\Gr w w') (first | (with_reducible assumption) | (apply keep3;(with_reducible assumption);(with_reducible assumption)) | (refine keepSt3 rfl ?_;(with_reducible assumption))) (first | (go_at_call 225;(with_reducible refine (H38.out _ ?gg).mono ?_);(case gg=>exact gc.drew);rintro r w3 ⟨a5,m5,k5,rfl,hm5,hl5,g5⟩))
 have hS4:=keep3 g5 hS3
 have k0:w3.cell? ⟨w.heap.size+1+1,0,none⟩=some (cellV w3 (w.heap.size+2) 0):=hS4.2.1.1
 have k1:w3.cell? ⟨w.heap.size+1+1,1,none⟩=some (cellV w3 (w.heap.size+2) 1):=hS4.2.1.2.1
 have k2:w3.cell? ⟨w.heap.size+1+1,2,none⟩=some (cellV w3 (w.heap.size+2) 2):=hS4.2.1.2.2.1
 have hb1:w3.heap[w.heap.size+1+1]? = some (.cells #[.bool false,.slice none 0 0,.int .i64 0] 140):=g5.keepH (w:=wc.drew) (gc.keepH HO2.out)
 have hl6:=hl5.apart hb1
 have hG:=(((hS4.2.2.setCell (p:=⟨w.heap.size+1+1,0,none⟩) (by show _<=w.heap.size+1+1;omega) (.bool t)).setCell (p:=⟨w.heap.size+1+1,1,none⟩) (by show _<=w.heap.size+1+1;omega) (.slice a5 m5 k5)).setCell (p:=⟨w.heap.size+1+1,2,none⟩) (by show _<=w.heap.size+1+1;omega) (.int .i64 L))
 clear hS2 hSc hS3 hS4 hb1 HO2
 go_wp2
 refine bodyPost_ret (v:=.tuple #[.agg #[.bool t,.slice a5 m5 k5,.int .i64 L],.int .i64 0]) ?_ rfl ⟨a5,m5,k5,by rw [HLL.out],hm5,hl5.set3 hl6 _ _ _,hG⟩
 simp [results,Tryz.results216,go_sem,k0,k1,k2]
set_option maxHeartbeats 3200000 in
theorem sum_more (s t:Bool) (hst:(s==t)=false) (ad1 ad2:Option Addr) (n1 n2 c1 c2 x y de df:Nat) (e f:Int) (w:World) (hx:Lim w ad1 (n1+1) c1 18446744073709551616 x) (hy:Lim w ad2 (n2+1) c2 18446744073709551616 y) (b1:n1<=1048576) (b2:n2<=1048576) (e1 : -1048576<=e) (e2:e<=1048576) (f1 : -1048576<=f) (f2:f<=1048576) (hef:¬ 262144<max e f-min e f) (hde:e-min e f=(de:Int)) (hdf:f-min e f=(df:Int)) (hcmp:¬ x*2 ^ de<y*2 ^ df) :
  Calls Tryz.prog 216 #[.agg #[.bool s,.slice ad1 (n1+1) c1,.int .i64 e],.agg #[.bool t,.slice ad2 (n2+1) c2,.int .i64 f]] w fun r w'=>∃ ad n cap,r = .returned (.tuple #[.agg #[.bool s,.slice ad n cap,.int .i64 (min e f)],.int .i64 0])/\n<=1099511627776/\Lim w' ad n cap 18446744073709551616 (x*2 ^ de-y*2 ^ df)/\Gr w w':=by
 have bd:de<=262144:=by omega
 have bf:df<=262144:=by omega
 have H1:Hid (∀ w1,Gr w w1->Calls Tryz.prog 221 #[.slice ad1 (n1+1) c1,.int .i64 (IntKind.i64.wrap (e-min e f))] w1 fun r w'=>∃ ad' n' cap',r = .returned (.slice ad' n' cap')/\n'<=2097152/\Lim w' ad' n' cap' 18446744073709551616 (x*2 ^ de)/\Gr w1 w'):=fun w1 g=>by
  rw [show IntKind.i64.wrap (e-min e f)=(de:Int) from (IntWalk.i64_in _ ⟨by omega,by omega⟩).trans hde]
  refine (shiftUp53 ad1 (n1+1) c1 x de w1 (hx.gr g) (by omega) (by omega)).mono ?_
  rintro r w' ⟨a,b,c,h1,h2,h3,h4⟩
  exact ⟨a,b,c,h1,by omega,h3,h4⟩
 have H2:Hid (∀ w1,Gr w w1->Calls Tryz.prog 221 #[.slice ad2 (n2+1) c2,.int .i64 (IntKind.i64.wrap (f-min e f))] w1 fun r w'=>∃ ad' n' cap',r = .returned (.slice ad' n' cap')/\n'<=2097152/\Lim w' ad' n' cap' 18446744073709551616 (y*2 ^ df)/\Gr w1 w'):=fun w1 g=>by
  rw [show IntKind.i64.wrap (f-min e f)=(df:Int) from (IntWalk.i64_in _ ⟨by omega,by omega⟩).trans hdf]
  refine (shiftUp53 ad2 (n2+1) c2 y df w1 (hy.gr g) (by omega) (by omega)).mono ?_
  rintro r w' ⟨a,b,c,h1,h2,h3,h4⟩
  exact ⟨a,b,c,h1,by omega,h3,h4⟩
 have HC:Hid (¬ x*2 ^ de<y*2 ^ df):=hcmp
 clear hx hy hde hdf hcmp
 go_enter Tryz.func216,Tryz.ntmps216
 go_wp2
 obtain ⟨W0,hW0⟩:∃ W0,W0=((w.alloc (.cells #[.bool s,.slice ad1 (n1+1) c1,.int .i64 e] 140)).alloc (.cells #[.bool t,.slice ad2 (n2+1) c2,.int .i64 f] 140)).alloc (.cells #[.bool false,.slice none 0 0,.int .i64 0] 140):=⟨_,rfl⟩
 rw [<-hW0]
 have hS0:=boxes3 w 140 _ _ _ _ _ _ _ _ _ _ W0 hW0 rfl
 obtain ⟨_,hO,_⟩:=three_blocks w _ _ _ _ _ _ _ W0 hW0
 have HO:Hid (W0.drew.heap[w.heap.size+2]? = some (.cells #[.bool false,.slice none 0 0,.int .i64 0] 140)):=hO
 clear hW0 hO
 have l1 : -1048576<=min e f:=by omega
 have l2:min e f<=1048576:=by omega
 have l3:min e f<=e:=by omega
 have l4:min e f<=f:=by omega
 generalize max e f=M at *
 generalize hLL:min e f=L at *
 have HLL:Hid (min e f=L):=hLL
 clear hLL
 go_region_held3 (fun w'=>(w'.cell? ⟨w.heap.size,0,none⟩=some (.bool s)/\w'.cell? ⟨w.heap.size,1,none⟩=some (.slice ad1 (n1+1) c1)/\w'.cell? ⟨w.heap.size,2,none⟩=some (.int .i64 e)/\w'.cell? ⟨w.heap.size+1,0,none⟩=some (.bool t)/\w'.cell? ⟨w.heap.size+1,1,none⟩=some (.slice ad2 (n2+1) c2)/\w'.cell? ⟨w.heap.size+1,2,none⟩=some (.int .i64 f))/\(w'.cell? ⟨w.heap.size+2,0,none⟩=some (cellV w' (w.heap.size+2) 0)/\w'.cell? ⟨w.heap.size+2,1,none⟩=some (cellV w' (w.heap.size+2) 1)/\w'.cell? ⟨w.heap.size+2,2,none⟩=some (cellV w' (w.heap.size+2) 2)/\w'.frozen? ⟨w.heap.size+2,0,none⟩=false/\w'.frozen? ⟨w.heap.size+2,1,none⟩=false/\w'.frozen? ⟨w.heap.size+2,2,none⟩=false)/\Gr w w') (first | (with_reducible assumption) | (apply keep3;(with_reducible assumption);(with_reducible assumption)) | (refine keepSt3 rfl ?_;(with_reducible assumption))) (first | (go_at_call 221;(with_reducible refine (H1.out _ ?gg).mono ?_);(case gg=>exact And.right (And.right ‹_/\_/\Gr w _›));rintro r w1 ⟨a3,m3,k3,rfl,hm3,hl3,g3⟩) | (go_at_call 221;(with_reducible refine (H2.out _ ?gg).mono ?_);(case gg=>exact And.right (And.right ‹_/\_/\Gr w _›));rintro r w2 ⟨a4,m4,k4,rfl,hm4,hl4,g4⟩))
 have hS2:=keep3 g4 (keep3 g3 hS0)
 have HO2:Hid (w2.heap[w.heap.size+2]? = some (.cells #[.bool false,.slice none 0 0,.int .i64 0] 140)):=g4.keepH (g3.keepH HO.out)
 have H38:Hid (∀ w3,Gr w2 w3->Calls Tryz.prog 225 #[.slice a3 m3 k3,.slice a4 m4 k4] w3 fun r w'=>∃ ad' n' cap',r = .returned (.slice ad' n' cap')/\n'<=1099511627776/\Lim w' ad' n' cap' 18446744073709551616 (x*2 ^ de-y*2 ^ df)/\Gr w3 w'):=fun w3 g=>by
  refine (minus55 a3 a4 m3 m4 k3 k4 _ _ w3 ((hl3.gr g4).gr g) (hl4.gr g) (by omega) (Nat.le_of_not_lt HC.out)).mono ?_
  rintro r w' ⟨a,b,c,h1,h2,h3,h4⟩
  exact ⟨a,b,c,h1,by omega,h3,h4⟩
 obtain ⟨cm,hcm⟩:∃ cm,cm=cmpI ((x*2 ^ de:Nat):Int) ((y*2 ^ df:Nat):Int):=⟨_,rfl⟩
 have C54:Hid (Calls Tryz.prog 224 #[.slice a3 m3 k3,.slice a4 m4 k4] w2 fun r w'=>r = .returned (.int .i64 cm)/\Gr w2 w'):=by
  rw [hcm]
  exact compare54 a3 a4 m3 m4 k3 k4 _ _ w2 (hl3.gr g4) hl4 (by omega) (by omega)
 have hcs:¬ cm<0:=by
  have:=HC.out
  rw [hcm]
  unfold cmpI;split;omega;split <;> omega
 clear hcm HC
 clear hS0 g3 g4 hl3 hl4 H1 H2 HO
 have p0:=hS2.1.1
 have p3:=hS2.1.2.2.2.1
 go_wp2_with (go_at_call 224;(with_reducible refine C54.out.mono ?_);rintro r wc ⟨rfl,gc⟩)
 have hSc:=keep3 gc hS2
 have hS3:=keep3 ((Gr.refl wc).drew) hSc
 go_region_held3 (fun w'=>(w'.cell? ⟨w.heap.size,0,none⟩=some (.bool s)/\w'.cell? ⟨w.heap.size,1,none⟩=some (.slice ad1 (n1+1) c1)/\w'.cell? ⟨w.heap.size,2,none⟩=some (.int .i64 e)/\w'.cell? ⟨w.heap.size+1,0,none⟩=some (.bool t)/\w'.cell? ⟨w.heap.size+1,1,none⟩=some (.slice ad2 (n2+1) c2)/\w'.cell? ⟨w.heap.size+1,2,none⟩=some (.int .i64 f))/\(w'.cell? ⟨w.heap.size+2,0,none⟩=some (cellV w' (w.heap.size+2) 0)/\w'.cell? ⟨w.heap.size+2,1,none⟩=some (cellV w' (w.heap.size+2) 1)/\w'.cell? ⟨w.heap.size+2,2,none⟩=some (cellV w' (w.heap.size+2) 2)/\w'.frozen? ⟨w.heap.size+2,0,none⟩=false/\w'.frozen? ⟨w.heap.size+2,1,none⟩=false/\w'.frozen? ⟨w.heap.size+2,2,none⟩=false)/\Gr w w') (first | (with_reducible assumption) | (apply keep3;(with_reducible assumption);(with_reducible assumption)) | (refine keepSt3 rfl ?_;(with_reducible assumption))) (first | (go_at_call 225;(with_reducible refine (H38.out _ ?gg).mono ?_);(case gg=>exact gc.drew);rintro r w3 ⟨a5,m5,k5,rfl,hm5,hl5,g5⟩))
 have hS4:=keep3 g5 hS3
 have k0:w3.cell? ⟨w.heap.size+1+1,0,none⟩=some (cellV w3 (w.heap.size+2) 0):=hS4.2.1.1
 have k1:w3.cell? ⟨w.heap.size+1+1,1,none⟩=some (cellV w3 (w.heap.size+2) 1):=hS4.2.1.2.1
 have k2:w3.cell? ⟨w.heap.size+1+1,2,none⟩=some (cellV w3 (w.heap.size+2) 2):=hS4.2.1.2.2.1
 have hb1:w3.heap[w.heap.size+1+1]? = some (.cells #[.bool false,.slice none 0 0,.int .i64 0] 140):=g5.keepH (w:=wc.drew) (gc.keepH HO2.out)
 have hl6:=hl5.apart hb1
 have hG:=(((hS4.2.2.setCell (p:=⟨w.heap.size+1+1,0,none⟩) (by show _<=w.heap.size+1+1;omega) (.bool s)).setCell (p:=⟨w.heap.size+1+1,1,none⟩) (by show _<=w.heap.size+1+1;omega) (.slice a5 m5 k5)).setCell (p:=⟨w.heap.size+1+1,2,none⟩) (by show _<=w.heap.size+1+1;omega) (.int .i64 L))
 clear hS2 hSc hS3 hS4 hb1 HO2
 go_wp2
 refine bodyPost_ret (v:=.tuple #[.agg #[.bool s,.slice a5 m5 k5,.int .i64 L],.int .i64 0]) ?_ rfl ⟨a5,m5,k5,by rw [HLL.out],hm5,hl5.set3 hl6 _ _ _,hG⟩
 simp [results,Tryz.results216,go_sem,k0,k1,k2]
set_option maxHeartbeats 1600000 in
theorem reckon27_28n (s t neg:Bool) (ad1 ad2:Option Addr) (n1 n2 c1 c2 m:Nat) (e f g:Int) (pa pb:Nat) (w:World) (hT:TabAt 2 Lib.deBruijn64tab w) (g1' : -1000000000000<=g) (g2':g<=1000000000000)
  (R1:Hid (∀ w1,Gr w w1->Calls Tryz.prog 200 #[.agg #[.bool s,.slice ad1 n1 c1,.int .i64 e]] w1 fun r w'=>r = .returned (.bool true)/\Gr w1 w'))
  (R2:Hid (∀ w1,Gr w w1->Calls Tryz.prog 200 #[.agg #[.bool t,.slice ad2 n2 c2,.int .i64 f]] w1 fun r w'=>r = .returned (.bool true)/\Gr w1 w'))
  (C:Hid (∀ w1,Gr w w1->Calls Tryz.prog 215 #[.pointer (some ⟨pa,0,none⟩),.pointer (some ⟨pb,0,none⟩)] w1 fun r w'=>∃ ad n cap,r = .returned (.tuple #[.agg #[.bool neg,.slice ad n cap,.int .i64 g],.int .i64 0])/\n<=1099511627776/\Lim w' ad n cap 18446744073709551616 m/\Gr w1 w')) :
  Calls Tryz.prog 214 #[.agg #[.bool s,.slice ad1 n1 c1,.int .i64 e],.agg #[.bool t,.slice ad2 n2 c2,.int .i64 f],.func (.func 215) #[] #[.pointer (some ⟨pa,0,none⟩),.pointer (some ⟨pb,0,none⟩)]] w fun r w'=>SettledN w.heap.size w' r neg m g/\Gr w w':=by
 have S35:Hid (∀ ad n cap w1,n<=1099511627776->Lim w1 ad n cap 18446744073709551616 m->Gr w w1->Calls Tryz.prog 213 #[.agg #[.bool neg,.slice ad n cap,.int .i64 g]] w1 fun r w'=>∃ a b c d f' g',r = .returned (.tuple #[.agg #[.bool a,.slice b c d,.int .i64 f'],.int .i64 g'])/\Hid (SettledN w.heap.size w' r neg m g)/\Gr w1 w'):=fun ad n cap w1 hn hl gr=>by
  obtain ⟨xs,rx,dx⟩:=hl
  refine (settle35n neg ad n cap m g xs w1 rx dx.2.1 dx.1 hn (tab_gr hT gr) g1' g2').mono ?_
  rintro r w' ⟨h1,h2⟩
  obtain ⟨a,b,c,d,f,g',hr⟩:=h1.form
  exact ⟨a,b,c,d,f,g',hr,h1.low gr.size,h2⟩
 clear hT
 have TB:=three_blocks w (.bool s) (.slice ad1 n1 c1) (.int .i64 e) (.bool t) (.slice ad2 n2 c2) (.int .i64 f) (.cells #[.bool false,.slice none 0 0,.int .i64 0] 140) _ rfl
 have TB':Hid _:=TB
 clear TB
 have tok:True:=trivial
 go_enter Tryz.func214,Tryz.ntmps214
 go_wp2_with (first | (go_at_call 200;have _t:=tok;(with_reducible refine (R1.out _ ((((Gr.refl w).alloc _).alloc _).alloc _)).mono ?_);rintro r w1 ⟨rfl,g1⟩;clear tok;have q0:=g1.keep TB'.out.1.1.2.2.2.1;have q1:=g1.keep TB'.out.1.1.2.2.2.2.1;have q2:=g1.keep TB'.out.1.1.2.2.2.2.2;have kb:=g1.keepH TB'.out.2.1) | (go_at_call 200;(with_reducible refine (R2.out _ ?gg).mono ?_);(case gg=>exact ((((Gr.refl w).alloc _).alloc _).alloc _).trans g1);rintro r w2 ⟨rfl,g2⟩;have kb2:=g2.keepH kb;have G2:=(((((Gr.refl w).alloc _).alloc _).alloc _).trans g1).trans g2;clear q0 q1 q2 kb) | (go_at_call 215;(with_reducible refine (C.out _ G2).mono ?_);rintro r w3 ⟨a3,m3,k3,rfl,hm3,hl3,g3⟩;have kb3:=((Gr.refl w3).alloc (.cells #[.bool neg,.slice a3 m3 k3,.int .i64 g] 140)).keepH (g3.keepH kb2);have G3:=(G2.trans g3).alloc (.cells #[.bool neg,.slice a3 m3 k3,.int .i64 g] 140);have hl3':=hl3.gr ((Gr.refl w3).alloc (.cells #[.bool neg,.slice a3 m3 k3,.int .i64 g] 140));clear kb2) | (go_at_call 213;(with_reducible refine (S35.out _ _ _ _ hm3 hl3' G3).mono ?_);rintro r w4 ⟨a,b,c,d,f',g',rfl,hS,g4⟩;have kb4:=g4.keepH kb3;clear kb3;obtain ⟨t0,t1,t2,u0,u1,u2⟩:=Out3.of kb4))
 refine bodyPost_ret (v:=.tuple #[.agg #[.bool a,.slice b c d,.int .i64 f'],.int .i64 g']) ?_ rfl ⟨hS.out.set3 kb4 _ _ _,?_⟩
 ·simp [results,Tryz.results214,go_sem,t0,t1,t2]
 ·exact (((G3.trans g4).setCell (p:=⟨w.heap.size+2,0,none⟩) (by show _<=w.heap.size+2;omega) _).setCell (p:=⟨w.heap.size+2,1,none⟩) (by show _<=w.heap.size+2;omega) _).setCell (p:=⟨w.heap.size+2,2,none⟩) (by show _<=w.heap.size+2;omega) _
set_option maxHeartbeats 1600000 in
theorem reckon27_30n (s t neg:Bool) (ad1 ad2:Option Addr) (n1 n2 c1 c2 m:Nat) (e f g:Int) (pa pb:Nat) (w:World) (hT:TabAt 2 Lib.deBruijn64tab w) (g1' : -1000000000000<=g) (g2':g<=1000000000000)
  (R1:Hid (∀ w1,Gr w w1->Calls Tryz.prog 200 #[.agg #[.bool s,.slice ad1 n1 c1,.int .i64 e]] w1 fun r w'=>r = .returned (.bool true)/\Gr w1 w'))
  (R2:Hid (∀ w1,Gr w w1->Calls Tryz.prog 200 #[.agg #[.bool t,.slice ad2 n2 c2,.int .i64 f]] w1 fun r w'=>r = .returned (.bool true)/\Gr w1 w'))
  (C:Hid (∀ w1,Gr w w1->Calls Tryz.prog 219 #[.pointer (some ⟨pa,0,none⟩),.pointer (some ⟨pb,0,none⟩)] w1 fun r w'=>∃ ad n cap,r = .returned (.tuple #[.agg #[.bool neg,.slice ad n cap,.int .i64 g],.int .i64 0])/\n<=1099511627776/\Lim w' ad n cap 18446744073709551616 m/\Gr w1 w')) :
  Calls Tryz.prog 214 #[.agg #[.bool s,.slice ad1 n1 c1,.int .i64 e],.agg #[.bool t,.slice ad2 n2 c2,.int .i64 f],.func (.func 219) #[] #[.pointer (some ⟨pa,0,none⟩),.pointer (some ⟨pb,0,none⟩)]] w fun r w'=>SettledN w.heap.size w' r neg m g/\Gr w w':=by
 have S35:Hid (∀ ad n cap w1,n<=1099511627776->Lim w1 ad n cap 18446744073709551616 m->Gr w w1->Calls Tryz.prog 213 #[.agg #[.bool neg,.slice ad n cap,.int .i64 g]] w1 fun r w'=>∃ a b c d f' g',r = .returned (.tuple #[.agg #[.bool a,.slice b c d,.int .i64 f'],.int .i64 g'])/\Hid (SettledN w.heap.size w' r neg m g)/\Gr w1 w'):=fun ad n cap w1 hn hl gr=>by
  obtain ⟨xs,rx,dx⟩:=hl
  refine (settle35n neg ad n cap m g xs w1 rx dx.2.1 dx.1 hn (tab_gr hT gr) g1' g2').mono ?_
  rintro r w' ⟨h1,h2⟩
  obtain ⟨a,b,c,d,f,g',hr⟩:=h1.form
  exact ⟨a,b,c,d,f,g',hr,h1.low gr.size,h2⟩
 clear hT
 have TB:=three_blocks w (.bool s) (.slice ad1 n1 c1) (.int .i64 e) (.bool t) (.slice ad2 n2 c2) (.int .i64 f) (.cells #[.bool false,.slice none 0 0,.int .i64 0] 140) _ rfl
 have TB':Hid _:=TB
 clear TB
 have tok:True:=trivial
 go_enter Tryz.func214,Tryz.ntmps214
 go_wp2_with (first | (go_at_call 200;have _t:=tok;(with_reducible refine (R1.out _ ((((Gr.refl w).alloc _).alloc _).alloc _)).mono ?_);rintro r w1 ⟨rfl,g1⟩;clear tok;have q0:=g1.keep TB'.out.1.1.2.2.2.1;have q1:=g1.keep TB'.out.1.1.2.2.2.2.1;have q2:=g1.keep TB'.out.1.1.2.2.2.2.2;have kb:=g1.keepH TB'.out.2.1) | (go_at_call 200;(with_reducible refine (R2.out _ ?gg).mono ?_);(case gg=>exact ((((Gr.refl w).alloc _).alloc _).alloc _).trans g1);rintro r w2 ⟨rfl,g2⟩;have kb2:=g2.keepH kb;have G2:=(((((Gr.refl w).alloc _).alloc _).alloc _).trans g1).trans g2;clear q0 q1 q2 kb) | (go_at_call 219;(with_reducible refine (C.out _ G2).mono ?_);rintro r w3 ⟨a3,m3,k3,rfl,hm3,hl3,g3⟩;have kb3:=((Gr.refl w3).alloc (.cells #[.bool neg,.slice a3 m3 k3,.int .i64 g] 140)).keepH (g3.keepH kb2);have G3:=(G2.trans g3).alloc (.cells #[.bool neg,.slice a3 m3 k3,.int .i64 g] 140);have hl3':=hl3.gr ((Gr.refl w3).alloc (.cells #[.bool neg,.slice a3 m3 k3,.int .i64 g] 140));clear kb2) | (go_at_call 213;(with_reducible refine (S35.out _ _ _ _ hm3 hl3' G3).mono ?_);rintro r w4 ⟨a,b,c,d,f',g',rfl,hS,g4⟩;have kb4:=g4.keepH kb3;clear kb3;obtain ⟨t0,t1,t2,u0,u1,u2⟩:=Out3.of kb4))
 refine bodyPost_ret (v:=.tuple #[.agg #[.bool a,.slice b c d,.int .i64 f'],.int .i64 g']) ?_ rfl ⟨hS.out.set3 kb4 _ _ _,?_⟩
 ·simp [results,Tryz.results214,go_sem,t0,t1,t2]
 ·exact (((G3.trans g4).setCell (p:=⟨w.heap.size+2,0,none⟩) (by show _<=w.heap.size+2;omega) _).setCell (p:=⟨w.heap.size+2,1,none⟩) (by show _<=w.heap.size+2;omega) _).setCell (p:=⟨w.heap.size+2,2,none⟩) (by show _<=w.heap.size+2;omega) _
set_option maxHeartbeats 1600000 in
theorem clos28 (s t neg:Bool) (ad1 ad2:Option Addr) (n1 n2 c1 c2 m:Nat) (e f g:Int) (pa pb:Nat) (w:World)
  (a0:w.cell? ⟨pa,0,none⟩=some (.bool s)) (a1:w.cell? ⟨pa,1,none⟩=some (.slice ad1 n1 c1)) (a2:w.cell? ⟨pa,2,none⟩=some (.int .i64 e))
  (b0:w.cell? ⟨pb,0,none⟩=some (.bool t)) (b1:w.cell? ⟨pb,1,none⟩=some (.slice ad2 n2 c2)) (b2:w.cell? ⟨pb,2,none⟩=some (.int .i64 f))
  (C:Hid (∀ w1,Gr w w1->Calls Tryz.prog 216 #[.agg #[.bool s,.slice ad1 n1 c1,.int .i64 e],.agg #[.bool (t),.slice ad2 n2 c2,.int .i64 f]] w1 fun r w'=>∃ ad n cap,r = .returned (.tuple #[.agg #[.bool neg,.slice ad n cap,.int .i64 g],.int .i64 0])/\n<=1099511627776/\Lim w' ad n cap 18446744073709551616 m/\Gr w1 w')) :
  Calls Tryz.prog 215 #[.pointer (some ⟨pa,0,none⟩),.pointer (some ⟨pb,0,none⟩)] w fun r w'=>∃ ad n cap,r = .returned (.tuple #[.agg #[.bool neg,.slice ad n cap,.int .i64 g],.int .i64 0])/\n<=1099511627776/\Lim w' ad n cap 18446744073709551616 m/\Gr w w':=by
 have GA:Gr w (w.alloc (.cells #[.bool false,.slice none 0 0,.int .i64 0] 140)):=(Gr.refl w).alloc _
 have A0:=GA.keep a0
 have A1:=GA.keep a1
 have A2:=GA.keep a2
 have B0:=GA.keep b0
 have B1:=GA.keep b1
 have B2:=GA.keep b2
 have FB:Hid ((w.alloc (.cells #[.bool false,.slice none 0 0,.int .i64 0] 140)).heap[w.heap.size]? = some (.cells #[.bool false,.slice none 0 0,.int .i64 0] 140)):=by
  show (w.heap.push _)[w.heap.size]? = _
  simp only [Array.getElem?_push]
  rw [if_pos trivial]
 have hpa:=lt_of_cell' a0
 have hpb:=lt_of_cell' b0
 have hne1:pa≠w.heap.size:=Nat.ne_of_lt hpa
 have hne2:pb≠w.heap.size:=Nat.ne_of_lt hpb
 go_enter Tryz.func215,Tryz.ntmps215
 go_wp2_with (go_at_call 216;(with_reducible refine (C.out _ GA).mono ?_);rintro r w1 ⟨a3,m3,k3,rfl,hm3,hl3,g3⟩;have kb:=g3.keepH FB.out;obtain ⟨t0,t1,t2,u0,u1,u2⟩:=Out3.of kb)
 refine bodyPost_ret (v:=.tuple #[.agg #[.bool neg,.slice a3 m3 k3,.int .i64 g],.int .i64 0]) ?_ rfl ⟨a3,m3,k3,rfl,hm3,hl3.set3 (hl3.apart kb) _ _ _,?_⟩
 ·simp [results,Tryz.results215,go_sem,t0,t1,t2]
 ·exact ((((GA.trans g3).setCell (p:=⟨w.heap.size,0,none⟩) (Nat.le_refl _) _).setCell (p:=⟨w.heap.size,1,none⟩) (Nat.le_refl _) _).setCell (p:=⟨w.heap.size,2,none⟩) (Nat.le_refl _) _)
set_option maxHeartbeats 1600000 in
theorem clos30 (s t neg:Bool) (ad1 ad2:Option Addr) (n1 n2 c1 c2 m:Nat) (e f g:Int) (pa pb:Nat) (w:World)
  (a0:w.cell? ⟨pa,0,none⟩=some (.bool s)) (a1:w.cell? ⟨pa,1,none⟩=some (.slice ad1 n1 c1)) (a2:w.cell? ⟨pa,2,none⟩=some (.int .i64 e))
  (b0:w.cell? ⟨pb,0,none⟩=some (.bool t)) (b1:w.cell? ⟨pb,1,none⟩=some (.slice ad2 n2 c2)) (b2:w.cell? ⟨pb,2,none⟩=some (.int .i64 f))
  (C:Hid (∀ w1,Gr w w1->Calls Tryz.prog 216 #[.agg #[.bool s,.slice ad1 n1 c1,.int .i64 e],.agg #[.bool (!t),.slice ad2 n2 c2,.int .i64 f]] w1 fun r w'=>∃ ad n cap,r = .returned (.tuple #[.agg #[.bool neg,.slice ad n cap,.int .i64 g],.int .i64 0])/\n<=1099511627776/\Lim w' ad n cap 18446744073709551616 m/\Gr w1 w')) :
  Calls Tryz.prog 219 #[.pointer (some ⟨pa,0,none⟩),.pointer (some ⟨pb,0,none⟩)] w fun r w'=>∃ ad n cap,r = .returned (.tuple #[.agg #[.bool neg,.slice ad n cap,.int .i64 g],.int .i64 0])/\n<=1099511627776/\Lim w' ad n cap 18446744073709551616 m/\Gr w w':=by
 have GA:Gr w (w.alloc (.cells #[.bool false,.slice none 0 0,.int .i64 0] 140)):=(Gr.refl w).alloc _
 have A0:=GA.keep a0
 have A1:=GA.keep a1
 have A2:=GA.keep a2
 have B0:=GA.keep b0
 have B1:=GA.keep b1
 have B2:=GA.keep b2
 have FB:Hid ((w.alloc (.cells #[.bool false,.slice none 0 0,.int .i64 0] 140)).heap[w.heap.size]? = some (.cells #[.bool false,.slice none 0 0,.int .i64 0] 140)):=by
  show (w.heap.push _)[w.heap.size]? = _
  simp only [Array.getElem?_push]
  rw [if_pos trivial]
 have hpa:=lt_of_cell' a0
 have hpb:=lt_of_cell' b0
 have hne1:pa≠w.heap.size:=Nat.ne_of_lt hpa
 have hne2:pb≠w.heap.size:=Nat.ne_of_lt hpb
 go_enter Tryz.func219,Tryz.ntmps219
 go_wp2_with (go_at_call 216;(with_reducible refine (C.out _ GA).mono ?_);rintro r w1 ⟨a3,m3,k3,rfl,hm3,hl3,g3⟩;have kb:=g3.keepH FB.out;obtain ⟨t0,t1,t2,u0,u1,u2⟩:=Out3.of kb)
 refine bodyPost_ret (v:=.tuple #[.agg #[.bool neg,.slice a3 m3 k3,.int .i64 g],.int .i64 0]) ?_ rfl ⟨a3,m3,k3,rfl,hm3,hl3.set3 (hl3.apart kb) _ _ _,?_⟩
 ·simp [results,Tryz.results219,go_sem,t0,t1,t2]
 ·exact ((((GA.trans g3).setCell (p:=⟨w.heap.size,0,none⟩) (Nat.le_refl _) _).setCell (p:=⟨w.heap.size,1,none⟩) (Nat.le_refl _) _).setCell (p:=⟨w.heap.size,2,none⟩) (Nat.le_refl _) _)
end Go.Proofs.YtbcocfhfhblhcaaGreatDoor
