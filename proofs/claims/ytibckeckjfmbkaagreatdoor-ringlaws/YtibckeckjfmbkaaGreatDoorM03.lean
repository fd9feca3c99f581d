import Derived.Test.YtibckeckjfmbkaaGreatDoorM02
import Derived.Test.YtibckeckjfmbkaaGreatDoorRows
import Derived.Laws.AppendOwnNone
import Derived.LoopTactic
import Derived.Deep.RegionLaw
import Derived.Shelf.Small.Bits
import Derived.Shelf.Strconv.Itoa0
import Derived.Shelf.Bits.Mul64
import Derived.Test.YtibckeckjfmbkaaGreatDoorProg
import Derived.Laws.Externs
import Derived.Shelf.Spec.TrailingZeros
import Derived.Deep.QuietTactic
import Derived.BigQuiet
import Derived.Laws.Bits64b
namespace Go.Proofs.YtibckeckjfmbkaaGreatDoor
open Go.RowKit
set_option linter.unusedVariables false
theorem Tryz.info39:(Tryz.prog.info? 39).map (fun i=>(i.zero,i.size,i.bytes))=some (some (.int .u64 0),1,8):=by kernel_rfl
theorem trim57 (ad:Option Addr) (n cap:Nat) (xs:List Nat) (w:World) (h:Row w ad n cap xs) :
  Calls Tryz.prog 174 #[.slice ad n cap] w fun e w'=>∃k,e = .returned (.slice ad k cap)/\k<=n/\(∀i,k<=i->i<n->xs.getD i 0=0)/\(k=0\/xs.getD (k-1) 0≠0)/\w'=w:=by
 have h1:=h.le
 have h2:=h.max
 have H:Hid (Row w ad n cap xs):=h
 clear h
 go_enter Tryz.func174,Tryz.ntmps174
 go_wp2
 go_loop [3] (fun t=>∃k:Nat,k<=n/\t = .int .i64 k/\Hid (∀i,k<=i->i<n->xs.getD i 0=0)) (fun t=>(intOf t).toNat)
 case atStart=>exact⟨n,Nat.le_refl _,rfl,fun i a b=>absurd b (by omega)⟩
 case round =>
  obtain⟨k,hk,rfl,hz⟩:=hrel
  by_cases hk0:k=0
  ·subst hk0
   go_wp2
   go_ret
   exact⟨0,rfl,by omega,hz.out,Or.inl rfl,rfl⟩
  ·obtain⟨b,off,rfl,hb,hc⟩:=H.out.cells (by omega)
   have hcell:=hc (k-1) (by omega)
   clear hc
   by_cases hx:xs.getD (k-1) 0=0
   ·rw[hx] at hcell
    go_wp2
    go_round
    case rel=>exact⟨k-1,by omega,by go_num,fun i a b=>if e:i=k-1 then e ▸ hx else hz.out i (by omega) b⟩
    case measure=>simp[intOf];omega
   ·have HX:Hid (xs.getD (k-1) 0≠0):=hx
    generalize hv:xs.getD (k-1) 0=v at hcell hx
    have hv0:(((v:Nat):Int)==0)=false:=by simp;omega
    clear hv hx
    go_wp2
    go_ret
    exact⟨k,rfl,hk,hz.out,Or.inr HX.out,rfl⟩
theorem trim_out {w:World} {ad:Option Addr} {n cap k:Nat} {xs:List Nat} {B:Nat} (h:Row w ad n cap xs) (hx:∀x∈xs,x<B) (hk:k<=n) (h0:∀i,k<=i->i<n->xs.getD i 0=0) (h1:k=0\/xs.getD (k-1) 0≠0):Lim w ad k cap B (nv B xs):=
 ⟨xs.take k,h.take k hk,trim_dg hx (by rw[h.len];exact hk) (fun i a b=>h0 i a (by rw[<-h.len];exact b)) h1⟩
theorem one_u64 (xs:List Nat):∀u∈u64s xs,u.oneCell'=true:=by
 intro u hu
 unfold u64s at hu
 rw[List.mem_map] at hu
 obtain⟨x,_,rfl⟩:=hu
 rfl
theorem nanI75 (x:Int) (w:World):Calls Tryz.prog 190 #[.int .i64 x] w fun e w'=>e = .returned (.bool false)/\w'=w:=by
 go_enter Tryz.func190,Tryz.ntmps190
 go_wp2
 go_ret
 exact⟨by simp,rfl⟩
theorem nanU82 (x:Int) (w:World):Calls Tryz.prog 191 #[.int .u64 x] w fun e w'=>e = .returned (.bool false)/\w'=w:=by
 go_enter Tryz.func191,Tryz.ntmps191
 go_wp2
 go_ret
 exact⟨by simp,rfl⟩
def cmpI (x y:Int):Int:=if x<y then -1 else if y<x then 1 else 0
theorem cmpI_lt {x y:Int} (h:x<y):cmpI x y = -1:=by unfold cmpI;rw[if_pos h]
theorem cmpI_gt {x y:Int} (h:y<x):cmpI x y=1:=by unfold cmpI;rw[if_neg (by omega),if_pos h]
theorem cmpI_eq {x y:Int} (h:x=y):cmpI x y=0:=by unfold cmpI;rw[if_neg (by omega),if_neg (by omega)]
theorem cmpI58 (x y:Int) (w:World):Calls Tryz.prog 182 #[.int .i64 x,.int .i64 y] w fun e w'=>e = .returned (.int .i64 (cmpI x y))/\w'=w:=by
 rcases (show x<y\/(¬x<y/\y<x)\/(¬x<y/\¬y<x) by omega) with h|⟨h,h'⟩|⟨h,h'⟩
 ·rw[cmpI_lt h]
  go_enter Tryz.func182,Tryz.ntmps182
  go_wp2_with (go_at_call 190;refine(nanI75 _ _).mono ?_;rintro e w' ⟨rfl,rfl⟩)
  go_ret
  exact⟨rfl,rfl⟩
 ·rw[cmpI_gt h']
  go_enter Tryz.func182,Tryz.ntmps182
  go_wp2_with (go_at_call 190;refine(nanI75 _ _).mono ?_;rintro e w' ⟨rfl,rfl⟩)
  go_ret
  exact⟨rfl,rfl⟩
 ·rw[cmpI_eq (by omega)]
  go_enter Tryz.func182,Tryz.ntmps182
  go_wp2_with (go_at_call 190;refine(nanI75 _ _).mono ?_;rintro e w' ⟨rfl,rfl⟩)
  go_ret
  exact⟨rfl,rfl⟩
theorem cmpU71 (x y:Int) (w:World):Calls Tryz.prog 183 #[.int .u64 x,.int .u64 y] w fun e w'=>e = .returned (.int .i64 (cmpI x y))/\w'=w:=by
 rcases (show x<y\/(¬x<y/\y<x)\/(¬x<y/\¬y<x) by omega) with h|⟨h,h'⟩|⟨h,h'⟩
 ·rw[cmpI_lt h]
  go_enter Tryz.func183,Tryz.ntmps183
  go_wp2_with (go_at_call 191;refine(nanU82 _ _).mono ?_;rintro e w' ⟨rfl,rfl⟩)
  go_ret
  exact⟨rfl,rfl⟩
 ·rw[cmpI_gt h']
  go_enter Tryz.func183,Tryz.ntmps183
  go_wp2_with (go_at_call 191;refine(nanU82 _ _).mono ?_;rintro e w' ⟨rfl,rfl⟩)
  go_ret
  exact⟨rfl,rfl⟩
 ·rw[cmpI_eq (by omega)]
  go_enter Tryz.func183,Tryz.ntmps183
  go_wp2_with (go_at_call 191;refine(nanU82 _ _).mono ?_;rintro e w' ⟨rfl,rfl⟩)
  go_ret
  exact⟨rfl,rfl⟩
theorem Row.lt {w:World} {ad:Option Addr} {n cap:Nat} {xs:List Nat} (h:Row w ad n cap xs) (hp:0<n):∃b off,ad=some ⟨b,off,none⟩/\b<w.heap.size/\∀w',Gr w w'->∀j,j<n->w'.cell? ⟨b,off+j,none⟩=some (.int .u64 ((xs.getD j 0:Nat):Int)):=by
 obtain⟨b,off,e,hb,hc⟩:=h.cells hp
 exact⟨b,off,e,hb,fun w' g j hj=>(g.cell hb).trans (hc j hj)⟩
theorem getD_out {xs:List Nat} {i:Nat} (h:xs.length<=i):xs.getD i 0=0:=by
 rw[List.getD_eq_getElem?_getD,List.getElem?_eq_none h];rfl
end Go.Proofs.YtibckeckjfmbkaaGreatDoor
namespace Go.Proofs
open Go.Shelf
def Tryz.lays125_ren:Go.Shelf.Ren:=⟨fun|125=>178|128=>185|129=>162|n=>n,fun|46=>40|3=>3|51=>84|53=>39|4=>4|5=>5|9=>9|n=>n,fun|n=>n⟩
theorem Tryz.lays125:Go.Proofs.Lays.n125 Tryz.prog Tryz.lays125_ren:={
 mixed:=by kernel_rfl
 f125:=Tryz.func178.trans (congrArg some (by kernel_rfl))
 f128:=Tryz.func185.trans (congrArg some (by kernel_rfl))
 f129:=Tryz.func162.trans (congrArg some (by kernel_rfl))
 t3:=Tryz.underlying3
 a3:=Tryz.isAgg3
 z3:=Tryz.sizeOf3
 v3:=Tryz.zeroValue3
 t4:=Tryz.underlying4
 a4:=Tryz.isAgg4
 z4:=Tryz.sizeOf4
 v4:=Tryz.zeroValue4
 t5:=Tryz.underlying5
 a5:=Tryz.isAgg5
 z5:=Tryz.sizeOf5
 v5:=Tryz.zeroValue5
 t9:=Tryz.underlying9
 a9:=Tryz.isAgg9
 z9:=Tryz.sizeOf9
 v9:=Tryz.zeroValue9
 t46:=Tryz.underlying40
 a46:=Tryz.isAgg40
 z46:=Tryz.sizeOf40
 v46:=Tryz.zeroValue40
 t51:=Tryz.underlying84
 a51:=Tryz.isAgg84
 z51:=Tryz.sizeOf84
 v51:=Tryz.zeroValue84
 t53:=Tryz.underlying39
 a53:=Tryz.isAgg39
 z53:=Tryz.sizeOf39
 v53:=Tryz.zeroValue39}
theorem Tryz.bits_Len (x:Int) (w:World) (h0:0<=x) (h1:x<=18446744073709551615) :
  Calls Tryz.prog 178 #[.int .u64 x] w fun e w'=>e = .returned (.int .i64 (Lib.bitLen x.toNat))/\w'=w:=Any.bits_Len Tryz.lays125 x w h0 h1
def Tryz.lays134_ren:Go.Shelf.Ren:=⟨fun|134=>187|129=>162|n=>n,fun|53=>39|3=>3|4=>4|46=>40|5=>5|9=>9|n=>n,fun|n=>n⟩
theorem Tryz.lays134:Go.Proofs.Lays.n134 Tryz.prog Tryz.lays134_ren:={
 mixed:=by kernel_rfl
 f129:=Tryz.func162.trans (congrArg some (by kernel_rfl))
 f134:=Tryz.func187.trans (congrArg some (by kernel_rfl))
 t3:=Tryz.underlying3
 a3:=Tryz.isAgg3
 z3:=Tryz.sizeOf3
 v3:=Tryz.zeroValue3
 t4:=Tryz.underlying4
 a4:=Tryz.isAgg4
 z4:=Tryz.sizeOf4
 v4:=Tryz.zeroValue4
 t5:=Tryz.underlying5
 a5:=Tryz.isAgg5
 z5:=Tryz.sizeOf5
 v5:=Tryz.zeroValue5
 t9:=Tryz.underlying9
 a9:=Tryz.isAgg9
 z9:=Tryz.sizeOf9
 v9:=Tryz.zeroValue9
 t46:=Tryz.underlying40
 a46:=Tryz.isAgg40
 z46:=Tryz.sizeOf40
 v46:=Tryz.zeroValue40
 t53:=Tryz.underlying39
 a53:=Tryz.isAgg39
 z53:=Tryz.sizeOf39
 v53:=Tryz.zeroValue39}
theorem Tryz.bits_LeadingZeros64 (x:Int) (w:World) (h0:0<=x) (h1:x<=18446744073709551615) :
  Calls Tryz.prog 187 #[.int .u64 x] w fun e w'=>e = .returned (.int .i64 (64-(Lib.bitLen x.toNat:Int)))/\w'=w:=Any.bits_LeadingZeros64 Tryz.lays134 x w h0 h1
def Tryz.lays129_ren:Go.Shelf.Ren:=⟨fun|129=>162|n=>n,fun|53=>39|3=>3|4=>4|46=>40|5=>5|9=>9|n=>n,fun|n=>n⟩
theorem Tryz.lays129:Go.Proofs.Lays.n129 Tryz.prog Tryz.lays129_ren:={
 mixed:=by kernel_rfl
 f129:=Tryz.func162.trans (congrArg some (by kernel_rfl))
 t3:=Tryz.underlying3
 a3:=Tryz.isAgg3
 z3:=Tryz.sizeOf3
 v3:=Tryz.zeroValue3
 t4:=Tryz.underlying4
 a4:=Tryz.isAgg4
 z4:=Tryz.sizeOf4
 v4:=Tryz.zeroValue4
 t5:=Tryz.underlying5
 a5:=Tryz.isAgg5
 z5:=Tryz.sizeOf5
 v5:=Tryz.zeroValue5
 t9:=Tryz.underlying9
 a9:=Tryz.isAgg9
 z9:=Tryz.sizeOf9
 v9:=Tryz.zeroValue9
 t46:=Tryz.underlying40
 a46:=Tryz.isAgg40
 z46:=Tryz.sizeOf40
 v46:=Tryz.zeroValue40
 t53:=Tryz.underlying39
 a53:=Tryz.isAgg39
 z53:=Tryz.sizeOf39
 v53:=Tryz.zeroValue39}
theorem Tryz.bits_Len64 (x:Int) (w:World) (h0:0<=x) (h1:x<=18446744073709551615) :
  Calls Tryz.prog 162 #[.int .u64 x] w fun e w'=>e = .returned (.int .i64 (Lib.bitLen x.toNat))/\w'=w:=Any.bits_Len64 Tryz.lays129 x w h0 h1
def Tryz.lays264_ren:Go.Shelf.Ren:=⟨fun|264=>74|n=>n,fun|53=>39|46=>40|n=>n,fun|n=>n⟩
theorem Tryz.lays264:Go.Proofs.Lays.n264 Tryz.prog Tryz.lays264_ren:={
 mixed:=by kernel_rfl
 f264:=Tryz.func74.trans (congrArg some (by kernel_rfl))
 t46:=Tryz.underlying40
 a46:=Tryz.isAgg40
 z46:=Tryz.sizeOf40
 v46:=Tryz.zeroValue40
 t53:=Tryz.underlying39
 a53:=Tryz.isAgg39
 z53:=Tryz.sizeOf39
 v53:=Tryz.zeroValue39}
open Go.RowKit Go.Lib in
theorem Tryz.bits_Mul64 (x y:Nat) (hx:x<18446744073709551616) (hy:y<18446744073709551616) (w:World) :
  Calls Tryz.prog 74 #[.int .u64 x,.int .u64 y] w fun e w'=>e = .returned (.tuple #[.int .u64 ((x*y / 18446744073709551616:Nat):Int),.int .u64 ((x*y % 18446744073709551616:Nat):Int)])/\w'=w:=Any.bits_Mul64 Tryz.lays264 x y hx hy w
end Go.Proofs
namespace Go.Proofs.YtibckeckjfmbkaaGreatDoor
open Go.RowKit
set_option linter.unusedVariables false
theorem add64N (x y c:Nat) (hc:c<=1) (w:World) :
  (callFunc 75 #[.int .u64 (x:Int),.int .u64 (y:Int),.int .u64 (c:Int)]).run Tryz.prog w = .ok (.value (.tuple #[.int .u64 (((x+y+c) % 18446744073709551616:Nat):Int),.int .u64 (((x+y+c) / 18446744073709551616:Nat):Int)])) w:=by
 rcases (show c=0\/c=1 by omega) with rfl|rfl <;> kernel_rfl
theorem sub64N (x y c:Nat) (hc:c<=1) (w:World) :
  (callFunc 184 #[.int .u64 (x:Int),.int .u64 (y:Int),.int .u64 (c:Int)]).run Tryz.prog w = .ok (.value (.tuple #[.int .u64 (((x+18446744073709551616-y-c) % 18446744073709551616:Nat):Int),.int .u64 (((if x<y+c then 1 else 0):Nat):Int)])) w:=by
 rcases (show c=0\/c=1 by omega) with rfl|rfl <;> kernel_rfl
theorem tz_core (x k idx:Nat) (w:World) (hx0:((x:Int)==0)=false)
  (key:IntKind.u64.wrap (bits BinOp.and IntKind.u64 (x:Int) (IntKind.u64.wrap (-(x:Int)))*285870213051353865) / 288230376151711744=(idx:Int))
  (hi:idx<64) (hk:k<64) (hcell:w.cell? ⟨2,idx,none⟩=some (.int .u8 k)) :
  Calls Tryz.prog 64 #[.int .u64 x] w fun e w'=>e = .returned (.int .i64 k)/\w'=w:=by
 go_enter Tryz.func64,Tryz.ntmps64
 go_wp2_with (simp only[key])
 go_ret
 exact⟨rfl,rfl⟩
theorem tz76 (x:Nat) (hx:x<18446744073709551616) (hx0:0<x) (w:World) (hT:TabAt 2 Lib.deBruijn64tab w) :
  Calls Tryz.prog 64 #[.int .u64 (x:Int)] w fun e w'=>e = .returned (.int .i64 (Lib.ctz 64 x:Int))/\w'=w:=by
 obtain⟨hlow,hk⟩:=Lib.lowest_bit 64 x (by omega) hx
 obtain⟨hi,htab⟩:=Lib.deBruijn64_at _ hk
 have hcell:=hT _ hi
 rw[htab] at hcell
 exact tz_core x _ _ w (by simp;omega) (tz64_key x _ hx (by omega) hlow) hi hk hcell
theorem ret_i64 {a b:Int} (h:a=b):Ending.returned (.int .i64 a)=Ending.returned (.int .i64 b):=by rw[h]
theorem Gr.drewN {a w:World} (h:Gr a w) (n:Nat):Gr a (w.drewN n):=⟨h.os,h.output,h.size,h.block⟩
theorem tab_gr {w w':World} (h:TabAt 2 Lib.deBruijn64tab w) (g:Gr w w'):TabAt 2 Lib.deBruijn64tab w':=by
 intro j hj
 have:=h j hj
 rw[<-this]
 exact g.cell (lt_of_cell' this)
theorem bitLenAux_bl:∀(f x:Nat),x<2 ^ f->Lib.bitLenAux f x=bl x
 | 0,x,h=>by
  have:x=0:=by simp at h;omega
  subst this
  rw[bl_zero];rfl
 | f+1,x,h=>by
  unfold Lib.bitLenAux
  split
  ·next h0=>rw[h0,bl_zero]
  ·next h0 =>
   rw[bl_pos (by omega),bitLenAux_bl f (x / 2) (by rw[Nat.pow_succ] at h;omega)]
   omega
theorem bitLen_bl {x:Nat} (h:x<18446744073709551616):Lib.bitLen x=bl x:=bitLenAux_bl 64 x h
theorem bl64 {x:Nat} (h:x<18446744073709551616):bl x<=64:=bl_le_of_lt h
theorem bitLength40 (ad:Option Addr) (n cap x:Nat) (w:World) (hl:Lim w ad n cap 18446744073709551616 x) (h0:0<x) (hn:n<=1099511627776) :
  Calls Tryz.prog 152 #[.slice ad n cap] w fun e w'=>e = .returned (.int .i64 (bl x:Int))/\Gr w w':=by
 obtain⟨xs,rx,dx⟩:=hl
 have hn0:0<n:=Nat.pos_of_ne_zero fun e=>by
  have:=(dx.zero_iff (by omega)).1 (by rw[rx.len];exact e)
  omega
 have ht:=bl_top dx (k:=n-1) (by rw[rx.len];omega)
 obtain⟨b,off,rfl,hb,hc⟩:=rx.cells hn0
 have hcell:=hc (n-1) (by omega)
 have hv:=getD_lt (by omega) dx.2.1 (n-1)
 generalize xs.getD (n-1) 0=v at *
 have hv64:=bl64 hv
 have E:Hid (64*((n:Int)-1)+(bl v:Int)=(bl x:Int)):=by show _=_;omega
 have HL:Hid (∀w1,Calls Tryz.prog 162 #[.int .u64 (v:Int)] w1 fun e w'=>e = .returned (.int .i64 (bl v:Int))/\w'=w1):=by
  intro w1
  have:=Tryz.bits_Len64 (v:Int) w1 (by omega) (by omega)
  rw[Int.toNat_natCast,bitLen_bl hv] at this
  exact this
 have R:=rx.le
 have M:=rx.max
 clear hc dx rx ht
 generalize bl v=lv at *
 go_enter Tryz.func152,Tryz.ntmps152
 go_wp2_with (go_at_call 162;with_reducible refine(HL.out _).mono ?_;rintro e w' ⟨rfl,rfl⟩)
 go_ret
 refine⟨ret_i64 ?_,?_⟩
 ·rw[<-E.out]
 ·first|exact Gr.refl _|exact(Gr.refl _).drew|exact⟨rfl,rfl,Nat.le_refl _,fun _ _=>rfl⟩
theorem nv_zeros_below {B:Nat} {xs:List Nat} {i:Nat} (h:∀j,j<i->xs.getD j 0=0):∀j,j<=i->nv B (xs.take j)=0:=by
 intro j
 induction j with
 | zero=>intro _;simp[nv]
 | succ j ih=>intro hj;rw[nv_take_succ,ih (by omega),h j (by omega)];simp
theorem nv_split (B:Nat) (xs:List Nat) (i:Nat) (h:i<xs.length):nv B xs=nv B (xs.take i)+B ^ i*(xs.getD i 0+B*nv B (xs.drop (i+1))):=by
 have h1:xs=xs.take i++xs.drop i:=(List.take_append_drop i xs).symm
 have h2:xs.drop i=xs[i] :: xs.drop (i+1):=List.drop_eq_getElem_cons h
 have h3:xs.getD i 0=xs[i]:=by rw[List.getD_eq_getElem?_getD,List.getElem?_eq_getElem h];rfl
 conv=>lhs;rw[h1,nv_append,h2,List.length_take,Nat.min_eq_left (by omega)]
 rw[h3];rfl
theorem low_form {x i c m:Nat} {xs:List Nat} (dx:Dg 18446744073709551616 x xs) (hz:∀j,j<i->xs.getD j 0=0) (hi:i<xs.length) (hv:xs.getD i 0=2 ^ c*(2*m+1)) (hc:c<64):∃q,x=2 ^ (64*i+c)*(2*q+1):=by
 refine⟨m+2 ^ (63-c)*nv 18446744073709551616 (xs.drop (i+1)),?_⟩
 rw[<-dx.1,nv_split _ xs i hi,nv_zeros_below hz i (Nat.le_refl _),Nat.zero_add,pow64,hv,Nat.pow_add,Nat.mul_assoc]
 congr 1
 generalize nv 18446744073709551616 (xs.drop (i+1))=r
 have e:(18446744073709551616:Nat)=2 ^ c*(2*2 ^ (63-c)):=by
  rw[<-Nat.pow_succ',<-Nat.pow_add,show c+(63-c).succ=64 by omega]
 rw[e,Nat.mul_assoc,<-Nat.mul_add,Nat.mul_add 2 m,Nat.mul_assoc 2]
 congr 1
 omega
theorem ctz_form {x:Nat} (h0:0<x) (h:x<18446744073709551616):∃m,x=2 ^ Lib.ctz 64 x*(2*m+1)/\Lib.ctz 64 x<64:=by
 have:=Lib.ctzFrom_spec 64 x h0 h
 have e:Lib.ctz 64 x=Lib.ctzFrom 64 x:=by unfold Lib.ctz;rw[if_neg (by omega)]
 rw[e];exact this
theorem lowNoughts59 (ad:Option Addr) (n cap x:Nat) (w:World) (hl:Lim w ad n cap 18446744073709551616 x) (h0:0<x) (hn:n<=1099511627776) (hT:TabAt 2 Lib.deBruijn64tab w) :
  Calls Tryz.prog 175 #[.slice ad n cap] w fun e w'=>∃t q:Nat,e = .returned (.int .i64 (t:Int))/\x=2 ^ t*(2*q+1)/\t<64*n/\Gr w w':=by
 obtain⟨xs,rx,dx⟩:=hl
 have hn0:0<n:=Nat.pos_of_ne_zero fun e=>by
  have:=(dx.zero_iff (by omega)).1 (by rw[rx.len];exact e)
  omega
 obtain⟨b,off,rfl,hb,hc⟩:=rx.cells hn0
 have R:=rx.le
 have M:=rx.max
 have HC:Hid (∀j,j<n->w.cell? ⟨b,off+j,none⟩=some (.int .u64 ((xs.getD j 0:Nat):Int))):=hc
 have DX:Hid (Dg 18446744073709551616 x xs):=dx
 have HLEN:Hid (xs.length=n):=rx.len
 have HT:Hid (TabAt 2 Lib.deBruijn64tab w):=hT
 have HX0:Hid (0<x):=h0
 clear hc dx rx hT h0
 go_enter Tryz.func175,Tryz.ntmps175
 go_wp2
 go_loop [3] (fun t=>∃k:Nat,k<n/\t = .int .i64 k/\Hid (∀j,j<k->xs.getD j 0=0)) (fun t=>n-(intOf t).toNat)
 case atStart=>exact⟨0,hn0,rfl,fun i a=>absurd a (by omega)⟩
 case round =>
  obtain⟨k,hk,rfl,hz⟩:=hrel
  have hcell:=HC.out k hk
  by_cases hx:xs.getD k 0=0
  ·have hz':∀j,j<k+1->xs.getD j 0=0:=fun j hj=>if e:j=k then e ▸ hx else hz.out j (by omega)
   have hk1:k+1<n:=Nat.lt_of_not_le fun hle=>by
    have:=nv_zeros_below (B:=18446744073709551616) hz' (k+1) (Nat.le_refl _)
    rw[nv_take_all _ _ _ (by rw[HLEN.out];exact hle),DX.out.1] at this
    have:=HX0.out
    omega
   rw[hx] at hcell
   go_wp2
   go_round
   case rel=>exact⟨k+1,hk1,by go_num,hz'⟩
   case measure=>simp only[intOf];omega
  ·have hv:=getD_lt (by omega) DX.out.2.1 k
   obtain⟨m,hm,hc64⟩:=ctz_form (Nat.pos_of_ne_zero hx) hv
   obtain⟨q,hq⟩:=low_form DX.out hz.out (by rw[HLEN.out];exact hk) hm hc64
   have Q:Hid (x=2 ^ (64*k+Lib.ctz 64 (xs.getD k 0))*(2*q+1)):=hq
   have HZ:Hid (∀w1,Gr w w1->Calls Tryz.prog 64 #[.int .u64 ((xs.getD k 0:Nat):Int)] w1 fun e w'=>e = .returned (.int .i64 (Lib.ctz 64 (xs.getD k 0):Int))/\w'=w1):=fun w1 g=>tz76 _ hv (Nat.pos_of_ne_zero hx) w1 (tab_gr HT.out g)
   clear hq hm hz
   generalize Lib.ctz 64 (xs.getD k 0)=c at *
   generalize xs.getD k 0=v at *
   have hv0:(((v:Nat):Int)==0)=false:=by simp;omega
   have E:Hid (64*(k:Int)+(c:Int)=((64*k+c:Nat):Int)):=by show _=_;omega
   go_wp2_with (go_at_call 64;with_reducible refine(HZ.out _ ⟨rfl,rfl,Nat.le_refl _,fun _ _=>rfl⟩).mono ?_;rintro e w' ⟨rfl,rfl⟩)
   go_ret
   refine⟨64*k+c,q,ret_i64 ?_,Q.out,by omega,?_⟩
   ·rw[<-E.out]
   ·first|exact Gr.refl _|exact(Gr.refl _).drew|exact⟨rfl,rfl,Nat.le_refl _,fun _ _=>rfl⟩
set_option maxHeartbeats 800000 in
theorem compare54 (ad1 ad2:Option Addr) (n1 n2 c1 c2 x y:Nat) (w:World) (hx:Lim w ad1 n1 c1 18446744073709551616 x) (hy:Lim w ad2 n2 c2 18446744073709551616 y) (b1:n1<=1099511627776) (b2:n2<=1099511627776) :
  Calls Tryz.prog 176 #[.slice ad1 n1 c1,.slice ad2 n2 c2] w fun e w'=>e = .returned (.int .i64 (cmpI (x:Int) (y:Int)))/\Gr w w':=by
 obtain⟨xs,rx,dx⟩:=hx
 obtain⟨ys,ry,dy⟩:=hy
 by_cases hm:n1=n2
 case neg =>
  have E:Hid (cmpI (n1:Int) (n2:Int)=cmpI (x:Int) (y:Int)):=by
   show _=_
   rcases Nat.lt_or_gt_of_ne hm with h|h
   ·have:=dx.lt_of_len (by omega) dy (by rw[rx.len,ry.len];exact h)
    rw[cmpI_lt (by omega),cmpI_lt (by omega)]
   ·have:=dy.lt_of_len (by omega) dx (by rw[rx.len,ry.len];exact h)
    rw[cmpI_gt (by omega),cmpI_gt (by omega)]
  have hne:((n1:Int) != (n2:Int))=true:=by simp;omega
  clear rx ry dx dy
  go_enter Tryz.func176,Tryz.ntmps176
  go_wp2_with (go_at_call 182;refine(cmpI58 _ _ _).mono ?_;rintro e w' ⟨rfl,rfl⟩)
  go_ret
  exact⟨ret_i64 E.out,Gr.refl _⟩
 case pos =>
  subst hm
  have RX:Hid (Row w ad1 n1 c1 xs):=rx
  have RY:Hid (Row w ad2 n1 c2 ys):=ry
  have DX:Hid (Dg 18446744073709551616 x xs):=dx
  have DY:Hid (Dg 18446744073709551616 y ys):=dy
  clear rx ry dx dy
  go_enter Tryz.func176,Tryz.ntmps176
  go_wp2
  go_loopw [5] (fun i wr=>∃k:Nat,k<=n1/\i = .int .i64 ((k:Int)-1)/\Hid (∀j,k<=j->j<n1->xs.getD j 0=ys.getD j 0)/\Hid (Gr w wr)) (fun i _=>(intOf i+1).toNat)
  case atStart=>exact⟨n1,by omega,rfl,(fun j a b=>absurd b (by omega)),Gr.refl _⟩
  case round =>
   obtain⟨k,hk,rfl,he,hg⟩:=hrel
   by_cases hk0:k=0
   ·subst hk0
    have exy:x=y:=by
     rw[<-DX.out.1,<-DY.out.1,ext_getD (xs:=xs) (ys:=ys) (by rw[RX.out.len,RY.out.len]) (fun j hj=>he.out j (by omega) (by rw[<-RX.out.len];exact hj))]
    have e:Hid ((0:Int)=cmpI (x:Int) (y:Int)):=by
     show _=_
     rw[cmpI_eq (by omega)]
    clear exy
    go_wp2
    go_ret
    exact⟨ret_i64 e.out,hg.out⟩
   ·obtain⟨p1,o1,rfl,hb1,hc1⟩:=RX.out.lt (by omega)
    obtain⟨p2,o2,rfl,hb2,hc2⟩:=RY.out.lt (by omega)
    have hcell1:=hc1 wr hg.out (k-1) (by omega)
    have hcell2:=hc2 wr hg.out (k-1) (by omega)
    obtain⟨xk,hxk⟩:∃xk,xk=xs.getD (k-1) 0:=⟨_,rfl⟩
    obtain⟨yk,hyk⟩:∃yk,yk=ys.getD (k-1) 0:=⟨_,rfl⟩
    rw[<-hxk] at hcell1
    rw[<-hyk] at hcell2
    have HX:Hid (xk=xs.getD (k-1) 0/\yk=ys.getD (k-1) 0):=⟨hxk,hyk⟩
    clear hxk hyk hc1 hc2
    have hlt:(k:Int)-1<(n1:Int):=by omega
    by_cases h:xk=yk
    ·subst h
     have HE:Hid (∀j,k-1<=j->j<n1->xs.getD j 0=ys.getD j 0):=fun j h1 h2=>if e:j=k-1 then by rw[e,<-HX.out.1,<-HX.out.2] else he.out j (by omega) h2
     go_wp2
     go_quiet (fail)
     go_wp2
     go_roundw
     case rel=>exact⟨k-1,by omega,by go_num,HE.out,by first|exact hg.out|exact hg.out.drewN _|exact(hg.out.drewN _).drewN _⟩
     case measure=>simp only[intOf];omega
    ·have e:Hid (cmpI (xk:Int) (yk:Int)=cmpI (x:Int) (y:Int)):=by
      show _=_
      rcases Nat.lt_or_gt_of_ne h with h|h
      ·have:=nv_cmp_top xs ys DX.out.2.1 DY.out.2.1 (by rw[RX.out.len,RY.out.len]) (k-1) (by rw[RX.out.len];omega) (fun j h1 h2=>he.out j (by omega) (by rw[<-RX.out.len];exact h2)) (by rw[<-HX.out.1,<-HX.out.2];exact h)
       rw[DX.out.1,DY.out.1] at this
       rw[cmpI_lt (by omega),cmpI_lt (by omega)]
      ·have:=nv_cmp_top ys xs DY.out.2.1 DX.out.2.1 (by rw[RX.out.len,RY.out.len]) (k-1) (by rw[RY.out.len];omega) (fun j h1 h2=>(he.out j (by omega) (by rw[<-RY.out.len];exact h2)).symm) (by rw[<-HX.out.1,<-HX.out.2];exact h)
       rw[DX.out.1,DY.out.1] at this
       rw[cmpI_gt (by omega),cmpI_gt (by omega)]
     have h':((xk:Int) != (yk:Int))=true:=by simp;omega
     go_wp2
     go_quiet (fail)
     go_wp2
     generalize hwq:wr.drewN nq=wq
     have hq1:wq.cell? ⟨p1,o1+(k-1),none⟩=some (.int .u64 (xk:Int)):=by rw[<-hwq];exact hcell1
     have hq2:wq.cell? ⟨p2,o2+(k-1),none⟩=some (.int .u64 (yk:Int)):=by rw[<-hwq];exact hcell2
     have HG:Hid (Gr w wq):=by rw[<-hwq];exact hg.out.drewN _
     have D2:Hid (∀n,Calls Tryz.prog 183 #[.int .u64 (xk:Int),.int .u64 (yk:Int)] (wq.drewN n) fun e w'=>e = .returned (.int .i64 (cmpI (xk:Int) (yk:Int)))/\w'=wq.drewN n):=fun n=>cmpU71 _ _ _
     clear hwq hcell1 hcell2
     go_quiet ((go_at_call 183;exact Calls.quiet_of_same (D2.out _)))
     go_wp2
     go_ret
     exact⟨ret_i64 e.out,HG.out.drewN _⟩
theorem made_u64 (n:Nat):(madeCells (Value.int .u64 0).cells (n*1)).toList=u64s (List.replicate n 0):=by
 rw[Nat.mul_one]
 refine List.ext_getElem (by rw[Array.length_toList,size_madeCells,u64s_length,List.length_replicate]) fun i h1 h2=>?_
 simp[madeCells,u64s,Value.cells,Nat.mod_one]
theorem wpList_made {w:World} {ops:Array Oper} {rest:List Oper} {o:Oper} {a:Act} {Q:Exit->Act->World->Prop} (hgd:o.guard=none) (l c:Operand)
  (hop:o.op=Op.makeSlice 97 l c) (n:Nat) (L:Int) (hl:a.eval l = .int .i64 L) (hc:a.eval c = .int .i64 L) (hL:L=(n:Int)) (hn:n<=4398046511104)
  (hK:∀w',w'.ownsRow w.heap.size 39 1 (.slice (some ⟨w.heap.size,0,none⟩) n n) n (u64s (List.replicate n 0))->Gr w w'->wpList Tryz.prog ops Q rest (a.put o.dst (.slice (some ⟨w.heap.size,0,none⟩) n n)) w') :
  wpList Tryz.prog ops Q (o :: rest) a w:=by
 obtain⟨i0,hi,hz0,hz1,hz2⟩:=info_parts Tryz.info39
 refine wpList_make_full w hgd l c 97 hop w.heap.size 39 i0 (.int .u64 0) 1 Tryz.underlying97 hi hz0 hz1 .i64 .i64 L L n hl hc hL hL (by rw[hz2];omega) (by unfold maxLen;omega) (Nat.le_refl _) ?_
 intro w' hown hgr
 rw[made_u64] at hown
 exact hK w' hown ((Gr.refl w).grown hgr (fun k h=>by cases h))
theorem owns_cell {w:World} {base:Nat} {g N:Nat} {zs:List Nat} (h:w.ownsRow base 39 1 (.slice (some ⟨g,0,none⟩) N N) N (u64s zs)) (j:Nat) (hj:j<N):w.cell? ⟨g,j,none⟩=some (.int .u64 ((zs.getD j 0:Nat):Int)):=by
 have hl:zs.length=N:=by have:=h.1;rw[u64s_length] at this;omega
 rw[h.cellAt j (by omega),u64s_getD (by omega)]
theorem owns_set {w:World} {base:Nat} {g N:Nat} {zs:List Nat} (h:w.ownsRow base 39 1 (.slice (some ⟨g,0,none⟩) N N) N (u64s zs)) (j v:Nat):(w.setCell ⟨g,j,none⟩ (.int .u64 (v:Int))).ownsRow base 39 1 (.slice (some ⟨g,0,none⟩) N N) N (u64s (zs.set j v)):=by
 have:=(h.stored j (.int .u64 (v:Int))).1
 rw[show u64s (zs.set j v)=(u64s zs).set j (.int .u64 (v:Int)) by simp[u64s]]
 exact this
theorem owns_len {w:World} {base:Nat} {g N:Nat} {zs:List Nat} (h:w.ownsRow base 39 1 (.slice (some ⟨g,0,none⟩) N N) N (u64s zs)):zs.length=N:=by
 have:=h.1;rw[u64s_length] at this;omega
theorem or_add {r a b:Nat} (ha:a<2 ^ r):a ||| (b*2 ^ r)=a+b*2 ^ r:=by
 rw[Nat.or_comm,Nat.mul_comm,<-Nat.two_pow_add_eq_or_of_lt ha,Nat.add_comm]
theorem shl_mod {r x:Nat} (hr:r<64) (hx:x<18446744073709551616):x*2 ^ r % 18446744073709551616=x % 2 ^ (64-r)*2 ^ r:=by
 have e:(18446744073709551616:Nat)=2 ^ (64-r)*2 ^ r:=by rw[<-Nat.pow_add,show 64-r+r=64 by omega]
 rw[e,Nat.mul_mod_mul_right]
theorem shl_parts {r x:Nat} (hr:r<64) (hx:x<18446744073709551616):x*2 ^ r % 18446744073709551616+18446744073709551616*(x / 2 ^ (64-r))=x*2 ^ r:=by
 rw[shl_mod hr hx]
 have e:(18446744073709551616:Nat)=2 ^ r*2 ^ (64-r):=by rw[<-Nat.pow_add,show r+(64-r)=64 by omega]
 have h1:x % 2 ^ (64-r)+2 ^ (64-r)*(x / 2 ^ (64-r))=x:=Nat.mod_add_div _ _
 generalize x % 2 ^ (64-r)=a at *
 generalize x / 2 ^ (64-r)=b at *
 rw[<-h1,e,Nat.add_mul]
 congr 1
 ac_rfl
theorem shr_lt {r x:Nat} (hr:r<64) (hx:x<18446744073709551616):x / 2 ^ (64-r)<2 ^ r:=by
 refine Nat.div_lt_of_lt_mul ?_
 rw[<-Nat.pow_add,show 64-r+r=64 by omega]
 exact hx
theorem up_round {xs zs:List Nat} {k q r x o P:Nat} (hr:r<64) (hx:x<18446744073709551616) (hj:k+q+1<zs.length) (hxk:x=xs.getD k 0) (ho:o=zs.getD (k+q) 0) (ho1:o<2 ^ r) (h0:zs.getD (k+q+1) 0=0)
  (h:nv 18446744073709551616 zs=2 ^ (64*q+r)*nv 18446744073709551616 (xs.take k)) :
  nv 18446744073709551616 ((zs.set (k+q) (o+x*2 ^ r % 18446744073709551616)).set (k+q+1) (x / 2 ^ (64-r)))=2 ^ (64*q+r)*nv 18446744073709551616 (xs.take (k+1)):=by
 have e:=shl_parts hr hx
 have e2:2 ^ (64*q+r)*(18446744073709551616 ^ k*x)=18446744073709551616 ^ (k+q)*(x*2 ^ r):=by
  rw[Nat.pow_add 2,<-pow64,Nat.pow_add];ac_rfl
 generalize x*2 ^ r % 18446744073709551616=low at *
 generalize x / 2 ^ (64-r)=high at *
 have s1:=nv_set 18446744073709551616 zs (k+q) (o+low) (by omega)
 have s2:=nv_set 18446744073709551616 (zs.set (k+q) (o+low)) (k+q+1) high (by rw[List.length_set];omega)
 rw[getD_set _ _ _ _ (by omega),if_neg (by omega),h0,Nat.mul_zero,Nat.add_zero] at s2
 rw[<-ho,Nat.mul_add] at s1
 rw[s2,nv_take_succ,<-hxk,Nat.mul_add,<-h,Nat.pow_succ,e2,<-e,Nat.mul_add,Nat.mul_assoc]
 omega
structure UpAt (xs zs:List Nat) (k q r N:Nat):Prop where
 len:zs.length=N
 lt:∀x∈zs,x<18446744073709551616
 val:nv 18446744073709551616 zs=2 ^ (64*q+r)*nv 18446744073709551616 (xs.take k)
 zero:∀j,k+q<j->zs.getD j 0=0
 edge:zs.getD (k+q) 0<2 ^ r
theorem UpAt.start {xs:List Nat} {q r N:Nat}:UpAt xs (List.replicate N 0) 0 q r N:=
 ⟨by simp,(fun x hx=>by rw[List.mem_replicate] at hx;omega),by simp[nv,nv_zeros],(fun j _=>by rw[List.getD_eq_getElem?_getD,List.getElem?_replicate];split <;> rfl),by
  have:(List.replicate N 0).getD (0+q) 0=0:=by rw[List.getD_eq_getElem?_getD,List.getElem?_replicate];split <;> rfl
  rw[this];exact Nat.two_pow_pos r⟩
theorem UpAt.next {xs zs:List Nat} {k q r N x o:Nat} (h:UpAt xs zs k q r N) (hr:r<64) (hx:x<18446744073709551616) (hj:k+q+1<N) (hxk:x=xs.getD k 0) (ho:o=zs.getD (k+q) 0) :
  UpAt xs ((zs.set (k+q) (o+x*2 ^ r % 18446744073709551616)).set (k+q+1) (x / 2 ^ (64-r))) (k+1) q r N:=by
 have ho1:o<2 ^ r:=ho ▸ h.edge
 have hl:=h.len
 refine⟨by rw[List.length_set,List.length_set];exact h.len,set_lt (set_lt h.lt ?_) ?_,?_,?_,?_⟩
 ·rw[shl_mod hr hx]
  have e:(18446744073709551616:Nat)=2 ^ (64-r)*2 ^ r:=by rw[<-Nat.pow_add,show 64-r+r=64 by omega]
  have h1:(x % 2 ^ (64-r)+1)*2 ^ r<=2 ^ (64-r)*2 ^ r:=Nat.mul_le_mul_right _ (Nat.mod_lt _ (Nat.two_pow_pos _))
  rw[<-e,Nat.add_mul] at h1
  omega
 ·exact Nat.lt_of_le_of_lt (Nat.div_le_self _ _) hx
 ·exact up_round (P:=0) hr hx (by omega) hxk ho ho1 (h.zero _ (by omega)) h.val
 ·intro j hjj
  rw[getD_set _ _ _ _ (by rw[List.length_set];omega),if_neg (by omega),getD_set _ _ _ _ (by omega),if_neg (by omega)]
  exact h.zero j (by omega)
 ·rw[show k+1+q=k+q+1 by omega,getD_set _ _ _ _ (by rw[List.length_set];omega),if_pos rfl]
  exact shr_lt hr hx
theorem or_limb {o x r:Nat} (hr:r<64) (hx:x<18446744073709551616) (ho:o<2 ^ r):bits .or .u64 (o:Int) (((x*2 ^ r % 18446744073709551616:Nat)):Int)=((o+x*2 ^ r % 18446744073709551616:Nat):Int):=by
 have h1:2 ^ r<=2 ^ 63:=Nat.pow_le_pow_right (by omega) (by omega)
 rw[bits_or_u64_nat _ _ (by omega) (by omega),shl_mod hr hx,or_add ho]
set_option maxHeartbeats 1600000 in
theorem shiftUp53 (ad:Option Addr) (n1 c1 x n:Nat) (w:World) (hx:Lim w ad n1 c1 18446744073709551616 x) (b1:n1<=1099511627776) (hn:n<=68719476736) :
  Calls Tryz.prog 173 #[.slice ad n1 c1,.int .i64 (n:Int)] w fun e w'=>∃ad' n' cap',e = .returned (.slice ad' n' cap')/\n'<=n1+n / 64+1/\Lim w' ad' n' cap' 18446744073709551616 (x*2 ^ n)/\Gr w w':=by
 obtain⟨xs,rx,dx⟩:=hx
 have RX:Hid (Row w ad n1 c1 xs):=rx
 have DX:Hid (Dg 18446744073709551616 x xs):=dx
 clear rx dx
 obtain⟨q,hq⟩:∃q,q=n / 64:=⟨_,rfl⟩
 obtain⟨r,hr⟩:∃r,r=n % 64:=⟨_,rfl⟩
 have hr64:r<64:=by omega
 have hnq:n=64*q+r:=by omega
 have eq:(n:Int) / 64=(q:Int):=by omega
 have er:(n:Int) % 64=(r:Int):=by omega
 have hqn:q<=1073741824:=by omega
 rw[<-hq]
 have HN:Hid (n=64*q+r):=hnq
 clear hq hr hnq
 go_enter Tryz.func173,Tryz.ntmps173
 go_wp2_with (first|(simp only[er])|(at_make;refine wpList_made rfl _ _ rfl (n1+q+1) _ rfl rfl ?_ ?_ ?_;rotate_right;intro w2 hown0 hg2))
 case' refine_1=>omega
 case' refine_2=>omega
 have G2:Hid (Gr w w2):=hg2
 clear hg2
 go_loopw [22] (fun i wr=>∃(k:Nat) (zs:List Nat),k<=n1/\i = .int .i64 (k:Int)/\wr.ownsRow w.heap.size 39 1 (.slice (some ⟨w.heap.size,0,none⟩) (n1+q+1) (n1+q+1)) (n1+q+1) (u64s zs)/\Hid (UpAt xs zs k q r (n1+q+1))/\Hid (Gr w wr)) (fun i _=>n1-(intOf i).toNat)
 case atStart=>exact⟨0,List.replicate (n1+q+1) 0,by omega,rfl,hown0,UpAt.start,G2⟩
 case round =>
  obtain⟨k,zs,hk,rfl,hown,hU,hg⟩:=hrel
  by_cases hlt:k<n1
  ·obtain⟨p1,o1,rfl,hp1,hc1⟩:=RX.out.lt (by omega)
   have hcell1:=hc1 wr hg.out k hlt
   have hcell2:=owns_cell hown (k+q) (by omega)
   have hfz2:=hown.frozenAt (k+q)
   obtain⟨xk,hxk⟩:∃xk,xk=xs.getD k 0:=⟨_,rfl⟩
   obtain⟨ok,hok⟩:∃ok,ok=zs.getD (k+q) 0:=⟨_,rfl⟩
   rw[<-hxk] at hcell1
   rw[<-hok] at hcell2
   have bxk:xk<18446744073709551616:=hxk ▸ getD_lt (by omega) DX.out.2.1 k
   have i1:(k:Int)<(n1:Int):=by omega
   have i2:(k:Int)+(q:Int)<(n1:Int)+(q:Int)+1:=by omega
   have i3:(k:Int)+(q:Int)+1<(n1:Int)+(q:Int)+1:=by omega
   have HX:Hid (xk=xs.getD k 0/\ok=zs.getD (k+q) 0):=⟨hxk,hok⟩
   have OR:Hid (bits .or .u64 (ok:Int) (IntKind.u64.wrap ((xk:Int)*2 ^ r))=((ok+xk*2 ^ r % 18446744073709551616:Nat):Int)):=by
    show _=_
    rw[<-or_limb hr64 bxk (hok ▸ hU.out.edge),IntKind.wrap_u64,Int.natCast_emod,Int.natCast_mul,Int.natCast_pow]
    rfl
   have SH:Hid ((xk:Int) / 2 ^ (64-r)=((xk / 2 ^ (64-r):Nat):Int)):=by
    show _=_
    rw[Int.natCast_ediv,Int.natCast_pow]
    rfl
   clear hxk hok hc1
   go_wp2
   go_region
   rw[OR.out]
   have hown1:=owns_set hown (k+q) (ok+xk*2 ^ r % 18446744073709551616)
   have hg1:=(hg.out.setCell (p:=⟨w.heap.size,k+q,none⟩) (Nat.le_refl _) (.int .u64 ((ok+xk*2 ^ r % 18446744073709551616:Nat):Int))).drew
   generalize hwq:(wr.setCell ⟨w.heap.size,k+q,none⟩ (.int .u64 ((ok+xk*2 ^ r % 18446744073709551616:Nat):Int))).drew=wq at *
   have hown2:wq.ownsRow w.heap.size 39 1 (.slice (some ⟨w.heap.size,0,none⟩) (n1+q+1) (n1+q+1)) (n1+q+1) (u64s (zs.set (k+q) (ok+xk*2 ^ r % 18446744073709551616))):=by rw[<-hwq];exact hown1
   clear hown hown1 hcell2 hfz2 hcell1
   have hcell3:=owns_cell hown2 (k+q+1) (by omega)
   have hfz3:=hown2.frozenAt (k+q+1)
   have G1:Hid (Gr w wq):=hg1
   clear hg1 hg hwq
   go_wp2
   rw[SH.out]
   go_roundw
   case rel=>exact⟨k+1,_,by omega,by go_num,owns_set hown2 (k+q+1) (xk / 2 ^ (64-r)),hU.out.next hr64 bxk (by omega) HX.out.1 HX.out.2,G1.out.setCell (Nat.le_refl _) _⟩
   case measure=>simp only[intOf];omega
  ·have hkm:k=n1:=by omega
   subst hkm
   obtain⟨ad',cap',hEq,hrow⟩:=Row.of_owns hown
   simp only[Value.slice.injEq,true_and] at hEq
   obtain⟨rfl,rfl⟩:=hEq
   have fin:Hid (nv 18446744073709551616 zs=x*2 ^ n):=by
    show _=_
    rw[hU.out.val,nv_take_all _ xs _ (by rw[RX.out.len];exact Nat.le_refl _),DX.out.1,HN.out,Nat.mul_comm]
   have HT:Hid (Calls Tryz.prog 174 #[.slice (some ⟨w.heap.size,0,none⟩) (k+q+1) (k+q+1)] wr fun e w'=>∃j,e = .returned (.slice (some ⟨w.heap.size,0,none⟩) j (k+q+1))/\j<=k+q+1/\Lim wr (some ⟨w.heap.size,0,none⟩) j (k+q+1) 18446744073709551616 (x*2 ^ n)/\w'=wr):=by
    refine(trim57 _ _ _ zs wr hrow).mono ?_
    rintro e w' ⟨j,rfl,hj,hz,ht,rfl⟩
    refine⟨j,rfl,hj,?_,rfl⟩
    have:=trim_out hrow hU.out.lt hj hz ht
    rw[fin.out] at this
    exact this
   clear hrow hown
   go_wp2_with (go_at_call 174;with_reducible refine HT.out.mono ?_;rintro e w' ⟨j,rfl,hj,hl,rfl⟩)
   go_ret
   exact⟨_,_,_,rfl,hj,hl,hg.out⟩
end Go.Proofs.YtibckeckjfmbkaaGreatDoor
