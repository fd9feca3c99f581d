import Derived.Test.YtbcocfhfhblhcaaGreatDoorS02
import Derived.Test.YtbcocfhfhblhcaaGreatDoorRows
import Derived.Laws.AppendOwnNone
import Derived.LoopTactic
import Derived.Deep.RegionLaw
import Derived.Shelf.Small.Bits
import Derived.Shelf.Strconv.Itoa0
import Derived.Shelf.Bits.Mul64
import Derived.Test.YtbcocfhfhblhcaaGreatDoorProg
import Derived.Laws.Externs
import Derived.Shelf.Spec.TrailingZeros
import Derived.Deep.QuietTactic
import Derived.BigQuiet
namespace Go.Proofs.YtbcocfhfhblhcaaGreatDoor
open Go.RowKit
set_option linter.unusedVariables false
theorem Tryz.info85:(Tryz.prog.info? 85).map (fun i=>(i.zero,i.size,i.bytes))=some (some (.int .u64 0),1,8):=by kernel_rfl
theorem trim57 (ad:Option Addr) (n cap:Nat) (xs:List Nat) (w:World) (h:Row w ad n cap xs) :
  Calls Tryz.prog 222 #[.slice ad n cap] w fun e w'=>∃ k,e = .returned (.slice ad k cap)/\k<=n/\(∀ i,k<=i->i<n->xs.getD i 0=0)/\(k=0\/xs.getD (k-1) 0≠0)/\w'=w:=by
 have h1:=h.le
 have h2:=h.max
 have H:Hid (Row w ad n cap xs):=h
 clear h
 go_enter Tryz.func222,Tryz.ntmps222
 go_wp2
 go_loop [3] (fun t=>∃ k:Nat,k<=n/\t = .int .i64 k/\Hid (∀ i,k<=i->i<n->xs.getD i 0=0)) (fun t=>(intOf t).toNat)
 case atStart=>exact ⟨n,Nat.le_refl _,rfl,fun i a b=>absurd b (by omega)⟩
 case round =>
  obtain ⟨k,hk,rfl,hz⟩:=hrel
  by_cases hk0:k=0
  ·subst hk0
   go_wp2
   go_ret
   exact ⟨0,rfl,by omega,hz.out,Or.inl rfl,rfl⟩
  ·obtain ⟨b,off,rfl,hb,hc⟩:=H.out.cells (by omega)
   have hcell:=hc (k-1) (by omega)
   clear hc
   by_cases hx:xs.getD (k-1) 0=0
   ·rw [hx] at hcell
    go_wp2
    go_round
    case rel=>exact ⟨k-1,by omega,by go_num,fun i a b=>if e:i=k-1 then e ▸ hx else hz.out i (by omega) b⟩
    case measure=>simp [intOf];omega
   ·have HX:Hid (xs.getD (k-1) 0≠0):=hx
    generalize hv:xs.getD (k-1) 0=v at hcell hx
    have hv0:(((v:Nat):Int)==0)=false:=by simp;omega
    clear hv hx
    go_wp2
    go_ret
    exact ⟨k,rfl,hk,hz.out,Or.inr HX.out,rfl⟩
theorem trim_out {w:World} {ad:Option Addr} {n cap k:Nat} {xs:List Nat} {B:Nat} (h:Row w ad n cap xs) (hx:∀ x∈xs,x<B) (hk:k<=n) (h0:∀ i,k<=i->i<n->xs.getD i 0=0) (h1:k=0\/xs.getD (k-1) 0≠0):Lim w ad k cap B (nv B xs):=
 ⟨xs.take k,h.take k hk,trim_dg hx (by rw [h.len];exact hk) (fun i a b=>h0 i a (by rw [<-h.len];exact b)) h1⟩
theorem cells_u64 {w:World} {b off n:Nat} {xs:List Nat} (h:∀ j,j<n->w.cell? ⟨b,off+j,none⟩=some (.int .u64 ((xs.getD j 0:Nat):Int))) (k:Nat) (hk:k<=n) (hl:xs.length=n):∀ j u,(u64s (xs.take k))[j]? = some u->w.cell? ⟨b,off+j,none⟩=some u:=by
 intro j u hu
 have hj:j<(xs.take k).length:=by
  refine Nat.lt_of_not_le fun hle=>?_
  rw [List.getElem?_eq_none (by rw [u64s_length];exact hle)] at hu
  cases hu
 have hjk:j<k:=by rw [List.length_take] at hj;omega
 rw [u64s_getD hj] at hu
 injection hu with hu
 rw [<-hu]
 rw [h j (by omega),List.getD_eq_getElem?_getD,List.getD_eq_getElem?_getD,List.getElem?_take_of_lt hjk]
theorem one_u64 (xs:List Nat):∀ u∈u64s xs,u.oneCell'=true:=by
 intro u hu
 unfold u64s at hu
 rw [List.mem_map] at hu
 obtain ⟨x,_,rfl⟩:=hu
 rfl
theorem nanI75 (x:Int) (w:World):Calls Tryz.prog 236 #[.int .i64 x] w fun e w'=>e = .returned (.bool false)/\w'=w:=by
 go_enter Tryz.func236,Tryz.ntmps236
 go_wp2
 go_ret
 exact ⟨by simp,rfl⟩
theorem nanU82 (x:Int) (w:World):Calls Tryz.prog 237 #[.int .u64 x] w fun e w'=>e = .returned (.bool false)/\w'=w:=by
 go_enter Tryz.func237,Tryz.ntmps237
 go_wp2
 go_ret
 exact ⟨by simp,rfl⟩
def cmpI (x y:Int):Int:=if x<y then -1 else if y<x then 1 else 0
theorem cmpI_lt {x y:Int} (h:x<y):cmpI x y = -1:=by unfold cmpI;rw [if_pos h]
theorem cmpI_gt {x y:Int} (h:y<x):cmpI x y=1:=by unfold cmpI;rw [if_neg (by omega),if_pos h]
theorem cmpI_eq {x y:Int} (h:x=y):cmpI x y=0:=by unfold cmpI;rw [if_neg (by omega),if_neg (by omega)]
theorem cmpI58 (x y:Int) (w:World):Calls Tryz.prog 229 #[.int .i64 x,.int .i64 y] w fun e w'=>e = .returned (.int .i64 (cmpI x y))/\w'=w:=by
 rcases (show x<y\/(¬ x<y/\y<x)\/(¬ x<y/\¬ y<x) by omega) with h | ⟨h,h'⟩ | ⟨h,h'⟩
 ·rw [cmpI_lt h]
  go_enter Tryz.func229,Tryz.ntmps229
  go_wp2_with (go_at_call 236;refine (nanI75 _ _).mono ?_;rintro e w' ⟨rfl,rfl⟩)
  go_ret
  exact ⟨rfl,rfl⟩
 ·rw [cmpI_gt h']
  go_enter Tryz.func229,Tryz.ntmps229
  go_wp2_with (go_at_call 236;refine (nanI75 _ _).mono ?_;rintro e w' ⟨rfl,rfl⟩)
  go_ret
  exact ⟨rfl,rfl⟩
 ·rw [cmpI_eq (by omega)]
  go_enter Tryz.func229,Tryz.ntmps229
  go_wp2_with (go_at_call 236;refine (nanI75 _ _).mono ?_;rintro e w' ⟨rfl,rfl⟩)
  go_ret
  exact ⟨rfl,rfl⟩
theorem cmpU71 (x y:Int) (w:World):Calls Tryz.prog 230 #[.int .u64 x,.int .u64 y] w fun e w'=>e = .returned (.int .i64 (cmpI x y))/\w'=w:=by
 rcases (show x<y\/(¬ x<y/\y<x)\/(¬ x<y/\¬ y<x) by omega) with h | ⟨h,h'⟩ | ⟨h,h'⟩
 ·rw [cmpI_lt h]
  go_enter Tryz.func230,Tryz.ntmps230
  go_wp2_with (go_at_call 237;refine (nanU82 _ _).mono ?_;rintro e w' ⟨rfl,rfl⟩)
  go_ret
  exact ⟨rfl,rfl⟩
 ·rw [cmpI_gt h']
  go_enter Tryz.func230,Tryz.ntmps230
  go_wp2_with (go_at_call 237;refine (nanU82 _ _).mono ?_;rintro e w' ⟨rfl,rfl⟩)
  go_ret
  exact ⟨rfl,rfl⟩
 ·rw [cmpI_eq (by omega)]
  go_enter Tryz.func230,Tryz.ntmps230
  go_wp2_with (go_at_call 237;refine (nanU82 _ _).mono ?_;rintro e w' ⟨rfl,rfl⟩)
  go_ret
  exact ⟨rfl,rfl⟩
theorem Row.lt {w:World} {ad:Option Addr} {n cap:Nat} {xs:List Nat} (h:Row w ad n cap xs) (hp:0<n):∃ b off,ad=some ⟨b,off,none⟩/\b<w.heap.size/\∀ w',Gr w w'->∀ j,j<n->w'.cell? ⟨b,off+j,none⟩=some (.int .u64 ((xs.getD j 0:Nat):Int)):=by
 obtain ⟨b,off,e,hb,hc⟩:=h.cells hp
 exact ⟨b,off,e,hb,fun w' g j hj=>(g.cell hb).trans (hc j hj)⟩
theorem getD_out {xs:List Nat} {i:Nat} (h:xs.length<=i):xs.getD i 0=0:=by
 rw [List.getD_eq_getElem?_getD,List.getElem?_eq_none h];rfl
end Go.Proofs.YtbcocfhfhblhcaaGreatDoor
namespace Go.Proofs
open Go.Shelf
def Tryz.lays125_ren:Go.Shelf.Ren:=⟨fun | 125=>38 | 128=>71 | 129=>72 | n=>n,fun | 46=>37 | 3=>3 | 51=>110 | 53=>85 | 4=>4 | 5=>5 | 9=>9 | n=>n,fun | n=>n⟩
theorem Tryz.lays125:Go.Proofs.Lays.n125 Tryz.prog Tryz.lays125_ren:={
 mixed:=by kernel_rfl
 f125:=Tryz.func38.trans (congrArg some (by kernel_rfl))
 f128:=Tryz.func71.trans (congrArg some (by kernel_rfl))
 f129:=Tryz.func72.trans (congrArg some (by kernel_rfl))
 t3:=Tryz.underlying3
 a3:=Tryz.isAgg3
 z3:=Tryz.sizeOf3
 v3:=Tryz.zeroValue3
 t4:=Tryz.underlying4
 a4:=Tryz.isAgg4
 z4:=Tryz.sizeOf4
 v4:=Tryz.zeroValue4
 t5:=Tryz.underlying5
 a5:=Tryz.isAgg5
 z5:=Tryz.sizeOf5
 v5:=Tryz.zeroValue5
 t9:=Tryz.underlying9
 a9:=Tryz.isAgg9
 z9:=Tryz.sizeOf9
 v9:=Tryz.zeroValue9
 t46:=Tryz.underlying37
 a46:=Tryz.isAgg37
 z46:=Tryz.sizeOf37
 v46:=Tryz.zeroValue37
 t51:=Tryz.underlying110
 a51:=Tryz.isAgg110
 z51:=Tryz.sizeOf110
 v51:=Tryz.zeroValue110
 t53:=Tryz.underlying85
 a53:=Tryz.isAgg85
 z53:=Tryz.sizeOf85
 v53:=Tryz.zeroValue85}
theorem Tryz.bits_Len (x:Int) (w:World) (h0:0<=x) (h1:x<=18446744073709551615) :
  Calls Tryz.prog 38 #[.int .u64 x] w fun e w'=>e = .returned (.int .i64 (Lib.bitLen x.toNat))/\w'=w:=Any.bits_Len Tryz.lays125 x w h0 h1
def Tryz.lays134_ren:Go.Shelf.Ren:=⟨fun | 134=>233 | 129=>72 | n=>n,fun | 53=>85 | 3=>3 | 4=>4 | 46=>37 | 5=>5 | 9=>9 | n=>n,fun | n=>n⟩
theorem Tryz.lays134:Go.Proofs.Lays.n134 Tryz.prog Tryz.lays134_ren:={
 mixed:=by kernel_rfl
 f129:=Tryz.func72.trans (congrArg some (by kernel_rfl))
 f134:=Tryz.func233.trans (congrArg some (by kernel_rfl))
 t3:=Tryz.underlying3
 a3:=Tryz.isAgg3
 z3:=Tryz.sizeOf3
 v3:=Tryz.zeroValue3
 t4:=Tryz.underlying4
 a4:=Tryz.isAgg4
 z4:=Tryz.sizeOf4
 v4:=Tryz.zeroValue4
 t5:=Tryz.underlying5
 a5:=Tryz.isAgg5
 z5:=Tryz.sizeOf5
 v5:=Tryz.zeroValue5
 t9:=Tryz.underlying9
 a9:=Tryz.isAgg9
 z9:=Tryz.sizeOf9
 v9:=Tryz.zeroValue9
 t46:=Tryz.underlying37
 a46:=Tryz.isAgg37
 z46:=Tryz.sizeOf37
 v46:=Tryz.zeroValue37
 t53:=Tryz.underlying85
 a53:=Tryz.isAgg85
 z53:=Tryz.sizeOf85
 v53:=Tryz.zeroValue85}
theorem Tryz.bits_LeadingZeros64 (x:Int) (w:World) (h0:0<=x) (h1:x<=18446744073709551615) :
  Calls Tryz.prog 233 #[.int .u64 x] w fun e w'=>e = .returned (.int .i64 (64-(Lib.bitLen x.toNat:Int)))/\w'=w:=Any.bits_LeadingZeros64 Tryz.lays134 x w h0 h1
def Tryz.lays129_ren:Go.Shelf.Ren:=⟨fun | 129=>72 | n=>n,fun | 53=>85 | 3=>3 | 4=>4 | 46=>37 | 5=>5 | 9=>9 | n=>n,fun | n=>n⟩
theorem Tryz.lays129:Go.Proofs.Lays.n129 Tryz.prog Tryz.lays129_ren:={
 mixed:=by kernel_rfl
 f129:=Tryz.func72.trans (congrArg some (by kernel_rfl))
 t3:=Tryz.underlying3
 a3:=Tryz.isAgg3
 z3:=Tryz.sizeOf3
 v3:=Tryz.zeroValue3
 t4:=Tryz.underlying4
 a4:=Tryz.isAgg4
 z4:=Tryz.sizeOf4
 v4:=Tryz.zeroValue4
 t5:=Tryz.underlying5
 a5:=Tryz.isAgg5
 z5:=Tryz.sizeOf5
 v5:=Tryz.zeroValue5
 t9:=Tryz.underlying9
 a9:=Tryz.isAgg9
 z9:=Tryz.sizeOf9
 v9:=Tryz.zeroValue9
 t46:=Tryz.underlying37
 a46:=Tryz.isAgg37
 z46:=Tryz.sizeOf37
 v46:=Tryz.zeroValue37
 t53:=Tryz.underlying85
 a53:=Tryz.isAgg85
 z53:=Tryz.sizeOf85
 v53:=Tryz.zeroValue85}
theorem Tryz.bits_Len64 (x:Int) (w:World) (h0:0<=x) (h1:x<=18446744073709551615) :
  Calls Tryz.prog 72 #[.int .u64 x] w fun e w'=>e = .returned (.int .i64 (Lib.bitLen x.toNat))/\w'=w:=Any.bits_Len64 Tryz.lays129 x w h0 h1
def Tryz.lays264_ren:Go.Shelf.Ren:=⟨fun | 264=>135 | n=>n,fun | 53=>85 | 46=>37 | n=>n,fun | n=>n⟩
theorem Tryz.lays264:Go.Proofs.Lays.n264 Tryz.prog Tryz.lays264_ren:={
 mixed:=by kernel_rfl
 f264:=Tryz.func135.trans (congrArg some (by kernel_rfl))
 t46:=Tryz.underlying37
 a46:=Tryz.isAgg37
 z46:=Tryz.sizeOf37
 v46:=Tryz.zeroValue37
 t53:=Tryz.underlying85
 a53:=Tryz.isAgg85
 z53:=Tryz.sizeOf85
 v53:=Tryz.zeroValue85}
open Go.RowKit Go.Lib in
theorem Tryz.bits_Mul64 (x y:Nat) (hx:x<18446744073709551616) (hy:y<18446744073709551616) (w:World) :
  Calls Tryz.prog 135 #[.int .u64 x,.int .u64 y] w fun e w'=>e = .returned (.tuple #[.int .u64 ((x*y / 18446744073709551616:Nat):Int),.int .u64 ((x*y % 18446744073709551616:Nat):Int)])/\w'=w:=Any.bits_Mul64 Tryz.lays264 x y hx hy w
end Go.Proofs
namespace Go.Proofs.YtbcocfhfhblhcaaGreatDoor
open Go.RowKit
set_option linter.unusedVariables false
theorem add64N (x y c:Nat) (hc:c<=1) (w:World) :
  (callFunc 136 #[.int .u64 (x:Int),.int .u64 (y:Int),.int .u64 (c:Int)]).run Tryz.prog w = .ok (.value (.tuple #[.int .u64 (((x+y+c) % 18446744073709551616:Nat):Int),.int .u64 (((x+y+c) / 18446744073709551616:Nat):Int)])) w:=by
 rcases (show c=0\/c=1 by omega) with rfl | rfl <;> kernel_rfl
theorem sub64N (x y c:Nat) (hc:c<=1) (w:World) :
  (callFunc 231 #[.int .u64 (x:Int),.int .u64 (y:Int),.int .u64 (c:Int)]).run Tryz.prog w = .ok (.value (.tuple #[.int .u64 (((x+18446744073709551616-y-c) % 18446744073709551616:Nat):Int),.int .u64 (((if x<y+c then 1 else 0):Nat):Int)])) w:=by
 rcases (show c=0\/c=1 by omega) with rfl | rfl <;> kernel_rfl
theorem tz_core (x k idx:Nat) (w:World) (hx0:((x:Int)==0)=false)
  (key:IntKind.u64.wrap (bits BinOp.and IntKind.u64 (x:Int) (IntKind.u64.wrap (-(x:Int)))*285870213051353865) / 288230376151711744=(idx:Int))
  (hi:idx<64) (hk:k<64) (hcell:w.cell? ⟨2,idx,none⟩=some (.int .u8 k)) :
  Calls Tryz.prog 134 #[.int .u64 x] w fun e w'=>e = .returned (.int .i64 k)/\w'=w:=by
 go_enter Tryz.func134,Tryz.ntmps134
 go_wp2_with (simp only [key])
 go_ret
 exact ⟨rfl,rfl⟩
theorem tz76 (x:Nat) (hx:x<18446744073709551616) (hx0:0<x) (w:World) (hT:TabAt 2 Lib.deBruijn64tab w) :
  Calls Tryz.prog 134 #[.int .u64 (x:Int)] w fun e w'=>e = .returned (.int .i64 (Lib.ctz 64 x:Int))/\w'=w:=by
 obtain ⟨hlow,hk⟩:=Lib.lowest_bit 64 x (by omega) hx
 obtain ⟨hi,htab⟩:=Lib.deBruijn64_at _ hk
 have hcell:=hT _ hi
 rw [htab] at hcell
 exact tz_core x _ _ w (by simp;omega) (tz64_key x _ hx (by omega) hlow) hi hk hcell
theorem ret_i64 {a b:Int} (h:a=b):Ending.returned (.int .i64 a)=Ending.returned (.int .i64 b):=by rw [h]
theorem Gr.drewN {a w:World} (h:Gr a w) (n:Nat):Gr a (w.drewN n):=⟨h.os,h.output,h.size,h.block⟩
theorem tab_gr {w w':World} (h:TabAt 2 Lib.deBruijn64tab w) (g:Gr w w'):TabAt 2 Lib.deBruijn64tab w':=by
 intro j hj
 have:=h j hj
 rw [<-this]
 exact g.cell (lt_of_cell' this)
theorem bitLenAux_bl:∀ (f x:Nat),x<2 ^ f->Lib.bitLenAux f x=bl x
 | 0,x,h=>by
  have:x=0:=by simp at h;omega
  subst this
  rw [bl_zero];rfl
 | f+1,x,h=>by
  unfold Lib.bitLenAux
  split
  ·next h0=>rw [h0,bl_zero]
  ·next h0 =>
   rw [bl_pos (by omega),bitLenAux_bl f (x / 2) (by rw [Nat.pow_succ] at h;omega)]
   omega
theorem bitLen_bl {x:Nat} (h:x<18446744073709551616):Lib.bitLen x=bl x:=bitLenAux_bl 64 x h
theorem bl64 {x:Nat} (h:x<18446744073709551616):bl x<=64:=bl_le_of_lt h
theorem bitLength40 (ad:Option Addr) (n cap x:Nat) (w:World) (hl:Lim w ad n cap 18446744073709551616 x) (h0:0<x) (hn:n<=1099511627776) :
  Calls Tryz.prog 201 #[.slice ad n cap] w fun e w'=>e = .returned (.int .i64 (bl x:Int))/\Gr w w':=by
 obtain ⟨xs,rx,dx⟩:=hl
 have hn0:0<n:=Nat.pos_of_ne_zero fun e=>by
  have:=(dx.zero_iff (by omega)).1 (by rw [rx.len];exact e)
  omega
 have ht:=bl_top dx (k:=n-1) (by rw [rx.len];omega)
 obtain ⟨b,off,rfl,hb,hc⟩:=rx.cells hn0
 have hcell:=hc (n-1) (by omega)
 have hv:=getD_lt (by omega) dx.2.1 (n-1)
 generalize xs.getD (n-1) 0=v at *
 have hv64:=bl64 hv
 have E:Hid (64*((n:Int)-1)+(bl v:Int)=(bl x:Int)):=by show _=_;omega
 have HL:Hid (∀ w1,Calls Tryz.prog 72 #[.int .u64 (v:Int)] w1 fun e w'=>e = .returned (.int .i64 (bl v:Int))/\w'=w1):=by
  intro w1
  have:=Tryz.bits_Len64 (v:Int) w1 (by omega) (by omega)
  rw [Int.toNat_natCast,bitLen_bl hv] at this
  exact this
 have R:=rx.le
 have M:=rx.max
 clear hc dx rx ht
 generalize bl v=lv at *
 go_enter Tryz.func201,Tryz.ntmps201
 go_wp2_with (go_at_call 72;with_reducible refine (HL.out _).mono ?_;rintro e w' ⟨rfl,rfl⟩)
 go_ret
 refine ⟨ret_i64 ?_,?_⟩
 ·rw [<-E.out]
 ·first | exact Gr.refl _ | exact (Gr.refl _).drew | exact ⟨rfl,rfl,Nat.le_refl _,fun _ _=>rfl⟩
theorem nv_zeros_below {B:Nat} {xs:List Nat} {i:Nat} (h:∀ j,j<i->xs.getD j 0=0):∀ j,j<=i->nv B (xs.take j)=0:=by
 intro j
 induction j with
 | zero=>intro _;simp [nv]
 | succ j ih=>intro hj;rw [nv_take_succ,ih (by omega),h j (by omega)];simp
theorem nv_split (B:Nat) (xs:List Nat) (i:Nat) (h:i<xs.length):nv B xs=nv B (xs.take i)+B ^ i*(xs.getD i 0+B*nv B (xs.drop (i+1))):=by
 have h1:xs=xs.take i++xs.drop i:=(List.take_append_drop i xs).symm
 have h2:xs.drop i=xs[i] :: xs.drop (i+1):=List.drop_eq_getElem_cons h
 have h3:xs.getD i 0=xs[i]:=by rw [List.getD_eq_getElem?_getD,List.getElem?_eq_getElem h];rfl
 conv=>lhs;rw [h1,nv_append,h2,List.length_take,Nat.min_eq_left (by omega)]
 rw [h3];rfl
theorem low_form {x i c m:Nat} {xs:List Nat} (dx:Dg 18446744073709551616 x xs) (hz:∀ j,j<i->xs.getD j 0=0) (hi:i<xs.length) (hv:xs.getD i 0=2 ^ c*(2*m+1)) (hc:c<64):∃ q,x=2 ^ (64*i+c)*(2*q+1):=by
 refine ⟨m+2 ^ (63-c)*nv 18446744073709551616 (xs.drop (i+1)),?_⟩
 rw [<-dx.1,nv_split _ xs i hi,nv_zeros_below hz i (Nat.le_refl _),Nat.zero_add,pow64,hv,Nat.pow_add,Nat.mul_assoc]
 congr 1
 generalize nv 18446744073709551616 (xs.drop (i+1))=r
 have e:(18446744073709551616:Nat)=2 ^ c*(2*2 ^ (63-c)):=by
  rw [<-Nat.pow_succ',<-Nat.pow_add,show c+(63-c).succ=64 by omega]
 rw [e,Nat.mul_assoc,<-Nat.mul_add,Nat.mul_add 2 m,Nat.mul_assoc 2]
 congr 1
 omega
theorem ctz_form {x:Nat} (h0:0<x) (h:x<18446744073709551616):∃ m,x=2 ^ Lib.ctz 64 x*(2*m+1)/\Lib.ctz 64 x<64:=by
 have:=Lib.ctzFrom_spec 64 x h0 h
 have e:Lib.ctz 64 x=Lib.ctzFrom 64 x:=by unfold Lib.ctz;rw [if_neg (by omega)]
 rw [e];exact this
theorem lowNoughts59 (ad:Option Addr) (n cap x:Nat) (w:World) (hl:Lim w ad n cap 18446744073709551616 x) (h0:0<x) (hn:n<=1099511627776) (hT:TabAt 2 Lib.deBruijn64tab w) :
  Calls Tryz.prog 223 #[.slice ad n cap] w fun e w'=>∃ t q:Nat,e = .returned (.int .i64 (t:Int))/\x=2 ^ t*(2*q+1)/\t<64*n/\Gr w w':=by
 obtain ⟨xs,rx,dx⟩:=hl
 have hn0:0<n:=Nat.pos_of_ne_zero fun e=>by
  have:=(dx.zero_iff (by omega)).1 (by rw [rx.len];exact e)
  omega
 obtain ⟨b,off,rfl,hb,hc⟩:=rx.cells hn0
 have R:=rx.le
 have M:=rx.max
 have HC:Hid (∀ j,j<n->w.cell? ⟨b,off+j,none⟩=some (.int .u64 ((xs.getD j 0:Nat):Int))):=hc
 have DX:Hid (Dg 18446744073709551616 x xs):=dx
 have HLEN:Hid (xs.length=n):=rx.len
 have HT:Hid (TabAt 2 Lib.deBruijn64tab w):=hT
 have HX0:Hid (0<x):=h0
 clear hc dx rx hT h0
 go_enter Tryz.func223,Tryz.ntmps223
 go_wp2
 go_loop [3] (fun t=>∃ k:Nat,k<n/\t = .int .i64 k/\Hid (∀ j,j<k->xs.getD j 0=0)) (fun t=>n-(intOf t).toNat)
 case atStart=>exact ⟨0,hn0,rfl,fun i a=>absurd a (by omega)⟩
 case round =>
  obtain ⟨k,hk,rfl,hz⟩:=hrel
  have hcell:=HC.out k hk
  by_cases hx:xs.getD k 0=0
  ·have hz':∀ j,j<k+1->xs.getD j 0=0:=fun j hj=>if e:j=k then e ▸ hx else hz.out j (by omega)
   have hk1:k+1<n:=Nat.lt_of_not_le fun hle=>by
    have:=nv_zeros_below (B:=18446744073709551616) hz' (k+1) (Nat.le_refl _)
    rw [nv_take_all _ _ _ (by rw [HLEN.out];exact hle),DX.out.1] at this
    have:=HX0.out
    omega
   rw [hx] at hcell
   go_wp2
   go_round
   case rel=>exact ⟨k+1,hk1,by go_num,hz'⟩
   case measure=>simp only [intOf];omega
  ·have hv:=getD_lt (by omega) DX.out.2.1 k
   obtain ⟨m,hm,hc64⟩:=ctz_form (Nat.pos_of_ne_zero hx) hv
   obtain ⟨q,hq⟩:=low_form DX.out hz.out (by rw [HLEN.out];exact hk) hm hc64
   have Q:Hid (x=2 ^ (64*k+Lib.ctz 64 (xs.getD k 0))*(2*q+1)):=hq
   have HZ:Hid (∀ w1,Gr w w1->Calls Tryz.prog 134 #[.int .u64 ((xs.getD k 0:Nat):Int)] w1 fun e w'=>e = .returned (.int .i64 (Lib.ctz 64 (xs.getD k 0):Int))/\w'=w1):=fun w1 g=>tz76 _ hv (Nat.pos_of_ne_zero hx) w1 (tab_gr HT.out g)
   clear hq hm hz
   generalize Lib.ctz 64 (xs.getD k 0)=c at *
   generalize xs.getD k 0=v at *
   have hv0:(((v:Nat):Int)==0)=false:=by simp;omega
   have E:Hid (64*(k:Int)+(c:Int)=((64*k+c:Nat):Int)):=by show _=_;omega
   go_wp2_with (go_at_call 134;with_reducible refine (HZ.out _ ⟨rfl,rfl,Nat.le_refl _,fun _ _=>rfl⟩).mono ?_;rintro e w' ⟨rfl,rfl⟩)
   go_ret
   refine ⟨64*k+c,q,ret_i64 ?_,Q.out,by omega,?_⟩
   ·rw [<-E.out]
   ·first | exact Gr.refl _ | exact (Gr.refl _).drew | exact ⟨rfl,rfl,Nat.le_refl _,fun _ _=>rfl⟩
set_option maxHeartbeats 800000 in
theorem compare54 (ad1 ad2:Option Addr) (n1 n2 c1 c2 x y:Nat) (w:World) (hx:Lim w ad1 n1 c1 18446744073709551616 x) (hy:Lim w ad2 n2 c2 18446744073709551616 y) (b1:n1<=1099511627776) (b2:n2<=1099511627776) :
  Calls Tryz.prog 224 #[.slice ad1 n1 c1,.slice ad2 n2 c2] w fun e w'=>e = .returned (.int .i64 (cmpI (x:Int) (y:Int)))/\Gr w w':=by
 obtain ⟨xs,rx,dx⟩:=hx
 obtain ⟨ys,ry,dy⟩:=hy
 by_cases hm:n1=n2
 case neg =>
  have E:Hid (cmpI (n1:Int) (n2:Int)=cmpI (x:Int) (y:Int)):=by
   show _=_
   rcases Nat.lt_or_gt_of_ne hm with h | h
   ·have:=dx.lt_of_len (by omega) dy (by rw [rx.len,ry.len];exact h)
    rw [cmpI_lt (by omega),cmpI_lt (by omega)]
   ·have:=dy.lt_of_len (by omega) dx (by rw [rx.len,ry.len];exact h)
    rw [cmpI_gt (by omega),cmpI_gt (by omega)]
  have hne:((n1:Int) != (n2:Int))=true:=by simp;omega
  clear rx ry dx dy
  go_enter Tryz.func224,Tryz.ntmps224
  go_wp2_with (go_at_call 229;refine (cmpI58 _ _ _).mono ?_;rintro e w' ⟨rfl,rfl⟩)
  go_ret
  exact ⟨ret_i64 E.out,Gr.refl _⟩
 case pos =>
  subst hm
  have RX:Hid (Row w ad1 n1 c1 xs):=rx
  have RY:Hid (Row w ad2 n1 c2 ys):=ry
  have DX:Hid (Dg 18446744073709551616 x xs):=dx
  have DY:Hid (Dg 18446744073709551616 y ys):=dy
  clear rx ry dx dy
  go_enter Tryz.func224,Tryz.ntmps224
  go_wp2
  go_loopw [5] (fun i wr=>∃ k:Nat,k<=n1/\i = .int .i64 ((k:Int)-1)/\Hid (∀ j,k<=j->j<n1->xs.getD j 0=ys.getD j 0)/\Hid (Gr w wr)) (fun i _=>(intOf i+1).toNat)
  case atStart=>exact ⟨n1,by omega,rfl,(fun j a b=>absurd b (by omega)),Gr.refl _⟩
  case round =>
   obtain ⟨k,hk,rfl,he,hg⟩:=hrel
   by_cases hk0:k=0
   ·subst hk0
    have exy:x=y:=by
     rw [<-DX.out.1,<-DY.out.1,ext_getD (xs:=xs) (ys:=ys) (by rw [RX.out.len,RY.out.len]) (fun j hj=>he.out j (by omega) (by rw [<-RX.out.len];exact hj))]
    have e:Hid ((0:Int)=cmpI (x:Int) (y:Int)):=by
     show _=_
     rw [cmpI_eq (by omega)]
    clear exy
    go_wp2
    go_ret
    exact ⟨ret_i64 e.out,hg.out⟩
   ·obtain ⟨p1,o1,rfl,hb1,hc1⟩:=RX.out.lt (by omega)
    obtain ⟨p2,o2,rfl,hb2,hc2⟩:=RY.out.lt (by omega)
    have hcell1:=hc1 wr hg.out (k-1) (by omega)
    have hcell2:=hc2 wr hg.out (k-1) (by omega)
    obtain ⟨xk,hxk⟩:∃ xk,xk=xs.getD (k-1) 0:=⟨_,rfl⟩
    obtain ⟨yk,hyk⟩:∃ yk,yk=ys.getD (k-1) 0:=⟨_,rfl⟩
    rw [<-hxk] at hcell1
    rw [<-hyk] at hcell2
    have HX:Hid (xk=xs.getD (k-1) 0/\yk=ys.getD (k-1) 0):=⟨hxk,hyk⟩
    clear hxk hyk hc1 hc2
    have hlt:(k:Int)-1<(n1:Int):=by omega
    by_cases h:xk=yk
    ·subst h
     have HE:Hid (∀ j,k-1<=j->j<n1->xs.getD j 0=ys.getD j 0):=fun j h1 h2=>if e:j=k-1 then by rw [e,<-HX.out.1,<-HX.out.2] else he.out j (by omega) h2
     go_wp2
     go_quiet (fail)
     go_wp2
     go_roundw
     case rel=>exact ⟨k-1,by omega,by go_num,HE.out,by first | exact hg.out | exact hg.out.drewN _ | exact (hg.out.drewN _).drewN _⟩
     case measure=>simp only [intOf];omega
    ·have e:Hid (cmpI (xk:Int) (yk:Int)=cmpI (x:Int) (y:Int)):=by
      show _=_
      rcases Nat.lt_or_gt_of_ne h with h | h
      ·have:=nv_cmp_top xs ys DX.out.2.1 DY.out.2.1 (by rw [RX.out.len,RY.out.len]) (k-1) (by rw [RX.out.len];omega) (fun j h1 h2=>he.out j (by omega) (by rw [<-RX.out.len];exact h2)) (by rw [<-HX.out.1,<-HX.out.2];exact h)
       rw [DX.out.1,DY.out.1] at this
       rw [cmpI_lt (by omega),cmpI_lt (by omega)]
      ·have:=nv_cmp_top ys xs DY.out.2.1 DX.out.2.1 (by rw [RX.out.len,RY.out.len]) (k-1) (by rw [RY.out.len];omega) (fun j h1 h2=>(he.out j (by omega) (by rw [<-RY.out.len];exact h2)).symm) (by rw [<-HX.out.1,<-HX.out.2];exact h)
       rw [DX.out.1,DY.out.1] at this
       rw [cmpI_gt (by omega),cmpI_gt (by omega)]
     have h':((xk:Int) != (yk:Int))=true:=by simp;omega
     go_wp2
     go_quiet (fail)
     go_wp2
     generalize hwq:wr.drewN nq=wq
     have hq1:wq.cell? ⟨p1,o1+(k-1),none⟩=some (.int .u64 (xk:Int)):=by rw [<-hwq];exact hcell1
     have hq2:wq.cell? ⟨p2,o2+(k-1),none⟩=some (.int .u64 (yk:Int)):=by rw [<-hwq];exact hcell2
     have HG:Hid (Gr w wq):=by rw [<-hwq];exact hg.out.drewN _
     have D2:Hid (∀ n,Calls Tryz.prog 230 #[.int .u64 (xk:Int),.int .u64 (yk:Int)] (wq.drewN n) fun e w'=>e = .returned (.int .i64 (cmpI (xk:Int) (yk:Int)))/\w'=wq.drewN n):=fun n=>cmpU71 _ _ _
     clear hwq hcell1 hcell2
     go_quiet ((go_at_call 230;exact Calls.quiet_of_same (D2.out _)))
     go_wp2
     go_ret
     exact ⟨ret_i64 e.out,HG.out.drewN _⟩
end Go.Proofs.YtbcocfhfhblhcaaGreatDoor
