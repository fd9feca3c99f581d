import Derived.Test.YtapnglidnblmcaaGreatQ24
import Derived.Test.YtapnglidnblmcaaGreatQ25
import Derived.Laws.BytesArg
namespace Go.Proofs.YtapnglidnblmcaaGreat
open Go.RowKit
set_option linter.unusedVariables false
set_option linter.unusedSimpArgs false
theorem infoB8:(Tryz.prog.info? 5).map (fun i=>(i.zero,i.size,i.bytes))=some (some (.int .u8 0),1,1):=by kernel_rfl
theorem made_8 (n:Nat):(madeCells (Value.int .u8 0).cells (n*1)).toList=b8 (List.replicate n 0):=by
 rw[Nat.mul_one]
 refine List.ext_getElem (by rw[Array.length_toList,size_madeCells,b8_length,List.length_replicate]) fun i h1 h2=>?_
 simp[madeCells,b8,Value.cells,Nat.mod_one]
theorem wpList_made8 {w:World} {ops:Array Oper} {rest:List Oper} {o:Oper} {a:Act} {Q:Exit->Act->World->Prop} (hgd:o.guard=none) (l c:Operand)
  (hop:o.op=Op.makeSlice 61 l c) (n:Nat) (L:Int) (hl:a.eval l = .int .i64 L) (hc:a.eval c = .int .i64 L) (hL:L=(n:Int)) (hn:n<=4398046511104)
  (hK:∀w',OB w' w.heap.size n n (List.replicate n 0)->Gr w w'->wpList Tryz.prog ops Q rest (a.put o.dst (.slice (some ⟨w.heap.size,0,none⟩) n n)) w') :
  wpList Tryz.prog ops Q (o :: rest) a w:=by
 obtain⟨i0,hi,hz0,hz1,hz2⟩:=info_parts infoB8
 refine wpList_make_full w hgd l c 61 hop w.heap.size 5 i0 (.int .u8 0) 1 Tryz.underlying61 hi hz0 hz1 .i64 .i64 L L n hl hc hL hL (by rw[hz2];omega) (by unfold maxLen;omega) (Nat.le_refl _) ?_
 intro w' hown hgr
 rw[made_8] at hown
 exact hK w' hown ((Gr.refl w).grown hgr (fun k h=>by cases h))
def stB (zs:List Nat):ByteArray:=⟨(zs.map UInt8.ofNat).toArray⟩
theorem stB_size (zs:List Nat):(stB zs).size=zs.length:=by simp[stB,ByteArray.size]
theorem conv8 {w:World} {g N C o L c:Nat} {zs:List Nat} (h:OB w g N C zs) (e:o+L=N):(convert 61 9 (.slice (some ⟨g,o,none⟩) L c)).run Tryz.prog w = .ok (.string (stB (zs.drop o))) w:=by
 have hl:=h.len
 rw[run_convert_bytes_arg w 61 5 Tryz.underlying61 Tryz.underlying5 g o L c ((zs.drop o).map fun (x:Nat)=>(x:Int)) (by simp;omega) (fun i hi=>?_) 9 Tryz.underlying9]
 ·congr 2
  simp[strOfNums,stB]
  rfl
 ·rw[h.cell (o+i) (by omega)]
  simp[List.getD_eq_getElem?_getD,List.getElem?_drop]
  cases zs[o+i]? <;> rfl
theorem each_num {b p P : Nat} (hP : PP b p P) (h36 : b ≤ 36) : ∃ e, bl P = e + 1 ∧ 2 ^ e ≤ P ∧ 58 ≤ e ∧ e ≤ 63 := by
  have h1 := hP.lt
  have h2 := hP.ge
  have hp : 0 < P := by
    rcases Nat.eq_zero_or_pos P with h | h
    · rw [h] at h2; omega
    · exact h
  have h3 : bl P ≤ 64 := bl_le_of_lt (by have : (2 : Nat) ^ 64 = 18446744073709551616 := by decide
                                         omega)
  have h4 : bl P ≠ 0 := fun h => by have := bl_zero_iff.1 h; omega
  obtain ⟨e, he⟩ : ∃ e, bl P = e + 1 := ⟨bl P - 1, by omega⟩
  have h5 := bl_le hp
  have h6 := bl_lt P
  rw [he, Nat.pow_succ] at h5 h6
  refine ⟨e, he, by omega, ?_, by omega⟩
  refine Nat.le_of_not_lt fun hlt => ?_
  have h7 : 2 ^ e ≤ 2 ^ 57 := Nat.pow_le_pow_right (by omega) (by omega)
  have h8 : (2 : Nat) ^ 57 = 144115188075855872 := by decide
  have h9 : P * b ≤ 288230376151711743 * 36 := Nat.mul_le_mul (by omega) h36
  omega
theorem pieces_num {L e q:Nat} (hL:L<=262144) (he:58<=e) (he2:e<=63) (hq:(L+e-1) / e=q):L<=q*e/\q<=4520:=by
 have h1:=Nat.div_add_mod (L+e-1) e
 have h2:=Nat.mod_lt (L+e-1) (show 0<e by omega)
 rw[hq,Nat.mul_comm] at h1
 refine⟨by omega,?_⟩
 have h3:q*58<=q*e:=Nat.mul_le_mul_left q he
 omega
theorem lad_fits {P q k:Nat} (hP:P<18446744073709551616) (hq:q<=4520) (hk:2 ^ k<q):P ^ 2 ^ k<TopN:=by
 have h1:k<=12:=by
  refine Nat.le_of_not_lt fun hlt=>?_
  have h2:2 ^ 13<=2 ^ k:=Nat.pow_le_pow_right (by omega) (by omega)
  have h3:(2:Nat) ^ 13=8192:=by decide
  omega
 have h2:2 ^ k<=2 ^ 12:=Nat.pow_le_pow_right (by omega) h1
 have h3:(2:Nat) ^ 12=4096:=by decide
 have h4:0<2 ^ k:=Nat.two_pow_pos k
 generalize 2 ^ k=m at *
 have h5:P ^ m<18446744073709551616 ^ m:=Nat.pow_lt_pow_left hP (by omega)
 have h6:=topN_pow (k:=64*m) (by omega)
 have h7:(18446744073709551616:Nat) ^ m=2 ^ (64*m):=by rw[Nat.pow_mul]
 omega
theorem lad_long {q K:Nat} (hq:q<=4520) (h:K=0\/2 ^ (K-1)<q):2 ^ K<=8192/\K<=13:=by
 have h1:K<=13:=by
  refine Nat.le_of_not_lt fun hlt=>?_
  rcases h with h|h
  ·omega
  ·have h2:2 ^ 13<=2 ^ (K-1):=Nat.pow_le_pow_right (by omega) (by omega)
   have h3:(2:Nat) ^ 13=8192:=by decide
   omega
 have h2:2 ^ K<=2 ^ 13:=Nat.pow_le_pow_right (by omega) h1
 exact⟨h2,h1⟩
theorem lad_room {b p P X e q K:Nat} (hP:PP b p P) (he:2 ^ e<=P) (hX:X<2 ^ (q*e)) (hK:q<=2 ^ K):X<b ^ (p*2 ^ K):=by
 have h1:2 ^ (q*e)<=P ^ q:=by
  rw[Nat.mul_comm,Nat.pow_mul]
  exact Nat.pow_le_pow_left he q
 have hp:0<P:=by have:=Nat.two_pow_pos e;omega
 have h2:P ^ q<=P ^ 2 ^ K:=Nat.pow_le_pow_right hp hK
 rw[Nat.pow_mul,<-hP.eq]
 omega
end Go.Proofs.YtapnglidnblmcaaGreat
