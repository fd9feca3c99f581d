import Derived.Test.YtoanblpbnmpgcabU14
namespace Go.Proofs.Ytoanblpbnmpgcab
open Go.RowKit
set_option linter.unusedVariables false
set_option linter.unusedSimpArgs false
theorem ok_tab:(List.range 15).all (fun k=>(List.range 15).all fun k2=>(List.range 29).all fun j=>decide (k2<k) || !Fl.okW k2 j || Fl.okW k j)=true:=by decide +kernel
theorem ok_mono {k k2 j:Nat} (h:k<=k2) (h2:k2<=14) (hj:j<29) (ho:Fl.okW k2 j=true):Fl.okW k j=true:=by
 have t:=ok_tab
 rw[List.all_eq_true] at t
 have t:=t k (List.mem_range.2 (by omega))
 rw[List.all_eq_true] at t
 have t:=t k2 (List.mem_range.2 (by omega))
 rw[List.all_eq_true] at t
 have t:=t j (List.mem_range.2 hj)
 have hn:¬k2<k:=by omega
 rw[ho] at t
 simpa [hn] using t
theorem fit_mono {L M j:Nat} (h:L<=M) (hj:j<29) (hM:Fl.fitB M j=true):Fl.fitB L j=true:=by
 unfold Fl.fitB at *
 have e:L*64 / (j+2)<=M*64 / (j+2):=Nat.div_le_div_right (Nat.mul_le_mul_right 64 h)
 generalize L*64 / (j+2)=x at *
 generalize M*64 / (j+2)=y at *
 have hb:bl (2*(x+2)-1)<=bl (2*(y+2)-1):=bl_le_of_lt (Nat.lt_of_le_of_lt (by omega) (bl_lt (2*(y+2)-1)))
 simp only[Bool.and_eq_true,decide_eq_true_eq] at *
 exact⟨Nat.le_trans hb hM.1,ok_mono hb hM.1 hj hM.2⟩
theorem wid_lt {M:Nat}:∀{n j:Nat},Fl.widF M n=some j->j<n
 | 0,j,h=>by cases h
 | n+1,j,h=>by
  have h:(if Fl.fitB M n then some n else Fl.widF M n)=some j:=h
  by_cases hf:Fl.fitB M n=true
  ·rw[if_pos hf] at h;injection h with h;omega
  ·rw[if_neg hf] at h;have:=wid_lt h;omega
theorem wid_mono {L M:Nat} (hl:L<=M):∀{n j:Nat},n<=29->Fl.widF M n=some j->∃i,Fl.widF L n=some i/\j<=i
 | 0,j,_,h=>by cases h
 | n+1,j,hn,h=>by
  have hj:=wid_lt h
  have h:(if Fl.fitB M n then some n else Fl.widF M n)=some j:=h
  show ∃i,(if Fl.fitB L n then some n else Fl.widF L n)=some i/\j<=i
  by_cases hf:Fl.fitB L n=true
  ·rw[if_pos hf];exact⟨n,rfl,by omega⟩
  ·rw[if_neg hf]
   rw[if_neg (fun hm=>hf (fit_mono hl (by omega) hm))] at h
   exact wid_mono hl (by omega) h
theorem wid_1535:Fl.widF 1535 29=some 10:=by rw[Fl.wid_k (by omega)];decide +kernel
theorem wid_1536:Fl.widF 1536 29=none:=by rw[Fl.wid_k (by omega)];decide +kernel
theorem wid_1:Fl.widF 1 29=some 18:=by rw[Fl.wid_k (by omega)];decide +kernel
theorem wid_none {n:Nat} (h:1535<n):Fl.widF n 29=none:=by
 cases hk:Fl.widF n 29 with
 | none=>rfl
 | some j =>
  obtain⟨i,hi,_⟩:=wid_mono (show 1536<=n by omega) (Nat.le_refl 29) hk
  rw[wid_1536] at hi;cases hi
theorem wid_some {n:Nat} (h1:1<=n) (h:n<=1535):∃j,Fl.widF n 29=some j/\10<=j/\j<=18:=by
 obtain⟨i,hi,hj⟩:=wid_mono h (Nat.le_refl 29) wid_1535
 obtain⟨k,hk,hl⟩:=wid_mono h1 (Nat.le_refl 29) hi
 rw[wid_1] at hk;injection hk with hk
 exact⟨i,hi,hj,by omega⟩
theorem widV_some {L j:Nat} (h:Fl.widF L 29=some j):Fl.widV L = .tuple #[.int .i64 ((j+2:Nat):Int),.int .i64 0]:=by
 unfold Fl.widV;rw[h]
theorem widV_none {L:Nat} (h:Fl.widF L 29=none):Fl.widV L = .tuple #[.int .i64 0,.int .i64 3]:=by
 unfold Fl.widV;rw[h]
set_option maxHeartbeats 2000000 in
theorem narrowW (l:Int) (w:World):Calls Try.prog 3 #[.int .i64 l] w fun r w'=>r = .returned (.bool true)/\Gr w w':=by
 obtain⟨p,hp,PK⟩:=pickD 4095 l (by omega) (by omega)
 rw[show((4095:Nat):Int)=4095 from rfl] at PK
 have PK:=hide PK
 have AW:=hide (fun w=>awakeC w)
 have W1:=fun w=>Fl.widthC (1+p) w (by omega) (by omega)
 have W2:=fun w=>Fl.widthC (1+p+1) w (by omega) (by omega)
 rw[show((1+p:Nat):Int)=1+(p:Int) by omega] at W1
 rw[show((1+p+1:Nat):Int)=1+(p:Int)+1 by omega] at W2
 by_cases hn:1535<1+p
 ·rw[widV_none (wid_none hn)] at W1
  rw[widV_none (wid_none (by omega))] at W2
  have W1:=hide W1
  have W2:=hide W2
  have hn2:(1535:Int)<1+(p:Int):=by omega
  have tok:True:=trivial
  go_enter Try.func3,Try.ntmps3
  go_wp2_with (first|(go_at_call 4;with_reducible refine(AW.out _).mono ?_;rintro e w1 ⟨rfl,g1⟩)|(go_at_call 5;with_reducible refine(PK.out _).mono ?_;rintro e w2 ⟨rfl,rfl⟩)|(go_at_call 6;have _t:=tok;with_reducible refine(W1.out _).mono ?_;rintro e w3 ⟨rfl,g3⟩;clear tok)|(go_at_call 6;with_reducible refine(W2.out _).mono ?_;rintro e w4 ⟨rfl,g4⟩))
  go_ret
  exact⟨rfl,(g1.trans g3).trans g4⟩
 ·obtain⟨j,hk,j1,j2⟩:=wid_some (n:=1+p) (by omega) (by omega)
  ·rw[widV_some hk] at W1
   have W1:=hide W1
   have hn2:¬(1535:Int)<1+(p:Int):=by omega
   have hj1:(12:Int)<=((j+2:Nat):Int):=by omega
   have hj2:((j+2:Nat):Int)<=20:=by omega
   by_cases h35:1+p=1535
   ·have h36:(1+(p:Int)==1535)=true:=by simp;omega
    have h37:1+(p:Int)=1535:=by omega
    obtain⟨x,y,hxy⟩:∃x y:Int,Fl.widV (1+p+1) = .tuple #[.int .i64 x,.int .i64 y]:=by
     unfold Fl.widV;split <;> exact⟨_,_,rfl⟩
    rw[hxy] at W2
    have W2:=hide W2
    clear hxy h37
    generalize ((j+2:Nat):Int)=t at *
    have tok:True:=trivial
    go_enter Try.func3,Try.ntmps3
    go_wp2_with (first|(go_at_call 4;with_reducible refine(AW.out _).mono ?_;rintro e w1 ⟨rfl,g1⟩)|(go_at_call 5;with_reducible refine(PK.out _).mono ?_;rintro e w2 ⟨rfl,rfl⟩)|(go_at_call 6;have _t:=tok;with_reducible refine(W1.out _).mono ?_;rintro e w3 ⟨rfl,g3⟩;clear tok)|(go_at_call 6;with_reducible refine(W2.out _).mono ?_;rintro e w4 ⟨rfl,g4⟩))
    go_ret
    exact⟨rfl,(g1.trans g3).trans g4⟩
   ·have h36:(1+(p:Int)==1535)=false:=by simp;omega
    obtain⟨k,hk2,k1,k2⟩:=wid_some (n:=1+p+1) (by omega) (by omega)
    obtain⟨j',hj',hkj'⟩:=wid_mono (show 1+p<=1+p+1 by omega) (Nat.le_refl 29) hk2
    rw[hk] at hj';injection hj' with hj'
    subst hj'
    ··rw[widV_some hk2] at W2
      have W2:=hide W2
      have hkj:((k+2:Nat):Int)<=((j+2:Nat):Int):=by omega
      clear hkj' k1 k2 hk2
      generalize ((j+2:Nat):Int)=t at *
      generalize ((k+2:Nat):Int)=u at *
      have tok:True:=trivial
      go_enter Try.func3,Try.ntmps3
      go_wp2_with (first|(go_at_call 4;with_reducible refine(AW.out _).mono ?_;rintro e w1 ⟨rfl,g1⟩)|(go_at_call 5;with_reducible refine(PK.out _).mono ?_;rintro e w2 ⟨rfl,rfl⟩)|(go_at_call 6;have _t:=tok;with_reducible refine(W1.out _).mono ?_;rintro e w3 ⟨rfl,g3⟩;clear tok)|(go_at_call 6;with_reducible refine(W2.out _).mono ?_;rintro e w4 ⟨rfl,g4⟩))
      go_ret
      exact⟨rfl,(g1.trans g3).trans g4⟩
theorem narrowP (l:Int) (h1 : -9223372036854775808<=l) (h2:l<=9223372036854775807) (w:World):Calls Try.prog 3 #[.int .i64 l] w fun r w'=>r = .returned (.bool true)/\Gr w w':=narrowW l w
end Go.Proofs.Ytoanblpbnmpgcab
