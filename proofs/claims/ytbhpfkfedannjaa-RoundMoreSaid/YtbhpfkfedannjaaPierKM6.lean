import Derived.Test.YtbhpfkfedannjaaPierKM5
import Derived.KernelRfl
import Derived.Test.YtbhpfkfedannjaaPierKM2
import Derived.Test.YtbhpfkfedannjaaPierKM4
set_option linter.unusedSimpArgs false
set_option linter.unusedVariables false
set_option maxRecDepth 100000
namespace Go.Pier.Rd
open Go Go.Pier Go.Proofs
end Go.Pier.Rd
namespace Go.Pier.Rd
open Go Go.Pier Go.Proofs
end Go.Pier.Rd
namespace Go.Pier.Rd
open Go Go.Pier Go.Proofs
end Go.Pier.Rd
namespace Go.Pier.Rd
open Go Go.Pier Go.Proofs
end Go.Pier.Rd
namespace Go.Pier.Rd
open Go Go.Pier Go.Proofs
end Go.Pier.Rd
namespace Go.Pier.Rd
open Go Go.Pier Go.Proofs
end Go.Pier.Rd
namespace Go.Pier.Rd
open Go Go.Pier Go.Proofs
end Go.Pier.Rd
namespace Go.Pier.Rd
open Go Go.Pier Go.Proofs
end Go.Pier.Rd
namespace Go.Pier.Rd
open Go Go.Pier Go.Proofs
end Go.Pier.Rd
namespace Go.Pier.Rd
open Go Go.Pier Go.Proofs
theorem mxN_le {st : Nat→Int} {c : Int} : ∀ x,(∀ i,i≤x→st i≤c)→mxN st x≤c
 | 0,h => h 0 (Nat.le_refl _)
 | x + 1,h => by
   have h1 := mxN_le x fun i hi => h i (by omega)
   have h2 := h (x + 1) (Nat.le_refl _)
   rw [mxN]
   split <;> assumption
theorem le_mxN {st : Nat→Int} : ∀ (x i : Nat),i≤x→st i≤mxN st x
 | 0, i, h => by obtain rfl : i = 0 := by omega
                 exact Int.le_refl _
 | x + 1,i,h => by
   rw [mxN]
   by_cases e : i = x + 1
   · subst e; split <;> omega
   · have := le_mxN (st := st) x i (by omega)
     split <;> omega
theorem rSt_zero {b : Int} {l m : List Int} (x : Nat) : 0≤rSt b l m x := rSt_mono (x := 0) x (Nat.zero_le _)
theorem stp_le {b : Int} {n : Nat} {l m : List Int} (hw : Whole n m) (i : Nat) : stp b l m i≤rSt b l m n := by
 have hl := whole_len hw
 rcases Nat.lt_or_ge i n with h | h
 · obtain ⟨k,h1,h2⟩ := whole_all hw h
   have := stp_at (b := b) (l := l) hw h1
   rw [h2,Int.toNat_natCast] at this
   rw [this]
   exact rSt_mono n (by omega)
 · rw [stp,sf_out (whole_mem hw) h _ (Nat.le_refl _)]
   exact rSt_zero n
theorem NL_is {b : Int} {n : Nat} {l m : List Int} (hw : Whole n m) (hn : 1≤n) (hn10 : n≤10) : NL (stp b l m) = rSt b l m n := by
 have hl := whole_len hw
 refine Int.le_antisymm (mxN_le 9 fun i _ => stp_le hw i) ?_
 have h1 := whole_mem hw (n - 1) (by omega)
 have h2 := stp_at (b := b) (l := l) hw (i := n - 1) (by omega)
 rw [show n - 1 + 1 = n by omega] at h2
 rw [← h2]
 exact le_mxN 9 _ (by omega)
section
variable {b : Int} {n : Nat} {l : List Int} (ho : ordP b n l)
include ho
end
end Go.Pier.Rd
