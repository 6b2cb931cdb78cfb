import Derived.Test.YtbmdkgoclijgkaaPierKD7
import Derived.Test.YtbmdkgoclijgkaaPierKD2
import Derived.KernelRfl
import Derived.Test.YtbmdkgoclijgkaaPierKD6
import Derived.Test.YtbmdkgoclijgkaaPierKD5
import Derived.Test.YtbmdkgoclijgkaaPierW
import Derived.Test.YtbmdkgoclijgkaaProg
set_option linter.unusedSimpArgs false
set_option linter.unusedVariables false
set_option maxRecDepth 100000
namespace Go.Pier.Rd
open Go Go.Pier Go.Proofs
end Go.Pier.Rd
namespace Go.Pier.Rd
open Go Go.Pier Go.Proofs
noncomputable def lenF (b : Int) (n : Nat) (l : List Int) : Int := bif (shL b n (lefts b n l) l).no then 0 else mxN (shL b n (lefts b n l) l).st 9
section
variable {b k : Int} {n : Nat} {l : List Int} (hk : 1≤k)
variable {m : List Int} (hm : ∀ j,j < m.length→0≤m.getD j 0∧m.getD j 0 < n)
include hm
end
def SmallS (st : Nat→Int) : Prop := ∀ i,0≤st i∧st i≤10000
theorem stp_small {b : Int} {n : Nat} {l m : List Int} (hn : n≤10) (hr : rngP b n l) (hw : Whole n m) : SmallS (stp b l m) := fun i => by
 have hl := whole_len hw
 have h1 := stp_le (b := b) (l := l) hw i
 have h2 := (rSt_bd hr (whole_mem hw) n (by omega)).2
 refine ⟨?_,by omega⟩
 rcases Nat.lt_or_ge i n with h | h
 · obtain ⟨j,k1,k2⟩ := whole_all hw h
   have := stp_at (b := b) (l := l) hw k1
   rw [k2,Int.toNat_natCast] at this
   rw [this]
   exact rSt_zero _
 · rw [stp,sf_out (whole_mem hw) h _ (Nat.le_refl _)]; exact Int.le_refl _
theorem ltN_bd {b : Int} {n : Nat} {l : List Int} {x : Nat→Int} (hr : rngP b n l) (hx : SmallS x) (hn1 : 1≤n) : ∀ y,y≤n→-9000≤ltN l x y∧ltN l x y≤10000
 | 0,_ => by
   have h1 := hx 0
   have h2 := (hr.1 0 (by omega)).2
   rw [ltN,wrap_in (by omega) (by omega)]; omega
 | y + 1,hy => by
   have h1 := hx y
   have h2 := (hr.1 y (by omega)).2
   have := ltN_bd hr hx hn1 y (by omega)
   rw [ltN,wrap_in (by omega) (by omega)]
   split <;> omega
section
variable {b k : Int} {n : Nat} {l : List Int} (hk : 1≤k∧k≤4) (hP : errP b n l = 0)
include hk hP
end
theorem dlL_least {b : Int} {n f : Nat} {l : List Int} : LeastOf b l (inA n l) (ND n l) (rds n n f f []) (dlL b n f l) := foldR_from _
theorem dlL_from {b : Int} {n : Nat} {l : List Int} : ∃ m ∈ rds n n (lefts b n l) (lefts b n l) [],(dlL b n (lefts b n l) l).st = stp b l m := by
 obtain ⟨⟨m,h1,_,h3⟩,_⟩ := dlL_least.2 (dlL_no (b := b) (n := n) (f := lefts b n l) (l := l) lefts_le)
 exact ⟨m,h1,h3⟩
section
variable {b : Int} {n : Nat} {l : List Int} (hP : errP b n l = 0)
include hP
theorem dly_bd : -9000≤dlyF b n l∧dlyF b n l≤10000 := by
 obtain ⟨⟨n1,n2⟩,hr,ho⟩ := errP_cases hP
 obtain ⟨m,h1,h2⟩ := dlL_from (b := b) (n := n) (l := l)
 unfold dlyF
 rw [h2]
 exact ltN_bd hr (stp_small n2 hr (rds_mem_whole lefts_le m h1)) n1 n (Nat.le_refl _)
end
end Go.Pier.Rd
namespace Go.Pier.RoundK
open Go Go.Pier Go.Proofs
def vi (n : Int) : Value := .int .i64 n
noncomputable def t0 : Tbl := fun _ => none
theorem t0_ok : TblOk Try.prog t0 := tblOk_none
end Go.Pier.RoundK
