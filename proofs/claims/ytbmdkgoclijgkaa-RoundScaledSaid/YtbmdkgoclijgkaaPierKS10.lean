import Derived.Test.YtbmdkgoclijgkaaPierKS3
import Derived.Test.YtbmdkgoclijgkaaPierRoundB
import Derived.KernelRfl
import Derived.Test.YtbmdkgoclijgkaaPierKS7
import Derived.Test.YtbmdkgoclijgkaaPierKS6
set_option linter.unusedSimpArgs false
set_option linter.unusedVariables false
set_option maxRecDepth 100000
namespace Go.Pier.Rd
open Go Go.Pier Go.Proofs
def worksS (r : List Arg) : Prop × Value := match r with | [] => (True,.bool true) | _ => (False,undef)
theorem worksG_ok : ∀ args H φ v H' l,pureG [] worksS args H = some (φ,v,H',l)→Asks φ→Call Try.prog 18 args H (fun v' H2 => v' = v∧H2 = H')∧Kept H H' l :=
 closedG_ok (RoundK.works_ok.call.mono fun v H h => h.1) rfl
theorem fits3_one {k : LK} {ps : List K3} {r : List Arg3} (h : fits3 (.one k :: ps) r) : ∃ l r',r = .one l :: r'∧k.fits l∧fits3 ps r' := by
 cases r with
 | nil => exact h.elim
 | cons a r => cases a with
   | one l => exact ⟨l,r,rfl,h.1,h.2⟩
   | agg ls => exact h.elim
theorem fits3_agg {ks : List LK} {ps : List K3} {r : List Arg3} (h : fits3 (.agg ks :: ps) r) : ∃ ls r',r = .agg ls :: r'∧fitsL ks ls∧fits3 ps r' := by
 cases r with
 | nil => exact h.elim
 | cons a r => cases a with
   | one l => exact h.elim
   | agg ls => exact ⟨ls,r,rfl,h.1,h.2⟩
theorem fits3_nil {r : List Arg3} (h : fits3 [] r) : r = [] := by
 cases r with
 | nil => rfl
 | cons a r => exact h.elim
theorem fitsL_cons {k : LK} {ks : List LK} {ls : List Leaf} (h : fitsL (k :: ks) ls) : ∃ l r,ls = l :: r∧k.fits l∧fitsL ks r := by
 cases ls with
 | nil => exact h.elim
 | cons l r => exact ⟨l,r,rfl,h.1,h.2⟩
theorem fitsL_nil {ls : List Leaf} (h : fitsL [] ls) : ls = [] := by
 cases ls with
 | nil => rfl
 | cons l r => exact h.elim
def isTrue (v : Value) (_ : Heap) : Prop := v = .bool true
end Go.Pier.Rd
namespace Go.Pier.Rd
open Go Go.Pier Go.Proofs
noncomputable def frT : Ct := ((Ct.none.add 18 (pureG [] worksS)).add 22 (pureP (fun b n l => vi (errP b n l)) (vi 6))).add 24 (pure3 psP (specQ shF))
noncomputable def fnE : VEnv := { ct := frT,orc := prO,cc := ccIn Try.prog {} [⟨17,Try.f17,fun _ _ _ => none⟩] }
theorem frT_ok : CtOk Try.prog frT := ((CtOk.none.add worksG_ok).add rcpG_ok).add shG_ok
theorem fnE_ok : VOk Try.prog fnE := ⟨frT_ok,ccIn_ok E0_ok mixed (inl_one Try.func17),E0_ok.yc,prE1_ok.orc⟩
abbrev psPT : List K3 := [.agg [.int .i64,.rows [.i .i64,.i .i64] true]]
theorem fits_p {r : List Arg3} (h : fits3 psPT r) : ∃ b lf,r = [.agg [.plain (.int .i64 b),lf]]∧(lf = .plain (.slice none 0 0)∨(∃ s,lf = .hole s)∨∃ (l : List Int) (n : Nat),lf = .view (l.map (.int .i64)) n true∧l.length = n * 2) := by
 obtain ⟨ls,r,rfl,hg,h⟩ := fits3_agg h
 obtain rfl := fits3_nil h
 obtain ⟨x,ls,rfl,h1,hg⟩ := fitsL_cons hg
 obtain ⟨y,ls,rfl,h2,hg⟩ := fitsL_cons hg
 obtain rfl := fitsL_nil hg
 obtain ⟨b,rfl,_⟩ := h1
 refine ⟨b,y,rfl,?_⟩
 rcases h2 with h2 | h2 | ⟨cs,n,h2,h4⟩
 · exact .inl h2
 · exact .inr (.inl h2)
 · obtain ⟨l,rfl,e,_⟩ := RowsOk.ints (k := .i64) (m := 2) h4
   exact .inr (.inr ⟨l,n,h2,e⟩)
end Go.Pier.Rd
