/-
  Pier: PierLgNJ.
-/
import Derived.Test.YtinkmgacaoohnaaPierLgN0
import Derived.Test.YtinkmgacaoohnaaPierLgN1
import Derived.Test.YtinkmgacaoohnaaPierLgN2
import Derived.Test.YtinkmgacaoohnaaPierLgN3
/-
  Pier: calls over a whole heap.
-/
namespace Go.Pier.Lg
open Go Go.Pier Go.Proofs

def ns : List ExactC := [n0, n1, n2, n3, n4, n5, n6, n7, n8, n9, n10, n11, n12]
theorem ns_ok : ∀ p ∈ ns, p.Ok Try.prog := by
  intro p hp
  simp only [ns, List.mem_cons, List.not_mem_nil, or_false] at hp
  rcases hp with rfl | rfl | rfl | rfl | rfl | rfl | rfl | rfl | rfl | rfl | rfl | rfl | rfl
  · exact nk0
  · exact nk1
  · exact nk2
  · exact nk3
  · exact nk4
  · exact nk5
  · exact nk6
  · exact nk7
  · exact nk8
  · exact nk9
  · exact nk10
  · exact nk11
  · exact nk12
noncomputable def nt : Tbl := exactTbl ns tw
theorem nt_ok : TblOk Try.prog nt := exactTbl_ok ns_ok tw_ok

end Go.Pier.Lg

