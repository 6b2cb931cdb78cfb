/-
  Pier: calls over a whole heap.
-/
import Derived.Test.YthojbpelnfdgcacPierWheelN0
import Derived.Test.YthojbpelnfdgcacPierWheelN1
import Derived.Test.YthojbpelnfdgcacPierWheelN2
import Derived.Test.YthojbpelnfdgcacPierWheelN3
import Derived.Test.YthojbpelnfdgcacPierWheelN4
import Derived.Test.YthojbpelnfdgcacPierWheelN5
namespace Go.Pier.WheelK
open Go Go.Pier Go.Proofs

def ns : List ExactC := [n0, n1, n2, n3, n4, n5, n6, n7, n8, n9, n10, n11]
theorem ns_ok : ∀ p ∈ ns, p.Ok Try.prog := by
  intro p hp
  simp only [ns, List.mem_cons, List.not_mem_nil, or_false] at hp
  rcases hp with rfl | rfl | rfl | rfl | rfl | rfl | rfl | rfl | rfl | rfl | rfl | rfl
  · exact nk0
  · exact nk1
  · exact nk2
  · exact nk3
  · exact nk4
  · exact nk5
  · exact nk6
  · exact nk7
  · exact nk8
  · exact nk9
  · exact nk10
  · exact nk11
noncomputable def nt : Tbl := exactTbl ns tw
theorem nt_ok : TblOk Try.prog nt := exactTbl_ok ns_ok tw_ok

end Go.Pier.WheelK
