/-
  Pier: PierLgEJ.
-/
import Derived.Test.YtinkmgacaoohnaaPierLgE0
import Derived.Test.YtinkmgacaoohnaaPierLgE1
import Derived.Test.YtinkmgacaoohnaaPierLgE2
import Derived.Test.YtinkmgacaoohnaaPierLgE3
set_option linter.unusedSimpArgs false
set_option linter.unusedVariables false
/-
  Pier: calls over a whole heap.
-/
namespace Go.Pier.Lg
open Go Go.Pier Go.Proofs

def es : List ExactC := [e0, e1, e2, e3, e4, e5, e6, e7, e8, e9, e10, e11, e12, e13, e14, e15, e16, e17]
theorem es_ok : ∀ p ∈ es, p.Ok Try.prog := by
  intro p hp
  simp only [es, List.mem_cons, List.not_mem_nil, or_false] at hp
  rcases hp with rfl | rfl | rfl | rfl | rfl | rfl | rfl | rfl | rfl | rfl | rfl | rfl | rfl | rfl | rfl | rfl | rfl | rfl
  · exact ek0
  · exact ek1
  · exact ek2
  · exact ek3
  · exact ek4
  · exact ek5
  · exact ek6
  · exact ek7
  · exact ek8
  · exact ek9
  · exact ek10
  · exact ek11
  · exact ek12
  · exact ek13
  · exact ek14
  · exact ek15
  · exact ek16
  · exact ek17
noncomputable def et : Tbl := exactTbl es tl
theorem et_ok : TblOk Try.prog et := exactTbl_ok es_ok tl_ok

end Go.Pier.Lg

