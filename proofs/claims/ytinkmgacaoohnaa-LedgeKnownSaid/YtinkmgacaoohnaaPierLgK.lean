/-
  Pier: PierLgK.
-/
import Derived.Test.YtinkmgacaoohnaaPierLgNJ
/-
  Pier: the examples of the chapter on ledges.
-/
namespace Go.Pier.Lg
open Go Go.Pier Go.Proofs

def known : PureC := ⟨16, [], [], .bool true⟩
theorem known_ok : known.Ok Try.prog := PureC.ok_ev (n := 20000) nt_ok (by kernel_rfl) (by kernel_rfl)

end Go.Pier.Lg

