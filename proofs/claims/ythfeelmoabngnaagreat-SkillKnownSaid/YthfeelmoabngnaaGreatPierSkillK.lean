/-
  Pier: the examples of package skill.
-/
import Derived.Test.YthfeelmoabngnaaGreatPierSkillB
namespace Go.Pier.SkillK
open Go Go.Pier Go.Proofs

def known : PureC := ⟨15, [], [], .bool true⟩
theorem known_ok : known.Ok Tryz.prog := PureC.ok_ev (n := 20000) tw_ok (by kernel_rfl) (by kernel_rfl)

end Go.Pier.SkillK
