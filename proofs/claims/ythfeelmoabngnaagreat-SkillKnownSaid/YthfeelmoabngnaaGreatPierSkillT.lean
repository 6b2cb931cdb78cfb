/-
  Pier: package skill: the table to begin with.
-/
import Derived.Test.YthfeelmoabngnaaGreatPierW
import Derived.Test.YthfeelmoabngnaaGreatProg
import Derived.KernelRfl
namespace Go.Pier.SkillK
open Go Go.Pier Go.Proofs

def vi (n : Int) : Value := .int .i64 n
noncomputable def t0 : Tbl := fun _ => none
theorem t0_ok : TblOk Tryz.prog t0 := tblOk_none

end Go.Pier.SkillK
