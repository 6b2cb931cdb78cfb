import Derived.Test.YtmlnodejjhohbaaPierKC2
import Derived.WalkKit
import Derived.ProofKit
import Derived.OpenShut
set_option linter.unusedSimpArgs false
set_option linter.unusedVariables false
namespace Go.Pier
open Go Go.RowKit Go.ChangeShapes Go.WideShapes
variable {K : Type} {enc : TypeId × Value→K} {P : Program}
end Go.Pier
