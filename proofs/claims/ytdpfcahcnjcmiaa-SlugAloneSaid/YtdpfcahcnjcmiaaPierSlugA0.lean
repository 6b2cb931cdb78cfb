import Derived.Test.YtdpfcahcnjcmiaaPierMA6
set_option linter.unusedSimpArgs false
set_option linter.unusedVariables false
namespace Go.Pier.SlugK
open Go Go.Pier Go.Proofs
theorem ar1f (c w u : Int) : alRun c w u 1 false = true := by kernel_rfl
theorem ar3f (c w u : Int) : alRun c w u 3 false = true := by kernel_rfl
theorem ar5f (c w u : Int) : alRun c w u 5 false = true := by kernel_rfl
theorem ar7f (c w u : Int) : alRun c w u 7 false = true := by kernel_rfl
theorem ar9f (c w u : Int) : alRun c w u 9 false = true := by kernel_rfl
theorem ar11f (c w u : Int) : alRun c w u 11 false = true := by kernel_rfl
end Go.Pier.SlugK
