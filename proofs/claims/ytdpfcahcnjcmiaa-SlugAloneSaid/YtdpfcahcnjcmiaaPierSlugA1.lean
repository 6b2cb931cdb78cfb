import Derived.Test.YtdpfcahcnjcmiaaPierMA6
set_option linter.unusedSimpArgs false
set_option linter.unusedVariables false
namespace Go.Pier.SlugK
open Go Go.Pier Go.Proofs
theorem ar1t (c w u : Int) : alRun c w u 1 true = true := by kernel_rfl
theorem ar3t (c w u : Int) : alRun c w u 3 true = true := by kernel_rfl
theorem ar5t (c w u : Int) : alRun c w u 5 true = true := by kernel_rfl
theorem ar7t (c w u : Int) : alRun c w u 7 true = true := by kernel_rfl
theorem ar9t (c w u : Int) : alRun c w u 9 true = true := by kernel_rfl
theorem ar11t (c w u : Int) : alRun c w u 11 true = true := by kernel_rfl
end Go.Pier.SlugK
