import Derived.Test.YtdpfcahcnjcmiaaPierMA6
set_option linter.unusedSimpArgs false
set_option linter.unusedVariables false
namespace Go.Pier.SlugK
open Go Go.Pier Go.Proofs
theorem ar2f (c w u : Int) : alRun c w u 2 false = true := by kernel_rfl
theorem ar4f (c w u : Int) : alRun c w u 4 false = true := by kernel_rfl
theorem ar6f (c w u : Int) : alRun c w u 6 false = true := by kernel_rfl
theorem ar8f (c w u : Int) : alRun c w u 8 false = true := by kernel_rfl
theorem ar10f (c w u : Int) : alRun c w u 10 false = true := by kernel_rfl
theorem ar12f (c w u : Int) : alRun c w u 12 false = true := by kernel_rfl
end Go.Pier.SlugK
