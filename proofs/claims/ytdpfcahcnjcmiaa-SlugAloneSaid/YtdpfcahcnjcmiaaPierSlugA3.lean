import Derived.Test.YtdpfcahcnjcmiaaPierMA6
set_option linter.unusedSimpArgs false
set_option linter.unusedVariables false
namespace Go.Pier.SlugK
open Go Go.Pier Go.Proofs
theorem ar2t (c w u : Int) : alRun c w u 2 true = true := by kernel_rfl
theorem ar4t (c w u : Int) : alRun c w u 4 true = true := by kernel_rfl
theorem ar6t (c w u : Int) : alRun c w u 6 true = true := by kernel_rfl
theorem ar8t (c w u : Int) : alRun c w u 8 true = true := by kernel_rfl
theorem ar10t (c w u : Int) : alRun c w u 10 true = true := by kernel_rfl
theorem ar12t (c w u : Int) : alRun c w u 12 true = true := by kernel_rfl
end Go.Pier.SlugK
