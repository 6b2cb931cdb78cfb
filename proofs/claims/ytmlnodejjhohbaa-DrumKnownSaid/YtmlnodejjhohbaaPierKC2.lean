import Derived.Test.YtmlnodejjhohbaaPierKC1
import Derived.Test.YtmlnodejjhohbaaPierRow
import Derived.Carry
import Derived.WideShapes
set_option linter.unusedSimpArgs false
set_option linter.unusedVariables false
namespace Go.Pier
open Go Go.RowKit
variable {P : Program} {ρ : Ren} {H : Heap} {w : World} {K : Type} {enc : TypeId × Value→K} {held : Bool}
def shapeV (P : Program) (t : TypeId) (v : Value) : Prop := match P.underlying t with
 | some (.struct _) => ∃ cs : Array Value,v = .agg cs∧cs.size = P.cellsOf t
 | _ => ∀ cs : Array Value,v ≠ .agg cs
def ReadsV (P : Program) (H : Heap) (t : TypeId) (v : Value) (d : DataW K) : Prop := shapeV P t v∧∃ f,Reads P H f t v.cells.toList d
theorem ReadsV.more {X : Heap} {t : TypeId} {v : Value} {d : DataW K} (h : ReadsV P H t v d) : ReadsV P (H ++ X) t v d := let ⟨s,f,h⟩ := h; ⟨s,f,h.more f⟩
end Go.Pier
