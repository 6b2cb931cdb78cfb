import Derived.Test.YtinkmgacaoohnaaPierMO4
set_option linter.unusedSimpArgs false
set_option linter.unusedVariables false
namespace Go.Pier
open Go
variable {P : Program} {H : Heap} {f : FuncId}
def nameCt (G : List Value→Heap→Option (Option Prop × Value × Heap × List Nat)) (v : Nat→Value) (new : Nat→Heap) : List Value→Heap→Option (Option Prop × Value × Heap × List Nat) := fun args H => match G args H with
 | some (φ,u,H1,l) => some (andO φ (some (u = v H.length∧H1 = H ++ new H.length)),v H.length,H ++ new H.length,l)
 | none => none
theorem nameCt_ok {G : List Value→Heap→Option (Option Prop × Value × Heap × List Nat)} {v : Nat→Value} {new : Nat→Heap}
   (h : ∀ args H φ v H' l,G args H = some (φ,v,H',l)→Asks φ→Call P f args H (fun v' H2 => v' = v∧H2 = H')∧Kept H H' l) :
   ∀ args H φ u H' l,nameCt G v new args H = some (φ,u,H',l)→Asks φ→Call P f args H (fun v' H2 => v' = u∧H2 = H')∧Kept H H' l := by
 intro args H φ u H' l hh hφ
 unfold nameCt at hh
 split at hh <;> cases hh
 rename_i ψ u H1 hg
 obtain ⟨h1,h2,h3⟩ := andO_iff.1 hφ
 have := h _ _ _ _ _ _ hg h1
 rw [← h2,← h3]; exact this
end Go.Pier
