import Derived.Test.YtinkmgacaoohnaaPierMN4
set_option linter.unusedSimpArgs false
set_option linter.unusedVariables false
namespace Go.Pier
open Go
variable {P : Program} {H : Heap} {f : FuncId}
def orcName (P : Program) (d : Tmp) (v : Value) : Orc := fun env H o => match o.dst with
  | some t => match Nat.beq t d with
    | true => match symOp P env H o with
      | some (φ, some u, H1) => match φ with
        | none => some (u = v, some v, H1)
        | some φ => some (φ ∧ u = v, some v, H1)
      | _ => none
    | false => none
  | none => none
theorem orcName_ok {d : Tmp} {v : Value} : OrcOk P (orcName P d v) := by
  intro env H o φ u H' h hφ
  unfold orcName at h
  split at h <;> try (cases h; done)
  split at h <;> try (cases h; done)
  split at h <;> try (cases h; done)
  rename_i ψ w H1 hs
  split at h <;> cases h
  · subst hφ; exact symOp_sound hs trivial
  · obtain ⟨h1, rfl⟩ := hφ; exact symOp_sound hs h1
def nameCt (G : List Value → Heap → Option (Option Prop × Value × Heap × List Nat)) (v : Nat → Value) (new : Nat → Heap) : List Value → Heap → Option (Option Prop × Value × Heap × List Nat) := fun args H => match G args H with
  | some (φ, u, H1, l) => some (andO φ (some (u = v H.length ∧ H1 = H ++ new H.length)), v H.length, H ++ new H.length, l)
  | none => none
theorem nameCt_ok {G : List Value → Heap → Option (Option Prop × Value × Heap × List Nat)} {v : Nat → Value} {new : Nat → Heap}
    (h : ∀ args H φ v H' l, G args H = some (φ, v, H', l) → Asks φ → Call P f args H (fun v' H2 => v' = v ∧ H2 = H') ∧ Kept H H' l) :
    ∀ args H φ u H' l, nameCt G v new args H = some (φ, u, H', l) → Asks φ → Call P f args H (fun v' H2 => v' = u ∧ H2 = H') ∧ Kept H H' l := by
  intro args H φ u H' l hh hφ
  unfold nameCt at hh
  split at hh <;> cases hh
  rename_i ψ u H1 hg
  obtain ⟨h1, h2, h3⟩ := andO_iff.1 hφ
  have := h _ _ _ _ _ _ hg h1
  rw [← h2, ← h3]; exact this
end Go.Pier
