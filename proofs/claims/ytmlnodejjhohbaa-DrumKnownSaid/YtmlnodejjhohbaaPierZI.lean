import Derived.Test.YtmlnodejjhohbaaPierKC0
set_option linter.unusedSimpArgs false
set_option linter.unusedVariables false
namespace Go.Pier
open Go
variable {P : Program} {ρ : Ren} {H H' : Heap} {w : World}
variable {ct : Ct} {E : VEnv} {N base : Nat} {ρ0 : Ren} {H0 : Heap} {w0 : World} {F : Fr} {a : Act} {D : Dec} {ops : Array Oper} {o : Oper} {i : Nat} {ro : Option Nat}
section
variable (P) (E : VEnv)
end
structure LShape (I : Type 1) where
 X : Type
 ok : X→Prop
 F : X→Fr
 H : X→Heap
 μ : X→Nat
 sub : X→Nat→Option I
inductive LInv : Type 1 where
 | mk (shapes : List (LShape LInv)) (σ0 : Nat→Nat→Nat) (σ : Nat→Nat→List (Nat→Nat))
def LInv.shapes : LInv→List (LShape LInv) | .mk s _ _ => s
def LInv.σ0 : LInv→Nat→Nat→Nat | .mk _ s _ => s
def LInv.σ : LInv→Nat→Nat→List (Nat→Nat) | .mk _ _ s => s
def LInv.one (X : Type) (ok : X→Prop) (F : X→Fr) (H : X→Heap) (μ : X→Nat) (sub : X→Nat→Option LInv := fun _ _ => none) : LInv := .mk [⟨X,ok,F,H,μ,sub⟩] (fun _ b => b) (fun _ _ => [fun b => b])
section
variable (P) (E : VEnv) (n0 N : Nat) (top : Bool)
end
end Go.Pier
