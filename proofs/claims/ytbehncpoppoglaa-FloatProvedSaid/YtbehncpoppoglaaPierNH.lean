import Derived.Test.YtbehncpoppoglaaPierKP3
set_option linter.unusedSimpArgs false
set_option linter.unusedVariables false
namespace Go.Pier
open Go
variable {P : Program} {N : Nat} {H : Heap}
def ReachO (n0 : Nat) (σ : Nat→Nat) (F : Fr) (H : Heap) (F2 : Fr) (H2 : Heap) : Prop :=
 match nameOk n0 σ H2.length with
 | true => Ob (objsOk σ H H2.length 0 H2)∧frsOk σ F H2.length F2
 | false => False
theorem ReachO.reach {n0 : Nat} {σ : Nat→Nat} {F : Fr} {F2 : Fr} {H2 : Heap} (h : ReachO n0 σ F H F2 H2) : Reach n0 σ F H F2 H2 := by
 unfold ReachO at h
 unfold Reach
 revert h
 cases nameOk n0 σ H2.length with
 | true => exact fun h => ⟨h.1.out,h.2⟩
 | false => exact fun h => h
def cutO {X : Type} (n0 : Nat) (σ : Nat→Nat) (ok : X→Prop) (Fx : X→Fr) (Hx : X→Heap) (K : KD) : KD
 | .normal => fun _ F H => ∃ y,Ob (ok y)∧ReachO n0 σ F H (Fx y) (Hx y)
 | e => K e
theorem vc_cutO {E : VEnv} (hct : VOk P E) (hm : P.follows .mixedOrders = true) {n0 : Nat} {ro : Option Nat} {X : Type} {σ : Nat→Nat} {ok : X→Prop} {Fx : X→Fr} {Hx : X→Heap} {K : KD} :
   ∀ (k : Nat) {inv : Nat→Option LInv} {c x y : Code} {D : Dec} {F : Fr} {H : Heap},splitC k c = some (x,y)→vc P E n0 N (vTop ro) inv x D F H (cutO n0 σ ok Fx Hx K) →
     (∀ z,ok z→VW n0 N ro P y (Hx z) (Fx z) (fun e F H => ∃ D,K e D F H))→VW n0 N ro P c H F (fun e F H => ∃ D,K e D F H)
 | 0,inv,.seq a b,x,y,D,F,H,hs,h,h2 => by
   cases hs
   refine VW.seq ((vc_sound hct hm _ D F H _ h).mono fun e F H ⟨D,h1⟩ => ?_)
   cases e with
   | normal =>
     obtain ⟨z,hz,hr⟩ := h1
     exact fun base ρ0 H0 w0 a w hn hA => h2 z hz.out base ρ0 H0 w0 a w hn (hA.reach hn hr.reach)
   | exit id => exact ⟨D,h1⟩
   | ret => exact ⟨D,h1⟩
 | k + 1,inv,.seq a b,x,y,D,F,H,hs,h,h2 => by
   have ⟨x',hs',hx⟩ : ∃ x',splitC k b = some (x',y)∧x = .seq a x' := by
     unfold splitC at hs
     cases hq : splitC k b with
     | none => rw [hq] at hs; cases hs
     | some q => rw [hq] at hs; cases hs; exact ⟨_,rfl,rfl⟩
   subst hx
   have h : vc P E n0 N (vTop ro) inv a D F H (thenD (fun D F H => vc P E n0 N (vTop ro) inv x' D F H (cutO n0 σ ok Fx Hx K)) (cutO n0 σ ok Fx Hx K)) := h
   refine VW.seq ((vc_sound hct hm a D F H _ h).mono fun e F H ⟨D,h1⟩ => ?_)
   cases e with
   | normal => exact vc_cutO hct hm k hs' h1 h2
   | exit id => exact ⟨D,h1⟩
   | ret => exact ⟨D,h1⟩
end Go.Pier
