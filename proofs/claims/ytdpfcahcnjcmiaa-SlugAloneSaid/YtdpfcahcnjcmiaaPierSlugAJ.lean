import Derived.Test.YtdpfcahcnjcmiaaPierSlugA0
import Derived.Test.YtdpfcahcnjcmiaaPierSlugA1
import Derived.Test.YtdpfcahcnjcmiaaPierSlugA2
import Derived.Test.YtdpfcahcnjcmiaaPierSlugA3
import Derived.Test.YtdpfcahcnjcmiaaPierMA2
import Derived.Test.YtdpfcahcnjcmiaaPierMA1
set_option linter.unusedSimpArgs false
set_option linter.unusedVariables false
namespace Go.Pier.SlugK
open Go Go.Pier Go.Proofs
theorem alone_call {c : Int} (hc : 0 ≤ c ∧ c < 256) (b : Bool) : Call Try.prog 13 [.int .u8 c, .bool b] [] fun v _ => v = .bool true := by
  have hw : IntKind.i64.wrap (1 + (IntKind.i64.wrap c).tmod 12) = 1 + c % 12 := by
    rw [wrap_in (x := c) (by omega) (by omega), Int.tmod_eq_emod_of_nonneg hc.1, wrap_in (by omega) (by omega)]
  have hr : c % 12 = 0 ∨ c % 12 = 1 ∨ c % 12 = 2 ∨ c % 12 = 3 ∨ c % 12 = 4 ∨ c % 12 = 5 ∨ c % 12 = 6 ∨ c % 12 = 7 ∨ c % 12 = 8 ∨ c % 12 = 9 ∨ c % 12 = 10 ∨ c % 12 = 11 := by omega
  rcases hr with h | h | h | h | h | h | h | h | h | h | h | h <;> rw [h] at hw <;> cases b
  · exact al_call (x := 1) hw (ar1f c)
  · exact al_call (x := 1) hw (ar1t c)
  · exact al_call (x := 2) hw (ar2f c)
  · exact al_call (x := 2) hw (ar2t c)
  · exact al_call (x := 3) hw (ar3f c)
  · exact al_call (x := 3) hw (ar3t c)
  · exact al_call (x := 4) hw (ar4f c)
  · exact al_call (x := 4) hw (ar4t c)
  · exact al_call (x := 5) hw (ar5f c)
  · exact al_call (x := 5) hw (ar5t c)
  · exact al_call (x := 6) hw (ar6f c)
  · exact al_call (x := 6) hw (ar6t c)
  · exact al_call (x := 7) hw (ar7f c)
  · exact al_call (x := 7) hw (ar7t c)
  · exact al_call (x := 8) hw (ar8f c)
  · exact al_call (x := 8) hw (ar8t c)
  · exact al_call (x := 9) hw (ar9f c)
  · exact al_call (x := 9) hw (ar9t c)
  · exact al_call (x := 10) hw (ar10f c)
  · exact al_call (x := 10) hw (ar10t c)
  · exact al_call (x := 11) hw (ar11f c)
  · exact al_call (x := 11) hw (ar11t c)
  · exact al_call (x := 12) hw (ar12f c)
  · exact al_call (x := 12) hw (ar12t c)
theorem wf_u8 {n : Int} (h : (Lit.int .u8 n).wf = true) : 0 ≤ n ∧ n < 256 := by
  simp only [Lit.wf, Bool.and_eq_true, decide_eq_true_eq] at h
  have h1 : IntKind.u8.min = 0 := rfl
  have h2 : IntKind.u8.max = 255 := rfl
  rw [h1, h2] at h
  omega
theorem alone_law {K : Type} : ∀ (H : Heap) (avs : List Value) (ds : List (DataW K)), Still H → ReadsAll Try.prog H Try.f13.params.toList avs ds → Call Try.prog 13 avs H fun v _ => v = .bool true :=
  law_of (ps := [.int .u8, .bool]) (by kernel_rfl) fun r hr caps => match r, hr with
    | [_, _], ⟨⟨a, ea, ha⟩, ⟨b, eb⟩, _⟩ => by
      subst ea; subst eb
      exact alone_call (wf_u8 ha) b
end Go.Pier.SlugK
