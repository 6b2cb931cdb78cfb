import Derived.Test.YtinkmgacaoohnaaPierMS4
import Derived.KernelRfl
import Derived.Test.YtinkmgacaoohnaaPierMS3
import Derived.Test.YtinkmgacaoohnaaPierLgS
set_option linter.unusedSimpArgs false
set_option linter.unusedVariables false
set_option maxRecDepth 100000
set_option linter.unusedVariables false
set_option linter.unusedSimpArgs false
namespace Go.Pier.Lg
open Go Go.Pier Go.Proofs
end Go.Pier.Lg
set_option maxRecDepth 100000
set_option linter.unusedVariables false
set_option linter.unusedSimpArgs false
namespace Go.Pier.Lg
open Go Go.Pier Go.Proofs
end Go.Pier.Lg
set_option maxRecDepth 100000
set_option linter.unusedVariables false
set_option linter.unusedSimpArgs false
namespace Go.Pier.Lg
open Go Go.Pier Go.Proofs
def plcN (a : Int) : Int := 1 + a % 8
noncomputable def plB : Code := Try.f42.body.getD .skip
noncomputable def plV :=
fun (a : Int) ↦ Ob ((8 : Int) ≠ (0 : Int)) ∧ True ∧ Ob (IntKind.i64.wrap ((1 : Int) + (IntKind.i64.wrap a).tmod (8 : Int)) = plcN a) ∧ True
theorem plV_eq : plV = fun (a : Int) => vc Try.prog {} 0 7 true (fun _ => none) plB [] (argFr 0 [.int .u8 a]) [] (retR Try.prog Try.f42 0 (fun b => b) (vi (plcN a)) []) := by kernel_rfl
theorem plV_ok (a : Int) (ha : 0 ≤ a ∧ a < 256) : plV a := by
  have wA : IntKind.i64.wrap (1 + (IntKind.i64.wrap a).tmod 8) = plcN a := by
    rw [wrap_in (x := a) (by omega) (by omega), Int.tmod_eq_emod_of_nonneg ha.1]
    unfold plcN
    exact wrap_in (by omega) (by omega)
  unfold plV
  simp only [SS, reduceCtorEq, Arg.list, Arg.num, Arg.flag, intOf, andP, Nat.reduceLeDiff, Nat.reduceAdd, Nat.reduceMul, Nat.reduceLT, wA]
  decide
theorem plc_bd {a : Int} : 1 ≤ plcN a ∧ plcN a ≤ 8 := by unfold plcN; omega
theorem plc_nat (a : Int) : ∃ n : Nat, plcN a = n ∧ 1 ≤ n ∧ n ≤ 8 := by
  have := plc_bd (a := a)
  exact ⟨(plcN a).toNat, by omega, by omega, by omega⟩
def placeN (n : Nat) : List Value → Option (Prop × Value) := fun args => match args with
  | [.int .u8 a] => some ((0 ≤ a ∧ a < 256) ∧ plcN a = n, vi n)
  | _ => none
theorem u8_plain {n : Int} : Plain (.int .u8 n) := ⟨fun σ => by simp [nmap, nmap2, nmap1, nmap0], fun m => by simp [sc, sc2, sc1, sc0], fun p => by simp [nm, nm2, nm1, nm0]⟩
theorem placeG_ok (n : Nat) : ∀ args H φ v H' l, plainG (placeN n) args H = some (φ, v, H', l) → Asks φ → Call Try.prog 42 args H (fun v' H2 => v' = v ∧ H2 = H') ∧ Kept H H' l :=
  plainG_ok fun args φ v hs hφ => by
    unfold placeN at hs
    split at hs <;> cases hs
    rename_i a
    refine ⟨mem_one u8_plain, vi_plain, ?_⟩
    rw [← hφ.2]
    exact Call.ofVcR (VOk.ofCt CtOk.none) mixed (c := plB) Try.func42 (by kernel_rfl) (cast (congrFun plV_eq a) (plV_ok a hφ.1))
theorem Call.gone {f : FuncId} {args : List Value} {H : Heap} {q : Value → Prop} (h : Call Try.prog f args (H ++ [.gone]) fun v _ => q v) : Call Try.prog f args H fun v _ => q v := fun ρ w R hs => by
  have hwr : ∀ b, wr (H ++ [.gone]) b = true → wr H b = true := fun b hb => by
    by_cases hl : b < H.length
    · unfold wr at hb ⊢; rwa [List.getElem?_append_left hl] at hb
    · unfold wr at hb
      rw [List.getElem?_append_right (by omega)] at hb
      by_cases e : b - H.length = 0
      · rw [e] at hb; simp at hb
      · rw [List.getElem?_eq_none (by simp; omega)] at hb; cases hb
  have hro : ∀ b, isRo (H ++ [.gone]) b = true → isRo H b = true := fun b hb => by
    by_cases hl : b < H.length
    · unfold isRo at hb ⊢; rwa [List.getElem?_append_left hl] at hb
    · unfold isRo at hb
      rw [List.getElem?_append_right (by omega)] at hb
      by_cases e : b - H.length = 0
      · rw [e] at hb; simp at hb
      · rw [List.getElem?_eq_none (by simp; omega)] at hb; cases hb
  have hmx : ∀ b, isMix (H ++ [.gone]) b = true → isMix H b = true := fun b hb => by
    by_cases hl : b < H.length
    · unfold isMix at hb ⊢; rwa [List.getElem?_append_left hl] at hb
    · unfold isMix at hb
      rw [List.getElem?_append_right (by omega)] at hb
      by_cases e : b - H.length = 0
      · rw [e] at hb; simp at hb
      · rw [List.getElem?_eq_none (by simp; omega)] at hb; cases hb
  have hget : ∀ (b : Nat) (o : AObj), (H ++ [.gone])[b]? = some o → o = .gone ∨ H[b]? = some o := fun b o hb => by
    by_cases hl : b < H.length
    · rw [List.getElem?_append_left hl] at hb; exact .inr hb
    · rw [List.getElem?_append_right (by omega)] at hb
      by_cases e : b - H.length = 0
      · rw [e] at hb; simp at hb; exact .inl hb.symm
      · rw [List.getElem?_eq_none (by simp; omega)] at hb; cases hb
  have R2 : Rel ρ (H ++ [.gone]) w := ⟨fun b o hb => by
      rcases hget b o hb with rfl | h1
      · trivial
      · exact R.obj b o h1, fun b b' hb hb' => R.inj b b' (hwr b hb) (hwr b' hb'), fun b b' hb hb' => R.sep b b' (hro b hb) (hwr b' hb'), fun b b' hb hb' => R.deep b b' (hmx b hb) (hwr b' hb'), fun b o hb => by
      rcases hget b o hb with rfl | h1
      · rfl
      · exact AObj.sc_mono (by simp) (R.scp b o h1)⟩
  refine (h ρ w R2 (List.all_eq_true.2 fun v hv => sc_mono (by simp) (List.all_eq_true.1 hs v hv))).mono ?_
  rintro e w' ⟨ρ', v, H', rfl, hq, R', X, s'⟩
  have hl : H.length + 1 ≤ H'.length := by have := X.len; simpa using this
  have hwi : ∀ b, wr H b = true → wr (H ++ [.gone]) b = true := fun b hb => by
    have := wr_lt hb
    unfold wr at hb ⊢; rwa [List.getElem?_append_left this]
  refine ⟨ρ', v, H', rfl, hq, R', ⟨by omega, fun b hb => X.agree b (by simp only [List.length_append, List.length_cons, List.length_nil]; omega), X.size, fun k hk hn => X.keep k hk fun b hb => hn b (hwr b hb), fun b hb => ?_, fun b hb => ?_, fun b hb => hmx b (X.mix b hb), X.os, X.tape, X.output⟩, s'⟩
  · rcases X.wr b hb with h1 | ⟨h1, h2⟩
    · exact .inl (hwr b h1)
    · refine .inr ⟨by simp only [List.length_append, List.length_cons, List.length_nil] at h1; omega, ?_⟩
      rcases h2 with h2 | ⟨b0, h3, h4⟩
      · exact .inl h2
      · exact .inr ⟨b0, hwr b0 h3, h4⟩
  · rcases X.ro b hb with h1 | ⟨h1, b0, h3, h4⟩
    · exact .inl (hro b h1)
    · exact .inr ⟨by simp only [List.length_append, List.length_cons, List.length_nil] at h1; omega, b0, hmx b0 h3, h4⟩
theorem wf_byte {n : Int} (h : (Lit.int .u8 n).wf = true) : 0 ≤ n ∧ n < 256 := by
  simp only [Lit.wf, Bool.and_eq_true, decide_eq_true_eq] at h
  have h1 : IntKind.u8.min = 0 := rfl
  have h2 : IntKind.u8.max = 255 := rfl
  rw [h1, h2] at h
  omega
theorem fits_bytes {a : Arg} (h : (PK.ints .u8).fits a) : (a = .plain nilS ∨ ∃ s, a = .hole s) ∨ ∃ l, a = .ints .u8 l ∧ 0 < l.length ∧ u8s l := by
  rcases h with h | h | ⟨l, h, h2, _, h3⟩
  · exact .inl (.inl h)
  · exact .inl (.inr h)
  · exact .inr ⟨l, h, h2, fun x hx => wf_byte (h3 x hx)⟩
theorem fits_byte {a : Arg} (h : (PK.int .u8).fits a) : ∃ n, a = .plain (.int .u8 n) ∧ 0 ≤ n ∧ n < 256 := by
  obtain ⟨n, h, h2⟩ := h
  exact ⟨n, h, wf_byte h2⟩
theorem fits_cons {p : PK} {ps : List PK} {r : List Arg} (h : fitsAll (p :: ps) r) : ∃ a r', r = a :: r' ∧ p.fits a ∧ fitsAll ps r' := by
  cases r with
  | nil => exact h.elim
  | cons a r => exact ⟨a, r, rfl, h.1, h.2⟩
theorem fits_nil {r : List Arg} (h : fitsAll [] r) : r = [] := by
  cases r with
  | nil => rfl
  | cons a r => exact h.elim
end Go.Pier.Lg
