import Derived.Test.YtdpfcahcnjcmiaaPierSlugE0
import Derived.Test.YtdpfcahcnjcmiaaPierSlugE1
import Derived.Test.YtdpfcahcnjcmiaaPierSlugE2
import Derived.Test.YtdpfcahcnjcmiaaPierSlugE3
import Derived.Test.YtdpfcahcnjcmiaaPierSlugE4
import Derived.Test.YtdpfcahcnjcmiaaPierSlugE5
import Derived.Test.YtdpfcahcnjcmiaaPierMA2
set_option linter.unusedSimpArgs false
set_option linter.unusedVariables false
namespace Go.Pier.SlugK
open Go Go.Pier Go.Proofs
def es : List ExactC := [e0, e1, e2, e3, e4, e5, e6, e7, e8, e9, e10, e11, e12, e13, e14, e15, e16, e17]
theorem es_ok : ∀ p ∈ es, p.Ok Try.prog := by
  intro p hp
  simp only [es, List.mem_cons, List.not_mem_nil, or_false] at hp
  rcases hp with rfl | rfl | rfl | rfl | rfl | rfl | rfl | rfl | rfl | rfl | rfl | rfl | rfl | rfl | rfl | rfl | rfl | rfl
  · exact ek0
  · exact ek1
  · exact ek2
  · exact ek3
  · exact ek4
  · exact ek5
  · exact ek6
  · exact ek7
  · exact ek8
  · exact ek9
  · exact ek10
  · exact ek11
  · exact ek12
  · exact ek13
  · exact ek14
  · exact ek15
  · exact ek16
  · exact ek17
noncomputable def et : Tbl := exactTbl es mt
theorem et_ok : TblOk Try.prog et := exactTbl_ok es_ok mt_ok
end Go.Pier.SlugK
namespace Go.Pier.SlugK
open Go Go.Pier Go.Proofs
def works : PureC := ⟨16, [], [], .bool true⟩
theorem works_ok : works.Ok Try.prog := PureC.ok_ev (n := 20000) et_ok (by kernel_rfl) (by kernel_rfl)
end Go.Pier.SlugK
namespace Go.Pier
open Go
variable {P : Program} {H : Heap} {f : FuncId}
theorem Call.plainly {args : List Value} {v : Value} (h : Call P f args [] fun v' H' => v' = v ∧ H' = []) (ha : args.all (sc 0) = true) (hv : sc 0 v = true) :
    Call P f args H (fun v' H2 => v' = v ∧ H2 = H) ∧ Kept H H [] := by
  have := Call.frameL (P := P) (f := f) (H := H) (Et := []) (Ft := []) (N := []) (L := []) (ags := args.map Arg2.val) (vs := args) (v := v) rfl rfl (by simp) (fun _ h => by cases h)
    (fun c o h => by simp at h) (fun _ h => by cases h) (read_vals ha) (fun caps => by rw [canonA2_vals, canonH2_vals]; exact h)
    (fun _ h => by cases h) (fun _ h => by cases h) (nm_closed hv) (fun _ h => by cases h) (by rw [nmap_closed hv]; exact sc_mono (Nat.zero_le _) hv)
  rw [nmap_closed hv] at this
  simpa only [List.map_nil, List.append_nil, setL] using this
def symT (spec : List Value → Option Value) : List Value → Heap → Option (Value × Heap × List Nat) := fun args H => match spec args with
  | some v => some (v, H, [])
  | none => none
theorem symT_ok {spec : List Value → Option Value} (h : ∀ args v, spec args = some v → args.all (sc 0) = true ∧ sc 0 v = true ∧ Call P f args [] fun v' H' => v' = v ∧ H' = []) :
    ∀ args H v H' l, symT spec args H = some (v, H', l) → Call P f args H (fun v' H2 => v' = v ∧ H2 = H') ∧ Kept H H' l := by
  intro args H v H' l hs
  unfold symT at hs
  split at hs <;> cases hs
  rename_i hv
  obtain ⟨h1, h2, h3⟩ := h _ _ hv
  exact Call.plainly h3 h1 h2
theorem Call.ofEv {tbl : Tbl} (ht : TblOk P tbl) {n : Nat} {args : List Value} {v : Value} (h : evFun P (evC P tbl n none) f args [] = some (v, [], [])) : Call P f args [] fun v' H' => v' = v ∧ H' = [] :=
  (evFun_sound (P := P) (fun c H t x t' H' l h => (evC_sound ht n none c H t x t' H' l h).1) _ _ _ _ _ _ h).1
end Go.Pier
namespace Go.Pier.SlugK
open Go Go.Pier Go.Proofs
def w6 (n : Int) : Int := IntKind.i64.wrap n
def sum4 (a b c d : Int) : Int := w6 (w6 (w6 (w6 (0 + a) + b) + c) + d)
def sumS : List Value → Option Value := fun args => match args with
  | [.agg ⟨[.int .i64 a, .int .i64 b, .int .i64 c, .int .i64 d]⟩] => some (vi (sum4 a b c d))
  | _ => none
def casesS : List Value → Option Value := fun args => match args with
  | [.agg ⟨[.int .i64 _, .int .i64 b, .int .i64 c, .int .i64 d, .bool e]⟩] => match e with
    | false => some (vi (w6 (w6 (b + c) + w6 (2 * d))))
    | true => some (vi (w6 (w6 (w6 (b + c) + w6 (2 * d)) + 1)))
  | _ => none
def levelS : List Value → Option Value := fun args => match args with
  | [.agg ⟨[.int .i64 a, .int .i64 b, .int .i64 c, .int .i64 d, .bool e]⟩, .agg ⟨[.int .i64 l0, .int .i64 l1, .int .i64 l2, .int .i64 l3, .int .i64 r0, .int .i64 r1, .int .i64 r2, .int .i64 r3]⟩] =>
    some (.agg ⟨[vi (w6 (w6 (a - w6 (l0 + r0)) + w6 (sum4 l0 l1 l2 l3 + sum4 r0 r1 r2 r3))), vi (w6 (b - w6 (l1 + r1))), vi (w6 (c - w6 (l2 + r2))), vi (w6 (d - w6 (l3 + r3))), .bool e]⟩)
  | _ => none
def sunkS : List Value → Option Value := fun args => match args with
  | [.agg ⟨[.int .i64 a, .int .i64 b, .int .i64 c, .int .i64 d, .bool _]⟩, .agg ⟨[.int .i64 _, .int .i64 _, .int .i64 d2, .int .i64 d3]⟩, .agg ⟨[.int .i64 _, .int .i64 u1, .int .i64 _, .int .i64 u3]⟩] =>
    some (.agg ⟨[vi (w6 (w6 (sum4 a b c d - w6 (u1 + u3)) - w6 (d2 + d3))), vi (w6 (u1 + u3)), vi (w6 (d2 + d3)), vi 0, .bool false]⟩)
  | _ => none
theorem sumS_ok : ∀ args v, sumS args = some v → args.all (sc 0) = true ∧ sc 0 v = true ∧ Call Try.prog 101 args [] fun v' H' => v' = v ∧ H' = [] := by
  intro args v h
  unfold sumS at h
  split at h <;> cases h
  rename_i a b c d
  exact ⟨by kernel_rfl, by kernel_rfl, Call.ofEv t0_ok (n := 2000) (by kernel_rfl)⟩
theorem casesS_ok : ∀ args v, casesS args = some v → args.all (sc 0) = true ∧ sc 0 v = true ∧ Call Try.prog 90 args [] fun v' H' => v' = v ∧ H' = [] := by
  intro args v h
  unfold casesS at h
  split at h <;> try (cases h; done)
  rename_i a b c d e
  cases e <;> cases h
  · exact ⟨by kernel_rfl, by kernel_rfl, Call.ofEv t0_ok (n := 2000) (by kernel_rfl)⟩
  · exact ⟨by kernel_rfl, by kernel_rfl, Call.ofEv t0_ok (n := 2000) (by kernel_rfl)⟩
theorem levelS_ok : ∀ args v, levelS args = some v → args.all (sc 0) = true ∧ sc 0 v = true ∧ Call Try.prog 95 args [] fun v' H' => v' = v ∧ H' = [] := by
  intro args v h
  unfold levelS at h
  split at h <;> cases h
  exact ⟨by kernel_rfl, by kernel_rfl, Call.ofEv t0_ok (n := 2000) (by kernel_rfl)⟩
theorem sunkS_ok : ∀ args v, sunkS args = some v → args.all (sc 0) = true ∧ sc 0 v = true ∧ Call Try.prog 96 args [] fun v' H' => v' = v ∧ H' = [] := by
  intro args v h
  unfold sunkS at h
  split at h <;> cases h
  exact ⟨by kernel_rfl, by kernel_rfl, Call.ofEv t0_ok (n := 2000) (by kernel_rfl)⟩
noncomputable def ts : Tbl := fun f => match Nat.beq f 90 with
  | true => some (symT casesS)
  | false => match Nat.beq f 95 with
    | true => some (symT levelS)
    | false => match Nat.beq f 96 with
      | true => some (symT sunkS)
      | false => match Nat.beq f 101 with
        | true => some (symT sumS)
        | false => none
theorem ts_ok : TblOk Try.prog ts := fun f g h => by
  unfold ts at h
  split at h
  · rename_i hf; obtain rfl := Nat.eq_of_beq_eq_true hf; cases h; exact symT_ok casesS_ok
  split at h
  · rename_i hf; obtain rfl := Nat.eq_of_beq_eq_true hf; cases h; exact symT_ok levelS_ok
  split at h
  · rename_i hf; obtain rfl := Nat.eq_of_beq_eq_true hf; cases h; exact symT_ok sunkS_ok
  split at h
  · rename_i hf; obtain rfl := Nat.eq_of_beq_eq_true hf; cases h; exact symT_ok sumS_ok
  cases h
end Go.Pier.SlugK
