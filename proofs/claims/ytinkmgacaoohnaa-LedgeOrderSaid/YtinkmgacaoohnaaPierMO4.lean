/-
  Pier: PierLbes, PierLrlie, PierLrfull, PierLrcd, PierLrii, PierLrows, PierLleave, PierLworks.
-/
import Derived.Test.YtinkmgacaoohnaaPierMO3
import Derived.KernelRfl
import Derived.Test.YtinkmgacaoohnaaPierMO2
import Derived.Test.YtinkmgacaoohnaaPierW
set_option linter.unusedSimpArgs false
set_option linter.unusedVariables false
set_option maxRecDepth 100000
set_option linter.unusedVariables false
set_option linter.unusedSimpArgs false
namespace Go.Pier.Lg
open Go Go.Pier Go.Proofs 
noncomputable def besB : Code := Try.f80.body.getD .skip
def aV (tk : Nat → Bool) : Value := .agg #[.bool (tk 0), .bool (tk 1), .bool (tk 2), .bool (tk 3), .bool (tk 4), .bool (tk 5), .bool (tk 6), .bool (tk 7)]
def besF (a b : Nat → Bool) (i j : Nat) : Bool := decide (j < i) && (a j && !b j)
def besI (a b : Nat → Bool) : Nat → Option LInv := invOf 0 (LInv.one Nat (fun i => i ≤ 8)
  (fun i => [(2, ptr0 0), (3, ptr0 1), (4, ptr0 2), (5, ptr0 3), (7, vi i)]) (fun i => [.rw (T8 a []) none, .rw (T8 b []) none, .rw (T8 emp []) none, .rw (T8 (besF a b i) []) none]) (fun i => 8 - i))
noncomputable def besE : VEnv := { orc := orcB }
noncomputable def besV :=
fun (a b : Nat → Bool) ↦ (∃ (y : Nat), Ob (y ≤ (8 : Nat)) ∧ (Ob (AObj.rw (T8 a []) none = AObj.rw (T8 a []) none ∧ true = true) ∧ Ob (AObj.rw (T8 b []) none = AObj.rw (T8 b []) none ∧ true = true) ∧ Ob (AObj.rw (T8 emp []) none = AObj.rw (T8 emp []) none ∧ true = true) ∧ Ob (AObj.rw (T8 emp []) none = AObj.rw (T8 (besF a b y) []) none ∧ true = true) ∧ True) ∧ Ob (ptr0 0 = ptr0 0) ∧ Ob (ptr0 1 = ptr0 1) ∧ Ob (ptr0 2 = ptr0 2) ∧ Ob (ptr0 3 = ptr0 3) ∧ Ob ((0 : Int) = (↑y : Int)) ∧ True) ∧ ∀ (x : Nat), Ob (x ≤ (8 : Nat)) → (decide ((↑x : Int) < (8 : Int)) = true → Ob ((0 : Int) ≤ (↑x : Int) ∧ (↑x : Int) < (↑(8 : Nat) : Int)) ∧ Ob (BoolAt (T8 a []) ((0 : Nat) + (↑x : Int).toNat * (1 : Nat))) ∧ (getB (T8 a []) ((0 : Nat) + (↑x : Int).toNat * (1 : Nat)) = true → Ob ((0 : Int) ≤ (↑x : Int) ∧ (↑x : Int) < (↑(8 : Nat) : Int)) ∧ Ob (BoolAt (T8 b []) ((0 : Nat) + (↑x : Int).toNat * (1 : Nat))) ∧ Ob ((0 : Int) ≤ (↑x : Int) ∧ (↑x : Int) < (↑(8 : Nat) : Int)) ∧ Ob (BoolAt (T8 (besF a b x) []) ((0 : Nat) + (↑x : Int).toNat * (1 : Nat)) ∧ some (1 : Nat) = some (1 : Nat)) ∧ ∃ (y : Nat), Ob (y ≤ (8 : Nat)) ∧ Ob ((8 : Nat) - y < (8 : Nat) - x) ∧ (Ob (AObj.rw (T8 a []) none = AObj.rw (T8 a []) none ∧ true = true) ∧ Ob (AObj.rw (T8 b []) none = AObj.rw (T8 b []) none ∧ true = true) ∧ Ob (AObj.rw (T8 emp []) none = AObj.rw (T8 emp []) none ∧ true = true) ∧ Ob (AObj.rw [Value.bool (bif Nat.beq (0 : Nat) ((0 : Nat) + (↑x : Int).toNat * (1 : Nat)) then !getB (T8 b []) ((0 : Nat) + (↑x : Int).toNat * (1 : Nat)) else besF a b x (0 : Nat)), Value.bool (bif Nat.beq (1 : Nat) ((0 : Nat) + (↑x : Int).toNat * (1 : Nat)) then !getB (T8 b []) ((0 : Nat) + (↑x : Int).toNat * (1 : Nat)) else besF a b x (1 : Nat)), Value.bool (bif Nat.beq (2 : Nat) ((0 : Nat) + (↑x : Int).toNat * (1 : Nat)) then !getB (T8 b []) ((0 : Nat) + (↑x : Int).toNat * (1 : Nat)) else besF a b x (2 : Nat)), Value.bool (bif Nat.beq (3 : Nat) ((0 : Nat) + (↑x : Int).toNat * (1 : Nat)) then !getB (T8 b []) ((0 : Nat) + (↑x : Int).toNat * (1 : Nat)) else besF a b x (3 : Nat)), Value.bool (bif Nat.beq (4 : Nat) ((0 : Nat) + (↑x : Int).toNat * (1 : Nat)) then !getB (T8 b []) ((0 : Nat) + (↑x : Int).toNat * (1 : Nat)) else besF a b x (4 : Nat)), Value.bool (bif Nat.beq (5 : Nat) ((0 : Nat) + (↑x : Int).toNat * (1 : Nat)) then !getB (T8 b []) ((0 : Nat) + (↑x : Int).toNat * (1 : Nat)) else besF a b x (5 : Nat)), Value.bool (bif Nat.beq (6 : Nat) ((0 : Nat) + (↑x : Int).toNat * (1 : Nat)) then !getB (T8 b []) ((0 : Nat) + (↑x : Int).toNat * (1 : Nat)) else besF a b x (6 : Nat)), Value.bool (bif Nat.beq (7 : Nat) ((0 : Nat) + (↑x : Int).toNat * (1 : Nat)) then !getB (T8 b []) ((0 : Nat) + (↑x : Int).toNat * (1 : Nat)) else besF a b x (7 : Nat))] none = AObj.rw (T8 (besF a b y) []) none ∧ true = true) ∧ True) ∧ Ob (ptr0 0 = ptr0 0) ∧ Ob (ptr0 1 = ptr0 1) ∧ Ob (ptr0 2 = ptr0 2) ∧ Ob (ptr0 3 = ptr0 3) ∧ Ob (IntKind.i64.wrap ((↑x : Int) + (1 : Int)) = (↑y : Int)) ∧ True) ∧ (getB (T8 a []) ((0 : Nat) + (↑x : Int).toNat * (1 : Nat)) = false → Ob ((0 : Int) ≤ (↑x : Int) ∧ (↑x : Int) < (↑(8 : Nat) : Int)) ∧ Ob (BoolAt (T8 (besF a b x) []) ((0 : Nat) + (↑x : Int).toNat * (1 : Nat)) ∧ some (1 : Nat) = some (1 : Nat)) ∧ ∃ (y : Nat), Ob (y ≤ (8 : Nat)) ∧ Ob ((8 : Nat) - y < (8 : Nat) - x) ∧ (Ob (AObj.rw (T8 a []) none = AObj.rw (T8 a []) none ∧ true = true) ∧ Ob (AObj.rw (T8 b []) none = AObj.rw (T8 b []) none ∧ true = true) ∧ Ob (AObj.rw (T8 emp []) none = AObj.rw (T8 emp []) none ∧ true = true) ∧ Ob (AObj.rw [Value.bool (bif Nat.beq (0 : Nat) ((0 : Nat) + (↑x : Int).toNat * (1 : Nat)) then false else besF a b x (0 : Nat)), Value.bool (bif Nat.beq (1 : Nat) ((0 : Nat) + (↑x : Int).toNat * (1 : Nat)) then false else besF a b x (1 : Nat)), Value.bool (bif Nat.beq (2 : Nat) ((0 : Nat) + (↑x : Int).toNat * (1 : Nat)) then false else besF a b x (2 : Nat)), Value.bool (bif Nat.beq (3 : Nat) ((0 : Nat) + (↑x : Int).toNat * (1 : Nat)) then false else besF a b x (3 : Nat)), Value.bool (bif Nat.beq (4 : Nat) ((0 : Nat) + (↑x : Int).toNat * (1 : Nat)) then false else besF a b x (4 : Nat)), Value.bool (bif Nat.beq (5 : Nat) ((0 : Nat) + (↑x : Int).toNat * (1 : Nat)) then false else besF a b x (5 : Nat)), Value.bool (bif Nat.beq (6 : Nat) ((0 : Nat) + (↑x : Int).toNat * (1 : Nat)) then false else besF a b x (6 : Nat)), Value.bool (bif Nat.beq (7 : Nat) ((0 : Nat) + (↑x : Int).toNat * (1 : Nat)) then false else besF a b x (7 : Nat))] none = AObj.rw (T8 (besF a b y) []) none ∧ true = true) ∧ True) ∧ Ob (ptr0 0 = ptr0 0) ∧ Ob (ptr0 1 = ptr0 1) ∧ Ob (ptr0 2 = ptr0 2) ∧ Ob (ptr0 3 = ptr0 3) ∧ Ob (IntKind.i64.wrap ((↑x : Int) + (1 : Int)) = (↑y : Int)) ∧ True)) ∧ (decide ((↑x : Int) < (8 : Int)) = false → Ob ((8 : Nat) ≤ (8 : Nat)) ∧ True ∧ Ob (Value.agg { toList := (T8 (besF a b x) []) } = Value.agg { toList := (T8 (besF a b (8 : Nat)) []) }) ∧ True)
theorem besV_eq : besV = fun (a b : Nat → Bool) => vc Try.prog besE 0 23 true (besI a b) besB [] (argFr 0 [aV a, aV b]) [] (retR Try.prog Try.f80 0 (fun b => b) (aV (besF a b 8)) []) := by kernel_rfl


theorem T80_getB {tk : Nat → Bool} {r : List Value} {a : Nat} (h : a < 8) : getB (T8 tk r) a = tk a := by
  rcases a with _ | _ | _ | _ | _ | _ | _ | _ | a <;> first | rfl | omega
theorem T80_boolAt {tk : Nat → Bool} {r : List Value} {a : Nat} (h : a < 8) : BoolAt (T8 tk r) a := by
  rcases a with _ | _ | _ | _ | _ | _ | _ | _ | a <;> first | rfl | omega
theorem bes_step {a b : Nat → Bool} {x j : Nat} {v : Bool} (h : v = (a x && !b x)) : (bif Nat.beq j x then v else besF a b x j) = besF a b (x + 1) j := by
  by_cases e : j = x
  · subst e; rw [Nat.beq_refl, h]; simp [besF]
  · have : Nat.beq j x = false := by
      cases hb : Nat.beq j x with
      | false => rfl
      | true => exact absurd (Nat.eq_of_beq_eq_true hb) e
    rw [this]
    by_cases h1 : j < x
    · simp [besF, h1, show j < x + 1 by omega]
    · simp [besF, h1, show ¬ j < x + 1 by omega]
theorem besV_ok (a b : Nat → Bool) : besV a b := by
  unfold besV
  simp only [SS, reduceCtorEq, Arg.list, Arg.num, Arg.flag, intOf, andP, Nat.reduceLeDiff, Nat.reduceAdd, Nat.reduceMul, Nat.reduceLT]
  refine ⟨⟨0, Nat.zero_le _, ?_⟩, fun x hx => ⟨fun h => ?_, fun h => ?_⟩⟩
  · refine ⟨?_, rfl⟩
    simp [T8, emp, besF]
  · have hx8 : x < 8 := by omega
    have ew : IntKind.i64.wrap ((x : Int) + 1) = ((x + 1 : Nat) : Int) := by rw [wrap_in (by omega) (by omega)]; push_cast; rfl
    rw [T80_getB hx8, T80_getB hx8]
    refine ⟨⟨by omega, by omega⟩, T80_boolAt hx8, fun ha => ⟨⟨by omega, by omega⟩, T80_boolAt hx8, ⟨by omega, by omega⟩, T80_boolAt hx8, x + 1, by omega, by omega, ?_, ew⟩, fun ha => ⟨⟨by omega, by omega⟩, T80_boolAt hx8, x + 1, by omega, by omega, ?_, ew⟩⟩
    · have hv : (!b x) = (a x && !b x) := by rw [ha]; rfl
      simp only [bes_step hv]; rfl
    · have hv : false = (a x && !b x) := by rw [ha]; rfl
      simp only [bes_step hv]; rfl
  · rw [show x = 8 by omega]
theorem besE_ok : VOk Try.prog besE := ⟨CtOk.none, E0_ok.cc, E0_ok.yc, orcB_ok⟩
theorem bes_call (a b : Nat → Bool) : Call Try.prog 80 [aV a, aV b] [] fun v H' => v = aV (besF a b 8) ∧ H' = [] :=
  Call.ofVcR besE_ok mixed (c := besB) (inv := besI a b) Try.func80 (by kernel_rfl) (cast (congrFun (congrFun besV_eq a) b) (besV_ok a b))
def plainG (s : List Value → Option (Prop × Value)) : List Value → Heap → Option (Option Prop × Value × Heap × List Nat) := fun args H => match s args with
  | some (φ, v) => some (some φ, v, H, [])
  | none => none
def Plain (v : Value) : Prop := (∀ σ, nmap σ v = v) ∧ (∀ m, sc m v = true) ∧ ∀ p, nm p v = true
theorem canon_vals {c : Nat → Nat} {m : Nat} : ∀ (l : List Value), canonA2 c m (l.map .val) = l
  | [] => rfl
  | a :: l => by rw [List.map_cons, canonA2, canon_vals l]
theorem canonH_vals : ∀ (l : List Value), canonH2 (l.map .val) = []
  | [] => rfl
  | a :: l => by rw [List.map_cons, canonH2, canonH_vals l]
theorem read_vals {H : Heap} {σ : Nat → Nat} {B : List Nat} {m : Nat} : ∀ (l : List Value), (∀ a ∈ l, Plain a) → ReadA2 H σ B m (l.map .val) l
  | [], _ => trivial
  | a :: l, h => ⟨((h a List.mem_cons_self).1 σ).symm, (h a List.mem_cons_self).2.1 m, read_vals l fun b hb => h b (List.mem_cons_of_mem _ hb)⟩
theorem plainG_ok {f : FuncId} {s : List Value → Option (Prop × Value)} (h : ∀ args φ v, s args = some (φ, v) → φ → (∀ a ∈ args, Plain a) ∧ Plain v ∧ Call Try.prog f args [] fun v' H' => v' = v ∧ H' = []) :
    ∀ args H φ v H' l, plainG s args H = some (φ, v, H', l) → Asks φ → Call Try.prog f args H (fun v' H2 => v' = v ∧ H2 = H') ∧ Kept H H' l := by
  intro args H φ v H' l hh hφ
  unfold plainG at hh
  split at hh <;> cases hh
  rename_i φ hs
  obtain ⟨h1, h2, h3⟩ := h args φ v hs hφ
  have := Call.frameL (P := Try.prog) (f := f) (H := H) (Et := []) (Ft := []) (N := []) (L := []) (ags := args.map .val) (vs := args) (v := v) rfl rfl (by simp) (fun _ h => by cases h)
    (fun c o h => by simp at h) (fun _ h => by cases h) (read_vals args h1) (fun caps => by rw [canon_vals, canonH_vals]; exact h3)
    (fun _ h => by cases h) (fun _ h => by cases h) (h2.2.2 _) (fun _ h => by cases h) (by rw [h2.1]; exact h2.2.1 _)
  rw [h2.1] at this
  simpa only [List.map_nil, List.append_nil, setL] using this
def fV (v : Value) : Nat → Bool := fun i => getB (aggC v) i
def besS : List Value → Option (Prop × Value) := fun args => match args with
  | [a, b] => some (a = aV (fV a) ∧ b = aV (fV b), aV (besF (fV a) (fV b) 8))
  | _ => none
theorem aV_plain {tk : Nat → Bool} : Plain (aV tk) := ⟨fun σ => by simp [aV, nmap, nmap2, nmap1, nmap0], fun m => by simp [aV, sc, sc2, sc1, sc0], fun p => by simp [aV, nm, nm2, nm1, nm0]⟩
theorem besG_ok : ∀ args H φ v H' l, plainG besS args H = some (φ, v, H', l) → Asks φ → Call Try.prog 80 args H (fun v' H2 => v' = v ∧ H2 = H') ∧ Kept H H' l :=
  plainG_ok fun args φ v hs hφ => by
    unfold besS at hs
    split at hs <;> cases hs
    rename_i a b
    obtain ⟨h1, h2⟩ := hφ
    have := bes_call (fV a) (fV b)
    rw [← h1, ← h2] at this
    refine ⟨mem_two ?_ ?_, aV_plain, this⟩
    · rw [h1]; exact aV_plain
    · rw [h2]; exact aV_plain

end Go.Pier.Lg

set_option maxRecDepth 100000
set_option linter.unusedVariables false
set_option linter.unusedSimpArgs false
namespace Go.Pier.Lg
open Go Go.Pier Go.Proofs 
noncomputable def lieRB : Code := Try.f50.body.getD .skip
noncomputable def lieRE : VEnv := { ct := Ct.none.add 45 hasG }
def slide (out : List Int) (p : Int) : Nat → Int → Int
  | 0, a => a
  | f + 1, a => if a < p ∧ a ∈ out then slide out p f (a + 1) else a
def slideAt (out : List Int) (p a : Int) : Int := slide out p (p - a).toNat a
def lieStep (p : Int) (s : List Int × Int) (d : Int) : List Int × Int := (s.1 ++ [if slideAt s.1 p d = p then -1 else slideAt s.1 p d], s.2 + (slideAt s.1 p d - d))
def lieOf (p : Int) (l : List Int) : List Int × Int := l.foldl (lieStep p) ([], 0)
def lieAt (p : Int) (l : List Int) (i : Nat) : List Int × Int := lieOf p (l.take i)
def lieRI2 (p : Int) (l : List Int) (c : Nat) (i : Nat) : LInv := LInv.one Int
  (fun a => l.getD i 0 ≤ a ∧ a ≤ p ∧ slideAt (lieAt p l i).1 p a = slideAt (lieAt p l i).1 p (l.getD i 0))
  (fun a => [(0, vi p), (1, .slice (some ⟨0,0,none⟩) l.length c), (6, .slice (some ⟨1,0,some 0⟩) i 0), (7, vi (lieAt p l i).2), (8, vi i), (9, vi a)])
  (fun _ => [ros l, rws (lieAt p l i).1]) (fun a => (p - a).toNat)
def lieRI1 (p : Int) (l : List Int) (c : Nat) : LInv := LInv.one Unit (fun _ => True)
  (fun _ => [(0, vi p), (1, .slice (some ⟨0,0,none⟩) l.length c), (6, .slice none 0 0), (7, vi 0), (8, vi 0), (9, vi (l.getD 0 0))]) (fun _ => [ros l]) (fun _ => 0)
def lieRI (p : Int) (l : List Int) (c : Nat) : Nat → Option LInv := invOf 0 (.mk [
      ⟨Unit, fun _ => True, fun _ => [(0, vi p), (1, .slice (some ⟨0,0,none⟩) l.length c), (6, .slice none 0 0), (7, vi 0), (8, vi 0)], fun _ => [ros l], fun _ => 20, fun _ => invOf 2 (lieRI1 p l c)⟩,
      ⟨Nat, fun i => 0 < i ∧ i ≤ l.length, fun i => [(0, vi p), (1, .slice (some ⟨0,0,none⟩) l.length c), (6, .slice (some ⟨1,0,some 0⟩) i 0), (7, vi (lieAt p l i).2), (8, vi i)], fun i => [ros l, rws (lieAt p l i).1], fun i => l.length - i, fun i => invOf 2 (lieRI2 p l c i)⟩]
    (fun _ b => b) (fun i _ => [nsub 1 (i + 2)]))
noncomputable def liV :=
fun (p : Int) (l : List Int) (c : Nat) ↦ ((∃ (y : Unit), Ob True ∧ (Ob (AObj.ro (List.map (Value.int IntKind.i64) l) = AObj.ro (List.map (nmap1 fun (b : Nat) ↦ b) (List.map (Value.int IntKind.i64) l)) ∧ AObj.sc (1 : Nat) (AObj.ro (List.map (Value.int IntKind.i64) l)) = true) ∧ True) ∧ Ob (p = p) ∧ Ob (Value.slice (some (ad0 0)) l.length c = Value.slice (some (ad0 0)) l.length c) ∧ Ob (Value.slice none (0 : Nat) (0 : Nat) = Value.slice none (0 : Nat) (0 : Nat)) ∧ Ob ((0 : Int) = (0 : Int)) ∧ Ob ((0 : Int) = (0 : Int)) ∧ True) ∨ ∃ (y : Nat), Ob ((0 : Nat) < y ∧ y ≤ l.length) ∧ (Ob (AObj.ro (List.map (Value.int IntKind.i64) l) = AObj.ro (List.map (nmap1 fun (b : Nat) ↦ b) (List.map (Value.int IntKind.i64) l)) ∧ AObj.sc (2 : Nat) (AObj.ro (List.map (Value.int IntKind.i64) l)) = true) ∧ False) ∧ Ob (p = p) ∧ Ob (Value.slice (some (ad0 0)) l.length c = Value.slice (some (ad0 0)) l.length c) ∧ Ob (Value.slice none (0 : Nat) (0 : Nat) = Value.slice (some { block := (1 : Nat), off := (0 : Nat), spot := some (0 : Nat) }) y (0 : Nat)) ∧ Ob ((0 : Int) = (lieAt p l y).snd) ∧ Ob ((0 : Int) = (↑y : Int)) ∧ True) ∧ (∀ (x : Unit), Ob True → (decide ((0 : Int) < (↑l.length : Int)) = true → Ob ((0 : Int) ≤ (0 : Int) ∧ (0 : Int) < (↑l.length : Int) ∧ true = true) ∧ Ob (IntAt IntKind.i64 (List.map (Value.int IntKind.i64) l) (0 : Nat)) ∧ (∃ (y : Unit), Ob True ∧ (Ob (AObj.ro (List.map (Value.int IntKind.i64) l) = AObj.ro (List.map (nmap1 fun (b : Nat) ↦ b) (List.map (Value.int IntKind.i64) l)) ∧ AObj.sc (1 : Nat) (AObj.ro (List.map (Value.int IntKind.i64) l)) = true) ∧ True) ∧ Ob (p = p) ∧ Ob (Value.slice (some (ad0 0)) l.length c = Value.slice (some (ad0 0)) l.length c) ∧ Ob (Value.slice none (0 : Nat) (0 : Nat) = Value.slice none (0 : Nat) (0 : Nat)) ∧ Ob ((0 : Int) = (0 : Int)) ∧ Ob ((0 : Int) = (0 : Int)) ∧ Ob (getI (List.map (Value.int IntKind.i64) l) (0 : Nat) = l.getD (0 : Nat) (0 : Int)) ∧ True) ∧ ∀ (x : Unit), Ob True → (decide (l.getD (0 : Nat) (0 : Int) < p) = true → (false = true → ∃ (y : Unit), Ob True ∧ Ob ((0 : Nat) < (0 : Nat)) ∧ (Ob (AObj.ro (List.map (Value.int IntKind.i64) l) = AObj.ro (List.map (nmap1 fun (b : Nat) ↦ b) (List.map (Value.int IntKind.i64) l)) ∧ AObj.sc (1 : Nat) (AObj.ro (List.map (Value.int IntKind.i64) l)) = true) ∧ True) ∧ Ob (p = p) ∧ Ob (Value.slice (some (ad0 0)) l.length c = Value.slice (some (ad0 0)) l.length c) ∧ Ob (Value.slice none (0 : Nat) (0 : Nat) = Value.slice none (0 : Nat) (0 : Nat)) ∧ Ob ((0 : Int) = (0 : Int)) ∧ Ob ((0 : Int) = (0 : Int)) ∧ Ob (IntKind.i64.wrap (l.getD (0 : Nat) (0 : Int) + (1 : Int)) = l.getD (0 : Nat) (0 : Int)) ∧ True) ∧ (false = false → Ob ((0 : Int) ≤ (0 : Int) ∧ (0 : Int) < (↑l.length : Int) ∧ true = true) ∧ Ob (IntAt IntKind.i64 (List.map (Value.int IntKind.i64) l) (0 : Nat)) ∧ ((l.getD (0 : Nat) (0 : Int) == p) = true → Ob (andP (some ((0 : Nat) + (1 : Nat) ≤ (1 : Nat) ∧ true = true)) ((1 : Nat) ≤ (1099511627776 : Nat) ∧ (2064 : Nat) ≤ (281474976710656 : Nat) ∧ (1 : Nat) = (1 : Nat) ∧ (0 : Nat) = (0 : Nat) ∧ (0 : Nat) < (1 : Nat))) ∧ ((∃ (y : Unit), Ob True ∧ Ob ((20 : Nat) < (20 : Nat)) ∧ (Ob (AObj.ro (List.map (Value.int IntKind.i64) l) = AObj.ro (List.map (nmap1 (nsub (1 : Nat) (2 : Nat))) (List.map (Value.int IntKind.i64) l)) ∧ AObj.sc (1 : Nat) (AObj.ro (List.map (Value.int IntKind.i64) l)) = true) ∧ True) ∧ Ob (p = p) ∧ Ob (Value.slice (some (ad0 0)) l.length c = Value.slice (some (ad0 0)) l.length c) ∧ Ob (Value.slice (some { block := (2 : Nat), off := (0 : Nat), spot := some (0 : Nat) }) (1 : Nat) (0 : Nat) = Value.slice none (0 : Nat) (0 : Nat)) ∧ Ob (IntKind.i64.wrap ((0 : Int) + IntKind.i64.wrap (l.getD (0 : Nat) (0 : Int) - getI (List.map (Value.int IntKind.i64) l) (0 : Nat))) = (0 : Int)) ∧ Ob (IntKind.i64.wrap ((0 : Int) + (1 : Int)) = (0 : Int)) ∧ True) ∨ ∃ (y : Nat), Ob ((0 : Nat) < y ∧ y ≤ l.length) ∧ Ob (l.length - y < (20 : Nat)) ∧ (Ob (AObj.ro (List.map (Value.int IntKind.i64) l) = AObj.ro (List.map (nmap1 (nsub (1 : Nat) (2 : Nat))) (List.map (Value.int IntKind.i64) l)) ∧ AObj.sc (2 : Nat) (AObj.ro (List.map (Value.int IntKind.i64) l)) = true) ∧ Ob (AObj.rw [vi (-1 : Int)] (some (1 : Nat)) = AObj.rw (List.map (nmap1 (nsub (1 : Nat) (2 : Nat))) (List.map (Value.int IntKind.i64) (lieAt p l y).fst)) (some (1 : Nat)) ∧ AObj.sc (2 : Nat) (AObj.rw (List.map (Value.int IntKind.i64) (lieAt p l y).fst) (some (1 : Nat))) = true) ∧ True) ∧ Ob (p = p) ∧ Ob (Value.slice (some (ad0 0)) l.length c = Value.slice (some (ad0 0)) l.length c) ∧ Ob (Value.slice (some { block := (2 : Nat), off := (0 : Nat), spot := some (0 : Nat) }) (1 : Nat) (0 : Nat) = Value.slice (some { block := (2 : Nat), off := (0 : Nat), spot := some (0 : Nat) }) y (0 : Nat)) ∧ Ob (IntKind.i64.wrap ((0 : Int) + IntKind.i64.wrap (l.getD (0 : Nat) (0 : Int) - getI (List.map (Value.int IntKind.i64) l) (0 : Nat))) = (lieAt p l y).snd) ∧ Ob (IntKind.i64.wrap ((0 : Int) + (1 : Int)) = (↑y : Int)) ∧ True)) ∧ ((l.getD (0 : Nat) (0 : Int) == p) = false → Ob (andP (some ((0 : Nat) + (1 : Nat) ≤ (1 : Nat) ∧ true = true)) ((1 : Nat) ≤ (1099511627776 : Nat) ∧ (2064 : Nat) ≤ (281474976710656 : Nat) ∧ (1 : Nat) = (1 : Nat) ∧ (0 : Nat) = (0 : Nat) ∧ (0 : Nat) < (1 : Nat))) ∧ ((∃ (y : Unit), Ob True ∧ Ob ((20 : Nat) < (20 : Nat)) ∧ (Ob (AObj.ro (List.map (Value.int IntKind.i64) l) = AObj.ro (List.map (nmap1 (nsub (1 : Nat) (2 : Nat))) (List.map (Value.int IntKind.i64) l)) ∧ AObj.sc (1 : Nat) (AObj.ro (List.map (Value.int IntKind.i64) l)) = true) ∧ True) ∧ Ob (p = p) ∧ Ob (Value.slice (some (ad0 0)) l.length c = Value.slice (some (ad0 0)) l.length c) ∧ Ob (Value.slice (some { block := (2 : Nat), off := (0 : Nat), spot := some (0 : Nat) }) (1 : Nat) (0 : Nat) = Value.slice none (0 : Nat) (0 : Nat)) ∧ Ob (IntKind.i64.wrap ((0 : Int) + IntKind.i64.wrap (l.getD (0 : Nat) (0 : Int) - getI (List.map (Value.int IntKind.i64) l) (0 : Nat))) = (0 : Int)) ∧ Ob (IntKind.i64.wrap ((0 : Int) + (1 : Int)) = (0 : Int)) ∧ True) ∨ ∃ (y : Nat), Ob ((0 : Nat) < y ∧ y ≤ l.length) ∧ Ob (l.length - y < (20 : Nat)) ∧ (Ob (AObj.ro (List.map (Value.int IntKind.i64) l) = AObj.ro (List.map (nmap1 (nsub (1 : Nat) (2 : Nat))) (List.map (Value.int IntKind.i64) l)) ∧ AObj.sc (2 : Nat) (AObj.ro (List.map (Value.int IntKind.i64) l)) = true) ∧ Ob (AObj.rw [vi (l.getD (0 : Nat) (0 : Int))] (some (1 : Nat)) = AObj.rw (List.map (nmap1 (nsub (1 : Nat) (2 : Nat))) (List.map (Value.int IntKind.i64) (lieAt p l y).fst)) (some (1 : Nat)) ∧ AObj.sc (2 : Nat) (AObj.rw (List.map (Value.int IntKind.i64) (lieAt p l y).fst) (some (1 : Nat))) = true) ∧ True) ∧ Ob (p = p) ∧ Ob (Value.slice (some (ad0 0)) l.length c = Value.slice (some (ad0 0)) l.length c) ∧ Ob (Value.slice (some { block := (2 : Nat), off := (0 : Nat), spot := some (0 : Nat) }) (1 : Nat) (0 : Nat) = Value.slice (some { block := (2 : Nat), off := (0 : Nat), spot := some (0 : Nat) }) y (0 : Nat)) ∧ Ob (IntKind.i64.wrap ((0 : Int) + IntKind.i64.wrap (l.getD (0 : Nat) (0 : Int) - getI (List.map (Value.int IntKind.i64) l) (0 : Nat))) = (lieAt p l y).snd) ∧ Ob (IntKind.i64.wrap ((0 : Int) + (1 : Int)) = (↑y : Int)) ∧ True)))) ∧ (decide (l.getD (0 : Nat) (0 : Int) < p) = false → Ob ((0 : Int) ≤ (0 : Int) ∧ (0 : Int) < (↑l.length : Int) ∧ true = true) ∧ Ob (IntAt IntKind.i64 (List.map (Value.int IntKind.i64) l) (0 : Nat)) ∧ ((l.getD (0 : Nat) (0 : Int) == p) = true → Ob (andP (some ((0 : Nat) + (1 : Nat) ≤ (1 : Nat) ∧ true = true)) ((1 : Nat) ≤ (1099511627776 : Nat) ∧ (2064 : Nat) ≤ (281474976710656 : Nat) ∧ (1 : Nat) = (1 : Nat) ∧ (0 : Nat) = (0 : Nat) ∧ (0 : Nat) < (1 : Nat))) ∧ ((∃ (y : Unit), Ob True ∧ Ob ((20 : Nat) < (20 : Nat)) ∧ (Ob (AObj.ro (List.map (Value.int IntKind.i64) l) = AObj.ro (List.map (nmap1 (nsub (1 : Nat) (2 : Nat))) (List.map (Value.int IntKind.i64) l)) ∧ AObj.sc (1 : Nat) (AObj.ro (List.map (Value.int IntKind.i64) l)) = true) ∧ True) ∧ Ob (p = p) ∧ Ob (Value.slice (some (ad0 0)) l.length c = Value.slice (some (ad0 0)) l.length c) ∧ Ob (Value.slice (some { block := (2 : Nat), off := (0 : Nat), spot := some (0 : Nat) }) (1 : Nat) (0 : Nat) = Value.slice none (0 : Nat) (0 : Nat)) ∧ Ob (IntKind.i64.wrap ((0 : Int) + IntKind.i64.wrap (l.getD (0 : Nat) (0 : Int) - getI (List.map (Value.int IntKind.i64) l) (0 : Nat))) = (0 : Int)) ∧ Ob (IntKind.i64.wrap ((0 : Int) + (1 : Int)) = (0 : Int)) ∧ True) ∨ ∃ (y : Nat), Ob ((0 : Nat) < y ∧ y ≤ l.length) ∧ Ob (l.length - y < (20 : Nat)) ∧ (Ob (AObj.ro (List.map (Value.int IntKind.i64) l) = AObj.ro (List.map (nmap1 (nsub (1 : Nat) (2 : Nat))) (List.map (Value.int IntKind.i64) l)) ∧ AObj.sc (2 : Nat) (AObj.ro (List.map (Value.int IntKind.i64) l)) = true) ∧ Ob (AObj.rw [vi (-1 : Int)] (some (1 : Nat)) = AObj.rw (List.map (nmap1 (nsub (1 : Nat) (2 : Nat))) (List.map (Value.int IntKind.i64) (lieAt p l y).fst)) (some (1 : Nat)) ∧ AObj.sc (2 : Nat) (AObj.rw (List.map (Value.int IntKind.i64) (lieAt p l y).fst) (some (1 : Nat))) = true) ∧ True) ∧ Ob (p = p) ∧ Ob (Value.slice (some (ad0 0)) l.length c = Value.slice (some (ad0 0)) l.length c) ∧ Ob (Value.slice (some { block := (2 : Nat), off := (0 : Nat), spot := some (0 : Nat) }) (1 : Nat) (0 : Nat) = Value.slice (some { block := (2 : Nat), off := (0 : Nat), spot := some (0 : Nat) }) y (0 : Nat)) ∧ Ob (IntKind.i64.wrap ((0 : Int) + IntKind.i64.wrap (l.getD (0 : Nat) (0 : Int) - getI (List.map (Value.int IntKind.i64) l) (0 : Nat))) = (lieAt p l y).snd) ∧ Ob (IntKind.i64.wrap ((0 : Int) + (1 : Int)) = (↑y : Int)) ∧ True)) ∧ ((l.getD (0 : Nat) (0 : Int) == p) = false → Ob (andP (some ((0 : Nat) + (1 : Nat) ≤ (1 : Nat) ∧ true = true)) ((1 : Nat) ≤ (1099511627776 : Nat) ∧ (2064 : Nat) ≤ (281474976710656 : Nat) ∧ (1 : Nat) = (1 : Nat) ∧ (0 : Nat) = (0 : Nat) ∧ (0 : Nat) < (1 : Nat))) ∧ ((∃ (y : Unit), Ob True ∧ Ob ((20 : Nat) < (20 : Nat)) ∧ (Ob (AObj.ro (List.map (Value.int IntKind.i64) l) = AObj.ro (List.map (nmap1 (nsub (1 : Nat) (2 : Nat))) (List.map (Value.int IntKind.i64) l)) ∧ AObj.sc (1 : Nat) (AObj.ro (List.map (Value.int IntKind.i64) l)) = true) ∧ True) ∧ Ob (p = p) ∧ Ob (Value.slice (some (ad0 0)) l.length c = Value.slice (some (ad0 0)) l.length c) ∧ Ob (Value.slice (some { block := (2 : Nat), off := (0 : Nat), spot := some (0 : Nat) }) (1 : Nat) (0 : Nat) = Value.slice none (0 : Nat) (0 : Nat)) ∧ Ob (IntKind.i64.wrap ((0 : Int) + IntKind.i64.wrap (l.getD (0 : Nat) (0 : Int) - getI (List.map (Value.int IntKind.i64) l) (0 : Nat))) = (0 : Int)) ∧ Ob (IntKind.i64.wrap ((0 : Int) + (1 : Int)) = (0 : Int)) ∧ True) ∨ ∃ (y : Nat), Ob ((0 : Nat) < y ∧ y ≤ l.length) ∧ Ob (l.length - y < (20 : Nat)) ∧ (Ob (AObj.ro (List.map (Value.int IntKind.i64) l) = AObj.ro (List.map (nmap1 (nsub (1 : Nat) (2 : Nat))) (List.map (Value.int IntKind.i64) l)) ∧ AObj.sc (2 : Nat) (AObj.ro (List.map (Value.int IntKind.i64) l)) = true) ∧ Ob (AObj.rw [vi (l.getD (0 : Nat) (0 : Int))] (some (1 : Nat)) = AObj.rw (List.map (nmap1 (nsub (1 : Nat) (2 : Nat))) (List.map (Value.int IntKind.i64) (lieAt p l y).fst)) (some (1 : Nat)) ∧ AObj.sc (2 : Nat) (AObj.rw (List.map (Value.int IntKind.i64) (lieAt p l y).fst) (some (1 : Nat))) = true) ∧ True) ∧ Ob (p = p) ∧ Ob (Value.slice (some (ad0 0)) l.length c = Value.slice (some (ad0 0)) l.length c) ∧ Ob (Value.slice (some { block := (2 : Nat), off := (0 : Nat), spot := some (0 : Nat) }) (1 : Nat) (0 : Nat) = Value.slice (some { block := (2 : Nat), off := (0 : Nat), spot := some (0 : Nat) }) y (0 : Nat)) ∧ Ob (IntKind.i64.wrap ((0 : Int) + IntKind.i64.wrap (l.getD (0 : Nat) (0 : Int) - getI (List.map (Value.int IntKind.i64) l) (0 : Nat))) = (lieAt p l y).snd) ∧ Ob (IntKind.i64.wrap ((0 : Int) + (1 : Int)) = (↑y : Int)) ∧ True)))) ∧ (decide ((0 : Int) < (↑l.length : Int)) = false → True ∧ Ob (Value.tuple { toList := [Value.slice none (0 : Nat) (0 : Nat), vi (0 : Int)] } = Value.tuple { toList := [Value.slice (some { block := (1 : Nat), off := (0 : Nat), spot := some (0 : Nat) }) l.length (0 : Nat), vi (lieOf p l).snd] } ∧ [AObj.ro (List.map (Value.int IntKind.i64) l)] = [AObj.ro (List.map (Value.int IntKind.i64) l), AObj.rw (List.map (Value.int IntKind.i64) (lieOf p l).fst) (some (1 : Nat))]))) ∧ ∀ (x : Nat), Ob ((0 : Nat) < x ∧ x ≤ l.length) → (decide ((↑x : Int) < (↑l.length : Int)) = true → Ob ((0 : Int) ≤ (↑x : Int) ∧ (↑x : Int) < (↑l.length : Int) ∧ true = true) ∧ Ob (IntAt IntKind.i64 (List.map (Value.int IntKind.i64) l) ((0 : Nat) + (↑x : Int).toNat * (1 : Nat))) ∧ (∃ (y : Int), Ob (l.getD x (0 : Int) ≤ y ∧ y ≤ p ∧ slideAt (lieAt p l x).fst p y = slideAt (lieAt p l x).fst p (l.getD x (0 : Int))) ∧ (Ob (AObj.ro (List.map (Value.int IntKind.i64) l) = AObj.ro (List.map (nmap1 fun (b : Nat) ↦ b) (List.map (Value.int IntKind.i64) l)) ∧ AObj.sc (2 : Nat) (AObj.ro (List.map (Value.int IntKind.i64) l)) = true) ∧ Ob (AObj.rw (List.map (Value.int IntKind.i64) (lieAt p l x).fst) (some (1 : Nat)) = AObj.rw (List.map (nmap1 fun (b : Nat) ↦ b) (List.map (Value.int IntKind.i64) (lieAt p l x).fst)) (some (1 : Nat)) ∧ AObj.sc (2 : Nat) (AObj.rw (List.map (Value.int IntKind.i64) (lieAt p l x).fst) (some (1 : Nat))) = true) ∧ True) ∧ Ob (p = p) ∧ Ob (Value.slice (some (ad0 0)) l.length c = Value.slice (some (ad0 0)) l.length c) ∧ Ob (Value.slice (some { block := (1 : Nat), off := (0 : Nat), spot := some (0 : Nat) }) x (0 : Nat) = Value.slice (some { block := (1 : Nat), off := (0 : Nat), spot := some (0 : Nat) }) x (0 : Nat)) ∧ Ob ((lieAt p l x).snd = (lieAt p l x).snd) ∧ Ob ((↑x : Int) = (↑x : Int)) ∧ Ob (getI (List.map (Value.int IntKind.i64) l) ((0 : Nat) + (↑x : Int).toNat * (1 : Nat)) = y) ∧ True) ∧ ∀ (x_1 : Int), Ob (l.getD x (0 : Int) ≤ x_1 ∧ x_1 ≤ p ∧ slideAt (lieAt p l x).fst p x_1 = slideAt (lieAt p l x).fst p (l.getD x (0 : Int))) → (decide (x_1 < p) = true → Ob ((List.take x (List.drop (0 : Nat) (List.map (Value.int IntKind.i64) (lieAt p l x).fst)) = List.map (Value.int IntKind.i64) (List.take x (List.drop (0 : Nat) (intsOf (List.map (Value.int IntKind.i64) (lieAt p l x).fst)))) ∧ (0 : Nat) + x ≤ (List.map (Value.int IntKind.i64) (lieAt p l x).fst).length ∧ true = true) ∧ (List.take x (List.drop (0 : Nat) (intsOf (List.map (Value.int IntKind.i64) (lieAt p l x).fst)))).length < (1000000 : Nat)) ∧ (decide (x_1 ∈ List.take x (List.drop (0 : Nat) (intsOf (List.map (Value.int IntKind.i64) (lieAt p l x).fst)))) = true → ∃ (y : Int), Ob (l.getD x (0 : Int) ≤ y ∧ y ≤ p ∧ slideAt (lieAt p l x).fst p y = slideAt (lieAt p l x).fst p (l.getD x (0 : Int))) ∧ Ob ((p - y).toNat < (p - x_1).toNat) ∧ (Ob (AObj.ro (List.map (Value.int IntKind.i64) l) = AObj.ro (List.map (nmap1 fun (b : Nat) ↦ b) (List.map (Value.int IntKind.i64) l)) ∧ AObj.sc (2 : Nat) (AObj.ro (List.map (Value.int IntKind.i64) l)) = true) ∧ Ob (AObj.rw (List.map (Value.int IntKind.i64) (lieAt p l x).fst) (some (1 : Nat)) = AObj.rw (List.map (nmap1 fun (b : Nat) ↦ b) (List.map (Value.int IntKind.i64) (lieAt p l x).fst)) (some (1 : Nat)) ∧ AObj.sc (2 : Nat) (AObj.rw (List.map (Value.int IntKind.i64) (lieAt p l x).fst) (some (1 : Nat))) = true) ∧ True) ∧ Ob (p = p) ∧ Ob (Value.slice (some (ad0 0)) l.length c = Value.slice (some (ad0 0)) l.length c) ∧ Ob (Value.slice (some { block := (1 : Nat), off := (0 : Nat), spot := some (0 : Nat) }) x (0 : Nat) = Value.slice (some { block := (1 : Nat), off := (0 : Nat), spot := some (0 : Nat) }) x (0 : Nat)) ∧ Ob ((lieAt p l x).snd = (lieAt p l x).snd) ∧ Ob ((↑x : Int) = (↑x : Int)) ∧ Ob (IntKind.i64.wrap (x_1 + (1 : Int)) = y) ∧ True) ∧ (decide (x_1 ∈ List.take x (List.drop (0 : Nat) (intsOf (List.map (Value.int IntKind.i64) (lieAt p l x).fst)))) = false → Ob ((0 : Int) ≤ (↑x : Int) ∧ (↑x : Int) < (↑l.length : Int) ∧ true = true) ∧ Ob (IntAt IntKind.i64 (List.map (Value.int IntKind.i64) l) ((0 : Nat) + (↑x : Int).toNat * (1 : Nat))) ∧ ((x_1 == p) = true → Ob (andP (some ((0 : Nat) + (1 : Nat) ≤ (1 : Nat) ∧ true = true)) (x + (1 : Nat) ≤ (1099511627776 : Nat) ∧ ((2 : Nat) * (x + (1 : Nat)) + (256 : Nat)) * (8 : Nat) ≤ (281474976710656 : Nat) ∧ (1 : Nat) = (1 : Nat) ∧ (List.map (Value.int IntKind.i64) (lieAt p l x).fst).length = x * (1 : Nat))) ∧ ((∃ (y : Unit), Ob True ∧ Ob ((20 : Nat) < l.length - x) ∧ (Ob (AObj.ro (List.map (Value.int IntKind.i64) l) = AObj.ro (List.map (nmap1 (nsub (1 : Nat) (3 : Nat))) (List.map (Value.int IntKind.i64) l)) ∧ AObj.sc (1 : Nat) (AObj.ro (List.map (Value.int IntKind.i64) l)) = true) ∧ True) ∧ Ob (p = p) ∧ Ob (Value.slice (some (ad0 0)) l.length c = Value.slice (some (ad0 0)) l.length c) ∧ Ob (Value.slice (some { block := (3 : Nat), off := (0 : Nat), spot := some (0 : Nat) }) (x + (1 : Nat)) (0 : Nat) = Value.slice none (0 : Nat) (0 : Nat)) ∧ Ob (IntKind.i64.wrap ((lieAt p l x).snd + IntKind.i64.wrap (x_1 - getI (List.map (Value.int IntKind.i64) l) ((0 : Nat) + (↑x : Int).toNat * (1 : Nat)))) = (0 : Int)) ∧ Ob (IntKind.i64.wrap ((↑x : Int) + (1 : Int)) = (0 : Int)) ∧ True) ∨ ∃ (y : Nat), Ob ((0 : Nat) < y ∧ y ≤ l.length) ∧ Ob (l.length - y < l.length - x) ∧ (Ob (AObj.ro (List.map (Value.int IntKind.i64) l) = AObj.ro (List.map (nmap1 (nsub (1 : Nat) (3 : Nat))) (List.map (Value.int IntKind.i64) l)) ∧ AObj.sc (2 : Nat) (AObj.ro (List.map (Value.int IntKind.i64) l)) = true) ∧ Ob (AObj.rw (List.map (Value.int IntKind.i64) (lieAt p l x).fst ++ [vi (-1 : Int)]) (some (1 : Nat)) = AObj.rw (List.map (nmap1 (nsub (1 : Nat) (3 : Nat))) (List.map (Value.int IntKind.i64) (lieAt p l y).fst)) (some (1 : Nat)) ∧ AObj.sc (2 : Nat) (AObj.rw (List.map (Value.int IntKind.i64) (lieAt p l y).fst) (some (1 : Nat))) = true) ∧ True) ∧ Ob (p = p) ∧ Ob (Value.slice (some (ad0 0)) l.length c = Value.slice (some (ad0 0)) l.length c) ∧ Ob (Value.slice (some { block := (3 : Nat), off := (0 : Nat), spot := some (0 : Nat) }) (x + (1 : Nat)) (0 : Nat) = Value.slice (some { block := (3 : Nat), off := (0 : Nat), spot := some (0 : Nat) }) y (0 : Nat)) ∧ Ob (IntKind.i64.wrap ((lieAt p l x).snd + IntKind.i64.wrap (x_1 - getI (List.map (Value.int IntKind.i64) l) ((0 : Nat) + (↑x : Int).toNat * (1 : Nat)))) = (lieAt p l y).snd) ∧ Ob (IntKind.i64.wrap ((↑x : Int) + (1 : Int)) = (↑y : Int)) ∧ True)) ∧ ((x_1 == p) = false → Ob (andP (some ((0 : Nat) + (1 : Nat) ≤ (1 : Nat) ∧ true = true)) (x + (1 : Nat) ≤ (1099511627776 : Nat) ∧ ((2 : Nat) * (x + (1 : Nat)) + (256 : Nat)) * (8 : Nat) ≤ (281474976710656 : Nat) ∧ (1 : Nat) = (1 : Nat) ∧ (List.map (Value.int IntKind.i64) (lieAt p l x).fst).length = x * (1 : Nat))) ∧ ((∃ (y : Unit), Ob True ∧ Ob ((20 : Nat) < l.length - x) ∧ (Ob (AObj.ro (List.map (Value.int IntKind.i64) l) = AObj.ro (List.map (nmap1 (nsub (1 : Nat) (3 : Nat))) (List.map (Value.int IntKind.i64) l)) ∧ AObj.sc (1 : Nat) (AObj.ro (List.map (Value.int IntKind.i64) l)) = true) ∧ True) ∧ Ob (p = p) ∧ Ob (Value.slice (some (ad0 0)) l.length c = Value.slice (some (ad0 0)) l.length c) ∧ Ob (Value.slice (some { block := (3 : Nat), off := (0 : Nat), spot := some (0 : Nat) }) (x + (1 : Nat)) (0 : Nat) = Value.slice none (0 : Nat) (0 : Nat)) ∧ Ob (IntKind.i64.wrap ((lieAt p l x).snd + IntKind.i64.wrap (x_1 - getI (List.map (Value.int IntKind.i64) l) ((0 : Nat) + (↑x : Int).toNat * (1 : Nat)))) = (0 : Int)) ∧ Ob (IntKind.i64.wrap ((↑x : Int) + (1 : Int)) = (0 : Int)) ∧ True) ∨ ∃ (y : Nat), Ob ((0 : Nat) < y ∧ y ≤ l.length) ∧ Ob (l.length - y < l.length - x) ∧ (Ob (AObj.ro (List.map (Value.int IntKind.i64) l) = AObj.ro (List.map (nmap1 (nsub (1 : Nat) (3 : Nat))) (List.map (Value.int IntKind.i64) l)) ∧ AObj.sc (2 : Nat) (AObj.ro (List.map (Value.int IntKind.i64) l)) = true) ∧ Ob (AObj.rw (List.map (Value.int IntKind.i64) (lieAt p l x).fst ++ [vi x_1]) (some (1 : Nat)) = AObj.rw (List.map (nmap1 (nsub (1 : Nat) (3 : Nat))) (List.map (Value.int IntKind.i64) (lieAt p l y).fst)) (some (1 : Nat)) ∧ AObj.sc (2 : Nat) (AObj.rw (List.map (Value.int IntKind.i64) (lieAt p l y).fst) (some (1 : Nat))) = true) ∧ True) ∧ Ob (p = p) ∧ Ob (Value.slice (some (ad0 0)) l.length c = Value.slice (some (ad0 0)) l.length c) ∧ Ob (Value.slice (some { block := (3 : Nat), off := (0 : Nat), spot := some (0 : Nat) }) (x + (1 : Nat)) (0 : Nat) = Value.slice (some { block := (3 : Nat), off := (0 : Nat), spot := some (0 : Nat) }) y (0 : Nat)) ∧ Ob (IntKind.i64.wrap ((lieAt p l x).snd + IntKind.i64.wrap (x_1 - getI (List.map (Value.int IntKind.i64) l) ((0 : Nat) + (↑x : Int).toNat * (1 : Nat)))) = (lieAt p l y).snd) ∧ Ob (IntKind.i64.wrap ((↑x : Int) + (1 : Int)) = (↑y : Int)) ∧ True)))) ∧ (decide (x_1 < p) = false → Ob ((0 : Int) ≤ (↑x : Int) ∧ (↑x : Int) < (↑l.length : Int) ∧ true = true) ∧ Ob (IntAt IntKind.i64 (List.map (Value.int IntKind.i64) l) ((0 : Nat) + (↑x : Int).toNat * (1 : Nat))) ∧ ((x_1 == p) = true → Ob (andP (some ((0 : Nat) + (1 : Nat) ≤ (1 : Nat) ∧ true = true)) (x + (1 : Nat) ≤ (1099511627776 : Nat) ∧ ((2 : Nat) * (x + (1 : Nat)) + (256 : Nat)) * (8 : Nat) ≤ (281474976710656 : Nat) ∧ (1 : Nat) = (1 : Nat) ∧ (List.map (Value.int IntKind.i64) (lieAt p l x).fst).length = x * (1 : Nat))) ∧ ((∃ (y : Unit), Ob True ∧ Ob ((20 : Nat) < l.length - x) ∧ (Ob (AObj.ro (List.map (Value.int IntKind.i64) l) = AObj.ro (List.map (nmap1 (nsub (1 : Nat) (3 : Nat))) (List.map (Value.int IntKind.i64) l)) ∧ AObj.sc (1 : Nat) (AObj.ro (List.map (Value.int IntKind.i64) l)) = true) ∧ True) ∧ Ob (p = p) ∧ Ob (Value.slice (some (ad0 0)) l.length c = Value.slice (some (ad0 0)) l.length c) ∧ Ob (Value.slice (some { block := (3 : Nat), off := (0 : Nat), spot := some (0 : Nat) }) (x + (1 : Nat)) (0 : Nat) = Value.slice none (0 : Nat) (0 : Nat)) ∧ Ob (IntKind.i64.wrap ((lieAt p l x).snd + IntKind.i64.wrap (x_1 - getI (List.map (Value.int IntKind.i64) l) ((0 : Nat) + (↑x : Int).toNat * (1 : Nat)))) = (0 : Int)) ∧ Ob (IntKind.i64.wrap ((↑x : Int) + (1 : Int)) = (0 : Int)) ∧ True) ∨ ∃ (y : Nat), Ob ((0 : Nat) < y ∧ y ≤ l.length) ∧ Ob (l.length - y < l.length - x) ∧ (Ob (AObj.ro (List.map (Value.int IntKind.i64) l) = AObj.ro (List.map (nmap1 (nsub (1 : Nat) (3 : Nat))) (List.map (Value.int IntKind.i64) l)) ∧ AObj.sc (2 : Nat) (AObj.ro (List.map (Value.int IntKind.i64) l)) = true) ∧ Ob (AObj.rw (List.map (Value.int IntKind.i64) (lieAt p l x).fst ++ [vi (-1 : Int)]) (some (1 : Nat)) = AObj.rw (List.map (nmap1 (nsub (1 : Nat) (3 : Nat))) (List.map (Value.int IntKind.i64) (lieAt p l y).fst)) (some (1 : Nat)) ∧ AObj.sc (2 : Nat) (AObj.rw (List.map (Value.int IntKind.i64) (lieAt p l y).fst) (some (1 : Nat))) = true) ∧ True) ∧ Ob (p = p) ∧ Ob (Value.slice (some (ad0 0)) l.length c = Value.slice (some (ad0 0)) l.length c) ∧ Ob (Value.slice (some { block := (3 : Nat), off := (0 : Nat), spot := some (0 : Nat) }) (x + (1 : Nat)) (0 : Nat) = Value.slice (some { block := (3 : Nat), off := (0 : Nat), spot := some (0 : Nat) }) y (0 : Nat)) ∧ Ob (IntKind.i64.wrap ((lieAt p l x).snd + IntKind.i64.wrap (x_1 - getI (List.map (Value.int IntKind.i64) l) ((0 : Nat) + (↑x : Int).toNat * (1 : Nat)))) = (lieAt p l y).snd) ∧ Ob (IntKind.i64.wrap ((↑x : Int) + (1 : Int)) = (↑y : Int)) ∧ True)) ∧ ((x_1 == p) = false → Ob (andP (some ((0 : Nat) + (1 : Nat) ≤ (1 : Nat) ∧ true = true)) (x + (1 : Nat) ≤ (1099511627776 : Nat) ∧ ((2 : Nat) * (x + (1 : Nat)) + (256 : Nat)) * (8 : Nat) ≤ (281474976710656 : Nat) ∧ (1 : Nat) = (1 : Nat) ∧ (List.map (Value.int IntKind.i64) (lieAt p l x).fst).length = x * (1 : Nat))) ∧ ((∃ (y : Unit), Ob True ∧ Ob ((20 : Nat) < l.length - x) ∧ (Ob (AObj.ro (List.map (Value.int IntKind.i64) l) = AObj.ro (List.map (nmap1 (nsub (1 : Nat) (3 : Nat))) (List.map (Value.int IntKind.i64) l)) ∧ AObj.sc (1 : Nat) (AObj.ro (List.map (Value.int IntKind.i64) l)) = true) ∧ True) ∧ Ob (p = p) ∧ Ob (Value.slice (some (ad0 0)) l.length c = Value.slice (some (ad0 0)) l.length c) ∧ Ob (Value.slice (some { block := (3 : Nat), off := (0 : Nat), spot := some (0 : Nat) }) (x + (1 : Nat)) (0 : Nat) = Value.slice none (0 : Nat) (0 : Nat)) ∧ Ob (IntKind.i64.wrap ((lieAt p l x).snd + IntKind.i64.wrap (x_1 - getI (List.map (Value.int IntKind.i64) l) ((0 : Nat) + (↑x : Int).toNat * (1 : Nat)))) = (0 : Int)) ∧ Ob (IntKind.i64.wrap ((↑x : Int) + (1 : Int)) = (0 : Int)) ∧ True) ∨ ∃ (y : Nat), Ob ((0 : Nat) < y ∧ y ≤ l.length) ∧ Ob (l.length - y < l.length - x) ∧ (Ob (AObj.ro (List.map (Value.int IntKind.i64) l) = AObj.ro (List.map (nmap1 (nsub (1 : Nat) (3 : Nat))) (List.map (Value.int IntKind.i64) l)) ∧ AObj.sc (2 : Nat) (AObj.ro (List.map (Value.int IntKind.i64) l)) = true) ∧ Ob (AObj.rw (List.map (Value.int IntKind.i64) (lieAt p l x).fst ++ [vi x_1]) (some (1 : Nat)) = AObj.rw (List.map (nmap1 (nsub (1 : Nat) (3 : Nat))) (List.map (Value.int IntKind.i64) (lieAt p l y).fst)) (some (1 : Nat)) ∧ AObj.sc (2 : Nat) (AObj.rw (List.map (Value.int IntKind.i64) (lieAt p l y).fst) (some (1 : Nat))) = true) ∧ True) ∧ Ob (p = p) ∧ Ob (Value.slice (some (ad0 0)) l.length c = Value.slice (some (ad0 0)) l.length c) ∧ Ob (Value.slice (some { block := (3 : Nat), off := (0 : Nat), spot := some (0 : Nat) }) (x + (1 : Nat)) (0 : Nat) = Value.slice (some { block := (3 : Nat), off := (0 : Nat), spot := some (0 : Nat) }) y (0 : Nat)) ∧ Ob (IntKind.i64.wrap ((lieAt p l x).snd + IntKind.i64.wrap (x_1 - getI (List.map (Value.int IntKind.i64) l) ((0 : Nat) + (↑x : Int).toNat * (1 : Nat)))) = (lieAt p l y).snd) ∧ Ob (IntKind.i64.wrap ((↑x : Int) + (1 : Int)) = (↑y : Int)) ∧ True)))) ∧ (decide ((↑x : Int) < (↑l.length : Int)) = false → True ∧ Ob (Value.tuple { toList := [Value.slice (some { block := (1 : Nat), off := (0 : Nat), spot := some (0 : Nat) }) x (0 : Nat), vi (lieAt p l x).snd] } = Value.tuple { toList := [Value.slice (some { block := (1 : Nat), off := (0 : Nat), spot := some (0 : Nat) }) l.length (0 : Nat), vi (lieOf p l).snd] } ∧ [AObj.ro (List.map (Value.int IntKind.i64) l), AObj.rw (List.map (Value.int IntKind.i64) (lieAt p l x).fst) (some (1 : Nat))] = [AObj.ro (List.map (Value.int IntKind.i64) l), AObj.rw (List.map (Value.int IntKind.i64) (lieOf p l).fst) (some (1 : Nat))]))
theorem liV_eq : liV = fun (p : Int) (l : List Int) (c : Nat) => vc Try.prog lieRE 1 47 true (lieRI p l c) lieRB [] (argFr 0 [vi p, .slice (some ⟨0,0,none⟩) l.length c]) [ros l] (retK Try.prog Try.f50 (fun v H1 => v = .tuple #[.slice (some ⟨1,0,some 0⟩) l.length 0, vi (lieOf p l).2] ∧ H1 = [ros l, rws (lieOf p l).1])) := by kernel_rfl


theorem slideAt_eq (out : List Int) (p a : Int) : slideAt out p a = if a < p ∧ a ∈ out then slideAt out p (a + 1) else a := by
  unfold slideAt
  by_cases h : a < p
  · rw [show (p - a).toNat = (p - (a + 1)).toNat + 1 by omega]
    rfl
  · rw [show (p - a).toNat = 0 by omega, if_neg (fun hh => h hh.1)]
    rfl
theorem slide_range (out : List Int) (p : Int) : ∀ (f : Nat) (a : Int), a ≤ p → a ≤ slide out p f a ∧ slide out p f a ≤ p
  | 0, a, h => ⟨Int.le_refl _, h⟩
  | f + 1, a, h => by
    unfold slide
    split
    · rename_i hh
      have := slide_range out p f (a + 1) (by omega)
      omega
    · exact ⟨Int.le_refl _, h⟩
theorem lieAt_succ {p : Int} {l : List Int} {i : Nat} (h : i < l.length) : lieAt p l (i + 1) = lieStep p (lieAt p l i) (l.getD i 0) := by
  unfold lieAt lieOf
  rw [List.take_succ_eq_append_getElem h, List.foldl_append, List.getD_eq_getElem?_getD, List.getElem?_eq_getElem h]
  rfl
theorem lieAt_len {p : Int} {l : List Int} : ∀ {i : Nat}, i ≤ l.length → (lieAt p l i).1.length = i
  | 0, _ => rfl
  | i + 1, h => by
    rw [lieAt_succ (by omega)]
    show ((lieAt p l i).1 ++ [_]).length = _
    rw [List.length_append, lieAt_len (by omega)]; rfl
theorem lieAt_slid {p : Int} {l : List Int} (hp : p ≤ 8) (hb : ∀ x ∈ l, 0 ≤ x ∧ x < p) : ∀ {i : Nat}, i ≤ l.length → 0 ≤ (lieAt p l i).2 ∧ (lieAt p l i).2 ≤ 8 * i
  | 0, _ => ⟨Int.le_refl 0, Int.le_refl 0⟩
  | i + 1, h => by
    rw [lieAt_succ (by omega)]
    show 0 ≤ (lieAt p l i).2 + _ ∧ (lieAt p l i).2 + _ ≤ _
    have := lieAt_slid (i := i) hp hb (by omega)
    have hd := hb _ (getD_memR (l := l) (i := i) (by omega))
    have := slide_range (lieAt p l i).1 p (p - l.getD i 0).toNat (l.getD i 0) (by omega)
    unfold slideAt
    omega
theorem lieAt_end {p : Int} {l : List Int} {i : Nat} (h : l.length ≤ i) : lieAt p l i = lieOf p l := by
  unfold lieAt; rw [List.take_of_length_le h]
theorem lieNext_ok {p : Int} {l : List Int} {x : Nat} {a v : Int} (hp : 0 < p ∧ p ≤ 8) (hb : ∀ x ∈ l, 0 ≤ x ∧ x < p) (hlen : l.length ≤ 13) (hx : x < l.length) (h1 : l.getD x 0 ≤ a) (h2 : a ≤ p) (h3 : slideAt (lieAt p l x).1 p (l.getD x 0) = a) (hv : v = if a = p then -1 else a) :
    (1 ≤ 1 ∧ x + 1 ≤ 1099511627776 ∧ (2 * (x + 1) + 256) * 8 ≤ 281474976710656 ∧ (lieAt p l x).fst.length = x) ∧
      ∃ y, (0 < y ∧ y ≤ l.length) ∧ l.length - y < l.length - x ∧ List.map (Value.int IntKind.i64) (lieAt p l x).fst ++ [Value.int IntKind.i64 v] = List.map (Value.int IntKind.i64) (lieAt p l y).fst ∧ x + 1 = y ∧
        IntKind.i64.wrap ((lieAt p l x).snd + IntKind.i64.wrap (a - l.getD x 0)) = (lieAt p l y).snd ∧ IntKind.i64.wrap (↑x + 1) = (y : Int) := by
  have hd := hb _ (getD_memR hx)
  have hs := lieAt_slid hp.2 hb (i := x) (by omega)
  refine ⟨⟨by omega, by omega, by omega, lieAt_len (by omega)⟩, x + 1, ⟨by omega, by omega⟩, by omega, ?_, rfl, ?_, ?_⟩
  · rw [lieAt_succ hx]
    show _ = List.map _ ((lieAt p l x).1 ++ [_])
    rw [List.map_append, h3, hv]; rfl
  · rw [lieAt_succ hx]
    show _ = (lieAt p l x).2 + _
    rw [h3, wrap_in (x := a - l.getD x 0) (by omega) (by omega), wrap_in (by omega) (by omega)]
  · rw [wrap_in (by omega) (by omega)]; rfl
theorem liV_ok (p : Int) (l : List Int) (c : Nat) (hp : 0 < p ∧ p ≤ 8) (hl : 0 < l.length) (hb : ∀ x ∈ l, 0 ≤ x ∧ x < p) (hlen : l.length ≤ 13) : liV p l c := by
  unfold liV
  simp only [ob_iff, map_nmap_int, sc_ro_int, sc_rw_int, getI_map, intAt_map, true_and, and_true, eq_self, Int.toNat_natCast, Nat.zero_add, Nat.mul_one, decide_eq_true_eq, decide_eq_false_iff_not, andP, List.set_cons_zero, List.length_cons, List.length_nil, List.drop_zero, List.take_succ_cons, List.take_zero,
    Value.slice.injEq, Value.tuple.injEq, Option.some.injEq, Addr.mk.injEq, AObj.rw.injEq, List.cons.injEq, reduceCtorEq, List.length_append, List.length_map, false_and, and_false, exists_const, or_false, false_or, true_or, Nat.lt_irrefl, forall_const, true_implies, List.length_set, beq_iff_eq, beq_eq_false_iff_ne, intsOf_map]
  have h0 := hb _ (getD_memR hl)
  have z : lieAt p l 0 = ([], 0) := rfl
  have e0 : slideAt (lieAt p l 0).1 p (l.getD 0 0) = l.getD 0 0 := by rw [slideAt_eq, z]; simp
  have first : ∀ v : Int, v = (if l.getD 0 0 = p then -1 else l.getD 0 0) → (1 ≤ 1 ∧ 1 ≤ 1099511627776 ∧ 2064 ≤ 281474976710656 ∧ 0 < 1) ∧
      ∃ y, (0 < y ∧ y ≤ l.length) ∧ l.length - y < 20 ∧ [Value.int IntKind.i64 v] = List.map (Value.int IntKind.i64) (lieAt p l y).fst ∧ 1 = y ∧
        IntKind.i64.wrap (0 + IntKind.i64.wrap (l.getD 0 0 - l.getD 0 0)) = (lieAt p l y).snd ∧ IntKind.i64.wrap (0 + 1) = (y : Int) := fun v hv => by
    obtain ⟨_, y, h1, h2, h3, h4, h5, h6⟩ := lieNext_ok (a := l.getD 0 0) (v := v) hp hb hlen hl (Int.le_refl _) (by omega) e0 hv
    exact ⟨⟨by omega, by omega, by omega, by omega⟩, y, h1, by omega, h3, by omega, h5, h6⟩
  refine ⟨⟨fun _ => ⟨⟨by omega, by omega⟩, hl, fun _ => ⟨id, ⟨by omega, by omega⟩, hl, fun h => first _ (by rw [if_pos h]), fun h => first _ (by rw [if_neg h])⟩, fun h => absurd h0.2 h⟩, fun h => by omega⟩, fun x ⟨h1, h2⟩ => ⟨fun h3 => ?_, fun h3 => ?_⟩⟩
  · have hx : x < l.length := by omega
    have hd := hb _ (getD_memR hx)
    have hlx : (lieAt p l x).1.length = x := lieAt_len h2
    refine ⟨⟨by omega, by omega⟩, hx, ⟨_, ⟨Int.le_refl _, by omega, rfl⟩, rfl⟩, fun a ⟨ha1, ha2, ha3⟩ => ?_⟩
    have fin : ¬ (a < p ∧ a ∈ (lieAt p l x).1) → slideAt (lieAt p l x).1 p (l.getD x 0) = a := fun hh => by rw [← ha3, slideAt_eq, if_neg hh]
    have tk : List.take x (lieAt p l x).1 = (lieAt p l x).1 := List.take_of_length_le (by omega)
    rw [tk]
    refine ⟨fun hap => ⟨⟨⟨?_, by omega⟩, by omega⟩, fun hm => ?_, fun hm => ?_⟩, fun hap => ?_⟩
    · exact List.take_of_length_le (by simp; omega)
    · refine ⟨a + 1, ⟨by omega, by omega, ?_⟩, by omega, wrap_in (by omega) (by omega)⟩
      rw [← ha3, slideAt_eq _ _ a, if_pos ⟨hap, hm⟩]
    · exact ⟨⟨by omega, by omega⟩, hx, fun h => lieNext_ok hp hb hlen hx ha1 ha2 (fin fun hh => hm hh.2) (by rw [if_pos h]), fun h => lieNext_ok hp hb hlen hx ha1 ha2 (fin fun hh => hm hh.2) (by rw [if_neg h])⟩
    · exact ⟨⟨by omega, by omega⟩, hx, fun h => lieNext_ok hp hb hlen hx ha1 ha2 (fin fun hh => hap hh.1) (by rw [if_pos h]), fun h => lieNext_ok hp hb hlen hx ha1 ha2 (fin fun hh => hap hh.1) (by rw [if_neg h])⟩
  · rw [lieAt_end (by omega)]
    refine ⟨?_, rfl⟩
    rw [show x = l.length by omega]
theorem li_call (p : Int) (l : List Int) (c : Nat) (hp : 0 < p ∧ p ≤ 8) (hl : 0 < l.length) (hb : ∀ x ∈ l, 0 ≤ x ∧ x < p) (hlen : l.length ≤ 13) :
    Call Try.prog 50 [vi p, .slice (some ⟨0,0,none⟩) l.length c] [ros l] fun v H1 => v = .tuple #[.slice (some ⟨1,0,some 0⟩) l.length 0, vi (lieOf p l).2] ∧ H1 = [ros l, rws (lieOf p l).1] :=
  Call.ofVc (VOk.ofCt (CtOk.none.add hasG_ok)) mixed (c := lieRB) (inv := lieRI p l c) Try.func50 (by kernel_rfl) (cast (congrFun (congrFun (congrFun liV_eq p) l) c) (liV_ok p l c hp hl hb hlen))

end Go.Pier.Lg

set_option maxRecDepth 100000
set_option linter.unusedVariables false
set_option linter.unusedSimpArgs false
namespace Go.Pier.Lg
open Go Go.Pier Go.Proofs 
noncomputable def fullRB : Code := Try.f53.body.getD .skip
def lieRS (r : List Arg) : Option (Prop × Back) := match r with
  | [p, .ints _ l] => some ((0 < p.num ∧ p.num ≤ 8) ∧ 0 < l.length ∧ (∀ x ∈ l, 0 ≤ x ∧ x < p.num) ∧ l.length ≤ 13, .both (lieOf p.num l).1 [vi (lieOf p.num l).2])
  | _ => none
noncomputable def fullRT : Ct := (Ct.none.add 45 hasG).add 50 (newG [.int .i64, .ints .i64] lieRS)
def fullTo (p : Int) (l : List Int) : Nat → List Int
  | 0 => []
  | i + 1 => if (i : Int) ∈ (lieOf p l).1 then fullTo p l i ++ [(i : Int)] else fullTo p l i
def fullRI (p : Int) (l : List Int) (c : Nat) : Nat → Option LInv := invOf 0 (.mk [
      ⟨Nat, fun i => (i : Int) ≤ p ∧ fullTo p l i = [], fun i => [(0, vi p), (1, .slice (some ⟨0,0,none⟩) l.length c), (6, .slice (some ⟨1,0,some 0⟩) (lieOf p l).1.length 0), (8, .slice none 0 0), (9, vi i)], fun _ => [ros l, rws (lieOf p l).1], fun i => (p - i).toNat, fun _ _ => none⟩,
      ⟨Nat, fun i => (i : Int) ≤ p, fun i => [(0, vi p), (1, .slice (some ⟨0,0,none⟩) l.length c), (6, .slice (some ⟨1,0,some 0⟩) (lieOf p l).1.length 0), (8, .slice (some ⟨2,0,some 0⟩) (fullTo p l i).length 0), (9, vi i)], fun i => [ros l, rws (lieOf p l).1, rws (fullTo p l i)], fun i => (p - i).toNat, fun _ _ => none⟩]
    (fun _ b => b) (fun i j => match i, j with | 0, 0 => [fun b => b] | 0, _ => [nsub 2 3] | _, _ => [fun b => b, nsub 2 4]))
noncomputable def foV :=
fun (p : Int) (l : List Int) (c : Nat) ↦ Ob ((List.take l.length (List.drop (0 : Nat) (List.map (Value.int IntKind.i64) l)) = List.map (Value.int IntKind.i64) (List.take l.length (List.drop (0 : Nat) (intsOf (List.map (Value.int IntKind.i64) l)))) ∧ (0 : Nat) + l.length ≤ (List.map (Value.int IntKind.i64) l).length ∧ true = true) ∧ ((0 : Int) < (Arg.plain (vi p)).num ∧ (Arg.plain (vi p)).num ≤ (8 : Int)) ∧ (0 : Nat) < (List.take l.length (List.drop (0 : Nat) (intsOf (List.map (Value.int IntKind.i64) l)))).length ∧ (∀ (x : Int), x ∈ List.take l.length (List.drop (0 : Nat) (intsOf (List.map (Value.int IntKind.i64) l))) → (0 : Int) ≤ x ∧ x < (Arg.plain (vi p)).num) ∧ (List.take l.length (List.drop (0 : Nat) (intsOf (List.map (Value.int IntKind.i64) l)))).length ≤ (13 : Nat)) ∧ ((∃ (y : Nat), Ob ((↑y : Int) ≤ p ∧ fullTo p l y = []) ∧ (Ob (AObj.ro (List.map (Value.int IntKind.i64) l) = AObj.ro (List.map (nmap1 fun (b : Nat) ↦ b) (List.map (Value.int IntKind.i64) l)) ∧ AObj.sc (2 : Nat) (AObj.ro (List.map (Value.int IntKind.i64) l)) = true) ∧ Ob (AObj.rw (List.map (Value.int IntKind.i64) (lieOf (Arg.plain (vi p)).num (List.take l.length (List.drop (0 : Nat) (intsOf (List.map (Value.int IntKind.i64) l))))).fst) (some (1 : Nat)) = AObj.rw (List.map (nmap1 fun (b : Nat) ↦ b) (List.map (Value.int IntKind.i64) (lieOf p l).fst)) (some (1 : Nat)) ∧ AObj.sc (2 : Nat) (AObj.rw (List.map (Value.int IntKind.i64) (lieOf p l).fst) (some (1 : Nat))) = true) ∧ True) ∧ Ob (p = p) ∧ Ob (Value.slice (some (ad0 0)) l.length c = Value.slice (some (ad0 0)) l.length c) ∧ Ob (Value.slice (some { block := (1 : Nat), off := (0 : Nat), spot := some (0 : Nat) }) (lieOf (Arg.plain (vi p)).num (List.take l.length (List.drop (0 : Nat) (intsOf (List.map (Value.int IntKind.i64) l))))).fst.length (0 : Nat) = Value.slice (some { block := (1 : Nat), off := (0 : Nat), spot := some (0 : Nat) }) (lieOf p l).fst.length (0 : Nat)) ∧ Ob (Value.slice none (0 : Nat) (0 : Nat) = Value.slice none (0 : Nat) (0 : Nat)) ∧ Ob ((0 : Int) = (↑y : Int)) ∧ True) ∨ ∃ (y : Nat), Ob ((↑y : Int) ≤ p) ∧ (Ob (AObj.ro (List.map (Value.int IntKind.i64) l) = AObj.ro (List.map (nmap1 fun (b : Nat) ↦ b) (List.map (Value.int IntKind.i64) l)) ∧ AObj.sc (3 : Nat) (AObj.ro (List.map (Value.int IntKind.i64) l)) = true) ∧ Ob (AObj.rw (List.map (Value.int IntKind.i64) (lieOf (Arg.plain (vi p)).num (List.take l.length (List.drop (0 : Nat) (intsOf (List.map (Value.int IntKind.i64) l))))).fst) (some (1 : Nat)) = AObj.rw (List.map (nmap1 fun (b : Nat) ↦ b) (List.map (Value.int IntKind.i64) (lieOf p l).fst)) (some (1 : Nat)) ∧ AObj.sc (3 : Nat) (AObj.rw (List.map (Value.int IntKind.i64) (lieOf p l).fst) (some (1 : Nat))) = true) ∧ False) ∧ Ob (p = p) ∧ Ob (Value.slice (some (ad0 0)) l.length c = Value.slice (some (ad0 0)) l.length c) ∧ Ob (Value.slice (some { block := (1 : Nat), off := (0 : Nat), spot := some (0 : Nat) }) (lieOf (Arg.plain (vi p)).num (List.take l.length (List.drop (0 : Nat) (intsOf (List.map (Value.int IntKind.i64) l))))).fst.length (0 : Nat) = Value.slice (some { block := (1 : Nat), off := (0 : Nat), spot := some (0 : Nat) }) (lieOf p l).fst.length (0 : Nat)) ∧ Ob (Value.slice none (0 : Nat) (0 : Nat) = Value.slice (some { block := (2 : Nat), off := (0 : Nat), spot := some (0 : Nat) }) (fullTo p l y).length (0 : Nat)) ∧ Ob ((0 : Int) = (↑y : Int)) ∧ True) ∧ (∀ (x : Nat), Ob ((↑x : Int) ≤ p ∧ fullTo p l x = []) → (decide ((↑x : Int) < p) = true → Ob ((List.take (lieOf p l).fst.length (List.drop (0 : Nat) (List.map (Value.int IntKind.i64) (lieOf p l).fst)) = List.map (Value.int IntKind.i64) (List.take (lieOf p l).fst.length (List.drop (0 : Nat) (intsOf (List.map (Value.int IntKind.i64) (lieOf p l).fst)))) ∧ (0 : Nat) + (lieOf p l).fst.length ≤ (List.map (Value.int IntKind.i64) (lieOf p l).fst).length ∧ true = true) ∧ (List.take (lieOf p l).fst.length (List.drop (0 : Nat) (intsOf (List.map (Value.int IntKind.i64) (lieOf p l).fst)))).length < (1000000 : Nat)) ∧ (decide ((↑x : Int) ∈ List.take (lieOf p l).fst.length (List.drop (0 : Nat) (intsOf (List.map (Value.int IntKind.i64) (lieOf p l).fst)))) = true → Ob (andP (some ((0 : Nat) + (1 : Nat) ≤ (1 : Nat) ∧ true = true)) ((1 : Nat) ≤ (1099511627776 : Nat) ∧ (2064 : Nat) ≤ (281474976710656 : Nat) ∧ (1 : Nat) = (1 : Nat) ∧ (0 : Nat) = (0 : Nat) ∧ (0 : Nat) < (1 : Nat))) ∧ ((∃ (y : Nat), Ob ((↑y : Int) ≤ p ∧ fullTo p l y = []) ∧ Ob ((p - (↑y : Int)).toNat < (p - (↑x : Int)).toNat) ∧ (Ob (AObj.ro (List.map (Value.int IntKind.i64) l) = AObj.ro (List.map (nmap1 fun (b : Nat) ↦ b) (List.map (Value.int IntKind.i64) l)) ∧ AObj.sc (2 : Nat) (AObj.ro (List.map (Value.int IntKind.i64) l)) = true) ∧ Ob (AObj.rw (List.map (Value.int IntKind.i64) (lieOf p l).fst) (some (1 : Nat)) = AObj.rw (List.map (nmap1 fun (b : Nat) ↦ b) (List.map (Value.int IntKind.i64) (lieOf p l).fst)) (some (1 : Nat)) ∧ AObj.sc (2 : Nat) (AObj.rw (List.map (Value.int IntKind.i64) (lieOf p l).fst) (some (1 : Nat))) = true) ∧ True) ∧ Ob (p = p) ∧ Ob (Value.slice (some (ad0 0)) l.length c = Value.slice (some (ad0 0)) l.length c) ∧ Ob (Value.slice (some { block := (1 : Nat), off := (0 : Nat), spot := some (0 : Nat) }) (lieOf p l).fst.length (0 : Nat) = Value.slice (some { block := (1 : Nat), off := (0 : Nat), spot := some (0 : Nat) }) (lieOf p l).fst.length (0 : Nat)) ∧ Ob (Value.slice (some { block := (3 : Nat), off := (0 : Nat), spot := some (0 : Nat) }) (1 : Nat) (0 : Nat) = Value.slice none (0 : Nat) (0 : Nat)) ∧ Ob (IntKind.i64.wrap ((↑x : Int) + (1 : Int)) = (↑y : Int)) ∧ True) ∨ ∃ (y : Nat), Ob ((↑y : Int) ≤ p) ∧ Ob ((p - (↑y : Int)).toNat < (p - (↑x : Int)).toNat) ∧ (Ob (AObj.ro (List.map (Value.int IntKind.i64) l) = AObj.ro (List.map (nmap1 (nsub (2 : Nat) (3 : Nat))) (List.map (Value.int IntKind.i64) l)) ∧ AObj.sc (3 : Nat) (AObj.ro (List.map (Value.int IntKind.i64) l)) = true) ∧ Ob (AObj.rw (List.map (Value.int IntKind.i64) (lieOf p l).fst) (some (1 : Nat)) = AObj.rw (List.map (nmap1 (nsub (2 : Nat) (3 : Nat))) (List.map (Value.int IntKind.i64) (lieOf p l).fst)) (some (1 : Nat)) ∧ AObj.sc (3 : Nat) (AObj.rw (List.map (Value.int IntKind.i64) (lieOf p l).fst) (some (1 : Nat))) = true) ∧ Ob (AObj.rw [vi (↑x : Int)] (some (1 : Nat)) = AObj.rw (List.map (nmap1 (nsub (2 : Nat) (3 : Nat))) (List.map (Value.int IntKind.i64) (fullTo p l y))) (some (1 : Nat)) ∧ AObj.sc (3 : Nat) (AObj.rw (List.map (Value.int IntKind.i64) (fullTo p l y)) (some (1 : Nat))) = true) ∧ True) ∧ Ob (p = p) ∧ Ob (Value.slice (some (ad0 0)) l.length c = Value.slice (some (ad0 0)) l.length c) ∧ Ob (Value.slice (some { block := (1 : Nat), off := (0 : Nat), spot := some (0 : Nat) }) (lieOf p l).fst.length (0 : Nat) = Value.slice (some { block := (1 : Nat), off := (0 : Nat), spot := some (0 : Nat) }) (lieOf p l).fst.length (0 : Nat)) ∧ Ob (Value.slice (some { block := (3 : Nat), off := (0 : Nat), spot := some (0 : Nat) }) (1 : Nat) (0 : Nat) = Value.slice (some { block := (3 : Nat), off := (0 : Nat), spot := some (0 : Nat) }) (fullTo p l y).length (0 : Nat)) ∧ Ob (IntKind.i64.wrap ((↑x : Int) + (1 : Int)) = (↑y : Int)) ∧ True)) ∧ (decide ((↑x : Int) ∈ List.take (lieOf p l).fst.length (List.drop (0 : Nat) (intsOf (List.map (Value.int IntKind.i64) (lieOf p l).fst)))) = false → (∃ (y : Nat), Ob ((↑y : Int) ≤ p ∧ fullTo p l y = []) ∧ Ob ((p - (↑y : Int)).toNat < (p - (↑x : Int)).toNat) ∧ (Ob (AObj.ro (List.map (Value.int IntKind.i64) l) = AObj.ro (List.map (nmap1 fun (b : Nat) ↦ b) (List.map (Value.int IntKind.i64) l)) ∧ AObj.sc (2 : Nat) (AObj.ro (List.map (Value.int IntKind.i64) l)) = true) ∧ Ob (AObj.rw (List.map (Value.int IntKind.i64) (lieOf p l).fst) (some (1 : Nat)) = AObj.rw (List.map (nmap1 fun (b : Nat) ↦ b) (List.map (Value.int IntKind.i64) (lieOf p l).fst)) (some (1 : Nat)) ∧ AObj.sc (2 : Nat) (AObj.rw (List.map (Value.int IntKind.i64) (lieOf p l).fst) (some (1 : Nat))) = true) ∧ True) ∧ Ob (p = p) ∧ Ob (Value.slice (some (ad0 0)) l.length c = Value.slice (some (ad0 0)) l.length c) ∧ Ob (Value.slice (some { block := (1 : Nat), off := (0 : Nat), spot := some (0 : Nat) }) (lieOf p l).fst.length (0 : Nat) = Value.slice (some { block := (1 : Nat), off := (0 : Nat), spot := some (0 : Nat) }) (lieOf p l).fst.length (0 : Nat)) ∧ Ob (Value.slice none (0 : Nat) (0 : Nat) = Value.slice none (0 : Nat) (0 : Nat)) ∧ Ob (IntKind.i64.wrap ((↑x : Int) + (1 : Int)) = (↑y : Int)) ∧ True) ∨ ∃ (y : Nat), Ob ((↑y : Int) ≤ p) ∧ Ob ((p - (↑y : Int)).toNat < (p - (↑x : Int)).toNat) ∧ (Ob (AObj.ro (List.map (Value.int IntKind.i64) l) = AObj.ro (List.map (nmap1 (nsub (2 : Nat) (3 : Nat))) (List.map (Value.int IntKind.i64) l)) ∧ AObj.sc (3 : Nat) (AObj.ro (List.map (Value.int IntKind.i64) l)) = true) ∧ Ob (AObj.rw (List.map (Value.int IntKind.i64) (lieOf p l).fst) (some (1 : Nat)) = AObj.rw (List.map (nmap1 (nsub (2 : Nat) (3 : Nat))) (List.map (Value.int IntKind.i64) (lieOf p l).fst)) (some (1 : Nat)) ∧ AObj.sc (3 : Nat) (AObj.rw (List.map (Value.int IntKind.i64) (lieOf p l).fst) (some (1 : Nat))) = true) ∧ False) ∧ Ob (p = p) ∧ Ob (Value.slice (some (ad0 0)) l.length c = Value.slice (some (ad0 0)) l.length c) ∧ Ob (Value.slice (some { block := (1 : Nat), off := (0 : Nat), spot := some (0 : Nat) }) (lieOf p l).fst.length (0 : Nat) = Value.slice (some { block := (1 : Nat), off := (0 : Nat), spot := some (0 : Nat) }) (lieOf p l).fst.length (0 : Nat)) ∧ Ob (Value.slice none (0 : Nat) (0 : Nat) = Value.slice (some { block := (3 : Nat), off := (0 : Nat), spot := some (0 : Nat) }) (fullTo p l y).length (0 : Nat)) ∧ Ob (IntKind.i64.wrap ((↑x : Int) + (1 : Int)) = (↑y : Int)) ∧ True)) ∧ (decide ((↑x : Int) < p) = false → True ∧ Ob (Value.tuple { toList := [Value.slice none (0 : Nat) (0 : Nat), vi (IntKind.i64.wrap ((↑l.length : Int) - (↑(0 : Nat) : Int)))] } = Value.tuple { toList := [Value.slice none (0 : Nat) (0 : Nat), vi (↑l.length : Int)] } ∧ fullTo p l p.toNat = [] ∨ Value.tuple { toList := [Value.slice none (0 : Nat) (0 : Nat), vi (IntKind.i64.wrap ((↑l.length : Int) - (↑(0 : Nat) : Int)))] } = Value.tuple { toList := [Value.slice (some { block := (2 : Nat), off := (0 : Nat), spot := some (0 : Nat) }) (fullTo p l p.toNat).length (0 : Nat), vi ((↑l.length : Int) - (↑(fullTo p l p.toNat).length : Int))] } ∧ [AObj.ro (List.map (Value.int IntKind.i64) l), AObj.rw (List.map (Value.int IntKind.i64) (lieOf p l).fst) (some (1 : Nat))] = [AObj.ro (List.map (Value.int IntKind.i64) l), AObj.rw (List.map (Value.int IntKind.i64) (lieOf p l).fst) (some (1 : Nat)), AObj.rw (List.map (Value.int IntKind.i64) (fullTo p l p.toNat)) (some (1 : Nat))]))) ∧ ∀ (x : Nat), Ob ((↑x : Int) ≤ p) → (decide ((↑x : Int) < p) = true → Ob ((List.take (lieOf p l).fst.length (List.drop (0 : Nat) (List.map (Value.int IntKind.i64) (lieOf p l).fst)) = List.map (Value.int IntKind.i64) (List.take (lieOf p l).fst.length (List.drop (0 : Nat) (intsOf (List.map (Value.int IntKind.i64) (lieOf p l).fst)))) ∧ (0 : Nat) + (lieOf p l).fst.length ≤ (List.map (Value.int IntKind.i64) (lieOf p l).fst).length ∧ true = true) ∧ (List.take (lieOf p l).fst.length (List.drop (0 : Nat) (intsOf (List.map (Value.int IntKind.i64) (lieOf p l).fst)))).length < (1000000 : Nat)) ∧ (decide ((↑x : Int) ∈ List.take (lieOf p l).fst.length (List.drop (0 : Nat) (intsOf (List.map (Value.int IntKind.i64) (lieOf p l).fst)))) = true → Ob (andP (some ((0 : Nat) + (1 : Nat) ≤ (1 : Nat) ∧ true = true)) ((fullTo p l x).length + (1 : Nat) ≤ (1099511627776 : Nat) ∧ ((2 : Nat) * ((fullTo p l x).length + (1 : Nat)) + (256 : Nat)) * (8 : Nat) ≤ (281474976710656 : Nat) ∧ (1 : Nat) = (1 : Nat) ∧ (List.map (Value.int IntKind.i64) (fullTo p l x)).length = (fullTo p l x).length * (1 : Nat))) ∧ (((∃ (y : Nat), Ob ((↑y : Int) ≤ p ∧ fullTo p l y = []) ∧ Ob ((p - (↑y : Int)).toNat < (p - (↑x : Int)).toNat) ∧ (Ob (AObj.ro (List.map (Value.int IntKind.i64) l) = AObj.ro (List.map (nmap1 fun (b : Nat) ↦ b) (List.map (Value.int IntKind.i64) l)) ∧ AObj.sc (2 : Nat) (AObj.ro (List.map (Value.int IntKind.i64) l)) = true) ∧ Ob (AObj.rw (List.map (Value.int IntKind.i64) (lieOf p l).fst) (some (1 : Nat)) = AObj.rw (List.map (nmap1 fun (b : Nat) ↦ b) (List.map (Value.int IntKind.i64) (lieOf p l).fst)) (some (1 : Nat)) ∧ AObj.sc (2 : Nat) (AObj.rw (List.map (Value.int IntKind.i64) (lieOf p l).fst) (some (1 : Nat))) = true) ∧ True) ∧ Ob (p = p) ∧ Ob (Value.slice (some (ad0 0)) l.length c = Value.slice (some (ad0 0)) l.length c) ∧ Ob (Value.slice (some { block := (1 : Nat), off := (0 : Nat), spot := some (0 : Nat) }) (lieOf p l).fst.length (0 : Nat) = Value.slice (some { block := (1 : Nat), off := (0 : Nat), spot := some (0 : Nat) }) (lieOf p l).fst.length (0 : Nat)) ∧ Ob (Value.slice (some { block := (4 : Nat), off := (0 : Nat), spot := some (0 : Nat) }) ((fullTo p l x).length + (1 : Nat)) (0 : Nat) = Value.slice none (0 : Nat) (0 : Nat)) ∧ Ob (IntKind.i64.wrap ((↑x : Int) + (1 : Int)) = (↑y : Int)) ∧ True) ∨ ∃ (y : Nat), Ob ((↑y : Int) ≤ p ∧ fullTo p l y = []) ∧ Ob ((p - (↑y : Int)).toNat < (p - (↑x : Int)).toNat) ∧ (Ob (AObj.ro (List.map (Value.int IntKind.i64) l) = AObj.ro (List.map (nmap1 (nsub (2 : Nat) (4 : Nat))) (List.map (Value.int IntKind.i64) l)) ∧ AObj.sc (2 : Nat) (AObj.ro (List.map (Value.int IntKind.i64) l)) = true) ∧ Ob (AObj.rw (List.map (Value.int IntKind.i64) (lieOf p l).fst) (some (1 : Nat)) = AObj.rw (List.map (nmap1 (nsub (2 : Nat) (4 : Nat))) (List.map (Value.int IntKind.i64) (lieOf p l).fst)) (some (1 : Nat)) ∧ AObj.sc (2 : Nat) (AObj.rw (List.map (Value.int IntKind.i64) (lieOf p l).fst) (some (1 : Nat))) = true) ∧ True) ∧ Ob (p = p) ∧ Ob (Value.slice (some (ad0 0)) l.length c = Value.slice (some (ad0 0)) l.length c) ∧ Ob (Value.slice (some { block := (1 : Nat), off := (0 : Nat), spot := some (0 : Nat) }) (lieOf p l).fst.length (0 : Nat) = Value.slice (some { block := (1 : Nat), off := (0 : Nat), spot := some (0 : Nat) }) (lieOf p l).fst.length (0 : Nat)) ∧ Ob (Value.slice (some { block := (4 : Nat), off := (0 : Nat), spot := some (0 : Nat) }) ((fullTo p l x).length + (1 : Nat)) (0 : Nat) = Value.slice none (0 : Nat) (0 : Nat)) ∧ Ob (IntKind.i64.wrap ((↑x : Int) + (1 : Int)) = (↑y : Int)) ∧ True) ∨ (∃ (y : Nat), Ob ((↑y : Int) ≤ p) ∧ Ob ((p - (↑y : Int)).toNat < (p - (↑x : Int)).toNat) ∧ (Ob (AObj.ro (List.map (Value.int IntKind.i64) l) = AObj.ro (List.map (nmap1 fun (b : Nat) ↦ b) (List.map (Value.int IntKind.i64) l)) ∧ AObj.sc (3 : Nat) (AObj.ro (List.map (Value.int IntKind.i64) l)) = true) ∧ Ob (AObj.rw (List.map (Value.int IntKind.i64) (lieOf p l).fst) (some (1 : Nat)) = AObj.rw (List.map (nmap1 fun (b : Nat) ↦ b) (List.map (Value.int IntKind.i64) (lieOf p l).fst)) (some (1 : Nat)) ∧ AObj.sc (3 : Nat) (AObj.rw (List.map (Value.int IntKind.i64) (lieOf p l).fst) (some (1 : Nat))) = true) ∧ Ob (AObj.gone = AObj.rw (List.map (nmap1 fun (b : Nat) ↦ b) (List.map (Value.int IntKind.i64) (fullTo p l y))) (some (1 : Nat)) ∧ AObj.sc (3 : Nat) (AObj.rw (List.map (Value.int IntKind.i64) (fullTo p l y)) (some (1 : Nat))) = true) ∧ True) ∧ Ob (p = p) ∧ Ob (Value.slice (some (ad0 0)) l.length c = Value.slice (some (ad0 0)) l.length c) ∧ Ob (Value.slice (some { block := (1 : Nat), off := (0 : Nat), spot := some (0 : Nat) }) (lieOf p l).fst.length (0 : Nat) = Value.slice (some { block := (1 : Nat), off := (0 : Nat), spot := some (0 : Nat) }) (lieOf p l).fst.length (0 : Nat)) ∧ Ob (Value.slice (some { block := (4 : Nat), off := (0 : Nat), spot := some (0 : Nat) }) ((fullTo p l x).length + (1 : Nat)) (0 : Nat) = Value.slice (some { block := (2 : Nat), off := (0 : Nat), spot := some (0 : Nat) }) (fullTo p l y).length (0 : Nat)) ∧ Ob (IntKind.i64.wrap ((↑x : Int) + (1 : Int)) = (↑y : Int)) ∧ True) ∨ ∃ (y : Nat), Ob ((↑y : Int) ≤ p) ∧ Ob ((p - (↑y : Int)).toNat < (p - (↑x : Int)).toNat) ∧ (Ob (AObj.ro (List.map (Value.int IntKind.i64) l) = AObj.ro (List.map (nmap1 (nsub (2 : Nat) (4 : Nat))) (List.map (Value.int IntKind.i64) l)) ∧ AObj.sc (3 : Nat) (AObj.ro (List.map (Value.int IntKind.i64) l)) = true) ∧ Ob (AObj.rw (List.map (Value.int IntKind.i64) (lieOf p l).fst) (some (1 : Nat)) = AObj.rw (List.map (nmap1 (nsub (2 : Nat) (4 : Nat))) (List.map (Value.int IntKind.i64) (lieOf p l).fst)) (some (1 : Nat)) ∧ AObj.sc (3 : Nat) (AObj.rw (List.map (Value.int IntKind.i64) (lieOf p l).fst) (some (1 : Nat))) = true) ∧ Ob (AObj.rw (List.map (Value.int IntKind.i64) (fullTo p l x) ++ [vi (↑x : Int)]) (some (1 : Nat)) = AObj.rw (List.map (nmap1 (nsub (2 : Nat) (4 : Nat))) (List.map (Value.int IntKind.i64) (fullTo p l y))) (some (1 : Nat)) ∧ AObj.sc (3 : Nat) (AObj.rw (List.map (Value.int IntKind.i64) (fullTo p l y)) (some (1 : Nat))) = true) ∧ True) ∧ Ob (p = p) ∧ Ob (Value.slice (some (ad0 0)) l.length c = Value.slice (some (ad0 0)) l.length c) ∧ Ob (Value.slice (some { block := (1 : Nat), off := (0 : Nat), spot := some (0 : Nat) }) (lieOf p l).fst.length (0 : Nat) = Value.slice (some { block := (1 : Nat), off := (0 : Nat), spot := some (0 : Nat) }) (lieOf p l).fst.length (0 : Nat)) ∧ Ob (Value.slice (some { block := (4 : Nat), off := (0 : Nat), spot := some (0 : Nat) }) ((fullTo p l x).length + (1 : Nat)) (0 : Nat) = Value.slice (some { block := (4 : Nat), off := (0 : Nat), spot := some (0 : Nat) }) (fullTo p l y).length (0 : Nat)) ∧ Ob (IntKind.i64.wrap ((↑x : Int) + (1 : Int)) = (↑y : Int)) ∧ True)) ∧ (decide ((↑x : Int) ∈ List.take (lieOf p l).fst.length (List.drop (0 : Nat) (intsOf (List.map (Value.int IntKind.i64) (lieOf p l).fst)))) = false → ((∃ (y : Nat), Ob ((↑y : Int) ≤ p ∧ fullTo p l y = []) ∧ Ob ((p - (↑y : Int)).toNat < (p - (↑x : Int)).toNat) ∧ (Ob (AObj.ro (List.map (Value.int IntKind.i64) l) = AObj.ro (List.map (nmap1 fun (b : Nat) ↦ b) (List.map (Value.int IntKind.i64) l)) ∧ AObj.sc (2 : Nat) (AObj.ro (List.map (Value.int IntKind.i64) l)) = true) ∧ Ob (AObj.rw (List.map (Value.int IntKind.i64) (lieOf p l).fst) (some (1 : Nat)) = AObj.rw (List.map (nmap1 fun (b : Nat) ↦ b) (List.map (Value.int IntKind.i64) (lieOf p l).fst)) (some (1 : Nat)) ∧ AObj.sc (2 : Nat) (AObj.rw (List.map (Value.int IntKind.i64) (lieOf p l).fst) (some (1 : Nat))) = true) ∧ True) ∧ Ob (p = p) ∧ Ob (Value.slice (some (ad0 0)) l.length c = Value.slice (some (ad0 0)) l.length c) ∧ Ob (Value.slice (some { block := (1 : Nat), off := (0 : Nat), spot := some (0 : Nat) }) (lieOf p l).fst.length (0 : Nat) = Value.slice (some { block := (1 : Nat), off := (0 : Nat), spot := some (0 : Nat) }) (lieOf p l).fst.length (0 : Nat)) ∧ Ob (Value.slice (some { block := (2 : Nat), off := (0 : Nat), spot := some (0 : Nat) }) (fullTo p l x).length (0 : Nat) = Value.slice none (0 : Nat) (0 : Nat)) ∧ Ob (IntKind.i64.wrap ((↑x : Int) + (1 : Int)) = (↑y : Int)) ∧ True) ∨ ∃ (y : Nat), Ob ((↑y : Int) ≤ p ∧ fullTo p l y = []) ∧ Ob ((p - (↑y : Int)).toNat < (p - (↑x : Int)).toNat) ∧ (Ob (AObj.ro (List.map (Value.int IntKind.i64) l) = AObj.ro (List.map (nmap1 (nsub (2 : Nat) (4 : Nat))) (List.map (Value.int IntKind.i64) l)) ∧ AObj.sc (2 : Nat) (AObj.ro (List.map (Value.int IntKind.i64) l)) = true) ∧ Ob (AObj.rw (List.map (Value.int IntKind.i64) (lieOf p l).fst) (some (1 : Nat)) = AObj.rw (List.map (nmap1 (nsub (2 : Nat) (4 : Nat))) (List.map (Value.int IntKind.i64) (lieOf p l).fst)) (some (1 : Nat)) ∧ AObj.sc (2 : Nat) (AObj.rw (List.map (Value.int IntKind.i64) (lieOf p l).fst) (some (1 : Nat))) = true) ∧ True) ∧ Ob (p = p) ∧ Ob (Value.slice (some (ad0 0)) l.length c = Value.slice (some (ad0 0)) l.length c) ∧ Ob (Value.slice (some { block := (1 : Nat), off := (0 : Nat), spot := some (0 : Nat) }) (lieOf p l).fst.length (0 : Nat) = Value.slice (some { block := (1 : Nat), off := (0 : Nat), spot := some (0 : Nat) }) (lieOf p l).fst.length (0 : Nat)) ∧ Ob (Value.slice (some { block := (2 : Nat), off := (0 : Nat), spot := some (0 : Nat) }) (fullTo p l x).length (0 : Nat) = Value.slice none (0 : Nat) (0 : Nat)) ∧ Ob (IntKind.i64.wrap ((↑x : Int) + (1 : Int)) = (↑y : Int)) ∧ True) ∨ (∃ (y : Nat), Ob ((↑y : Int) ≤ p) ∧ Ob ((p - (↑y : Int)).toNat < (p - (↑x : Int)).toNat) ∧ (Ob (AObj.ro (List.map (Value.int IntKind.i64) l) = AObj.ro (List.map (nmap1 fun (b : Nat) ↦ b) (List.map (Value.int IntKind.i64) l)) ∧ AObj.sc (3 : Nat) (AObj.ro (List.map (Value.int IntKind.i64) l)) = true) ∧ Ob (AObj.rw (List.map (Value.int IntKind.i64) (lieOf p l).fst) (some (1 : Nat)) = AObj.rw (List.map (nmap1 fun (b : Nat) ↦ b) (List.map (Value.int IntKind.i64) (lieOf p l).fst)) (some (1 : Nat)) ∧ AObj.sc (3 : Nat) (AObj.rw (List.map (Value.int IntKind.i64) (lieOf p l).fst) (some (1 : Nat))) = true) ∧ Ob (AObj.rw (List.map (Value.int IntKind.i64) (fullTo p l x)) (some (1 : Nat)) = AObj.rw (List.map (nmap1 fun (b : Nat) ↦ b) (List.map (Value.int IntKind.i64) (fullTo p l y))) (some (1 : Nat)) ∧ AObj.sc (3 : Nat) (AObj.rw (List.map (Value.int IntKind.i64) (fullTo p l y)) (some (1 : Nat))) = true) ∧ True) ∧ Ob (p = p) ∧ Ob (Value.slice (some (ad0 0)) l.length c = Value.slice (some (ad0 0)) l.length c) ∧ Ob (Value.slice (some { block := (1 : Nat), off := (0 : Nat), spot := some (0 : Nat) }) (lieOf p l).fst.length (0 : Nat) = Value.slice (some { block := (1 : Nat), off := (0 : Nat), spot := some (0 : Nat) }) (lieOf p l).fst.length (0 : Nat)) ∧ Ob (Value.slice (some { block := (2 : Nat), off := (0 : Nat), spot := some (0 : Nat) }) (fullTo p l x).length (0 : Nat) = Value.slice (some { block := (2 : Nat), off := (0 : Nat), spot := some (0 : Nat) }) (fullTo p l y).length (0 : Nat)) ∧ Ob (IntKind.i64.wrap ((↑x : Int) + (1 : Int)) = (↑y : Int)) ∧ True) ∨ ∃ (y : Nat), Ob ((↑y : Int) ≤ p) ∧ Ob ((p - (↑y : Int)).toNat < (p - (↑x : Int)).toNat) ∧ (Ob (AObj.ro (List.map (Value.int IntKind.i64) l) = AObj.ro (List.map (nmap1 (nsub (2 : Nat) (4 : Nat))) (List.map (Value.int IntKind.i64) l)) ∧ AObj.sc (3 : Nat) (AObj.ro (List.map (Value.int IntKind.i64) l)) = true) ∧ Ob (AObj.rw (List.map (Value.int IntKind.i64) (lieOf p l).fst) (some (1 : Nat)) = AObj.rw (List.map (nmap1 (nsub (2 : Nat) (4 : Nat))) (List.map (Value.int IntKind.i64) (lieOf p l).fst)) (some (1 : Nat)) ∧ AObj.sc (3 : Nat) (AObj.rw (List.map (Value.int IntKind.i64) (lieOf p l).fst) (some (1 : Nat))) = true) ∧ False) ∧ Ob (p = p) ∧ Ob (Value.slice (some (ad0 0)) l.length c = Value.slice (some (ad0 0)) l.length c) ∧ Ob (Value.slice (some { block := (1 : Nat), off := (0 : Nat), spot := some (0 : Nat) }) (lieOf p l).fst.length (0 : Nat) = Value.slice (some { block := (1 : Nat), off := (0 : Nat), spot := some (0 : Nat) }) (lieOf p l).fst.length (0 : Nat)) ∧ Ob (Value.slice (some { block := (2 : Nat), off := (0 : Nat), spot := some (0 : Nat) }) (fullTo p l x).length (0 : Nat) = Value.slice (some { block := (4 : Nat), off := (0 : Nat), spot := some (0 : Nat) }) (fullTo p l y).length (0 : Nat)) ∧ Ob (IntKind.i64.wrap ((↑x : Int) + (1 : Int)) = (↑y : Int)) ∧ True)) ∧ (decide ((↑x : Int) < p) = false → True ∧ Ob (Value.tuple { toList := [Value.slice (some { block := (2 : Nat), off := (0 : Nat), spot := some (0 : Nat) }) (fullTo p l x).length (0 : Nat), vi (IntKind.i64.wrap ((↑l.length : Int) - (↑(fullTo p l x).length : Int)))] } = Value.tuple { toList := [Value.slice none (0 : Nat) (0 : Nat), vi (↑l.length : Int)] } ∧ fullTo p l p.toNat = [] ∨ Value.tuple { toList := [Value.slice (some { block := (2 : Nat), off := (0 : Nat), spot := some (0 : Nat) }) (fullTo p l x).length (0 : Nat), vi (IntKind.i64.wrap ((↑l.length : Int) - (↑(fullTo p l x).length : Int)))] } = Value.tuple { toList := [Value.slice (some { block := (2 : Nat), off := (0 : Nat), spot := some (0 : Nat) }) (fullTo p l p.toNat).length (0 : Nat), vi ((↑l.length : Int) - (↑(fullTo p l p.toNat).length : Int))] } ∧ [AObj.ro (List.map (Value.int IntKind.i64) l), AObj.rw (List.map (Value.int IntKind.i64) (lieOf p l).fst) (some (1 : Nat)), AObj.rw (List.map (Value.int IntKind.i64) (fullTo p l x)) (some (1 : Nat))] = [AObj.ro (List.map (Value.int IntKind.i64) l), AObj.rw (List.map (Value.int IntKind.i64) (lieOf p l).fst) (some (1 : Nat)), AObj.rw (List.map (Value.int IntKind.i64) (fullTo p l p.toNat)) (some (1 : Nat))]))
theorem foV_eq : foV = fun (p : Int) (l : List Int) (c : Nat) => vc Try.prog { ct := fullRT } 1 34 true (fullRI p l c) fullRB [] (argFr 0 [vi p, .slice (some ⟨0,0,none⟩) l.length c]) [ros l] (retK Try.prog Try.f53 (fun v H1 => (v = .tuple #[.slice none 0 0, vi l.length] ∧ fullTo p l p.toNat = []) ∨ (v = .tuple #[.slice (some ⟨2,0,some 0⟩) (fullTo p l p.toNat).length 0, vi (l.length - (fullTo p l p.toNat).length)] ∧ H1 = [ros l, rws (lieOf p l).1, rws (fullTo p l p.toNat)]))) := by kernel_rfl


theorem fullTo_len (p : Int) (l : List Int) : ∀ i : Nat, (fullTo p l i).length ≤ i
  | 0 => Nat.le_refl _
  | i + 1 => by
    have := fullTo_len p l i
    unfold fullTo
    split
    · simp; omega
    · omega
theorem foV_ok (p : Int) (l : List Int) (c : Nat) (hp : 0 < p ∧ p ≤ 8) (hl : 0 < l.length) (hb : ∀ x ∈ l, 0 ≤ x ∧ x < p) (hlen : l.length ≤ 13) : foV p l c := by
  unfold foV
  simp only [ob_iff, sl_id, sl_cells, Arg.num, map_nmap_int, sc_ro_int, sc_rw_int, getI_map, intAt_map, true_and, and_true, eq_self, Int.toNat_natCast, Nat.zero_add, Nat.mul_one, decide_eq_true_eq, decide_eq_false_iff_not, andP, List.set_cons_zero, List.length_cons, List.length_nil, List.drop_zero, List.take_succ_cons, List.take_zero,
    Value.slice.injEq, Value.tuple.injEq, Option.some.injEq, Addr.mk.injEq, AObj.rw.injEq, List.cons.injEq, reduceCtorEq, List.length_append, List.length_map, false_and, and_false, exists_const, or_false, false_or, true_or, Nat.lt_irrefl, forall_const, true_implies, List.length_set, beq_iff_eq, beq_eq_false_iff_ne, intsOf_map, List.take_length, take_map_len]
  have more : ∀ {x : Nat}, (x : Int) ∈ (lieOf p l).1 → fullTo p l (x + 1) = fullTo p l x ++ [(x : Int)] := fun h => by rw [fullTo, if_pos h]
  have same : ∀ {x : Nat}, ¬ (x : Int) ∈ (lieOf p l).1 → fullTo p l (x + 1) = fullTo p l x := fun h => by rw [fullTo, if_neg h]
  have hlie : (lieOf p l).1.length = l.length := by rw [← lieAt_end (Nat.le_refl _), lieAt_len (Nat.le_refl _)]
  have hw : ∀ {x : Nat}, (x : Int) < p → IntKind.i64.wrap ((x : Int) + 1) = ((x + 1 : Nat) : Int) := fun h => by rw [wrap_in (by omega) (by omega)]; rfl
  refine ⟨⟨by omega, ⟨by omega, by omega⟩, by omega, hb, by omega⟩, ⟨0, ⟨by omega, rfl⟩, rfl⟩, fun x ⟨h1, h2⟩ => ⟨fun h3 => ⟨⟨by omega, by omega⟩, fun h4 => ⟨⟨by omega, by omega, by omega, by omega⟩, x + 1, by omega, by omega, ?_, ?_, hw h3⟩, fun h4 => ⟨x + 1, ⟨by omega, ?_⟩, by omega, hw h3⟩⟩, fun h3 => ?_⟩,
    fun x h1 => ⟨fun h3 => ⟨⟨by omega, by omega⟩, fun h4 => ⟨⟨by omega, ?_, ?_⟩, x + 1, by omega, by omega, ?_, ?_, hw h3⟩, fun h4 => ⟨x + 1, by omega, by omega, ?_, ?_, hw h3⟩⟩, fun h3 => ?_⟩⟩
  · rw [more h4, h2]; rfl
  · rw [more h4, h2]; rfl
  · rw [same h4, h2]
  · obtain rfl : p.toNat = x := by omega
    refine ⟨?_, h2⟩
    rw [wrap_in (by omega) (by omega)]
    simp
  · have := fullTo_len p l x; omega
  · have := fullTo_len p l x; omega
  · rw [more h4, List.map_append]; rfl
  · rw [more h4, List.length_append]; rfl
  · rw [same h4]
  · rw [same h4]
  · obtain rfl : p.toNat = x := by omega
    right
    have := fullTo_len p l p.toNat
    rw [wrap_in (by omega) (by omega)]
    exact ⟨rfl, rfl⟩
theorem fullRT_ok (hlie : ∀ args H φ v H' l, newG [.int .i64, .ints .i64] lieRS args H = some (φ, v, H', l) → Asks φ → Call Try.prog 50 args H (fun v' H2 => v' = v ∧ H2 = H') ∧ Kept H H' l) : CtOk Try.prog fullRT := (CtOk.none.add hasG_ok).add hlie
theorem lieRG_ok : ∀ args H φ v H' l, newG [.int .i64, .ints .i64] lieRS args H = some (φ, v, H', l) → Asks φ → Call Try.prog 50 args H (fun v' H2 => v' = v ∧ H2 = H') ∧ Kept H H' l :=
  newG_ok fun r ψ b hk hs hψ => match r, hk with
    | [_, _], ⟨⟨p, rfl⟩, ha, _⟩ => by
      rcases ha with rfl | ⟨s, rfl⟩ | ⟨l, rfl⟩ <;> cases hs
      obtain ⟨h1, h2, h3, h4⟩ := hψ
      refine ⟨rfl, fun caps => (li_call p l _ h1 h2 h3 h4).mono fun v H' h => ⟨?_, h.2⟩⟩
      rw [h.1]
      have hlen : (lieOf p l).1.length = l.length := by rw [← lieAt_end (Nat.le_refl _), lieAt_len (Nat.le_refl _)]
      show _ = Value.tuple [newSlice 1 (lieOf p l).1.length, vi (lieOf p l).2].toArray
      rw [hlen]; rfl
theorem fo_call (p : Int) (l : List Int) (c : Nat) (hp : 0 < p ∧ p ≤ 8) (hl : 0 < l.length) (hb : ∀ x ∈ l, 0 ≤ x ∧ x < p) (hlen : l.length ≤ 13) :
    Call Try.prog 53 [vi p, .slice (some ⟨0,0,none⟩) l.length c] [ros l] fun v H1 => (v = .tuple #[.slice none 0 0, vi l.length] ∧ fullTo p l p.toNat = []) ∨ (v = .tuple #[.slice (some ⟨2,0,some 0⟩) (fullTo p l p.toNat).length 0, vi (l.length - (fullTo p l p.toNat).length)] ∧ H1 = [ros l, rws (lieOf p l).1, rws (fullTo p l p.toNat)]) :=
  Call.ofVc (VOk.ofCt (fullRT_ok lieRG_ok)) mixed (c := fullRB) (inv := fullRI p l c) Try.func53 (by kernel_rfl) (cast (congrFun (congrFun (congrFun foV_eq p) l) c) (foV_ok p l c hp hl hb hlen))

end Go.Pier.Lg

set_option maxRecDepth 100000
set_option linter.unusedVariables false
set_option linter.unusedSimpArgs false
namespace Go.Pier.Lg
open Go Go.Pier Go.Proofs 
noncomputable def rplB : Code := Try.f56.body.getD .skip
noncomputable def rcdB : Code := Try.f24.body.getD .skip
def errPlaces (p : Int) : Int := if p < 1 ∨ 8 < p then 6 else 0
def errDrops (p : Int) (l : List Int) : Int := if p < 1 ∨ 8 < p ∨ 12 < l.length then 6 else if ∀ d ∈ l, 0 ≤ d ∧ d < p then 0 else 3
def rplG : List Value → Heap → Option (Option Prop × Value × Heap × List Nat) := fun args H => match args with
  | [.int .i64 p] => some (none, vi (errPlaces p), H, [])
  | _ => none
noncomputable def rcdT : Ct := Ct.none.add 56 rplG
def rcdI (p : Int) (l : List Int) (c : Nat) : Nat → Option LInv := invOf 0 (.one Nat (fun i => (1 ≤ p ∧ p ≤ 8 ∧ l.length ≤ 12) ∧ i ≤ l.length ∧ ∀ j, j < i → 0 ≤ l.getD j 0 ∧ l.getD j 0 < p) (fun i => [(0, vi p), (1, .slice (some ⟨0,0,none⟩) l.length c), (5, vi i)]) (fun _ => [ros l]) (fun i => l.length - i))
def rcdIE (p : Int) (a : Option Addr) (c : Nat) (H : Heap) : Nat → Option LInv := invOf 0 (.one Unit (fun _ => 1 ≤ p ∧ p ≤ 8) (fun _ => [(0, vi p), (1, .slice a 0 c), (5, vi 0)]) (fun _ => H) (fun _ => 0))
noncomputable def rplV :=
fun (p : Int) ↦ (decide (p < (1 : Int)) = false → (decide ((8 : Int) < p) = true → True ∧ Ob (vi (6 : Int) = vi (errPlaces p))) ∧ (decide ((8 : Int) < p) = false → True ∧ Ob (vi (0 : Int) = vi (errPlaces p)))) ∧ (decide (p < (1 : Int)) = true → True ∧ Ob (vi (6 : Int) = vi (errPlaces p)))
theorem rplV_eq : rplV = fun (p : Int) => vc Try.prog {} 0 9 true (fun _ => none) rplB [] (argFr 0 [vi p]) [] (retK Try.prog Try.f56 (fun v _ => v = vi (errPlaces p))) := by kernel_rfl
noncomputable def rcdV :=
fun (p : Int) (l : List Int) (c : Nat) ↦ ((errPlaces p != (0 : Int)) = false → (decide ((12 : Int) < (↑l.length : Int)) = true → True ∧ Ob (vi (6 : Int) = vi (errDrops p l))) ∧ (decide ((12 : Int) < (↑l.length : Int)) = false → (∃ (y : Nat), Ob (((1 : Int) ≤ p ∧ p ≤ (8 : Int) ∧ l.length ≤ (12 : Nat)) ∧ y ≤ l.length ∧ ∀ (j : Nat), j < y → (0 : Int) ≤ l.getD j (0 : Int) ∧ l.getD j (0 : Int) < p) ∧ (Ob (AObj.ro (List.map (Value.int IntKind.i64) l) = AObj.ro (List.map (nmap1 fun (b : Nat) ↦ b) (List.map (Value.int IntKind.i64) l)) ∧ AObj.sc (1 : Nat) (AObj.ro (List.map (Value.int IntKind.i64) l)) = true) ∧ True) ∧ Ob (p = p) ∧ Ob (Value.slice (some (ad0 0)) l.length c = Value.slice (some (ad0 0)) l.length c) ∧ Ob ((0 : Int) = (↑y : Int)) ∧ True) ∧ ∀ (x : Nat), Ob (((1 : Int) ≤ p ∧ p ≤ (8 : Int) ∧ l.length ≤ (12 : Nat)) ∧ x ≤ l.length ∧ ∀ (j : Nat), j < x → (0 : Int) ≤ l.getD j (0 : Int) ∧ l.getD j (0 : Int) < p) → (decide ((↑x : Int) < (↑l.length : Int)) = true → Ob ((0 : Int) ≤ (↑x : Int) ∧ (↑x : Int) < (↑l.length : Int) ∧ true = true) ∧ Ob (IntAt IntKind.i64 (List.map (Value.int IntKind.i64) l) ((0 : Nat) + (↑x : Int).toNat * (1 : Nat))) ∧ (decide (getI (List.map (Value.int IntKind.i64) l) ((0 : Nat) + (↑x : Int).toNat * (1 : Nat)) < (0 : Int)) = false → Ob ((0 : Int) ≤ (↑x : Int) ∧ (↑x : Int) < (↑l.length : Int) ∧ true = true) ∧ Ob (IntAt IntKind.i64 (List.map (Value.int IntKind.i64) l) ((0 : Nat) + (↑x : Int).toNat * (1 : Nat))) ∧ (decide (p ≤ getI (List.map (Value.int IntKind.i64) l) ((0 : Nat) + (↑x : Int).toNat * (1 : Nat))) = true → True ∧ Ob (vi (3 : Int) = vi (errDrops p l))) ∧ (decide (p ≤ getI (List.map (Value.int IntKind.i64) l) ((0 : Nat) + (↑x : Int).toNat * (1 : Nat))) = false → ∃ (y : Nat), Ob (((1 : Int) ≤ p ∧ p ≤ (8 : Int) ∧ l.length ≤ (12 : Nat)) ∧ y ≤ l.length ∧ ∀ (j : Nat), j < y → (0 : Int) ≤ l.getD j (0 : Int) ∧ l.getD j (0 : Int) < p) ∧ Ob (l.length - y < l.length - x) ∧ (Ob (AObj.ro (List.map (Value.int IntKind.i64) l) = AObj.ro (List.map (nmap1 fun (b : Nat) ↦ b) (List.map (Value.int IntKind.i64) l)) ∧ AObj.sc (1 : Nat) (AObj.ro (List.map (Value.int IntKind.i64) l)) = true) ∧ True) ∧ Ob (p = p) ∧ Ob (Value.slice (some (ad0 0)) l.length c = Value.slice (some (ad0 0)) l.length c) ∧ Ob (IntKind.i64.wrap ((↑x : Int) + (1 : Int)) = (↑y : Int)) ∧ True)) ∧ (decide (getI (List.map (Value.int IntKind.i64) l) ((0 : Nat) + (↑x : Int).toNat * (1 : Nat)) < (0 : Int)) = true → True ∧ Ob (vi (3 : Int) = vi (errDrops p l)))) ∧ (decide ((↑x : Int) < (↑l.length : Int)) = false → True ∧ Ob (vi (0 : Int) = vi (errDrops p l))))) ∧ ((errPlaces p != (0 : Int)) = true → True ∧ Ob (vi (6 : Int) = vi (errDrops p l)))
theorem rcdV_eq : rcdV = fun (p : Int) (l : List Int) (c : Nat) => vc Try.prog { ct := rcdT } 1 33 true (rcdI p l c) rcdB [] (argFr 0 [vi p, .slice (some ⟨0,0,none⟩) l.length c]) [ros l] (retK Try.prog Try.f24 (fun v _ => v = vi (errDrops p l))) := by kernel_rfl
noncomputable def rcdN :=
fun (p : Int) ↦ ((errPlaces p != (0 : Int)) = false → (false = true → True ∧ Ob (vi (6 : Int) = vi (errDrops p []))) ∧ (false = false → (∃ (y : Unit), Ob ((1 : Int) ≤ p ∧ p ≤ (8 : Int)) ∧ True ∧ Ob (p = p) ∧ Ob (Value.slice none (0 : Nat) (0 : Nat) = Value.slice none (0 : Nat) (0 : Nat)) ∧ Ob ((0 : Int) = (0 : Int)) ∧ True) ∧ ∀ (x : Unit), Ob ((1 : Int) ≤ p ∧ p ≤ (8 : Int)) → (false = true → False) ∧ (false = false → True ∧ Ob (vi (0 : Int) = vi (errDrops p []))))) ∧ ((errPlaces p != (0 : Int)) = true → True ∧ Ob (vi (6 : Int) = vi (errDrops p [])))
theorem rcdN_eq : rcdN = fun (p : Int) => vc Try.prog { ct := rcdT } 0 33 true (rcdIE p none 0 []) rcdB [] (argFr 0 [vi p, .slice none 0 0]) [] (retK Try.prog Try.f24 (fun v _ => v = vi (errDrops p []))) := by kernel_rfl
noncomputable def rcdH :=
fun (p : Int) (s : Option Nat) (c : Nat) ↦ ((errPlaces p != (0 : Int)) = false → (false = true → True ∧ Ob (vi (6 : Int) = vi (errDrops p []))) ∧ (false = false → (∃ (y : Unit), Ob ((1 : Int) ≤ p ∧ p ≤ (8 : Int)) ∧ True ∧ Ob (p = p) ∧ Ob (Value.slice (some { block := (0 : Nat), off := (0 : Nat), spot := s }) (0 : Nat) c = Value.slice (some { block := (0 : Nat), off := (0 : Nat), spot := s }) (0 : Nat) c) ∧ Ob ((0 : Int) = (0 : Int)) ∧ True) ∧ ∀ (x : Unit), Ob ((1 : Int) ≤ p ∧ p ≤ (8 : Int)) → (false = true → Ob ((0 : Int) ≤ (0 : Int) ∧ (0 : Int) < (↑(0 : Nat) : Int) ∧ std { block := (0 : Nat), off := (0 : Nat), spot := s } c = true) ∧ False) ∧ (false = false → True ∧ Ob (vi (0 : Int) = vi (errDrops p []))))) ∧ ((errPlaces p != (0 : Int)) = true → True ∧ Ob (vi (6 : Int) = vi (errDrops p [])))
theorem rcdH_eq : rcdH = fun (p : Int) (s : Option Nat) (c : Nat) => vc Try.prog { ct := rcdT } 1 33 true (rcdIE p (some ⟨0,0,s⟩) c [.gone]) rcdB [] (argFr 0 [vi p, .slice (some ⟨0,0,s⟩) 0 c]) [.gone] (retK Try.prog Try.f24 (fun v _ => v = vi (errDrops p []))) := by kernel_rfl


theorem rplV_ok (p : Int) : rplV p := by
  unfold rplV errPlaces
  simp only [ob_iff, true_and, decide_eq_true_eq, decide_eq_false_iff_not, Value.int.injEq]
  refine ⟨fun h => ⟨fun h2 => ?_, fun h2 => ?_⟩, fun h => ?_⟩
  · rw [if_pos (.inr h2)]
  · rw [if_neg (by omega)]
  · rw [if_pos (.inl h)]
theorem rpl_call (p : Int) : Call Try.prog 56 [vi p] [] fun v _ => v = vi (errPlaces p) :=
  Call.ofVc (VOk.ofCt CtOk.none) mixed (c := rplB) (inv := fun _ => none) Try.func56 (by kernel_rfl) (cast (congrFun rplV_eq p) (rplV_ok p))
theorem rplG_ok : ∀ args H φ v H' l, rplG args H = some (φ, v, H', l) → Asks φ → Call Try.prog 56 args H (fun v' H2 => v' = v ∧ H2 = H') ∧ Kept H H' l := by
  intro args H φ v H' l h hφ
  unfold rplG at h
  split at h <;> cases h
  exact ⟨Call.ofArgs («as» := [.plain (vi _)]) (fun caps => rpl_call _) rfl ⟨rfl, rfl, trivial⟩, Kept.refl _ _⟩
theorem rall_of {p : Int} {l : List Int} {i : Nat} (hi : l.length ≤ i) (h : ∀ j, j < i → 0 ≤ l.getD j 0 ∧ l.getD j 0 < p) : ∀ d ∈ l, 0 ≤ d ∧ d < p := fun d hd => by
  obtain ⟨j, h1, h2⟩ := List.getElem_of_mem hd
  have := h j (by omega)
  rw [List.getD_eq_getElem?_getD, List.getElem?_eq_getElem h1] at this
  simpa [h2] using this
theorem rcdV_ok (p : Int) (l : List Int) (c : Nat) (hl : l.length ≤ 1000000) : rcdV p l c := by
  unfold rcdV errPlaces
  simp only [ob_iff, map_nmap_int, sc_ro_int, sc_rw_int, getI_map, intAt_map, true_and, and_true, eq_self, Int.toNat_natCast, Nat.zero_add, Nat.mul_one, decide_eq_true_eq, decide_eq_false_iff_not, Value.int.injEq, bne_iff_ne, ne_eq, bne_eq_false_iff_eq]
  have six : (p < 1 ∨ 8 < p ∨ 12 < l.length) → 6 = errDrops p l := fun h => by unfold errDrops; rw [if_pos h]
  have bad : ∀ {x : Nat}, (1 ≤ p ∧ p ≤ 8 ∧ l.length ≤ 12) → x < l.length → ¬ (0 ≤ l.getD x 0 ∧ l.getD x 0 < p) → 3 = errDrops p l := fun h1 h2 h3 => by
    unfold errDrops
    rw [if_neg (by omega), if_neg fun h => h3 (h _ (getD_memR h2))]
  refine ⟨fun h0 => ?_, fun h0 => ?_⟩
  · have hp : 1 ≤ p ∧ p ≤ 8 := by
      by_cases h : p < 1 ∨ 8 < p
      · rw [if_pos h] at h0; cases h0
      · omega
    refine ⟨fun h => six (by omega), fun h => ⟨⟨0, ⟨⟨by omega, by omega, by omega⟩, by omega, fun j hj => by omega⟩, rfl⟩, fun x ⟨h1, h2, h3⟩ => ⟨fun h4 => ⟨⟨by omega, by omega⟩, by omega, fun h5 => ⟨⟨by omega, by omega⟩, by omega, fun h6 => bad (x := x) h1 (by omega) (by omega), fun h6 => ?_⟩, fun h5 => bad (x := x) h1 (by omega) (by omega)⟩, fun h4 => ?_⟩⟩⟩
    · refine ⟨x + 1, ⟨h1, by omega, fun j hj => ?_⟩, by omega, by rw [wrap_in (by omega) (by omega)]; rfl⟩
      by_cases e : j = x
      · subst e; omega
      · exact h3 j (by omega)
    · unfold errDrops
      rw [if_neg (by omega), if_pos (rall_of (by omega) h3)]
  · refine six ?_
    by_cases h : p < 1 ∨ 8 < p
    · omega
    · rw [if_neg h] at h0; exact absurd rfl h0
theorem rcdE_ok (p : Int) (h0 : (if p < 1 ∨ 8 < p then (6 : Int) else 0) = 0) : 1 ≤ p ∧ p ≤ 8 := by
  by_cases h : p < 1 ∨ 8 < p
  · rw [if_pos h] at h0; cases h0
  · omega
theorem rcdE_fin (p : Int) : ((if p < 1 ∨ 8 < p then (6 : Int) else 0) = 0 → 0 = errDrops p []) ∧ (¬(if p < 1 ∨ 8 < p then (6 : Int) else 0) = 0 → 6 = errDrops p []) := by
  refine ⟨fun h => ?_, fun h => ?_⟩
  · have := rcdE_ok p h
    unfold errDrops
    rw [if_neg (by simp; omega), if_pos (by simp)]
  · unfold errDrops
    by_cases h1 : p < 1 ∨ 8 < p
    · rw [if_pos (by omega)]
    · rw [if_neg h1] at h; exact absurd rfl h
theorem rcdN_ok (p : Int) : rcdN p := by
  unfold rcdN errPlaces
  simp only [ob_iff, true_and, and_true, eq_self, exists_const, decide_eq_true_eq, decide_eq_false_iff_not, Value.int.injEq, bne_iff_ne, ne_eq, bne_eq_false_iff_eq]
  exact ⟨fun h => ⟨fun h => (by cases h), fun _ => ⟨rcdE_ok p h, fun _ _ => ⟨fun h => (by cases h), fun _ => (rcdE_fin p).1 h⟩⟩⟩, (rcdE_fin p).2⟩
theorem rcdH_ok (p : Int) (s : Option Nat) (c : Nat) : rcdH p s c := by
  unfold rcdH errPlaces
  simp only [ob_iff, true_and, and_true, eq_self, exists_const, decide_eq_true_eq, decide_eq_false_iff_not, Value.int.injEq, bne_iff_ne, ne_eq, bne_eq_false_iff_eq]
  exact ⟨fun h => ⟨fun h => (by cases h), fun _ => ⟨rcdE_ok p h, fun _ _ => ⟨fun h => (by cases h), fun _ => (rcdE_fin p).1 h⟩⟩⟩, (rcdE_fin p).2⟩
theorem rcdT_ok : CtOk Try.prog rcdT := CtOk.none.add rplG_ok
theorem rcd_call (p : Int) (l : List Int) (c : Nat) (hl : l.length ≤ 1000000) : Call Try.prog 24 [vi p, .slice (some ⟨0,0,none⟩) l.length c] [ros l] fun v _ => v = vi (errDrops p l) :=
  Call.ofVc (VOk.ofCt rcdT_ok) mixed (c := rcdB) (inv := rcdI p l c) Try.func24 (by kernel_rfl) (cast (congrFun (congrFun (congrFun rcdV_eq p) l) c) (rcdV_ok p l c hl))
theorem rcd_nil (p : Int) : Call Try.prog 24 [vi p, .slice none 0 0] [] fun v _ => v = vi (errDrops p []) :=
  Call.ofVc (VOk.ofCt rcdT_ok) mixed (c := rcdB) (inv := rcdIE p none 0 []) Try.func24 (by kernel_rfl) (cast (congrFun rcdN_eq p) (rcdN_ok p))
theorem rcd_hole (p : Int) (s : Option Nat) (c : Nat) : Call Try.prog 24 [vi p, .slice (some ⟨0,0,s⟩) 0 c] [.gone] fun v _ => v = vi (errDrops p []) :=
  Call.ofVc (VOk.ofCt rcdT_ok) mixed (c := rcdB) (inv := rcdIE p (some ⟨0,0,s⟩) c [.gone]) Try.func24 (by kernel_rfl) (cast (congrFun (congrFun (congrFun rcdH_eq p) s) c) (rcdH_ok p s c))
def rcdS (r : List Arg) : Prop × Value := match r with
  | [p, a] => (a.list.length ≤ 1000000, vi (errDrops p.num a.list))
  | _ => (False, undef)
theorem rcdG_ok : ∀ args H φ v H' l, pureG [.int .i64, .ints .i64] rcdS args H = some (φ, v, H', l) → Asks φ → Call Try.prog 24 args H (fun v' H2 => v' = v ∧ H2 = H') ∧ Kept H H' l :=
  pureG_ok fun r hk hs => match r, hk with
    | [_, _], ⟨⟨p, rfl⟩, ha, _⟩ => ⟨rfl, fun caps => by
      rcases ha with rfl | ⟨s, rfl⟩ | ⟨l, rfl⟩
      · exact rcd_nil p
      · exact rcd_hole p s _
      · exact rcd_call p l _ hs⟩

end Go.Pier.Lg

set_option maxRecDepth 100000
set_option linter.unusedVariables false
set_option linter.unusedSimpArgs false
namespace Go.Pier.Lg
open Go Go.Pier Go.Proofs 
noncomputable def iiB : Code := Try.f25.body.getD .skip
def iiRI (l m : List Int) (c d : Nat) : Nat → Option LInv := invOf 0 (.one Nat (fun i => l.length = m.length ∧ i ≤ l.length ∧ ∀ j, j < i → l.getD j 0 = m.getD j 0) (fun i => [(0, .slice (some ⟨0,0,none⟩) l.length c), (1, .slice (some ⟨1,0,none⟩) m.length d), (5, vi i)]) (fun _ => [ros l, ros m]) (fun i => l.length - i))
def iiEI (a b : Value) (p : Prop) (H : Heap) : Nat → Option LInv := invOf 0 (.one Unit (fun _ => p) (fun _ => [(0, a), (1, b), (5, vi 0)]) (fun _ => H) (fun _ => 0))
noncomputable def iiNN :=
fun (x : Unit) ↦ (false = true → True ∧ Ob (Value.bool false = Value.bool true)) ∧ (false = false → (∃ (y : Unit), Ob True ∧ True ∧ Ob (Value.slice none (0 : Nat) (0 : Nat) = Value.slice none (0 : Nat) (0 : Nat)) ∧ Ob (Value.slice none (0 : Nat) (0 : Nat) = Value.slice none (0 : Nat) (0 : Nat)) ∧ Ob ((0 : Int) = (0 : Int)) ∧ True) ∧ ∀ (xq : Unit), Ob True → (false = true → False) ∧ (false = false → True ∧ Ob (Value.bool true = Value.bool true)))
theorem iiNN_eq : iiNN = fun (_ : Unit) => vc Try.prog {} 0 26 true (iiEI (.slice none 0 0) (.slice none 0 0) (True) []) iiB [] (argFr 0 [.slice none 0 0, .slice none 0 0]) [] (retK Try.prog Try.f25 (fun v _ => v = .bool true)) := by kernel_rfl
noncomputable def iiNH :=
fun (s1 : Option Nat) (c1 : Nat) ↦ (false = true → True ∧ Ob (Value.bool false = Value.bool true)) ∧ (false = false → (∃ (y : Unit), Ob True ∧ True ∧ Ob (Value.slice none (0 : Nat) (0 : Nat) = Value.slice none (0 : Nat) (0 : Nat)) ∧ Ob (Value.slice (some { block := (0 : Nat), off := (0 : Nat), spot := s1 }) (0 : Nat) c1 = Value.slice (some { block := (0 : Nat), off := (0 : Nat), spot := s1 }) (0 : Nat) c1) ∧ Ob ((0 : Int) = (0 : Int)) ∧ True) ∧ ∀ (x : Unit), Ob True → (false = true → False) ∧ (false = false → True ∧ Ob (Value.bool true = Value.bool true)))
theorem iiNH_eq : iiNH = fun (s1 : Option Nat) (c1 : Nat) => vc Try.prog {} 1 26 true (iiEI (.slice none 0 0) (.slice (some ⟨0,0,s1⟩) 0 c1) (True) [.gone]) iiB [] (argFr 0 [.slice none 0 0, .slice (some ⟨0,0,s1⟩) 0 c1]) [.gone] (retK Try.prog Try.f25 (fun v _ => v = .bool true)) := by kernel_rfl
noncomputable def iiNR :=
fun (l1 : List Int) (c1 : Nat) ↦ (((↑(0 : Nat) : Int) != (↑l1.length : Int)) = true → True ∧ Ob (Value.bool false = Value.bool (decide ([] = l1)))) ∧ (((↑(0 : Nat) : Int) != (↑l1.length : Int)) = false → (∃ (y : Unit), Ob (l1.length = (0 : Nat)) ∧ (Ob (AObj.ro (List.map (Value.int IntKind.i64) l1) = AObj.ro (List.map (nmap1 fun (b : Nat) ↦ b) (List.map (Value.int IntKind.i64) l1)) ∧ AObj.sc (1 : Nat) (AObj.ro (List.map (Value.int IntKind.i64) l1)) = true) ∧ True) ∧ Ob (Value.slice none (0 : Nat) (0 : Nat) = Value.slice none (0 : Nat) (0 : Nat)) ∧ Ob (Value.slice (some (ad0 0)) l1.length c1 = Value.slice (some (ad0 0)) l1.length c1) ∧ Ob ((0 : Int) = (0 : Int)) ∧ True) ∧ ∀ (x : Unit), Ob (l1.length = (0 : Nat)) → (false = true → False) ∧ (false = false → True ∧ Ob (Value.bool true = Value.bool (decide ([] = l1)))))
theorem iiNR_eq : iiNR = fun (l1 : List Int) (c1 : Nat) => vc Try.prog {} 1 26 true (iiEI (.slice none 0 0) (.slice (some ⟨0,0,none⟩) l1.length c1) (l1.length = 0) [ros l1]) iiB [] (argFr 0 [.slice none 0 0, .slice (some ⟨0,0,none⟩) l1.length c1]) [ros l1] (retK Try.prog Try.f25 (fun v _ => v = .bool (decide ([] = l1)))) := by kernel_rfl
noncomputable def iiHN :=
fun (s0 : Option Nat) (c0 : Nat) ↦ (false = true → True ∧ Ob (Value.bool false = Value.bool true)) ∧ (false = false → (∃ (y : Unit), Ob True ∧ True ∧ Ob (Value.slice (some { block := (0 : Nat), off := (0 : Nat), spot := s0 }) (0 : Nat) c0 = Value.slice (some { block := (0 : Nat), off := (0 : Nat), spot := s0 }) (0 : Nat) c0) ∧ Ob (Value.slice none (0 : Nat) (0 : Nat) = Value.slice none (0 : Nat) (0 : Nat)) ∧ Ob ((0 : Int) = (0 : Int)) ∧ True) ∧ ∀ (x : Unit), Ob True → (false = true → Ob ((0 : Int) ≤ (0 : Int) ∧ (0 : Int) < (↑(0 : Nat) : Int) ∧ std { block := (0 : Nat), off := (0 : Nat), spot := s0 } c0 = true) ∧ False) ∧ (false = false → True ∧ Ob (Value.bool true = Value.bool true)))
theorem iiHN_eq : iiHN = fun (s0 : Option Nat) (c0 : Nat) => vc Try.prog {} 1 26 true (iiEI (.slice (some ⟨0,0,s0⟩) 0 c0) (.slice none 0 0) (True) [.gone]) iiB [] (argFr 0 [.slice (some ⟨0,0,s0⟩) 0 c0, .slice none 0 0]) [.gone] (retK Try.prog Try.f25 (fun v _ => v = .bool true)) := by kernel_rfl
noncomputable def iiHH :=
fun (s0 : Option Nat) (c0 : Nat) (s1 : Option Nat) (c1 : Nat) ↦ (false = true → True ∧ Ob (Value.bool false = Value.bool true)) ∧ (false = false → (∃ (y : Unit), Ob True ∧ True ∧ Ob (Value.slice (some { block := (0 : Nat), off := (0 : Nat), spot := s0 }) (0 : Nat) c0 = Value.slice (some { block := (0 : Nat), off := (0 : Nat), spot := s0 }) (0 : Nat) c0) ∧ Ob (Value.slice (some { block := (1 : Nat), off := (0 : Nat), spot := s1 }) (0 : Nat) c1 = Value.slice (some { block := (1 : Nat), off := (0 : Nat), spot := s1 }) (0 : Nat) c1) ∧ Ob ((0 : Int) = (0 : Int)) ∧ True) ∧ ∀ (x : Unit), Ob True → (false = true → Ob ((0 : Int) ≤ (0 : Int) ∧ (0 : Int) < (↑(0 : Nat) : Int) ∧ std { block := (0 : Nat), off := (0 : Nat), spot := s0 } c0 = true) ∧ False) ∧ (false = false → True ∧ Ob (Value.bool true = Value.bool true)))
theorem iiHH_eq : iiHH = fun (s0 : Option Nat) (c0 : Nat) (s1 : Option Nat) (c1 : Nat) => vc Try.prog {} 2 26 true (iiEI (.slice (some ⟨0,0,s0⟩) 0 c0) (.slice (some ⟨1,0,s1⟩) 0 c1) (True) [.gone, .gone]) iiB [] (argFr 0 [.slice (some ⟨0,0,s0⟩) 0 c0, .slice (some ⟨1,0,s1⟩) 0 c1]) [.gone, .gone] (retK Try.prog Try.f25 (fun v _ => v = .bool true)) := by kernel_rfl
noncomputable def iiHR :=
fun (s0 : Option Nat) (c0 : Nat) (l1 : List Int) (c1 : Nat) ↦ (((↑(0 : Nat) : Int) != (↑l1.length : Int)) = true → True ∧ Ob (Value.bool false = Value.bool (decide ([] = l1)))) ∧ (((↑(0 : Nat) : Int) != (↑l1.length : Int)) = false → (∃ (y : Unit), Ob (l1.length = (0 : Nat)) ∧ (Ob (AObj.ro (List.map (Value.int IntKind.i64) l1) = AObj.ro (List.map (nmap1 fun (b : Nat) ↦ b) (List.map (Value.int IntKind.i64) l1)) ∧ AObj.sc (2 : Nat) (AObj.ro (List.map (Value.int IntKind.i64) l1)) = true) ∧ True) ∧ Ob (Value.slice (some { block := (0 : Nat), off := (0 : Nat), spot := s0 }) (0 : Nat) c0 = Value.slice (some { block := (0 : Nat), off := (0 : Nat), spot := s0 }) (0 : Nat) c0) ∧ Ob (Value.slice (some (ad0 1)) l1.length c1 = Value.slice (some (ad0 1)) l1.length c1) ∧ Ob ((0 : Int) = (0 : Int)) ∧ True) ∧ ∀ (x : Unit), Ob (l1.length = (0 : Nat)) → (false = true → Ob ((0 : Int) ≤ (0 : Int) ∧ (0 : Int) < (↑(0 : Nat) : Int) ∧ std { block := (0 : Nat), off := (0 : Nat), spot := s0 } c0 = true) ∧ False) ∧ (false = false → True ∧ Ob (Value.bool true = Value.bool (decide ([] = l1)))))
theorem iiHR_eq : iiHR = fun (s0 : Option Nat) (c0 : Nat) (l1 : List Int) (c1 : Nat) => vc Try.prog {} 2 26 true (iiEI (.slice (some ⟨0,0,s0⟩) 0 c0) (.slice (some ⟨1,0,none⟩) l1.length c1) (l1.length = 0) [.gone, ros l1]) iiB [] (argFr 0 [.slice (some ⟨0,0,s0⟩) 0 c0, .slice (some ⟨1,0,none⟩) l1.length c1]) [.gone, ros l1] (retK Try.prog Try.f25 (fun v _ => v = .bool (decide ([] = l1)))) := by kernel_rfl
noncomputable def iiRN :=
fun (l0 : List Int) (c0 : Nat) ↦ (((↑l0.length : Int) != (↑(0 : Nat) : Int)) = true → True ∧ Ob (Value.bool false = Value.bool (decide (l0 = [])))) ∧ (((↑l0.length : Int) != (↑(0 : Nat) : Int)) = false → (∃ (y : Unit), Ob (l0.length = (0 : Nat)) ∧ (Ob (AObj.ro (List.map (Value.int IntKind.i64) l0) = AObj.ro (List.map (nmap1 fun (b : Nat) ↦ b) (List.map (Value.int IntKind.i64) l0)) ∧ AObj.sc (1 : Nat) (AObj.ro (List.map (Value.int IntKind.i64) l0)) = true) ∧ True) ∧ Ob (Value.slice (some (ad0 0)) l0.length c0 = Value.slice (some (ad0 0)) l0.length c0) ∧ Ob (Value.slice none (0 : Nat) (0 : Nat) = Value.slice none (0 : Nat) (0 : Nat)) ∧ Ob ((0 : Int) = (0 : Int)) ∧ True) ∧ ∀ (x : Unit), Ob (l0.length = (0 : Nat)) → (decide ((0 : Int) < (↑l0.length : Int)) = true → Ob ((0 : Int) ≤ (0 : Int) ∧ (0 : Int) < (↑l0.length : Int) ∧ true = true) ∧ Ob (IntAt IntKind.i64 (List.map (Value.int IntKind.i64) l0) (0 : Nat)) ∧ False) ∧ (decide ((0 : Int) < (↑l0.length : Int)) = false → True ∧ Ob (Value.bool true = Value.bool (decide (l0 = [])))))
theorem iiRN_eq : iiRN = fun (l0 : List Int) (c0 : Nat) => vc Try.prog {} 1 26 true (iiEI (.slice (some ⟨0,0,none⟩) l0.length c0) (.slice none 0 0) (l0.length = 0) [ros l0]) iiB [] (argFr 0 [.slice (some ⟨0,0,none⟩) l0.length c0, .slice none 0 0]) [ros l0] (retK Try.prog Try.f25 (fun v _ => v = .bool (decide (l0 = [])))) := by kernel_rfl
noncomputable def iiRH :=
fun (l0 : List Int) (c0 : Nat) (s1 : Option Nat) (c1 : Nat) ↦ (((↑l0.length : Int) != (↑(0 : Nat) : Int)) = true → True ∧ Ob (Value.bool false = Value.bool (decide (l0 = [])))) ∧ (((↑l0.length : Int) != (↑(0 : Nat) : Int)) = false → (∃ (y : Unit), Ob (l0.length = (0 : Nat)) ∧ (Ob (AObj.ro (List.map (Value.int IntKind.i64) l0) = AObj.ro (List.map (nmap1 fun (b : Nat) ↦ b) (List.map (Value.int IntKind.i64) l0)) ∧ AObj.sc (2 : Nat) (AObj.ro (List.map (Value.int IntKind.i64) l0)) = true) ∧ True) ∧ Ob (Value.slice (some (ad0 0)) l0.length c0 = Value.slice (some (ad0 0)) l0.length c0) ∧ Ob (Value.slice (some { block := (1 : Nat), off := (0 : Nat), spot := s1 }) (0 : Nat) c1 = Value.slice (some { block := (1 : Nat), off := (0 : Nat), spot := s1 }) (0 : Nat) c1) ∧ Ob ((0 : Int) = (0 : Int)) ∧ True) ∧ ∀ (x : Unit), Ob (l0.length = (0 : Nat)) → (decide ((0 : Int) < (↑l0.length : Int)) = true → Ob ((0 : Int) ≤ (0 : Int) ∧ (0 : Int) < (↑l0.length : Int) ∧ true = true) ∧ Ob (IntAt IntKind.i64 (List.map (Value.int IntKind.i64) l0) (0 : Nat)) ∧ Ob ((0 : Int) ≤ (0 : Int) ∧ (0 : Int) < (↑(0 : Nat) : Int) ∧ std { block := (1 : Nat), off := (0 : Nat), spot := s1 } c1 = true) ∧ False) ∧ (decide ((0 : Int) < (↑l0.length : Int)) = false → True ∧ Ob (Value.bool true = Value.bool (decide (l0 = [])))))
theorem iiRH_eq : iiRH = fun (l0 : List Int) (c0 : Nat) (s1 : Option Nat) (c1 : Nat) => vc Try.prog {} 2 26 true (iiEI (.slice (some ⟨0,0,none⟩) l0.length c0) (.slice (some ⟨1,0,s1⟩) 0 c1) (l0.length = 0) [ros l0, .gone]) iiB [] (argFr 0 [.slice (some ⟨0,0,none⟩) l0.length c0, .slice (some ⟨1,0,s1⟩) 0 c1]) [ros l0, .gone] (retK Try.prog Try.f25 (fun v _ => v = .bool (decide (l0 = [])))) := by kernel_rfl
noncomputable def iiRR_s0 (l0 : List Int) (c0 : Nat) (l1 : List Int) (c1 : Nat) (x : Nat) := (getI (List.map (Value.int IntKind.i64) l0) ((0 : Nat) + (↑x : Int).toNat * (1 : Nat)) != getI (List.map (Value.int IntKind.i64) l1) ((0 : Nat) + (↑x : Int).toNat * (1 : Nat)))
noncomputable def iiRR_s1 (l0 : List Int) (c0 : Nat) (l1 : List Int) (c1 : Nat) := (List.map (Value.int IntKind.i64) l0)
noncomputable def iiRR_s2 (l0 : List Int) (c0 : Nat) (l1 : List Int) (c1 : Nat) := (List.map (Value.int IntKind.i64) l1)
noncomputable def iiRR :=
fun (l0 : List Int) (c0 : Nat) (l1 : List Int) (c1 : Nat) ↦ (((↑l0.length : Int) != (↑l1.length : Int)) = true → True ∧ Ob (Value.bool false = Value.bool (decide (l0 = l1)))) ∧ (((↑l0.length : Int) != (↑l1.length : Int)) = false → (∃ (y : Nat), Ob (l0.length = l1.length ∧ y ≤ l0.length ∧ ∀ (j : Nat), j < y → l0.getD j (0 : Int) = l1.getD j (0 : Int)) ∧ (Ob (AObj.ro (iiRR_s1 l0 c0 l1 c1) = AObj.ro (List.map (nmap1 fun (b : Nat) ↦ b) (iiRR_s1 l0 c0 l1 c1)) ∧ AObj.sc (2 : Nat) (AObj.ro (iiRR_s1 l0 c0 l1 c1)) = true) ∧ Ob (AObj.ro (iiRR_s2 l0 c0 l1 c1) = AObj.ro (List.map (nmap1 fun (b : Nat) ↦ b) (iiRR_s2 l0 c0 l1 c1)) ∧ AObj.sc (2 : Nat) (AObj.ro (iiRR_s2 l0 c0 l1 c1)) = true) ∧ True) ∧ Ob (Value.slice (some (ad0 0)) l0.length c0 = Value.slice (some (ad0 0)) l0.length c0) ∧ Ob (Value.slice (some (ad0 1)) l1.length c1 = Value.slice (some (ad0 1)) l1.length c1) ∧ Ob ((0 : Int) = (↑y : Int)) ∧ True) ∧ ∀ (x : Nat), Ob (l0.length = l1.length ∧ x ≤ l0.length ∧ ∀ (j : Nat), j < x → l0.getD j (0 : Int) = l1.getD j (0 : Int)) → (decide ((↑x : Int) < (↑l0.length : Int)) = true → Ob ((0 : Int) ≤ (↑x : Int) ∧ (↑x : Int) < (↑l0.length : Int) ∧ true = true) ∧ Ob (IntAt IntKind.i64 (iiRR_s1 l0 c0 l1 c1) ((0 : Nat) + (↑x : Int).toNat * (1 : Nat))) ∧ Ob ((0 : Int) ≤ (↑x : Int) ∧ (↑x : Int) < (↑l1.length : Int) ∧ true = true) ∧ Ob (IntAt IntKind.i64 (iiRR_s2 l0 c0 l1 c1) ((0 : Nat) + (↑x : Int).toNat * (1 : Nat))) ∧ ((iiRR_s0 l0 c0 l1 c1 x) = true → True ∧ Ob (Value.bool false = Value.bool (decide (l0 = l1)))) ∧ ((iiRR_s0 l0 c0 l1 c1 x) = false → ∃ (y : Nat), Ob (l0.length = l1.length ∧ y ≤ l0.length ∧ ∀ (j : Nat), j < y → l0.getD j (0 : Int) = l1.getD j (0 : Int)) ∧ Ob (l0.length - y < l0.length - x) ∧ (Ob (AObj.ro (iiRR_s1 l0 c0 l1 c1) = AObj.ro (List.map (nmap1 fun (b : Nat) ↦ b) (iiRR_s1 l0 c0 l1 c1)) ∧ AObj.sc (2 : Nat) (AObj.ro (iiRR_s1 l0 c0 l1 c1)) = true) ∧ Ob (AObj.ro (iiRR_s2 l0 c0 l1 c1) = AObj.ro (List.map (nmap1 fun (b : Nat) ↦ b) (iiRR_s2 l0 c0 l1 c1)) ∧ AObj.sc (2 : Nat) (AObj.ro (iiRR_s2 l0 c0 l1 c1)) = true) ∧ True) ∧ Ob (Value.slice (some (ad0 0)) l0.length c0 = Value.slice (some (ad0 0)) l0.length c0) ∧ Ob (Value.slice (some (ad0 1)) l1.length c1 = Value.slice (some (ad0 1)) l1.length c1) ∧ Ob (IntKind.i64.wrap ((↑x : Int) + (1 : Int)) = (↑y : Int)) ∧ True)) ∧ (decide ((↑x : Int) < (↑l0.length : Int)) = false → True ∧ Ob (Value.bool true = Value.bool (decide (l0 = l1)))))
theorem iiRR_eq : iiRR = fun (l0 : List Int) (c0 : Nat) (l1 : List Int) (c1 : Nat) => vc Try.prog {} 2 26 true (iiRI l0 l1 c0 c1) iiB [] (argFr 0 [.slice (some ⟨0,0,none⟩) l0.length c0, .slice (some ⟨1,0,none⟩) l1.length c1]) [ros l0, ros l1] (retK Try.prog Try.f25 (fun v _ => v = .bool (decide (l0 = l1)))) := by kernel_rfl


theorem lists_eq {l m : List Int} (h : l.length = m.length) (hj : ∀ j, j < l.length → l.getD j 0 = m.getD j 0) : l = m := by
  refine List.ext_getElem h fun i h1 h2 => ?_
  have := hj i h1
  rw [List.getD_eq_getElem?_getD, List.getD_eq_getElem?_getD, List.getElem?_eq_getElem h1, List.getElem?_eq_getElem h2] at this
  exact this
theorem iiNN_ok (u : Unit) : iiNN u := by
  unfold iiNN
  simp only [ob_iff, map_nmap_int, sc_ro_int, sc_rw_int, getI_map, intAt_map, true_and, and_true, eq_self, Int.toNat_natCast, Nat.zero_add, Nat.mul_one, decide_eq_true_eq, decide_eq_false_iff_not, Value.bool.injEq, bne_iff_ne, ne_eq, bne_eq_false_iff_eq, exists_const, forall_const, true_implies]
  exact ⟨fun h => absurd h (by decide), fun h => absurd h (by decide)⟩
theorem iiNH_ok (s1 : Option Nat) (c1 : Nat) : iiNH s1 c1 := by
  unfold iiNH
  simp only [ob_iff, map_nmap_int, sc_ro_int, sc_rw_int, getI_map, intAt_map, true_and, and_true, eq_self, Int.toNat_natCast, Nat.zero_add, Nat.mul_one, decide_eq_true_eq, decide_eq_false_iff_not, Value.bool.injEq, bne_iff_ne, ne_eq, bne_eq_false_iff_eq, exists_const, forall_const, true_implies]
  exact ⟨fun h => absurd h (by decide), fun h => absurd h (by decide)⟩
theorem iiNR_ok (l1 : List Int) (c1 : Nat) : iiNR l1 c1 := by
  unfold iiNR
  simp only [ob_iff, map_nmap_int, sc_ro_int, sc_rw_int, getI_map, intAt_map, true_and, and_true, eq_self, Int.toNat_natCast, Nat.zero_add, Nat.mul_one, decide_eq_true_eq, decide_eq_false_iff_not, Value.bool.injEq, bne_iff_ne, ne_eq, bne_eq_false_iff_eq, exists_const, forall_const, true_implies]
  cases l1 with
  | nil => simp
  | cons a t => simp; try omega
theorem iiHN_ok (s0 : Option Nat) (c0 : Nat) : iiHN s0 c0 := by
  unfold iiHN
  simp only [ob_iff, map_nmap_int, sc_ro_int, sc_rw_int, getI_map, intAt_map, true_and, and_true, eq_self, Int.toNat_natCast, Nat.zero_add, Nat.mul_one, decide_eq_true_eq, decide_eq_false_iff_not, Value.bool.injEq, bne_iff_ne, ne_eq, bne_eq_false_iff_eq, exists_const, forall_const, true_implies]
  exact ⟨fun h => absurd h (by decide), fun h => absurd h (by decide)⟩
theorem iiHH_ok (s0 : Option Nat) (c0 : Nat) (s1 : Option Nat) (c1 : Nat) : iiHH s0 c0 s1 c1 := by
  unfold iiHH
  simp only [ob_iff, map_nmap_int, sc_ro_int, sc_rw_int, getI_map, intAt_map, true_and, and_true, eq_self, Int.toNat_natCast, Nat.zero_add, Nat.mul_one, decide_eq_true_eq, decide_eq_false_iff_not, Value.bool.injEq, bne_iff_ne, ne_eq, bne_eq_false_iff_eq, exists_const, forall_const, true_implies]
  exact ⟨fun h => absurd h (by decide), fun h => absurd h (by decide)⟩
theorem iiHR_ok (s0 : Option Nat) (c0 : Nat) (l1 : List Int) (c1 : Nat) : iiHR s0 c0 l1 c1 := by
  unfold iiHR
  simp only [ob_iff, map_nmap_int, sc_ro_int, sc_rw_int, getI_map, intAt_map, true_and, and_true, eq_self, Int.toNat_natCast, Nat.zero_add, Nat.mul_one, decide_eq_true_eq, decide_eq_false_iff_not, Value.bool.injEq, bne_iff_ne, ne_eq, bne_eq_false_iff_eq, exists_const, forall_const, true_implies]
  cases l1 with
  | nil => simp
  | cons a t => simp; try omega
theorem iiRN_ok (l0 : List Int) (c0 : Nat) : iiRN l0 c0 := by
  unfold iiRN
  simp only [ob_iff, map_nmap_int, sc_ro_int, sc_rw_int, getI_map, intAt_map, true_and, and_true, eq_self, Int.toNat_natCast, Nat.zero_add, Nat.mul_one, decide_eq_true_eq, decide_eq_false_iff_not, Value.bool.injEq, bne_iff_ne, ne_eq, bne_eq_false_iff_eq, exists_const, forall_const, true_implies]
  cases l0 with
  | nil => simp
  | cons a t => simp; try omega
theorem iiRH_ok (l0 : List Int) (c0 : Nat) (s1 : Option Nat) (c1 : Nat) : iiRH l0 c0 s1 c1 := by
  unfold iiRH
  simp only [ob_iff, map_nmap_int, sc_ro_int, sc_rw_int, getI_map, intAt_map, true_and, and_true, eq_self, Int.toNat_natCast, Nat.zero_add, Nat.mul_one, decide_eq_true_eq, decide_eq_false_iff_not, Value.bool.injEq, bne_iff_ne, ne_eq, bne_eq_false_iff_eq, exists_const, forall_const, true_implies]
  cases l0 with
  | nil => simp
  | cons a t => simp; try omega
theorem iiRR_ok (l0 : List Int) (c0 : Nat) (l1 : List Int) (c1 : Nat)  (hl : l0.length ≤ 1000000): iiRR l0 c0 l1 c1 := by
  unfold iiRR iiRR_s2 iiRR_s1 iiRR_s0
  simp only [ob_iff, map_nmap_int, sc_ro_int, sc_rw_int, getI_map, intAt_map, true_and, and_true, eq_self, Int.toNat_natCast, Nat.zero_add, Nat.mul_one, decide_eq_true_eq, decide_eq_false_iff_not, Value.bool.injEq, bne_iff_ne, ne_eq, bne_eq_false_iff_eq, exists_const, forall_const, true_implies]
  have ne : ∀ {j : Nat}, j < l0.length → ¬ l0.getD j 0 = l1.getD j 0 → false = decide (l0 = l1) := fun {j} h1 h2 => by
    symm; rw [decide_eq_false_iff_not]; intro e; subst e; exact h2 rfl
  refine ⟨fun h => ?_, fun h => ⟨⟨0, ⟨by omega, by omega, fun j hj => by omega⟩, rfl⟩, fun x ⟨h1, h2, h3⟩ => ⟨fun h4 => ?_, fun h4 => ?_⟩⟩⟩
  · symm; rw [decide_eq_false_iff_not]; intro e; subst e; exact h rfl
  · refine ⟨⟨by omega, by omega⟩, by omega, ⟨by omega, by omega⟩, by omega, fun h5 => ne (j := x) (by omega) h5, fun h5 => ⟨x + 1, ⟨h1, by omega, fun j hj => ?_⟩, by omega, by rw [wrap_in (by omega) (by omega)]; rfl⟩⟩
    by_cases e : j = x
    · subst e; exact h5
    · exact h3 j (by omega)
  · symm; rw [decide_eq_true_iff]; exact lists_eq h1 fun j hj => h3 j (by omega)
theorem iiNN_call : Call Try.prog 25 [.slice none 0 0, .slice none 0 0] [] fun v _ => v = .bool true :=
  Call.ofVc (VOk.ofCt CtOk.none) mixed (c := iiB) (inv := iiEI (.slice none 0 0) (.slice none 0 0) (True) []) Try.func25 (by kernel_rfl) (cast (congrFun (iiNN_eq) ()) (iiNN_ok ()))
theorem iiNH_call (s1 : Option Nat) (c1 : Nat) : Call Try.prog 25 [.slice none 0 0, .slice (some ⟨0,0,s1⟩) 0 c1] [.gone] fun v _ => v = .bool true :=
  Call.ofVc (VOk.ofCt CtOk.none) mixed (c := iiB) (inv := iiEI (.slice none 0 0) (.slice (some ⟨0,0,s1⟩) 0 c1) (True) [.gone]) Try.func25 (by kernel_rfl) (cast (congrFun (congrFun (iiNH_eq) s1) c1) (iiNH_ok s1 c1))
theorem iiNR_call (l1 : List Int) (c1 : Nat) : Call Try.prog 25 [.slice none 0 0, .slice (some ⟨0,0,none⟩) l1.length c1] [ros l1] fun v _ => v = .bool (decide ([] = l1)) :=
  Call.ofVc (VOk.ofCt CtOk.none) mixed (c := iiB) (inv := iiEI (.slice none 0 0) (.slice (some ⟨0,0,none⟩) l1.length c1) (l1.length = 0) [ros l1]) Try.func25 (by kernel_rfl) (cast (congrFun (congrFun (iiNR_eq) l1) c1) (iiNR_ok l1 c1))
theorem iiHN_call (s0 : Option Nat) (c0 : Nat) : Call Try.prog 25 [.slice (some ⟨0,0,s0⟩) 0 c0, .slice none 0 0] [.gone] fun v _ => v = .bool true :=
  Call.ofVc (VOk.ofCt CtOk.none) mixed (c := iiB) (inv := iiEI (.slice (some ⟨0,0,s0⟩) 0 c0) (.slice none 0 0) (True) [.gone]) Try.func25 (by kernel_rfl) (cast (congrFun (congrFun (iiHN_eq) s0) c0) (iiHN_ok s0 c0))
theorem iiHH_call (s0 : Option Nat) (c0 : Nat) (s1 : Option Nat) (c1 : Nat) : Call Try.prog 25 [.slice (some ⟨0,0,s0⟩) 0 c0, .slice (some ⟨1,0,s1⟩) 0 c1] [.gone, .gone] fun v _ => v = .bool true :=
  Call.ofVc (VOk.ofCt CtOk.none) mixed (c := iiB) (inv := iiEI (.slice (some ⟨0,0,s0⟩) 0 c0) (.slice (some ⟨1,0,s1⟩) 0 c1) (True) [.gone, .gone]) Try.func25 (by kernel_rfl) (cast (congrFun (congrFun (congrFun (congrFun (iiHH_eq) s0) c0) s1) c1) (iiHH_ok s0 c0 s1 c1))
theorem iiHR_call (s0 : Option Nat) (c0 : Nat) (l1 : List Int) (c1 : Nat) : Call Try.prog 25 [.slice (some ⟨0,0,s0⟩) 0 c0, .slice (some ⟨1,0,none⟩) l1.length c1] [.gone, ros l1] fun v _ => v = .bool (decide ([] = l1)) :=
  Call.ofVc (VOk.ofCt CtOk.none) mixed (c := iiB) (inv := iiEI (.slice (some ⟨0,0,s0⟩) 0 c0) (.slice (some ⟨1,0,none⟩) l1.length c1) (l1.length = 0) [.gone, ros l1]) Try.func25 (by kernel_rfl) (cast (congrFun (congrFun (congrFun (congrFun (iiHR_eq) s0) c0) l1) c1) (iiHR_ok s0 c0 l1 c1))
theorem iiRN_call (l0 : List Int) (c0 : Nat) : Call Try.prog 25 [.slice (some ⟨0,0,none⟩) l0.length c0, .slice none 0 0] [ros l0] fun v _ => v = .bool (decide (l0 = [])) :=
  Call.ofVc (VOk.ofCt CtOk.none) mixed (c := iiB) (inv := iiEI (.slice (some ⟨0,0,none⟩) l0.length c0) (.slice none 0 0) (l0.length = 0) [ros l0]) Try.func25 (by kernel_rfl) (cast (congrFun (congrFun (iiRN_eq) l0) c0) (iiRN_ok l0 c0))
theorem iiRH_call (l0 : List Int) (c0 : Nat) (s1 : Option Nat) (c1 : Nat) : Call Try.prog 25 [.slice (some ⟨0,0,none⟩) l0.length c0, .slice (some ⟨1,0,s1⟩) 0 c1] [ros l0, .gone] fun v _ => v = .bool (decide (l0 = [])) :=
  Call.ofVc (VOk.ofCt CtOk.none) mixed (c := iiB) (inv := iiEI (.slice (some ⟨0,0,none⟩) l0.length c0) (.slice (some ⟨1,0,s1⟩) 0 c1) (l0.length = 0) [ros l0, .gone]) Try.func25 (by kernel_rfl) (cast (congrFun (congrFun (congrFun (congrFun (iiRH_eq) l0) c0) s1) c1) (iiRH_ok l0 c0 s1 c1))
theorem iiRR_call (l0 : List Int) (c0 : Nat) (l1 : List Int) (c1 : Nat)  (hl : l0.length ≤ 1000000): Call Try.prog 25 [.slice (some ⟨0,0,none⟩) l0.length c0, .slice (some ⟨1,0,none⟩) l1.length c1] [ros l0, ros l1] fun v _ => v = .bool (decide (l0 = l1)) :=
  Call.ofVc (VOk.ofCt CtOk.none) mixed (c := iiB) (inv := iiRI l0 l1 c0 c1) Try.func25 (by kernel_rfl) (cast (congrFun (congrFun (congrFun (congrFun (iiRR_eq) l0) c0) l1) c1) (iiRR_ok l0 c0 l1 c1 hl))
def iiS (r : List Arg) : Prop × Value := match r with
  | [a, b] => (a.list.length ≤ 1000000, .bool (decide (a.list = b.list)))
  | _ => (False, undef)
theorem iiG_ok : ∀ args H φ v H' l, pureG [.ints .i64, .ints .i64] iiS args H = some (φ, v, H', l) → Asks φ → Call Try.prog 25 args H (fun v' H2 => v' = v ∧ H2 = H') ∧ Kept H H' l :=
  pureG_ok fun r hk hs => match r, hk with
    | [_, _], ⟨ha, hb, _⟩ => by
      rcases ha with rfl | ⟨s, rfl⟩ | ⟨l, rfl⟩ <;> rcases hb with rfl | ⟨s', rfl⟩ | ⟨l', rfl⟩ <;> refine ⟨rfl, fun caps => ?_⟩
      · exact iiNN_call
      · exact iiNH_call s' _
      · exact iiNR_call l' _
      · exact iiHN_call s _
      · exact iiHH_call s _ s' _
      · exact iiHR_call s _ l' _
      · exact iiRN_call l _
      · exact iiRH_call l _ s' _
      · exact iiRR_call l _ l' _ hs

end Go.Pier.Lg

set_option maxRecDepth 100000
set_option linter.unusedVariables false
set_option linter.unusedSimpArgs false
namespace Go.Pier.Lg
open Go Go.Pier Go.Proofs 
noncomputable def rowsB : Code := Try.f66.body.getD .skip
def rowsI (p m : Int) : Nat → Option LInv := invOf 1 (LInv.one Nat (fun i => (i : Int) ≤ m - 1) (fun i => [(5, vi (p + 1)), (6, vi ((p + 1 - m) * (p + 1) ^ i)), (20, vi (m - 1)), (21, vi i)]) (fun _ => []) (fun i => (m - 1 - i).toNat))
def rowsF (p m : Int) : Int := if m = 0 then 1 else if p < m then 0 else (p + 1 - m) * (p + 1) ^ (m - 1).toNat
noncomputable def rowsV :=
fun (p m : Int) ↦ ((m == (0 : Int)) = true → True ∧ Ob (vi (1 : Int) = vi (rowsF p m) ∧ ([] : List AObj) = [])) ∧ ((m == (0 : Int)) = false → (decide (p < m) = true → True ∧ Ob (vi (0 : Int) = vi (rowsF p m) ∧ ([] : List AObj) = [])) ∧ (decide (p < m) = false → (∃ (y : Nat), Ob ((↑y : Int) ≤ m - (1 : Int)) ∧ True ∧ Ob (IntKind.i64.wrap (p + (1 : Int)) = p + (1 : Int)) ∧ Ob (IntKind.i64.wrap (IntKind.i64.wrap (p + (1 : Int)) - m) = (p + (1 : Int) - m) * (p + (1 : Int)) ^ y) ∧ Ob (IntKind.i64.wrap (m - (1 : Int)) = m - (1 : Int)) ∧ Ob ((0 : Int) = (↑y : Int)) ∧ True) ∧ ∀ (x : Nat), Ob ((↑x : Int) ≤ m - (1 : Int)) → (decide ((↑x : Int) < m - (1 : Int)) = true → ∃ (y : Nat), Ob ((↑y : Int) ≤ m - (1 : Int)) ∧ Ob ((m - (1 : Int) - (↑y : Int)).toNat < (m - (1 : Int) - (↑x : Int)).toNat) ∧ True ∧ Ob (p + (1 : Int) = p + (1 : Int)) ∧ Ob (IntKind.i64.wrap ((p + (1 : Int) - m) * (p + (1 : Int)) ^ x * (p + (1 : Int))) = (p + (1 : Int) - m) * (p + (1 : Int)) ^ y) ∧ Ob (m - (1 : Int) = m - (1 : Int)) ∧ Ob (IntKind.i64.wrap ((↑x : Int) + (1 : Int)) = (↑y : Int)) ∧ True) ∧ (decide ((↑x : Int) < m - (1 : Int)) = false → True ∧ Ob (vi ((p + (1 : Int) - m) * (p + (1 : Int)) ^ x) = vi (rowsF p m) ∧ ([] : List AObj) = []))))
theorem rowsV_eq : rowsV = fun (p m : Int) => vc Try.prog {} 0 28 true (rowsI p m) rowsB [] (argFr 0 [vi p, vi m]) [] (retK Try.prog Try.f66 (fun v H1 => v = vi (rowsF p m) ∧ H1 = [])) := by kernel_rfl


theorem pow9 : ∀ q : Nat, q < 10 → ∀ x : Nat, x < 9 → (0 : Int) ≤ (q : Int) ^ x ∧ (q : Int) ^ x ≤ 43046721 := by decide +kernel
theorem pow9i {p : Int} {x : Nat} (h : 0 ≤ p ∧ p < 10) (hx : x < 9) : 0 ≤ p ^ x ∧ p ^ x ≤ 43046721 := by
  obtain ⟨q, rfl⟩ := Int.eq_ofNat_of_zero_le h.1
  exact pow9 q (by omega) x hx
theorem mul_bd {a b A B : Int} (ha : 0 ≤ a ∧ a ≤ A) (hb : 0 ≤ b ∧ b ≤ B) : 0 ≤ a * b ∧ a * b ≤ A * B :=
  ⟨Int.mul_nonneg ha.1 hb.1, Int.mul_le_mul ha.2 hb.2 hb.1 (Int.le_trans ha.1 ha.2)⟩
theorem rowsV_ok (p m : Int) (hp : 1 ≤ p ∧ p ≤ 8) (hm : 0 ≤ m ∧ m ≤ 12) : rowsV p m := by
  unfold rowsV
  simp only [ob_iff, true_and, and_true, eq_self, beq_iff_eq, beq_eq_false_iff_ne, decide_eq_true_eq, decide_eq_false_iff_not, Value.int.injEq, ne_eq]
  refine ⟨fun h => by simp [rowsF, h], fun h => ⟨fun h1 => by simp [rowsF, h, h1], fun h1 => ⟨⟨0, by omega, wrap_in (by omega) (by omega), ?_, wrap_in (by omega) (by omega), rfl⟩, fun x hx => ⟨fun h2 => ?_, fun h2 => ?_⟩⟩⟩⟩
  · rw [wrap_in (x := p + 1) (by omega) (by omega), wrap_in (by omega) (by omega)]; simp
  · refine ⟨x + 1, by omega, by omega, ?_, ?_⟩
    · have h3 := mul_bd (A := 8) ⟨by omega, by omega⟩ (pow9i (p := p + 1) (x := x + 1) (by omega) (by omega)) (a := p + 1 - m)
      rw [Int.mul_assoc, show (p + 1) ^ x * (p + 1) = (p + 1) ^ (x + 1) from (Int.pow_succ _ _).symm, wrap_in (by omega) (by omega)]
    · rw [wrap_in (by omega) (by omega)]; rfl
  · rw [rowsF, if_neg h, if_neg h1, show (m - 1).toNat = x by omega]
theorem rows_call (p m : Int) (hp : 1 ≤ p ∧ p ≤ 8) (hm : 0 ≤ m ∧ m ≤ 12) : Call Try.prog 66 [vi p, vi m] [] fun v H1 => v = vi (rowsF p m) ∧ H1 = [] :=
  Call.ofVc (VOk.ofCt CtOk.none) mixed (c := rowsB) (inv := rowsI p m) Try.func66 (by kernel_rfl) (cast (congrFun (congrFun rowsV_eq p) m) (rowsV_ok p m hp hm))

end Go.Pier.Lg

set_option maxRecDepth 100000
set_option linter.unusedVariables false
set_option linter.unusedSimpArgs false
namespace Go.Pier.Lg
open Go Go.Pier Go.Proofs 
noncomputable def lvB : Code := Try.f69.body.getD .skip
def eq8 (a b : Value) : Bool := (List.range' 0 8).all fun i => fV a i == fV b i
def orcN : Orc := fun env H o => match o.op with
  | .binOp .neq t x y _ => match Nat.beq t 60, env x, env y with
    | true, some a, some b => some (a = aV (fV a) ∧ b = aV (fV b), some (.bool (!eq8 a b)), H)
    | _, _, _ => none
  | _ => none
def subG (goal : Nat → Bool) (k : Fin 256) : Bool := (List.range 8).all fun j => !k.1.testBit j || goal j
def stepL (n : Nat) (goal : Nat → Bool) (W : EL) : EL × Nat := ((outL n W).1.filter (fun x => subG goal x.1), (outL n W).2)
def iterL (n : Nat) (goal : Nat → Bool) : Nat → EL × Nat
  | 0 => ([(0, 1, 0)], 1)
  | i + 1 => stepL n goal (iterL n goal i).1
def keyF (goal : Nat → Bool) : Fin 256 := ⟨maskOf goal, mask_lt _⟩
def leaveS (n : Nat) (goal : Nat → Bool) (m : Nat) : Int := lookL (iterL n goal m).1 (keyF goal)
def remV (goal : Nat → Bool) (V N : EL) : EL := N.filter fun x => subG goal x.1 || !decide (x.2.2 ∈ bornsL V)
def lvI2 (n m : Nat) (goal : Nat → Bool) (i : Nat) (W : EL) (c : Nat) : LInv := LInv.one (EL × EL) (fun p => p.1.Perm W ∧ ∃ r, (p.2 ++ r).Perm (outL n p.1).1)
  (fun _ => [(2, ptr0 0), (4, vi 0), (5, .map (some 2)), (12, vi m), (13, vi i), (18, ptr0 3)])
  (fun p => [.rw (lgC n goal) none, .map (ent (kL n) W) c, .map (ent (kL n) (remV goal p.2 (outL n p.1).1)) (outL n p.1).2, .iter 2 (outL n p.1).2 (bornsL p.2).toArray (outL n p.1).2]) (fun p => (outL n p.1).1.length - p.2.length)
def lvI (n m : Nat) (goal : Nat → Bool) : Nat → Option LInv := invOf 0 (.mk [⟨Nat × EL × Nat, fun p => p.1 ≤ m ∧ WF gL p.2.1 p.2.2 ∧ nonneg p.2.1 ∧ sumV p.2.1 ≤ 8 ^ p.1 ∧ ∀ j, lookL p.2.1 j = lookL (iterL n goal p.1).1 j,
    fun p => [(2, ptr0 0), (4, vi 0), (5, .map (some 1)), (12, vi m), (13, vi p.1)], fun p => [.rw (lgC n goal) none, .map (ent (kL n) p.2.1) p.2.2], fun p => m - p.1, fun p => invOf 2 (lvI2 n m goal p.1 p.2.1 p.2.2)⟩]
  (fun _ b => b) (fun _ _ => [nsub 1 2]))
noncomputable def lvE (n : Nat) : VEnv := { ct := Ct.none.add 80 (plainG besS), cc := ccWom n, orc := orcOr orcN (orcMap Try.prog (kL n) uL 19), nx := nxMap (kL n) uL }
noncomputable def lvV_s0 (n m : Nat) (goal : Nat → Bool) (x_2q : Fin (256 : Nat) × Int × Nat) : Array Value := { toList := [Value.bool (besF (fV (Value.agg { toList := [Value.bool ((↑x_2q.fst : Nat).testBit (0 : Nat)), Value.bool ((↑x_2q.fst : Nat).testBit (1 : Nat)), Value.bool ((↑x_2q.fst : Nat).testBit (2 : Nat)), Value.bool ((↑x_2q.fst : Nat).testBit (3 : Nat)), Value.bool ((↑x_2q.fst : Nat).testBit (4 : Nat)), Value.bool ((↑x_2q.fst : Nat).testBit (5 : Nat)), Value.bool ((↑x_2q.fst : Nat).testBit (6 : Nat)), Value.bool ((↑x_2q.fst : Nat).testBit (7 : Nat))] })) (fV (Value.agg { toList := [Value.bool (goal (0 : Nat)), Value.bool (goal (1 : Nat)), Value.bool (goal (2 : Nat)), Value.bool (goal (3 : Nat)), Value.bool (goal (4 : Nat)), Value.bool (goal (5 : Nat)), Value.bool (goal (6 : Nat)), Value.bool (goal (7 : Nat))] })) (8 : Nat) (0 : Nat)), Value.bool (besF (fV (Value.agg { toList := [Value.bool ((↑x_2q.fst : Nat).testBit (0 : Nat)), Value.bool ((↑x_2q.fst : Nat).testBit (1 : Nat)), Value.bool ((↑x_2q.fst : Nat).testBit (2 : Nat)), Value.bool ((↑x_2q.fst : Nat).testBit (3 : Nat)), Value.bool ((↑x_2q.fst : Nat).testBit (4 : Nat)), Value.bool ((↑x_2q.fst : Nat).testBit (5 : Nat)), Value.bool ((↑x_2q.fst : Nat).testBit (6 : Nat)), Value.bool ((↑x_2q.fst : Nat).testBit (7 : Nat))] })) (fV (Value.agg { toList := [Value.bool (goal (0 : Nat)), Value.bool (goal (1 : Nat)), Value.bool (goal (2 : Nat)), Value.bool (goal (3 : Nat)), Value.bool (goal (4 : Nat)), Value.bool (goal (5 : Nat)), Value.bool (goal (6 : Nat)), Value.bool (goal (7 : Nat))] })) (8 : Nat) (1 : Nat)), Value.bool (besF (fV (Value.agg { toList := [Value.bool ((↑x_2q.fst : Nat).testBit (0 : Nat)), Value.bool ((↑x_2q.fst : Nat).testBit (1 : Nat)), Value.bool ((↑x_2q.fst : Nat).testBit (2 : Nat)), Value.bool ((↑x_2q.fst : Nat).testBit (3 : Nat)), Value.bool ((↑x_2q.fst : Nat).testBit (4 : Nat)), Value.bool ((↑x_2q.fst : Nat).testBit (5 : Nat)), Value.bool ((↑x_2q.fst : Nat).testBit (6 : Nat)), Value.bool ((↑x_2q.fst : Nat).testBit (7 : Nat))] })) (fV (Value.agg { toList := [Value.bool (goal (0 : Nat)), Value.bool (goal (1 : Nat)), Value.bool (goal (2 : Nat)), Value.bool (goal (3 : Nat)), Value.bool (goal (4 : Nat)), Value.bool (goal (5 : Nat)), Value.bool (goal (6 : Nat)), Value.bool (goal (7 : Nat))] })) (8 : Nat) (2 : Nat)), Value.bool (besF (fV (Value.agg { toList := [Value.bool ((↑x_2q.fst : Nat).testBit (0 : Nat)), Value.bool ((↑x_2q.fst : Nat).testBit (1 : Nat)), Value.bool ((↑x_2q.fst : Nat).testBit (2 : Nat)), Value.bool ((↑x_2q.fst : Nat).testBit (3 : Nat)), Value.bool ((↑x_2q.fst : Nat).testBit (4 : Nat)), Value.bool ((↑x_2q.fst : Nat).testBit (5 : Nat)), Value.bool ((↑x_2q.fst : Nat).testBit (6 : Nat)), Value.bool ((↑x_2q.fst : Nat).testBit (7 : Nat))] })) (fV (Value.agg { toList := [Value.bool (goal (0 : Nat)), Value.bool (goal (1 : Nat)), Value.bool (goal (2 : Nat)), Value.bool (goal (3 : Nat)), Value.bool (goal (4 : Nat)), Value.bool (goal (5 : Nat)), Value.bool (goal (6 : Nat)), Value.bool (goal (7 : Nat))] })) (8 : Nat) (3 : Nat)), Value.bool (besF (fV (Value.agg { toList := [Value.bool ((↑x_2q.fst : Nat).testBit (0 : Nat)), Value.bool ((↑x_2q.fst : Nat).testBit (1 : Nat)), Value.bool ((↑x_2q.fst : Nat).testBit (2 : Nat)), Value.bool ((↑x_2q.fst : Nat).testBit (3 : Nat)), Value.bool ((↑x_2q.fst : Nat).testBit (4 : Nat)), Value.bool ((↑x_2q.fst : Nat).testBit (5 : Nat)), Value.bool ((↑x_2q.fst : Nat).testBit (6 : Nat)), Value.bool ((↑x_2q.fst : Nat).testBit (7 : Nat))] })) (fV (Value.agg { toList := [Value.bool (goal (0 : Nat)), Value.bool (goal (1 : Nat)), Value.bool (goal (2 : Nat)), Value.bool (goal (3 : Nat)), Value.bool (goal (4 : Nat)), Value.bool (goal (5 : Nat)), Value.bool (goal (6 : Nat)), Value.bool (goal (7 : Nat))] })) (8 : Nat) (4 : Nat)), Value.bool (besF (fV (Value.agg { toList := [Value.bool ((↑x_2q.fst : Nat).testBit (0 : Nat)), Value.bool ((↑x_2q.fst : Nat).testBit (1 : Nat)), Value.bool ((↑x_2q.fst : Nat).testBit (2 : Nat)), Value.bool ((↑x_2q.fst : Nat).testBit (3 : Nat)), Value.bool ((↑x_2q.fst : Nat).testBit (4 : Nat)), Value.bool ((↑x_2q.fst : Nat).testBit (5 : Nat)), Value.bool ((↑x_2q.fst : Nat).testBit (6 : Nat)), Value.bool ((↑x_2q.fst : Nat).testBit (7 : Nat))] })) (fV (Value.agg { toList := [Value.bool (goal (0 : Nat)), Value.bool (goal (1 : Nat)), Value.bool (goal (2 : Nat)), Value.bool (goal (3 : Nat)), Value.bool (goal (4 : Nat)), Value.bool (goal (5 : Nat)), Value.bool (goal (6 : Nat)), Value.bool (goal (7 : Nat))] })) (8 : Nat) (5 : Nat)), Value.bool (besF (fV (Value.agg { toList := [Value.bool ((↑x_2q.fst : Nat).testBit (0 : Nat)), Value.bool ((↑x_2q.fst : Nat).testBit (1 : Nat)), Value.bool ((↑x_2q.fst : Nat).testBit (2 : Nat)), Value.bool ((↑x_2q.fst : Nat).testBit (3 : Nat)), Value.bool ((↑x_2q.fst : Nat).testBit (4 : Nat)), Value.bool ((↑x_2q.fst : Nat).testBit (5 : Nat)), Value.bool ((↑x_2q.fst : Nat).testBit (6 : Nat)), Value.bool ((↑x_2q.fst : Nat).testBit (7 : Nat))] })) (fV (Value.agg { toList := [Value.bool (goal (0 : Nat)), Value.bool (goal (1 : Nat)), Value.bool (goal (2 : Nat)), Value.bool (goal (3 : Nat)), Value.bool (goal (4 : Nat)), Value.bool (goal (5 : Nat)), Value.bool (goal (6 : Nat)), Value.bool (goal (7 : Nat))] })) (8 : Nat) (6 : Nat)), Value.bool (besF (fV (Value.agg { toList := [Value.bool ((↑x_2q.fst : Nat).testBit (0 : Nat)), Value.bool ((↑x_2q.fst : Nat).testBit (1 : Nat)), Value.bool ((↑x_2q.fst : Nat).testBit (2 : Nat)), Value.bool ((↑x_2q.fst : Nat).testBit (3 : Nat)), Value.bool ((↑x_2q.fst : Nat).testBit (4 : Nat)), Value.bool ((↑x_2q.fst : Nat).testBit (5 : Nat)), Value.bool ((↑x_2q.fst : Nat).testBit (6 : Nat)), Value.bool ((↑x_2q.fst : Nat).testBit (7 : Nat))] })) (fV (Value.agg { toList := [Value.bool (goal (0 : Nat)), Value.bool (goal (1 : Nat)), Value.bool (goal (2 : Nat)), Value.bool (goal (3 : Nat)), Value.bool (goal (4 : Nat)), Value.bool (goal (5 : Nat)), Value.bool (goal (6 : Nat)), Value.bool (goal (7 : Nat))] })) (8 : Nat) (7 : Nat))] }
noncomputable def lvV_s1 (n m : Nat) (goal : Nat → Bool) (x_2q : Fin (256 : Nat) × Int × Nat) : Array Value := { toList := [Value.bool ((↑x_2q.fst : Nat).testBit (0 : Nat)), Value.bool ((↑x_2q.fst : Nat).testBit (1 : Nat)), Value.bool ((↑x_2q.fst : Nat).testBit (2 : Nat)), Value.bool ((↑x_2q.fst : Nat).testBit (3 : Nat)), Value.bool ((↑x_2q.fst : Nat).testBit (4 : Nat)), Value.bool ((↑x_2q.fst : Nat).testBit (5 : Nat)), Value.bool ((↑x_2q.fst : Nat).testBit (6 : Nat)), Value.bool ((↑x_2q.fst : Nat).testBit (7 : Nat))] }
noncomputable def lvV_s2 (n m : Nat) (goal : Nat → Bool) : Array Value := { toList := [Value.bool (goal (0 : Nat)), Value.bool (goal (1 : Nat)), Value.bool (goal (2 : Nat)), Value.bool (goal (3 : Nat)), Value.bool (goal (4 : Nat)), Value.bool (goal (5 : Nat)), Value.bool (goal (6 : Nat)), Value.bool (goal (7 : Nat))] }
noncomputable def lvV_s3 (n m : Nat) (goal : Nat → Bool) (x_1 : EL × EL) := (ent (kL (↑n : Int)) (remV goal x_1.snd (outL n x_1.fst).fst))
noncomputable def lvV_s4 (n m : Nat) (goal : Nat → Bool) : Array Value := { toList := [Value.bool false, Value.bool false, Value.bool false, Value.bool false, Value.bool false, Value.bool false, Value.bool false, Value.bool false] }
noncomputable def lvV_s5 (n m : Nat) (goal : Nat → Bool) (x : Nat × EL × Nat) := (ent (kL (↑n : Int)) x.snd.fst)
noncomputable def lvV_s6 (n m : Nat) (goal : Nat → Bool) (x_1 : EL × EL) (x_2q : Fin (256 : Nat) × Int × Nat) := (ent (kL (↑n : Int)) (delL (un uL (lvV_s3 n m goal x_1)) (uL (Value.agg { toList := (lgC (↑n : Int) ((↑x_2q.fst : Nat).testBit)) }))))
noncomputable def lvV_s7 (n m : Nat) (goal : Nat → Bool) (x_2q : Fin (256 : Nat) × Int × Nat) := (Value.agg (lvV_s0 n m goal x_2q))
noncomputable def lvV_s8 (n m : Nat) (goal : Nat → Bool) (x_2q : Fin (256 : Nat) × Int × Nat) := (Value.agg (lvV_s1 n m goal x_2q))
noncomputable def lvV :=
fun (n m : Nat) (goal : Nat → Bool) ↦ Ob (some (vi (↑n : Int)) = some (vi (↑n : Int))) ∧ (∃ (y : Nat × EL × Nat), Ob (y.fst ≤ m ∧ WF gL y.snd.fst y.snd.snd ∧ nonneg y.snd.fst ∧ sumV y.snd.fst ≤ (8 : Int) ^ y.fst ∧ ∀ (j : Fin (256 : Nat)), lookL y.snd.fst j = lookL (iterL n goal y.fst).fst j) ∧ (Ob (AObj.rw (lgC (↑n : Int) goal) none = AObj.rw (lgC (↑n : Int) goal) none ∧ true = true) ∧ Ob (AObj.map [{ key := Value.agg { toList := (lgC (↑n : Int) emp) }, val := vi (1 : Int), born := (0 : Nat) }] (1 : Nat) = AObj.map (List.map (fun (e : MapEntry) ↦ { key := e.key, val := nmap2 (fun (b : Nat) ↦ b) e.val, born := e.born }) (ent (kL (↑n : Int)) y.snd.fst)) y.snd.snd ∧ AObj.sc (2 : Nat) (AObj.map (ent (kL (↑n : Int)) y.snd.fst) y.snd.snd) = true) ∧ True) ∧ Ob (ptr0 0 = ptr0 0) ∧ Ob ((0 : Int) = (0 : Int)) ∧ Ob (Value.map (some (1 : Nat)) = Value.map (some (1 : Nat))) ∧ Ob ((↑m : Int) = (↑m : Int)) ∧ Ob ((0 : Int) = (↑y.fst : Int)) ∧ True) ∧ ∀ (x : Nat × EL × Nat), Ob (x.fst ≤ m ∧ WF gL x.snd.fst x.snd.snd ∧ nonneg x.snd.fst ∧ sumV x.snd.fst ≤ (8 : Int) ^ x.fst ∧ ∀ (j : Fin (256 : Nat)), lookL x.snd.fst j = lookL (iterL n goal x.fst).fst j) → (decide ((↑x.fst : Int) < (↑m : Int)) = true → Ob (womPre n (AObj.rw (lgC (↑n : Int) goal) none) (lvV_s5 n m goal x) x.snd.snd) ∧ ∀ (D : List (Ent (Fin (256 : Nat)))), Ob (D.Perm (un uL (lvV_s5 n m goal x))) → (∃ (yq : EL × EL), Ob (List.Perm yq.fst x.snd.fst ∧ ∃ (r : EL), List.Perm (yq.snd ++ r) (outL n yq.fst).fst) ∧ (Ob (AObj.rw (lgC (↑n : Int) goal) none = AObj.rw (lgC (↑n : Int) goal) none ∧ true = true) ∧ Ob (AObj.map (lvV_s5 n m goal x) x.snd.snd = AObj.map (List.map (fun (e : MapEntry) ↦ { key := e.key, val := nmap2 (fun (b : Nat) ↦ b) e.val, born := e.born }) (lvV_s5 n m goal x)) x.snd.snd ∧ AObj.sc (4 : Nat) (AObj.map (lvV_s5 n m goal x) x.snd.snd) = true) ∧ Ob (AObj.map (ent (kL (↑n : Int)) (outL n D).fst) (outL n D).snd = AObj.map (List.map (fun (e : MapEntry) ↦ { key := e.key, val := nmap2 (fun (b : Nat) ↦ b) e.val, born := e.born }) (ent (kL (↑n : Int)) (remV goal yq.snd (outL n yq.fst).fst))) (outL n yq.fst).snd ∧ AObj.sc (4 : Nat) (AObj.map (ent (kL (↑n : Int)) (remV goal yq.snd (outL n yq.fst).fst)) (outL n yq.fst).snd) = true) ∧ Ob (AObj.iter (2 : Nat) (outL n D).snd { toList := [] } (outL n D).snd = AObj.iter (2 : Nat) (outL n yq.fst).snd { toList := bornsL yq.snd } (outL n yq.fst).snd ∧ true = true) ∧ True) ∧ Ob (ptr0 0 = ptr0 0) ∧ Ob ((0 : Int) = (0 : Int)) ∧ Ob (Value.map (some (2 : Nat)) = Value.map (some (2 : Nat))) ∧ Ob ((↑m : Int) = (↑m : Int)) ∧ Ob ((↑x.fst : Int) = (↑x.fst : Int)) ∧ Ob (ptr0 3 = ptr0 3) ∧ True) ∧ ∀ (x_1 : EL × EL), Ob (List.Perm x_1.fst x.snd.fst ∧ ∃ (r : EL), List.Perm (x_1.snd ++ r) (outL n x_1.fst).fst) → Ob (NextOk [AObj.rw (lgC (↑n : Int) goal) none, AObj.map (lvV_s5 n m goal x) x.snd.snd, AObj.map (lvV_s3 n m goal x_1) (outL n x_1.fst).snd, AObj.iter (2 : Nat) (outL n x_1.fst).snd { toList := bornsL x_1.snd } (outL n x_1.fst).snd] (ptr0 3) [doneS [AObj.rw (lgC (↑n : Int) goal) none, AObj.map (lvV_s5 n m goal x) x.snd.snd, AObj.map (lvV_s3 n m goal x_1) (outL n x_1.fst).snd, AObj.iter (2 : Nat) (outL n x_1.fst).snd { toList := bornsL x_1.snd } (outL n x_1.fst).snd] (un uL (lvV_s3 n m goal x_1)) (bornsL x_1.snd), moreS (kL (↑n : Int)) [AObj.rw (lgC (↑n : Int) goal) none, AObj.map (lvV_s5 n m goal x) x.snd.snd, AObj.map (lvV_s3 n m goal x_1) (outL n x_1.fst).snd, AObj.iter (2 : Nat) (outL n x_1.fst).snd { toList := bornsL x_1.snd } (outL n x_1.fst).snd] (3 : Nat) (2 : Nat) (outL n x_1.fst).snd (un uL (lvV_s3 n m goal x_1)) (bornsL x_1.snd) (outL n x_1.fst).snd]) ∧ (∀ (x_2 : Unit), Ob (∀ (xq : Ent (Fin (256 : Nat))), xq ∈ un uL (lvV_s3 n m goal x_1) → xq.snd.snd ∈ bornsL x_1.snd) → ∃ (y : Nat × EL × Nat), Ob (y.fst ≤ m ∧ WF gL y.snd.fst y.snd.snd ∧ nonneg y.snd.fst ∧ sumV y.snd.fst ≤ (8 : Int) ^ y.fst ∧ ∀ (j : Fin (256 : Nat)), lookL y.snd.fst j = lookL (iterL n goal y.fst).fst j) ∧ Ob (m - y.fst < m - x.fst) ∧ (Ob (AObj.rw (lgC (↑n : Int) goal) none = AObj.rw (lgC (↑n : Int) goal) none ∧ true = true) ∧ Ob (AObj.map (lvV_s3 n m goal x_1) (outL n x_1.fst).snd = AObj.map (List.map (fun (e : MapEntry) ↦ { key := e.key, val := nmap2 (nsub (1 : Nat) (2 : Nat)) e.val, born := e.born }) (ent (kL (↑n : Int)) y.snd.fst)) y.snd.snd ∧ AObj.sc (2 : Nat) (AObj.map (ent (kL (↑n : Int)) y.snd.fst) y.snd.snd) = true) ∧ True) ∧ Ob (ptr0 0 = ptr0 0) ∧ Ob ((0 : Int) = (0 : Int)) ∧ Ob (Value.map (some (2 : Nat)) = Value.map (some (2 : Nat))) ∧ Ob ((↑m : Int) = (↑m : Int)) ∧ Ob (IntKind.i64.wrap ((↑x.fst : Int) + (1 : Int)) = (↑y.fst : Int)) ∧ True) ∧ ∀ (x_2q : Fin (256 : Nat) × Int × Nat), Ob (x_2q ∈ un uL (lvV_s3 n m goal x_1) ∧ ¬x_2q.snd.snd ∈ bornsL x_1.snd) → Ob (aEntry [AObj.rw (lgC (↑n : Int) goal) none, AObj.map (lvV_s5 n m goal x) x.snd.snd, AObj.map (lvV_s3 n m goal x_1) (outL n x_1.fst).snd, AObj.iter (2 : Nat) (outL n x_1.fst).snd { toList := bornsL x_1.snd ++ [x_2q.snd.snd] } (outL n x_1.fst).snd] (ptr0 3) = some (Value.tuple { toList := [Value.agg { toList := (lgC (↑n : Int) ((↑x_2q.fst : Nat).testBit)) }, vi x_2q.snd.fst] })) ∧ Ob ((0 : Nat) + (9 : Nat) ≤ (9 : Nat)) ∧ Ob (Value.agg (lvV_s1 n m goal x_2q) = Value.agg { toList := [Value.bool (fV (lvV_s8 n m goal x_2q) (0 : Nat)), Value.bool (fV (lvV_s8 n m goal x_2q) (1 : Nat)), Value.bool (fV (lvV_s8 n m goal x_2q) (2 : Nat)), Value.bool (fV (lvV_s8 n m goal x_2q) (3 : Nat)), Value.bool (fV (lvV_s8 n m goal x_2q) (4 : Nat)), Value.bool (fV (lvV_s8 n m goal x_2q) (5 : Nat)), Value.bool (fV (lvV_s8 n m goal x_2q) (6 : Nat)), Value.bool (fV (lvV_s8 n m goal x_2q) (7 : Nat))] } ∧ Value.agg (lvV_s2 n m goal) = Value.agg { toList := [Value.bool (fV (Value.agg (lvV_s2 n m goal)) (0 : Nat)), Value.bool (fV (Value.agg (lvV_s2 n m goal)) (1 : Nat)), Value.bool (fV (Value.agg (lvV_s2 n m goal)) (2 : Nat)), Value.bool (fV (Value.agg (lvV_s2 n m goal)) (3 : Nat)), Value.bool (fV (Value.agg (lvV_s2 n m goal)) (4 : Nat)), Value.bool (fV (Value.agg (lvV_s2 n m goal)) (5 : Nat)), Value.bool (fV (Value.agg (lvV_s2 n m goal)) (6 : Nat)), Value.bool (fV (Value.agg (lvV_s2 n m goal)) (7 : Nat))] }) ∧ Ob (Value.agg (lvV_s0 n m goal x_2q) = Value.agg { toList := [Value.bool (fV (lvV_s7 n m goal x_2q) (0 : Nat)), Value.bool (fV (lvV_s7 n m goal x_2q) (1 : Nat)), Value.bool (fV (lvV_s7 n m goal x_2q) (2 : Nat)), Value.bool (fV (lvV_s7 n m goal x_2q) (3 : Nat)), Value.bool (fV (lvV_s7 n m goal x_2q) (4 : Nat)), Value.bool (fV (lvV_s7 n m goal x_2q) (5 : Nat)), Value.bool (fV (lvV_s7 n m goal x_2q) (6 : Nat)), Value.bool (fV (lvV_s7 n m goal x_2q) (7 : Nat))] } ∧ Value.agg (lvV_s4 n m goal) = Value.agg (lvV_s4 n m goal)) ∧ ((!eq8 (lvV_s7 n m goal x_2q) (Value.agg (lvV_s4 n m goal))) = true → Ob (aDelete Try.prog [AObj.rw (lgC (↑n : Int) goal) none, AObj.map (lvV_s5 n m goal x) x.snd.snd, AObj.map (lvV_s3 n m goal x_1) (outL n x_1.fst).snd, AObj.iter (2 : Nat) (outL n x_1.fst).snd { toList := bornsL x_1.snd ++ [x_2q.snd.snd] } (outL n x_1.fst).snd, AObj.rw (lgC (↑n : Int) ((↑x_2q.fst : Nat).testBit)) none] { toList := [(85 : Nat), (62 : Nat)] } (Value.map (some (2 : Nat))) (Value.agg { toList := (lgC (↑n : Int) ((↑x_2q.fst : Nat).testBit)) }) = some [AObj.rw (lgC (↑n : Int) goal) none, AObj.map (lvV_s5 n m goal x) x.snd.snd, AObj.map (lvV_s6 n m goal x_1 x_2q) (outL n x_1.fst).snd, AObj.iter (2 : Nat) (outL n x_1.fst).snd { toList := bornsL x_1.snd ++ [x_2q.snd.snd] } (outL n x_1.fst).snd, AObj.rw (lgC (↑n : Int) ((↑x_2q.fst : Nat).testBit)) none]) ∧ ∃ (yqq : EL × EL), Ob (List.Perm yqq.fst x.snd.fst ∧ ∃ (r : EL), List.Perm (yqq.snd ++ r) (outL n yqq.fst).fst) ∧ Ob (List.length (outL n yqq.fst).fst - List.length yqq.snd < List.length (outL n x_1.fst).fst - List.length x_1.snd) ∧ (Ob (AObj.rw (lgC (↑n : Int) goal) none = AObj.rw (lgC (↑n : Int) goal) none ∧ true = true) ∧ Ob (AObj.map (lvV_s5 n m goal x) x.snd.snd = AObj.map (List.map (fun (e : MapEntry) ↦ { key := e.key, val := nmap2 (fun (b : Nat) ↦ b) e.val, born := e.born }) (lvV_s5 n m goal x)) x.snd.snd ∧ AObj.sc (4 : Nat) (AObj.map (lvV_s5 n m goal x) x.snd.snd) = true) ∧ Ob (AObj.map (lvV_s6 n m goal x_1 x_2q) (outL n x_1.fst).snd = AObj.map (List.map (fun (e : MapEntry) ↦ { key := e.key, val := nmap2 (fun (b : Nat) ↦ b) e.val, born := e.born }) (ent (kL (↑n : Int)) (remV goal yqq.snd (outL n yqq.fst).fst))) (outL n yqq.fst).snd ∧ AObj.sc (4 : Nat) (AObj.map (ent (kL (↑n : Int)) (remV goal yqq.snd (outL n yqq.fst).fst)) (outL n yqq.fst).snd) = true) ∧ Ob (AObj.iter (2 : Nat) (outL n x_1.fst).snd { toList := bornsL x_1.snd ++ [x_2q.snd.snd] } (outL n x_1.fst).snd = AObj.iter (2 : Nat) (outL n yqq.fst).snd { toList := bornsL yqq.snd } (outL n yqq.fst).snd ∧ true = true) ∧ True) ∧ Ob (ptr0 0 = ptr0 0) ∧ Ob ((0 : Int) = (0 : Int)) ∧ Ob (Value.map (some (2 : Nat)) = Value.map (some (2 : Nat))) ∧ Ob ((↑m : Int) = (↑m : Int)) ∧ Ob ((↑x.fst : Int) = (↑x.fst : Int)) ∧ Ob (ptr0 3 = ptr0 3) ∧ True) ∧ ((!eq8 (lvV_s7 n m goal x_2q) (Value.agg (lvV_s4 n m goal))) = false → ∃ (yqqq : EL × EL), Ob (List.Perm yqqq.fst x.snd.fst ∧ ∃ (r : EL), List.Perm (yqqq.snd ++ r) (outL n yqqq.fst).fst) ∧ Ob (List.length (outL n yqqq.fst).fst - List.length yqqq.snd < List.length (outL n x_1.fst).fst - List.length x_1.snd) ∧ (Ob (AObj.rw (lgC (↑n : Int) goal) none = AObj.rw (lgC (↑n : Int) goal) none ∧ true = true) ∧ Ob (AObj.map (lvV_s5 n m goal x) x.snd.snd = AObj.map (List.map (fun (e : MapEntry) ↦ { key := e.key, val := nmap2 (fun (b : Nat) ↦ b) e.val, born := e.born }) (lvV_s5 n m goal x)) x.snd.snd ∧ AObj.sc (4 : Nat) (AObj.map (lvV_s5 n m goal x) x.snd.snd) = true) ∧ Ob (AObj.map (lvV_s3 n m goal x_1) (outL n x_1.fst).snd = AObj.map (List.map (fun (e : MapEntry) ↦ { key := e.key, val := nmap2 (fun (b : Nat) ↦ b) e.val, born := e.born }) (ent (kL (↑n : Int)) (remV goal yqqq.snd (outL n yqqq.fst).fst))) (outL n yqqq.fst).snd ∧ AObj.sc (4 : Nat) (AObj.map (ent (kL (↑n : Int)) (remV goal yqqq.snd (outL n yqqq.fst).fst)) (outL n yqqq.fst).snd) = true) ∧ Ob (AObj.iter (2 : Nat) (outL n x_1.fst).snd { toList := bornsL x_1.snd ++ [x_2q.snd.snd] } (outL n x_1.fst).snd = AObj.iter (2 : Nat) (outL n yqqq.fst).snd { toList := bornsL yqqq.snd } (outL n yqqq.fst).snd ∧ true = true) ∧ True) ∧ Ob (ptr0 0 = ptr0 0) ∧ Ob ((0 : Int) = (0 : Int)) ∧ Ob (Value.map (some (2 : Nat)) = Value.map (some (2 : Nat))) ∧ Ob ((↑m : Int) = (↑m : Int)) ∧ Ob ((↑x.fst : Int) = (↑x.fst : Int)) ∧ Ob (ptr0 3 = ptr0 3) ∧ True)) ∧ (decide ((↑x.fst : Int) < (↑m : Int)) = false → Ob (aLookup Try.prog [AObj.rw (lgC (↑n : Int) goal) none, AObj.map (lvV_s5 n m goal x) x.snd.snd] (85 : Nat) (Value.map (some (1 : Nat))) (Value.agg { toList := (lgC (↑n : Int) goal) }) false = some (vi (lookL (un uL (lvV_s5 n m goal x)) (uL (Value.agg { toList := (lgC (↑n : Int) goal) }))))) ∧ True ∧ Ob (lookL (un uL (lvV_s5 n m goal x)) (uL (Value.agg { toList := (lgC (↑n : Int) goal) })) = leaveS n goal m) ∧ True)
theorem lvV_eq : lvV = fun (n m : Nat) (goal : Nat → Bool) => vc Try.prog (lvE n) 0 36 true (lvI n m goal) lvB [] (argFr 0 [lgV n goal, vi m]) [] (retR Try.prog Try.f69 0 (fun b => b) (vi (leaveS n goal m)) []) := by kernel_rfl


theorem eq8_ok (d : Nat) (f g : Nat → Bool) : pureRun Try.prog (Op.equalIn (d + 2) 60 (aV f) (aV g)) = some (eq8 (aV f) (aV g)) := eqArr d (f 0) (f 1) (f 2) (f 3) (f 4) (f 5) (f 6) (f 7) (g 0) (g 1) (g 2) (g 3) (g 4) (g 5) (g 6) (g 7)
theorem orcN_ok : OrcOk Try.prog orcN := fun env H o φ v H' h hφ => by
  unfold orcN at h
  split at h <;> try (cases h; done)
  rename_i t x y yt hop
  split at h <;> cases h
  rename_i a b ht ha hb
  obtain ⟨h1, h2⟩ := hφ
  have ht' := Nat.eq_of_beq_eq_true ht
  unfold evOp
  rw [hop]
  simp only [ha, hb]
  have : evBin Try.prog .neq t x y a b = some (.bool (!eq8 a b)) := by
    rw [ht']
    unfold evBin
    rw [h1, h2, if_pos ⟨aV_plain.2.1 0, aV_plain.2.1 0⟩]
    rw [pureRun_bind (show pureRun Try.prog (eqGuard .neq 60 x y (aV (fV a)) (aV (fV b))) = some () from rfl)]
    have : pureRun Try.prog (binOp .neq 60 (aV (fV a)) (aV (fV b))) = some (.bool (!eq8 (aV (fV a)) (aV (fV b)))) := by
      show pureRun Try.prog (Op.equalIn (9998 + 2) 60 (aV (fV a)) (aV (fV b)) >>= fun r => (pure (Value.bool (!r)) : Sem Value)) = _
      rw [pureRun_bind (eq8_ok 9998 (fV a) (fV b))]; rfl
    rw [this]; rfl
  rw [this]; rfl
theorem lvE_ok (n : Nat) : VOk Try.prog (lvE n) := ⟨CtOk.none.add besG_ok, ccWom_ok n, E0_ok.yc, orcOr_ok orcN_ok orcMap_ok⟩
def cntJ (n : Nat) (k j : Fin 256) : Nat → Int
  | 0 => 0
  | i + 1 => cntJ n k j i + if oneMore n k i = some j then 1 else 0
def wsum (f : Fin 256 → Int) (L : EL) : Int := (L.map fun x => x.2.1 * f x.1).sum
theorem addUp_look {n : Nat} {k : Fin 256} {v : Int} {s : EL × Nat} (hw : WF gL s.1 s.2) (hs : nonneg s.1) (hv : 0 ≤ v) (j : Fin 256) : ∀ i : Nat, lookL (addUp n k v s i).1 j = lookL s.1 j + v * cntJ n k j i
  | 0 => by simp [addUp, cntJ]
  | i + 1 => by
    have ih := addUp_look (n := n) (k := k) hw hs hv j i
    obtain ⟨h1, _, _⟩ := addUp_ok (n := n) (k := k) hw hs hv i
    rw [addUp, cntJ]
    split
    · rename_i q hq
      show lookL (addL _ _ _ _) _ = _
      rw [look_add h1 trivial, ih, hq, Int.mul_add]
      by_cases e : q = j
      · rw [if_pos e, if_pos (by rw [e])]; omega
      · rw [if_neg e, if_neg (fun h => e (Option.some.inj h))]; omega
    · rename_i hq
      rw [ih, hq, if_neg (by simp)]; simp
theorem wsum_cons {f : Fin 256 → Int} {x : Ent (Fin 256)} {L : EL} : wsum f (x :: L) = x.2.1 * f x.1 + wsum f L := by simp [wsum]
theorem wsum_append {f : Fin 256 → Int} {L M : EL} : wsum f (L ++ M) = wsum f L + wsum f M := by simp [wsum]
theorem outL_look {n : Nat} {D : EL} (h : nonneg D) (j : Fin 256) : lookL (outL n D).1 j = wsum (fun k => cntJ n k j n) D := by
  have key : ∀ (R : EL), nonneg R → lookL (outL n R.reverse).1 j = wsum (fun k => cntJ n k j n) R.reverse := by
    intro R
    induction R with
    | nil => exact fun _ => rfl
    | cons x R ih =>
      intro hR
      have hR' : nonneg R.reverse := fun y hy => hR y (List.mem_cons_of_mem _ (List.mem_reverse.1 hy))
      obtain ⟨h1, h2, _⟩ := outL_ok (n := n) hR'
      rw [List.reverse_cons, outL_append, addUp_look h1 h2 (hR x List.mem_cons_self), ih fun y hy => hR y (List.mem_cons_of_mem _ hy), wsum_append, wsum_cons]
      simp [wsum]
  have := key D.reverse fun x hx => h x (List.mem_reverse.1 hx)
  rw [List.reverse_reverse] at this
  exact this
theorem sum_swap {a b : Fin 256 → Int} {k : Fin 256} : ∀ {K : List (Fin 256)}, K.Nodup → (K.map fun i => if k = i then a i else b i).sum = (K.map b).sum + if k ∈ K then a k - b k else 0
  | [], _ => by simp
  | i :: K, h => by
    obtain ⟨h1, h2⟩ := List.nodup_cons.1 h
    rw [List.map_cons, List.sum_cons, List.map_cons, List.sum_cons, sum_swap h2]
    by_cases e : k = i
    · subst e
      rw [if_pos rfl, if_neg h1, if_pos List.mem_cons_self]; omega
    · rw [if_neg e]
      by_cases hk : k ∈ K
      · rw [if_pos hk, if_pos (List.mem_cons_of_mem _ hk)]; omega
      · rw [if_neg hk, if_neg (by simp [e, hk])]; omega
def tsum (f : Fin 256 → Int) (L : EL) : Int := ((List.finRange 256).map fun k => lookL L k * f k).sum
theorem look_cons {x : Ent (Fin 256)} {L : EL} (h : (x :: L).Pairwise fun a b => a.1 ≠ b.1) {k : Fin 256} : lookL (x :: L) k = if x.1 = k then x.2.1 else lookL L k := by
  by_cases e : x.1 = k
  · rw [if_pos e, ← e, look_mem h List.mem_cons_self]
  · rw [if_neg e]
    by_cases hk : ∃ y ∈ L, y.1 = k
    · obtain ⟨y, hy, rfl⟩ := hk
      rw [look_mem h (List.mem_cons_of_mem _ hy), look_mem (List.pairwise_cons.1 h).2 hy]
    · rw [look_none fun y hy hyk => hk ⟨y, hy, hyk⟩, look_none fun y hy hyk => ?_]
      rcases List.mem_cons.1 hy with rfl | hy
      · exact e hyk
      · exact hk ⟨y, hy, hyk⟩
theorem wsum_tsum {f : Fin 256 → Int} : ∀ {L : EL}, L.Pairwise (fun a b => a.1 ≠ b.1) → wsum f L = tsum f L
  | [], _ => by
    unfold wsum tsum
    have : (fun k : Fin 256 => lookL ([] : EL) k * f k) = fun _ => 0 := by funext k; rw [show lookL ([] : EL) k = 0 from rfl, Int.zero_mul]
    rw [this]
    have z : ∀ K : List (Fin 256), (K.map fun _ => (0 : Int)).sum = 0 := fun K => by induction K with | nil => rfl | cons a K ih => rw [List.map_cons, List.sum_cons, ih]; rfl
    exact (z _).symm
  | x :: L, h => by
    obtain ⟨h1, h2⟩ := List.pairwise_cons.1 h
    rw [wsum_cons, wsum_tsum h2]
    unfold tsum
    have : (fun k : Fin 256 => lookL (x :: L) k * f k) = fun k => if x.1 = k then x.2.1 * f k else lookL L k * f k := by
      funext k; rw [look_cons h]; split <;> rfl
    rw [this, sum_swap (List.nodup_finRange 256), if_pos (List.mem_finRange _), look_none (L := L) (k := x.1) fun y hy e => h1 y hy e.symm]
    omega
theorem tsum_congr {f : Fin 256 → Int} {L M : EL} (h : ∀ k, lookL L k = lookL M k) : tsum f L = tsum f M := by
  unfold tsum; simp only [h]
theorem look_filter {g : Fin 256 → Bool} {L : EL} (h : L.Pairwise fun a b => a.1 ≠ b.1) {k : Fin 256} : lookL (L.filter fun x => g x.1) k = if g k = true then lookL L k else 0 := by
  by_cases hk : ∃ y ∈ L, y.1 = k
  · obtain ⟨y, hy, rfl⟩ := hk
    by_cases hg : g y.1 = true
    · rw [if_pos hg, look_mem h hy, look_mem (h.sublist List.filter_sublist) (List.mem_filter.2 ⟨hy, hg⟩)]
    · rw [if_neg hg, look_none fun z hz hzk => ?_]
      have := (List.mem_filter.1 hz).2
      rw [hzk] at this
      exact hg this
  · rw [look_none fun y hy hyk => hk ⟨y, (List.mem_filter.1 hy).1, hyk⟩, look_none fun y hy hyk => hk ⟨y, hy, hyk⟩]; simp
theorem look_perm {D W : EL} (h : D.Perm W) (hw : W.Pairwise fun a b => a.1 ≠ b.1) (k : Fin 256) : lookL D k = lookL W k := by
  have hd : D.Pairwise fun a b => a.1 ≠ b.1 := (h.pairwise_iff (fun {a b} h e => h e.symm)).2 hw
  by_cases hk : ∃ y ∈ W, y.1 = k
  · obtain ⟨y, hy, rfl⟩ := hk
    rw [look_mem hw hy, look_mem hd (h.mem_iff.2 hy)]
  · rw [look_none fun y hy hyk => hk ⟨y, hy, hyk⟩, look_none fun y hy hyk => hk ⟨y, h.mem_iff.1 hy, hyk⟩]
theorem sumV_filter {g : Ent (Fin 256) → Bool} : ∀ {L : EL}, nonneg L → sumV (L.filter g) ≤ sumV L
  | [], _ => Int.le_refl _
  | x :: L, h => by
    have h1 := h x List.mem_cons_self
    have h2 := sumV_filter (g := g) (L := L) fun y hy => h y (List.mem_cons_of_mem _ hy)
    rw [List.filter_cons]
    split
    · rw [sumV_cons, sumV_cons]; omega
    · rw [sumV_cons]; omega
theorem start_ok : WF gL [((0 : Fin 256), (1 : Int), 0)] 1 ∧ nonneg [((0 : Fin 256), (1 : Int), 0)] ∧ sumV [((0 : Fin 256), (1 : Int), 0)] = 1 :=
  ⟨⟨fun _ _ => trivial, by simp, by simp, fun x hx => by rw [List.mem_singleton.1 hx]; exact Nat.zero_lt_one⟩, fun x hx => by rw [List.mem_singleton.1 hx]; exact Int.zero_le_ofNat 1, rfl⟩
theorem iter_ok {n : Nat} {goal : Nat → Bool} : ∀ i : Nat, WF gL (iterL n goal i).1 (iterL n goal i).2 ∧ nonneg (iterL n goal i).1
  | 0 => ⟨start_ok.1, start_ok.2.1⟩
  | i + 1 => by
    obtain ⟨_, h2⟩ := iter_ok (n := n) (goal := goal) i
    obtain ⟨k1, k2, _⟩ := outL_ok (n := n) h2
    rw [iterL, stepL]
    exact ⟨k1.sub List.filter_sublist, fun x hx => k2 x (List.mem_filter.1 hx).1⟩
theorem perm_nonneg {D W : EL} (h : D.Perm W) (hw : nonneg W) : nonneg D := fun x hx => hw x (h.mem_iff.1 hx)
theorem step_look {n : Nat} {goal : Nat → Bool} {i c : Nat} {D W : EL} (hD : D.Perm W) (hw : WF gL W c) (hp : nonneg W) (h : ∀ j, lookL W j = lookL (iterL n goal i).1 j) (j : Fin 256) :
    lookL ((outL n D).1.filter fun x => subG goal x.1) j = lookL (iterL n goal (i + 1)).1 j := by
  obtain ⟨w1, w2⟩ := iter_ok (n := n) (goal := goal) i
  have hDp := perm_nonneg hD hp
  have hDk : D.Pairwise fun a b => a.1 ≠ b.1 := (hD.pairwise_iff (fun {a b} h e => h e.symm)).2 hw.keys
  rw [iterL, stepL]
  show _ = lookL ((outL n (iterL n goal i).1).1.filter fun x => subG goal x.1) j
  rw [look_filter (outL_ok (n := n) hDp).1.keys, look_filter (outL_ok (n := n) w2).1.keys, outL_look hDp, outL_look w2, wsum_tsum hDk, wsum_tsum w1.keys, tsum_congr fun k => (look_perm hD hw.keys k).trans (h k)]
theorem borns_append {V : EL} {y : Ent (Fin 256)} : bornsL (V ++ [y]) = bornsL V ++ [y.2.2] := by simp [bornsL]
theorem remV_nil {goal : Nat → Bool} {N : EL} : remV goal [] N = N := by
  unfold remV
  rw [List.filter_eq_self]
  intro x _
  simp [bornsL]
theorem remV_done {goal : Nat → Bool} {V N : EL} (h : ∀ x ∈ remV goal V N, x.2.2 ∈ bornsL V) : remV goal V N = N.filter fun x => subG goal x.1 := by
  unfold remV at h ⊢
  apply List.filter_congr
  intro x hx
  by_cases hv : x.2.2 ∈ bornsL V
  · simp [hv]
  · exact absurd (h x (List.mem_filter.2 ⟨hx, by simp [hv]⟩)) hv
theorem remV_keep {goal : Nat → Bool} {V N : EL} {y : Ent (Fin 256)} (hb : N.Pairwise fun a b => a.2.2 ≠ b.2.2) (hy : y ∈ N) (hs : subG goal y.1 = true) : remV goal (V ++ [y]) N = remV goal V N := by
  unfold remV
  apply List.filter_congr
  intro x hx
  by_cases e : x.2.2 = y.2.2
  · rw [inj_of (f := fun x : Ent (Fin 256) => x.2.2) hb hx hy e]; simp [hs]
  · rw [borns_append]; simp [e]
theorem remV_del {goal : Nat → Bool} {V N : EL} {y : Ent (Fin 256)} (hk : N.Pairwise fun a b => a.1 ≠ b.1) (hb : N.Pairwise fun a b => a.2.2 ≠ b.2.2) (hy : y ∈ N) (hs : subG goal y.1 = false) : delL (remV goal V N) y.1 = remV goal (V ++ [y]) N := by
  unfold delL remV
  rw [List.filter_filter]
  apply List.filter_congr
  intro x hx
  by_cases e : x.2.2 = y.2.2
  · have := inj_of (f := fun x : Ent (Fin 256) => x.2.2) hb hx hy e
    subst this
    rw [borns_append]; simp [hs]
  · have e2 : x.1 ≠ y.1 := fun h => e (by rw [inj_of (f := fun x : Ent (Fin 256) => x.1) hk hx hy h])
    rw [borns_append]; simp [e, e2]
theorem fV_aV {f : Nat → Bool} {i : Nat} (h : i < 8) : fV (aV f) i = f i := by
  rcases i with _ | _ | _ | _ | _ | _ | _ | _ | i <;> first | rfl | omega
theorem eq8_sub {k : Fin 256} {goal : Nat → Bool} : eq8 (aV (besF (fV (aV k.1.testBit)) (fV (aV goal)) 8)) (aV emp) = subG goal k := by
  unfold eq8 subG
  rw [show List.range' 0 8 = List.range 8 from rfl, Bool.eq_iff_iff, List.all_eq_true, List.all_eq_true]
  refine forall_congr' fun i => ?_
  constructor
  · intro h hi
    have h8 := List.mem_range.1 hi
    have := h hi
    rw [fV_aV h8, fV_aV h8] at this
    unfold besF at this
    rw [fV_aV h8, fV_aV h8] at this
    simp only [h8, emp] at this
    revert this
    cases k.1.testBit i <;> cases goal i <;> decide
  · intro h hi
    have h8 := List.mem_range.1 hi
    have := h hi
    rw [fV_aV h8, fV_aV h8]
    unfold besF
    rw [fV_aV h8, fV_aV h8]
    simp only [h8, emp]
    revert this
    cases k.1.testBit i <;> cases goal i <;> decide
theorem lvV_ok (n m : Nat) (goal : Nat → Bool) (hn : 1 ≤ n ∧ n ≤ 8) (hm : m ≤ 8) : lvV n m goal := by
  unfold lvV lvV_s8 lvV_s7 lvV_s6 lvV_s5 lvV_s4 lvV_s3 lvV_s2 lvV_s1 lvV_s0
  simp only [SS, reduceCtorEq, Arg.list, Arg.num, Arg.flag, intOf, andP, Nat.reduceLeDiff, Nat.reduceAdd, Nat.reduceMul, Nat.reduceLT, un_kL, map_ent, sc_ent, fT_bits, fN_T8, fF_T8, T8_fT, AObj.map.injEq, AObj.iter.injEq, Array.mk.injEq, T8_getB, kL_uL]
  refine ⟨⟨(0, [(0, 1, 0)], 1), ?_⟩, fun x hx => ⟨fun hlt => ⟨?_, fun D hD => ⟨?_, fun p hp => ⟨?_, fun hdone => ?_, fun y hy => ⟨?_, ?_, ?_, fun hq => ?_, fun hq => ?_⟩⟩⟩⟩, fun hge => ?_⟩⟩
  · exact ⟨⟨Nat.zero_le _, start_ok.1, start_ok.2.1, Int.le_of_eq start_ok.2.2, fun j => rfl⟩, ⟨rfl, rfl⟩, rfl⟩
  · have b := pow9i (p := 8) (x := x.1) (by omega) (by omega)
    have := hx.2.2.2.1
    unfold womPre
    rw [un_kL]
    exact ⟨⟨goal, rfl⟩, hn, rfl, hx.2.1, hx.2.2.1, by omega⟩
  · exact ⟨(D, []), ⟨hD, (outL n D).1, List.Perm.refl _⟩, ⟨by rw [remV_nil], rfl⟩, rfl, rfl, rfl⟩
  · have hp1 := perm_nonneg hp.1 hx.2.2.1
    exact next_ok ((outL_ok (n := n) hp1).1.sub List.filter_sublist) rfl rfl
  · have hp1 := perm_nonneg hp.1 hx.2.2.1
    obtain ⟨o1, o2, o3⟩ := outL_ok (n := n) hp1
    have e := remV_done hdone
    have b := pow9i (p := 8) (x := x.1) (by omega) (by omega)
    have hs : sumV p.1 ≤ 8 ^ x.1 := by rw [sumV_perm hp.1]; exact hx.2.2.2.1
    have hs0 := sumV_nonneg hp1
    have h8 : (n : Int) * sumV p.1 ≤ 8 * sumV p.1 := Int.mul_le_mul_of_nonneg_right (by omega) hs0
    have ep : (8 : Int) ^ (x.1 + 1) = 8 ^ x.1 * 8 := Int.pow_succ _ _
    refine ⟨(x.1 + 1, remV goal p.2 (outL n p.1).1, (outL n p.1).2), ⟨by simp only; omega, o1.sub List.filter_sublist, fun z hz => o2 z (List.mem_filter.1 hz).1, ?_, fun j => ?_⟩, by simp only; omega, ⟨rfl, rfl⟩, ?_⟩
    · have := sumV_filter (g := fun x => subG goal x.1 || !decide (x.2.2 ∈ bornsL p.2)) o2
      show sumV (remV goal p.2 (outL n p.1).1) ≤ 8 ^ (x.1 + 1)
      unfold remV
      omega
    · show lookL (remV goal p.2 (outL n p.1).1) j = _
      rw [e]
      exact step_look hp.1 hx.2.1 hx.2.2.1 hx.2.2.2.2 j
    · rw [wrap_in (by omega) (by omega)]; push_cast; rfl
  · have hp1 := perm_nonneg hp.1 hx.2.2.1
    exact ent_ok (kv := kL n) (x := y) ((outL_ok (n := n) hp1).1.sub List.filter_sublist).borns hy.1 rfl rfl
  · exact ⟨rfl, rfl⟩
  · exact rfl
  · have hq' : eq8 (aV (besF (fV (aV y.1.1.testBit)) (fV (aV goal)) 8)) (aV emp) = false := hq
    rw [eq8_sub] at hq'
    clear hq
    have hp1 := perm_nonneg hp.1 hx.2.2.1
    obtain ⟨r, hr⟩ := hp.2
    have o1 := (outL_ok (n := n) hp1).1
    have hyN : y ∈ (outL n p.1).1 := (List.mem_filter.1 hy.1).1
    have em : (⟨maskOf y.1.1.testBit, mask_lt _⟩ : Fin 256) = y.1 := Fin.ext (mask_own y.1.1 y.1.2)
    obtain ⟨r', hr'⟩ := perm_more hr hyN hy.2
    have hl := hr'.length_eq
    rw [List.length_append, List.length_cons] at hl
    rw [em]
    refine ⟨del_ok (keyOk n) T85 (o1.sub List.filter_sublist) rfl rfl trivial, (p.1, p.2 ++ [y]), ⟨hp.1, r', by rw [List.append_assoc]; exact hr'⟩, ?_, ⟨?_, rfl⟩, rfl, borns_append.symm, rfl⟩
    · show (outL n p.1).1.length - (p.2 ++ [y]).length < _
      rw [List.length_append, List.length_singleton]; omega
    · rw [remV_del o1.keys o1.borns hyN hq']
  · have hq' : eq8 (aV (besF (fV (aV y.1.1.testBit)) (fV (aV goal)) 8)) (aV emp) = true := hq
    rw [eq8_sub] at hq'
    clear hq
    have hp1 := perm_nonneg hp.1 hx.2.2.1
    obtain ⟨r, hr⟩ := hp.2
    have o1 := (outL_ok (n := n) hp1).1
    have hyN : y ∈ (outL n p.1).1 := (List.mem_filter.1 hy.1).1
    obtain ⟨r', hr'⟩ := perm_more hr hyN hy.2
    have hl := hr'.length_eq
    rw [List.length_append, List.length_cons] at hl
    refine ⟨(p.1, p.2 ++ [y]), ⟨hp.1, r', by rw [List.append_assoc]; exact hr'⟩, ?_, ⟨?_, rfl⟩, rfl, borns_append.symm, rfl⟩
    · show (outL n p.1).1.length - (p.2 ++ [y]).length < _
      rw [List.length_append, List.length_singleton]; omega
    · rw [remV_keep o1.borns hyN hq']
  · have ex : x.1 = m := by omega
    have ek : Value.agg { toList := lgC n goal } = kL n (keyF goal) := kL_mask
    refine ⟨?_, ?_⟩
    · rw [ek]; exact look_ok (keyOk n) T85 hx.2.1 Z2 rfl trivial
    · unfold leaveS; rw [← ex]; exact hx.2.2.2.2 _
theorem leave_call (n m : Nat) (goal : Nat → Bool) (hn : 1 ≤ n ∧ n ≤ 8) (hm : m ≤ 8) : Call Try.prog 69 [lgV n goal, vi m] [] fun v H' => v = vi (leaveS n goal m) ∧ H' = [] :=
  Call.ofVcR (lvE_ok n) mixed (c := lvB) (inv := lvI n m goal) Try.func69 (by kernel_rfl) (cast (congrFun (congrFun (congrFun lvV_eq n) m) goal) (lvV_ok n m goal hn hm))
def leaveG : List Value → Option (Prop × Value) := fun args => match args with
  | [lv, .int .i64 m] => some (lv = lgV (fN (aggC lv)) (fT (aggC lv)) ∧ (1 ≤ fN (aggC lv) ∧ fN (aggC lv) ≤ 8) ∧ 0 ≤ m ∧ m ≤ 8, vi (leaveS (fN (aggC lv)).toNat (fT (aggC lv)) m.toNat))
  | _ => none
theorem vi_plain {n : Int} : Plain (vi n) := ⟨fun σ => by simp [nmap, nmap2, nmap1, nmap0], fun m => by simp [sc, sc2, sc1, sc0], fun p => by simp [nm, nm2, nm1, nm0]⟩
theorem lgV_plain {n : Int} {tk : Nat → Bool} : Plain (lgV n tk) := ⟨fun σ => lgV_nmap, fun m => lgV_sc, fun p => by simp [lgV, lgC, T8, nm, nm2, nm1, nm0]⟩
theorem leaveG_ok : ∀ args H φ v H' l, plainG leaveG args H = some (φ, v, H', l) → Asks φ → Call Try.prog 69 args H (fun v' H2 => v' = v ∧ H2 = H') ∧ Kept H H' l :=
  plainG_ok fun args φ v hs hφ => by
    unfold leaveG at hs
    split at hs <;> cases hs
    rename_i lv m
    obtain ⟨h1, ⟨h2, h3⟩, h4, h5⟩ := hφ
    generalize fT (aggC lv) = tk at *
    obtain ⟨k, hk⟩ := Int.eq_ofNat_of_zero_le h4
    obtain ⟨n, hn⟩ := Int.eq_ofNat_of_zero_le (show 0 ≤ fN (aggC lv) by omega)
    rw [hn] at h1 h2 h3 ⊢
    subst hk
    subst h1
    exact ⟨mem_two lgV_plain vi_plain, vi_plain, leave_call n k tk (by omega) (by omega)⟩

end Go.Pier.Lg

set_option maxRecDepth 100000
set_option linter.unusedVariables false
set_option linter.unusedSimpArgs false
namespace Go.Pier.Lg
open Go Go.Pier Go.Proofs 
def boolsOf : List Value → List Bool
  | [] => []
  | .bool b :: r => b :: boolsOf r
  | _ :: r => false :: boolsOf r
def bAt : List Bool → Nat → Bool
  | [], _ => false
  | b :: _, 0 => b
  | _ :: r, i + 1 => bAt r i
def forceI : Int → Value
  | .ofNat k => vi (.ofNat k)
  | .negSucc k => vi (.negSucc k)
def leaveT : List Value → Heap → Option (Value × Heap × List Nat) := fun args H => match args with
  | [.agg cs, .int .i64 m] => match cs.toList with
    | [.int .i64 n, .bool a0, .bool a1, .bool a2, .bool a3, .bool a4, .bool a5, .bool a6, .bool a7] =>
      match decide (1 ≤ n) && (decide (n ≤ 8) && (decide (0 ≤ m) && decide (m ≤ 8))) with
      | true => some (forceI (leaveS n.toNat (bAt [a0, a1, a2, a3, a4, a5, a6, a7]) m.toNat), H, [])
      | false => none
    | _ => none
  | _ => none
noncomputable def tl : Tbl := fun f => match Nat.beq f 69 with | true => some leaveT | false => none


theorem forceI_eq {i : Int} : forceI i = vi i := by cases i <;> rfl
theorem leaveT_ok {args : List Value} {H H' : Heap} {v : Value} {l : List Nat} (h : leaveT args H = some (v, H', l)) : Call Try.prog 69 args H (fun v' H2 => v' = v ∧ H2 = H') ∧ Kept H H' l := by
  unfold leaveT at h
  split at h <;> try (cases h; done)
  rename_i cs m
  split at h <;> try (cases h; done)
  rename_i n a0 a1 a2 a3 a4 a5 a6 a7 hc
  split at h <;> cases h
  rename_i hd
  simp only [Bool.and_eq_true, decide_eq_true_eq] at hd
  obtain ⟨h1, h2, h3, h4⟩ := hd
  obtain ⟨n, rfl⟩ := Int.eq_ofNat_of_zero_le (show 0 ≤ n by omega)
  obtain ⟨m, rfl⟩ := Int.eq_ofNat_of_zero_le h3
  rw [forceI_eq]
  have e : Value.agg cs = lgV n (bAt [a0, a1, a2, a3, a4, a5, a6, a7]) := by
    have : cs = (lgC n (bAt [a0, a1, a2, a3, a4, a5, a6, a7])).toArray := by
      rw [← Array.toList_inj, hc]; rfl
    rw [this]; rfl
  rw [e]
  generalize bAt [a0, a1, a2, a3, a4, a5, a6, a7] = tk
  exact plainG_ok (f := 69) (s := fun args => match args with | [lv, .int .i64 q] => some (lv = lgV n tk ∧ q = m, vi (leaveS n tk m)) | _ => none) (fun args φ v hs hφ => by
    split at hs <;> cases hs
    rename_i lv q
    rw [hφ.1, hφ.2]
    exact ⟨mem_two lgV_plain vi_plain, vi_plain, leave_call n m tk (by omega) (by omega)⟩) _ _ (some (lgV n tk = lgV n tk ∧ (m : Int) = m)) _ _ _ rfl ⟨rfl, rfl⟩
theorem tl_ok : TblOk Try.prog tl := by
  intro f g hg args H v H' l h
  unfold tl at hg
  split at hg
  · rename_i hf
    cases hg
    rw [Nat.eq_of_beq_eq_true hf]
    exact leaveT_ok h
  · cases hg

end Go.Pier.Lg

