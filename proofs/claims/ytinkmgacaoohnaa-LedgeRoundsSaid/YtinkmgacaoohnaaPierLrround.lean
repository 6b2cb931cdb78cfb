import Derived.Test.YtinkmgacaoohnaaPierMR4
import Derived.Test.YtinkmgacaoohnaaPierMR6
import Derived.KernelRfl
set_option linter.unusedSimpArgs false
set_option linter.unusedVariables false
set_option maxRecDepth 100000
set_option linter.unusedVariables false
set_option linter.unusedSimpArgs false
namespace Go.Pier.Lg
open Go Go.Pier Go.Proofs
noncomputable def roB : Code := Try.f76.body.getD .skip
noncomputable def roE : VEnv := { ct := Ct.none.add 45 hasG }
def roS (n : Nat) (l : List Int) (i : Nat) : PS := stI true n emp l i
def roI2 (n : Nat) (l : List Int) (c : Nat) (i : Nat) : LInv := LInv.one Nat (fun j => j ≤ farR n (roS n l i).tk (l.getD i 0).toNat)
  (fun j => [(0, vi n), (1, .slice (some ⟨0,0,none⟩) l.length c), (6, newS 1 i), (7, vi ((roS n l i).slid + j)), (8, vi i), (9, vi ((((l.getD i 0).toNat + j) % n : Nat) : Int))])
  (fun _ => [ros l, rws (roS n l i).lies]) (fun j => n - j)
def roI1 (n : Nat) (l : List Int) (c : Nat) : LInv := LInv.one Unit (fun _ => True)
  (fun _ => [(0, vi n), (1, .slice (some ⟨0,0,none⟩) l.length c), (6, nilS), (7, vi 0), (8, vi 0), (9, vi (l.getD 0 0))]) (fun _ => [ros l]) (fun _ => 0)
def roI (n : Nat) (l : List Int) (c : Nat) : Nat → Option LInv := invOf 0 (.mk [
      ⟨Unit, fun _ => True, fun _ => [(0, vi n), (1, .slice (some ⟨0,0,none⟩) l.length c), (6, nilS), (7, vi 0), (8, vi 0)], fun _ => [ros l], fun _ => 20, fun _ => invOf 2 (roI1 n l c)⟩,
      ⟨Nat, fun i => 0 < i ∧ i ≤ l.length, fun i => [(0, vi n), (1, .slice (some ⟨0,0,none⟩) l.length c), (6, newS 1 i), (7, vi (roS n l i).slid), (8, vi i)], fun i => [ros l, rws (roS n l i).lies], fun i => l.length - i, fun i => invOf 2 (roI2 n l c i)⟩]
    (fun _ b => b) (fun i _ => [nsub 1 (i + 2)]))
noncomputable def roV_s0 (n : Nat) (l : List Int) (c : Nat) := (List.map (Value.int IntKind.i64) l)
noncomputable def roV_s1 (n : Nat) (l : List Int) (c : Nat) (xq : Nat) := (List.map (Value.int IntKind.i64) (roS n l xq).lies)
noncomputable def roV :=
fun (n : Nat) (l : List Int) (c : Nat) ↦ ((∃ (y : Unit), Ob True ∧ (Ob (AObj.ro (roV_s0 n l c) = AObj.ro (List.map (nmap1 fun (b : Nat) ↦ b) (roV_s0 n l c)) ∧ AObj.sc (1 : Nat) (AObj.ro (roV_s0 n l c)) = true) ∧ True) ∧ Ob ((↑n : Int) = (↑n : Int)) ∧ Ob (Value.slice (some (ad0 0)) l.length c = Value.slice (some (ad0 0)) l.length c) ∧ Ob (Value.slice none (0 : Nat) (0 : Nat) = Value.slice none (0 : Nat) (0 : Nat)) ∧ Ob ((0 : Int) = (0 : Int)) ∧ Ob ((0 : Int) = (0 : Int)) ∧ True) ∨ ∃ (yq : Nat), Ob ((0 : Nat) < yq ∧ yq ≤ l.length) ∧ (Ob (AObj.ro (roV_s0 n l c) = AObj.ro (List.map (nmap1 fun (b : Nat) ↦ b) (roV_s0 n l c)) ∧ AObj.sc (2 : Nat) (AObj.ro (roV_s0 n l c)) = true) ∧ False) ∧ Ob ((↑n : Int) = (↑n : Int)) ∧ Ob (Value.slice (some (ad0 0)) l.length c = Value.slice (some (ad0 0)) l.length c) ∧ Ob (Value.slice none (0 : Nat) (0 : Nat) = Value.slice (some { block := (1 : Nat), off := (0 : Nat), spot := some (0 : Nat) }) yq (0 : Nat)) ∧ Ob ((0 : Int) = (roS n l yq).slid) ∧ Ob ((0 : Int) = (↑yq : Int)) ∧ True) ∧ (∀ (x : Unit), Ob True → (decide ((0 : Int) < (↑l.length : Int)) = true → Ob ((0 : Int) ≤ (0 : Int) ∧ (0 : Int) < (↑l.length : Int) ∧ true = true) ∧ Ob (IntAt IntKind.i64 (roV_s0 n l c) (0 : Nat)) ∧ (∃ (y : Unit), Ob True ∧ (Ob (AObj.ro (roV_s0 n l c) = AObj.ro (List.map (nmap1 fun (b : Nat) ↦ b) (roV_s0 n l c)) ∧ AObj.sc (1 : Nat) (AObj.ro (roV_s0 n l c)) = true) ∧ True) ∧ Ob ((↑n : Int) = (↑n : Int)) ∧ Ob (Value.slice (some (ad0 0)) l.length c = Value.slice (some (ad0 0)) l.length c) ∧ Ob (Value.slice none (0 : Nat) (0 : Nat) = Value.slice none (0 : Nat) (0 : Nat)) ∧ Ob ((0 : Int) = (0 : Int)) ∧ Ob ((0 : Int) = (0 : Int)) ∧ Ob (getI (roV_s0 n l c) (0 : Nat) = l.getD (0 : Nat) (0 : Int)) ∧ True) ∧ ∀ (x : Unit), Ob True → (false = true → Ob ((↑n : Int) ≠ (0 : Int)) ∧ ∃ (y : Unit), Ob True ∧ Ob ((0 : Nat) < (0 : Nat)) ∧ (Ob (AObj.ro (roV_s0 n l c) = AObj.ro (List.map (nmap1 fun (b : Nat) ↦ b) (roV_s0 n l c)) ∧ AObj.sc (1 : Nat) (AObj.ro (roV_s0 n l c)) = true) ∧ True) ∧ Ob ((↑n : Int) = (↑n : Int)) ∧ Ob (Value.slice (some (ad0 0)) l.length c = Value.slice (some (ad0 0)) l.length c) ∧ Ob (Value.slice none (0 : Nat) (0 : Nat) = Value.slice none (0 : Nat) (0 : Nat)) ∧ Ob (IntKind.i64.wrap ((0 : Int) + (1 : Int)) = (0 : Int)) ∧ Ob ((0 : Int) = (0 : Int)) ∧ Ob ((IntKind.i64.wrap (l.getD (0 : Nat) (0 : Int) + (1 : Int))).tmod (↑n : Int) = l.getD (0 : Nat) (0 : Int)) ∧ True) ∧ (false = false → Ob (andP (some ((0 : Nat) + (1 : Nat) ≤ (1 : Nat) ∧ true = true)) ((1 : Nat) ≤ (1099511627776 : Nat) ∧ (2064 : Nat) ≤ (281474976710656 : Nat) ∧ (1 : Nat) = (1 : Nat) ∧ (0 : Nat) = (0 : Nat) ∧ (0 : Nat) < (1 : Nat))) ∧ ((∃ (y : Unit), Ob True ∧ Ob ((20 : Nat) < (20 : Nat)) ∧ (Ob (AObj.ro (roV_s0 n l c) = AObj.ro (List.map (nmap1 (nsub (1 : Nat) (2 : Nat))) (roV_s0 n l c)) ∧ AObj.sc (1 : Nat) (AObj.ro (roV_s0 n l c)) = true) ∧ True) ∧ Ob ((↑n : Int) = (↑n : Int)) ∧ Ob (Value.slice (some (ad0 0)) l.length c = Value.slice (some (ad0 0)) l.length c) ∧ Ob (Value.slice (some { block := (2 : Nat), off := (0 : Nat), spot := some (0 : Nat) }) (1 : Nat) (0 : Nat) = Value.slice none (0 : Nat) (0 : Nat)) ∧ Ob ((0 : Int) = (0 : Int)) ∧ Ob (IntKind.i64.wrap ((0 : Int) + (1 : Int)) = (0 : Int)) ∧ True) ∨ ∃ (yqq : Nat), Ob ((0 : Nat) < yqq ∧ yqq ≤ l.length) ∧ Ob (l.length - yqq < (20 : Nat)) ∧ (Ob (AObj.ro (roV_s0 n l c) = AObj.ro (List.map (nmap1 (nsub (1 : Nat) (2 : Nat))) (roV_s0 n l c)) ∧ AObj.sc (2 : Nat) (AObj.ro (roV_s0 n l c)) = true) ∧ Ob (AObj.rw [vi (l.getD (0 : Nat) (0 : Int))] (some (1 : Nat)) = AObj.rw (List.map (nmap1 (nsub (1 : Nat) (2 : Nat))) (List.map (Value.int IntKind.i64) (roS n l yqq).lies)) (some (1 : Nat)) ∧ AObj.sc (2 : Nat) (AObj.rw (List.map (Value.int IntKind.i64) (roS n l yqq).lies) (some (1 : Nat))) = true) ∧ True) ∧ Ob ((↑n : Int) = (↑n : Int)) ∧ Ob (Value.slice (some (ad0 0)) l.length c = Value.slice (some (ad0 0)) l.length c) ∧ Ob (Value.slice (some { block := (2 : Nat), off := (0 : Nat), spot := some (0 : Nat) }) (1 : Nat) (0 : Nat) = Value.slice (some { block := (2 : Nat), off := (0 : Nat), spot := some (0 : Nat) }) yqq (0 : Nat)) ∧ Ob ((0 : Int) = (roS n l yqq).slid) ∧ Ob (IntKind.i64.wrap ((0 : Int) + (1 : Int)) = (↑yqq : Int)) ∧ True))) ∧ (decide ((0 : Int) < (↑l.length : Int)) = false → True ∧ Ob (Value.tuple { toList := [Value.slice none (0 : Nat) (0 : Nat), vi (0 : Int)] } = Value.tuple { toList := [Value.slice (some { block := (1 : Nat), off := (0 : Nat), spot := some (0 : Nat) }) l.length (0 : Nat), vi (roS n l l.length).slid] } ∧ [AObj.ro (roV_s0 n l c)] = [AObj.ro (roV_s0 n l c), AObj.rw (List.map (Value.int IntKind.i64) (roS n l l.length).lies) (some (1 : Nat))]))) ∧ ∀ (xq : Nat), Ob ((0 : Nat) < xq ∧ xq ≤ l.length) → (decide ((↑xq : Int) < (↑l.length : Int)) = true → Ob ((0 : Int) ≤ (↑xq : Int) ∧ (↑xq : Int) < (↑l.length : Int) ∧ true = true) ∧ Ob (IntAt IntKind.i64 (roV_s0 n l c) ((0 : Nat) + (↑xq : Int).toNat * (1 : Nat))) ∧ (∃ (yqqq : Nat), Ob (yqqq ≤ farR n (roS n l xq).tk (l.getD xq (0 : Int)).toNat) ∧ (Ob (AObj.ro (roV_s0 n l c) = AObj.ro (List.map (nmap1 fun (b : Nat) ↦ b) (roV_s0 n l c)) ∧ AObj.sc (2 : Nat) (AObj.ro (roV_s0 n l c)) = true) ∧ Ob (AObj.rw (roV_s1 n l c xq) (some (1 : Nat)) = AObj.rw (List.map (nmap1 fun (b : Nat) ↦ b) (roV_s1 n l c xq)) (some (1 : Nat)) ∧ AObj.sc (2 : Nat) (AObj.rw (roV_s1 n l c xq) (some (1 : Nat))) = true) ∧ True) ∧ Ob ((↑n : Int) = (↑n : Int)) ∧ Ob (Value.slice (some (ad0 0)) l.length c = Value.slice (some (ad0 0)) l.length c) ∧ Ob (Value.slice (some { block := (1 : Nat), off := (0 : Nat), spot := some (0 : Nat) }) xq (0 : Nat) = Value.slice (some { block := (1 : Nat), off := (0 : Nat), spot := some (0 : Nat) }) xq (0 : Nat)) ∧ Ob ((roS n l xq).slid = (roS n l xq).slid + (↑yqqq : Int)) ∧ Ob ((↑xq : Int) = (↑xq : Int)) ∧ Ob (getI (roV_s0 n l c) ((0 : Nat) + (↑xq : Int).toNat * (1 : Nat)) = (↑(((l.getD xq (0 : Int)).toNat + yqqq) % n) : Int)) ∧ True) ∧ ∀ (x_1 : Nat), Ob (x_1 ≤ farR n (roS n l xq).tk (l.getD xq (0 : Int)).toNat) → Ob ((List.take xq (List.drop (0 : Nat) (roV_s1 n l c xq)) = List.map (Value.int IntKind.i64) (List.take xq (List.drop (0 : Nat) (intsOf (roV_s1 n l c xq)))) ∧ (0 : Nat) + xq ≤ (roV_s1 n l c xq).length ∧ true = true) ∧ (List.take xq (List.drop (0 : Nat) (intsOf (roV_s1 n l c xq)))).length < (1000000 : Nat)) ∧ (decide ((↑(((l.getD xq (0 : Int)).toNat + x_1) % n) : Int) ∈ List.take xq (List.drop (0 : Nat) (intsOf (roV_s1 n l c xq)))) = true → Ob ((↑n : Int) ≠ (0 : Int)) ∧ ∃ (yqqqq : Nat), Ob (yqqqq ≤ farR n (roS n l xq).tk (l.getD xq (0 : Int)).toNat) ∧ Ob (n - yqqqq < n - x_1) ∧ (Ob (AObj.ro (roV_s0 n l c) = AObj.ro (List.map (nmap1 fun (b : Nat) ↦ b) (roV_s0 n l c)) ∧ AObj.sc (2 : Nat) (AObj.ro (roV_s0 n l c)) = true) ∧ Ob (AObj.rw (roV_s1 n l c xq) (some (1 : Nat)) = AObj.rw (List.map (nmap1 fun (b : Nat) ↦ b) (roV_s1 n l c xq)) (some (1 : Nat)) ∧ AObj.sc (2 : Nat) (AObj.rw (roV_s1 n l c xq) (some (1 : Nat))) = true) ∧ True) ∧ Ob ((↑n : Int) = (↑n : Int)) ∧ Ob (Value.slice (some (ad0 0)) l.length c = Value.slice (some (ad0 0)) l.length c) ∧ Ob (Value.slice (some { block := (1 : Nat), off := (0 : Nat), spot := some (0 : Nat) }) xq (0 : Nat) = Value.slice (some { block := (1 : Nat), off := (0 : Nat), spot := some (0 : Nat) }) xq (0 : Nat)) ∧ Ob (IntKind.i64.wrap ((roS n l xq).slid + (↑x_1 : Int) + (1 : Int)) = (roS n l xq).slid + (↑yqqqq : Int)) ∧ Ob ((↑xq : Int) = (↑xq : Int)) ∧ Ob ((IntKind.i64.wrap ((↑(((l.getD xq (0 : Int)).toNat + x_1) % n) : Int) + (1 : Int))).tmod (↑n : Int) = (↑(((l.getD xq (0 : Int)).toNat + yqqqq) % n) : Int)) ∧ True) ∧ (decide ((↑(((l.getD xq (0 : Int)).toNat + x_1) % n) : Int) ∈ List.take xq (List.drop (0 : Nat) (intsOf (roV_s1 n l c xq)))) = false → Ob (andP (some ((0 : Nat) + (1 : Nat) ≤ (1 : Nat) ∧ true = true)) (xq + (1 : Nat) ≤ (1099511627776 : Nat) ∧ ((2 : Nat) * (xq + (1 : Nat)) + (256 : Nat)) * (8 : Nat) ≤ (281474976710656 : Nat) ∧ (1 : Nat) = (1 : Nat) ∧ (roV_s1 n l c xq).length = xq * (1 : Nat))) ∧ ((∃ (y : Unit), Ob True ∧ Ob ((20 : Nat) < l.length - xq) ∧ (Ob (AObj.ro (roV_s0 n l c) = AObj.ro (List.map (nmap1 (nsub (1 : Nat) (3 : Nat))) (roV_s0 n l c)) ∧ AObj.sc (1 : Nat) (AObj.ro (roV_s0 n l c)) = true) ∧ True) ∧ Ob ((↑n : Int) = (↑n : Int)) ∧ Ob (Value.slice (some (ad0 0)) l.length c = Value.slice (some (ad0 0)) l.length c) ∧ Ob (Value.slice (some { block := (3 : Nat), off := (0 : Nat), spot := some (0 : Nat) }) (xq + (1 : Nat)) (0 : Nat) = Value.slice none (0 : Nat) (0 : Nat)) ∧ Ob ((roS n l xq).slid + (↑x_1 : Int) = (0 : Int)) ∧ Ob (IntKind.i64.wrap ((↑xq : Int) + (1 : Int)) = (0 : Int)) ∧ True) ∨ ∃ (yqqqqq : Nat), Ob ((0 : Nat) < yqqqqq ∧ yqqqqq ≤ l.length) ∧ Ob (l.length - yqqqqq < l.length - xq) ∧ (Ob (AObj.ro (roV_s0 n l c) = AObj.ro (List.map (nmap1 (nsub (1 : Nat) (3 : Nat))) (roV_s0 n l c)) ∧ AObj.sc (2 : Nat) (AObj.ro (roV_s0 n l c)) = true) ∧ Ob (AObj.rw (List.map (Value.int IntKind.i64) (roS n l xq).lies ++ [vi (↑(((l.getD xq (0 : Int)).toNat + x_1) % n) : Int)]) (some (1 : Nat)) = AObj.rw (List.map (nmap1 (nsub (1 : Nat) (3 : Nat))) (List.map (Value.int IntKind.i64) (roS n l yqqqqq).lies)) (some (1 : Nat)) ∧ AObj.sc (2 : Nat) (AObj.rw (List.map (Value.int IntKind.i64) (roS n l yqqqqq).lies) (some (1 : Nat))) = true) ∧ True) ∧ Ob ((↑n : Int) = (↑n : Int)) ∧ Ob (Value.slice (some (ad0 0)) l.length c = Value.slice (some (ad0 0)) l.length c) ∧ Ob (Value.slice (some { block := (3 : Nat), off := (0 : Nat), spot := some (0 : Nat) }) (xq + (1 : Nat)) (0 : Nat) = Value.slice (some { block := (3 : Nat), off := (0 : Nat), spot := some (0 : Nat) }) yqqqqq (0 : Nat)) ∧ Ob ((roS n l xq).slid + (↑x_1 : Int) = (roS n l yqqqqq).slid) ∧ Ob (IntKind.i64.wrap ((↑xq : Int) + (1 : Int)) = (↑yqqqqq : Int)) ∧ True))) ∧ (decide ((↑xq : Int) < (↑l.length : Int)) = false → True ∧ Ob (Value.tuple { toList := [Value.slice (some { block := (1 : Nat), off := (0 : Nat), spot := some (0 : Nat) }) xq (0 : Nat), vi (roS n l xq).slid] } = Value.tuple { toList := [Value.slice (some { block := (1 : Nat), off := (0 : Nat), spot := some (0 : Nat) }) l.length (0 : Nat), vi (roS n l l.length).slid] } ∧ [AObj.ro (roV_s0 n l c), AObj.rw (roV_s1 n l c xq) (some (1 : Nat))] = [AObj.ro (roV_s0 n l c), AObj.rw (List.map (Value.int IntKind.i64) (roS n l l.length).lies) (some (1 : Nat))]))
theorem roV_eq : roV = fun (n : Nat) (l : List Int) (c : Nat) => vc Try.prog roE 1 35 true (roI n l c) roB [] (argFr 0 [vi n, .slice (some ⟨0,0,none⟩) l.length c]) [ros l] (retK Try.prog Try.f76 (fun v H1 => v = .tuple #[newS 1 l.length, vi (roS n l l.length).slid] ∧ H1 = [ros l, rws (roS n l l.length).lies])) := by kernel_rfl
theorem ro_full {n : Nat} {l : List Int} (h : l.length ≤ n) : fullN n (runP true n emp l).tk = l.length := by
  have key : ∀ (l : List Int) (s : PS), fullN n s.tk + l.length ≤ n → fullN n (l.foldl (stepP true n) s).tk = fullN n s.tk + l.length := by
    intro l
    induction l with
    | nil => exact fun _ _ => rfl
    | cons y l ih =>
      intro s hs
      rw [List.length_cons] at hs
      have k := coreR_step (n := n) (s := s) (d := y) (by omega)
      have f1 : (stepP true n s y).tk = (stepR n (coreR s) y.toNat).1 := congrArg Prod.fst k.1
      have f2 : fullN n (stepP true n s y).tk = fullN n s.tk + 1 := by rw [f1, stepR_full (s := coreR s) (show fullN n s.tk < n by omega)]; rfl
      rw [List.foldl_cons, ih _ (by omega), f2, List.length_cons]; omega
  have := key l ⟨emp, [], 0, 0⟩ (by show fullN n emp + _ ≤ n; rw [fullN_emp]; omega)
  rw [show (runP true n emp l) = l.foldl (stepP true n) ⟨emp, [], 0, 0⟩ from rfl, this]
  show fullN n emp + _ = _
  rw [fullN_emp, Nat.zero_add]
structure RoAt (n : Nat) (l : List Int) (i : Nat) : Prop where
  len : (roS n l i).lies.length = i
  slid : 0 ≤ (roS n l i).slid ∧ (roS n l i).slid ≤ n * i
  far : farR n (roS n l i).tk (l.getD i 0).toNat < n
  has : ∀ j, (((((l.getD i 0).toNat + j) % n : Nat) : Int) ∈ (roS n l i).lies ↔ (roS n l i).tk (((l.getD i 0).toNat + j) % n) = true)
  succ : roS n l (i + 1) = stepP true n (roS n l i) (l.getD i 0)
  lies : (roS n l (i + 1)).lies = (roS n l i).lies ++ [(endR n (roS n l i).tk (l.getD i 0).toNat : Int)]
  sl : (roS n l (i + 1)).slid = (roS n l i).slid + (farR n (roS n l i).tk (l.getD i 0).toNat : Int)
theorem ro_at {n : Nat} {l : List Int} {i : Nat} (hn : 1 ≤ n) (hb : ∀ x ∈ l, 0 ≤ x ∧ x < (n : Int)) (hlen : l.length ≤ n) (hi : i < l.length) : RoAt n l i := by
  have hbd := stI_bd (ar := true) (tk := emp) hb (i := i) (by omega)
  obtain ⟨h1, h2, h3, _, _⟩ := hbd
  have htl : (l.take i).length = i := by rw [List.length_take]; omega
  have hf : fullN n (roS n l i).tk < n := by
    have : fullN n (runP true n emp (l.take i)).tk = (l.take i).length := ro_full (by omega)
    show fullN n (runP true n emp (l.take i)).tk < n
    omega
  have k := coreR_step (n := n) (s := roS n l i) (d := l.getD i 0) hf
  have hs : roS n l (i + 1) = stepP true n (roS n l i) (l.getD i 0) := stI_succ hi
  have f2 : (stepP true n (roS n l i) (l.getD i 0)).slid = (roS n l i).slid + (farR n (roS n l i).tk (l.getD i 0).toNat : Int) := congrArg Prod.snd k.1
  exact ⟨h1, ⟨h2, h3⟩, farR_lt hf, fun j => (round_has (l := l.take i) (by omega) _ (Nat.mod_lt _ (by omega))).symm, hs, by rw [hs]; exact k.2.2, by rw [hs]; exact f2⟩
theorem roV_ok (n : Nat) (l : List Int) (c : Nat) (hn : 1 ≤ n ∧ n ≤ 8) (hl : 0 < l.length) (hb : ∀ x ∈ l, 0 ≤ x ∧ x < (n : Int)) (hlen : l.length ≤ n) : roV n l c := by
  have hg : ∀ x, x < l.length → 0 ≤ l.getD x 0 ∧ l.getD x 0 < (n : Int) := fun x hx => hb _ (ints_mem hx)
  have hg0 := hg 0 hl
  have A0 := ro_at hn.1 hb hlen hl
  have z : roS n l 0 = ⟨emp, [], 0, 0⟩ := rfl
  have far0 : farR n emp (l.getD 0 0).toNat = 0 := farR_eq (by omega) (fun j hj => absurd hj (Nat.not_lt_zero _)) rfl
  unfold roV roV_s1 roV_s0
  simp only [SS, reduceCtorEq, Arg.list, Arg.num, Arg.flag, intOf, andP, Nat.reduceLeDiff, Nat.reduceAdd, Nat.reduceMul, Nat.reduceLT]
  refine ⟨⟨fun _ => ⟨⟨by omega, by omega⟩, hl, 1, ⟨by omega, by omega⟩, by omega, ?_, rfl, ?_, ?_⟩, fun h => absurd hl (by omega)⟩, fun x hx => ⟨fun h1 => ?_, fun h1 => ?_⟩⟩
  · rw [A0.lies, z]
    unfold endR
    rw [far0, Nat.add_zero, Nat.mod_eq_of_lt (by omega)]
    show [vi _] = [vi _]
    rw [show (((l.getD 0 0).toNat : Nat) : Int) = l.getD 0 0 by omega]
  · rw [A0.sl, z]
    show 0 = (0 : Int) + _
    rw [far0]; rfl
  · rw [wrap_in (by omega) (by omega)]; rfl
  · obtain ⟨len, slid, far, has, succ, lies, sl⟩ := ro_at hn.1 hb hlen (show x < l.length by omega)
    have hgx := hg x (by omega)
    have s8 : (n : Int) * x ≤ 64 := by
      have : (n : Int) * x ≤ 8 * 8 := Int.mul_le_mul (by omega) (by omega) (by omega) (by omega)
      omega
    have tk : List.take x (roS n l x).lies = (roS n l x).lies := List.take_of_length_le (by omega)
    obtain ⟨_, f2, f3⟩ := farR_spec (n := n) (tk := (roS n l x).tk) (d := (l.getD x 0).toNat)
    refine ⟨⟨by omega, by omega⟩, by omega, ⟨0, Nat.zero_le _, by omega, ?_⟩, fun j hj => ?_⟩
    · rw [Nat.add_zero, Nat.mod_eq_of_lt (by omega)]; omega
    · rw [← List.map_take, tk, has]
      have hm := Nat.mod_lt ((l.getD x 0).toNat + j) (show 0 < n by omega)
      refine ⟨⟨⟨rfl, by omega⟩, by omega⟩, fun h => ⟨by omega, j + 1, ?_, by omega, ?_, ?_⟩, fun h => ⟨⟨by omega, by omega, len⟩, x + 1, ⟨by omega, by omega⟩, by omega, ?_, rfl, ?_, ?_⟩⟩
      · rcases Nat.eq_or_lt_of_le hj with e | e
        · subst e
          rw [f3 far] at h; cases h
        · exact e
      · rw [wrap_in (by omega) (by omega)]; push_cast; omega
      · rw [wrap_in (by omega) (by omega), Int.tmod_eq_emod_of_nonneg (by omega), ← Int.natCast_one, ← Int.natCast_add, ← Int.natCast_emod, Nat.mod_add_mod, Nat.add_assoc]
      · rcases Nat.eq_or_lt_of_le hj with e | e
        · rw [lies, e]; rfl
        · exact absurd (f2 j e) h
      · rcases Nat.eq_or_lt_of_le hj with e | e
        · rw [sl, e]
        · exact absurd (f2 j e) h
      · rw [wrap_in (by omega) (by omega)]; rfl
  · rw [show x = l.length by omega]
    exact ⟨rfl, rfl⟩
end Go.Pier.Lg
