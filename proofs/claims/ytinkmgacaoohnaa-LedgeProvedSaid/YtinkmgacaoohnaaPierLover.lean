import Derived.Test.YtinkmgacaoohnaaPierLoverm
import Derived.Test.YtinkmgacaoohnaaPierMB5
import Derived.KernelRfl
set_option linter.unusedSimpArgs false
set_option linter.unusedVariables false
set_option maxRecDepth 100000
set_option linter.unusedVariables false
set_option linter.unusedSimpArgs false
namespace Go.Pier.Lg
open Go Go.Pier Go.Proofs
noncomputable def prB : Code := Try.f57.body.getD .skip
noncomputable def coB : Code := Try.f26.body.getD .skip
noncomputable def ovB : Code := Try.f28.body.getD .skip
def ovI (n p : Int) (l : List Int) : Int := p - n + (l.filter fun x => decide (p ≤ x)).length
def prI (n p : Int) (l : List Int) (c : Nat) : Nat → Option LInv := invOf 0 (LInv.one Nat (fun i => i ≤ l.length) (fun i => [(2, vi p), (7, vi (ovI n p (l.take i))), (13, .slice (some ⟨0,0,none⟩) l.length c), (14, vi l.length), (15, vi i)]) (fun _ => [ros l]) (fun i => l.length - i))
def pr0I (n p : Int) (sv : Value) (H : Heap) : Nat → Option LInv := invOf 0 (LInv.one Unit (fun _ => True) (fun _ => [(2, vi p), (7, vi (p - n)), (13, sv), (14, vi 0), (15, vi 0)]) (fun _ => H) (fun _ => 0))
noncomputable def prV_s0 (n p : Int) (l : List Int) (c : Nat) := (List.map (Value.int IntKind.i64) l)
noncomputable def prV :=
fun (n p : Int) (l : List Int) (c : Nat) ↦ (∃ (y : Nat), Ob (y ≤ l.length) ∧ (Ob (AObj.ro (prV_s0 n p l c) = AObj.ro (List.map (nmap1 fun (b : Nat) ↦ b) (prV_s0 n p l c)) ∧ AObj.sc (1 : Nat) (AObj.ro (prV_s0 n p l c)) = true) ∧ True) ∧ Ob (p = p) ∧ Ob (IntKind.i64.wrap (p - n) = ovI n p (List.take y l)) ∧ Ob (Value.slice (some (ad0 0)) l.length c = Value.slice (some (ad0 0)) l.length c) ∧ Ob ((↑l.length : Int) = (↑l.length : Int)) ∧ Ob ((0 : Int) = (↑y : Int)) ∧ True) ∧ ∀ (x : Nat), Ob (x ≤ l.length) → (decide ((↑x : Int) < (↑l.length : Int)) = true → Ob ((0 : Int) ≤ (↑x : Int) ∧ (↑x : Int) < (↑l.length : Int) ∧ true = true) ∧ Ob (IntAt IntKind.i64 (prV_s0 n p l c) ((0 : Nat) + (↑x : Int).toNat * (1 : Nat))) ∧ (decide (p ≤ getI (prV_s0 n p l c) ((0 : Nat) + (↑x : Int).toNat * (1 : Nat))) = true → ∃ (y : Nat), Ob (y ≤ l.length) ∧ Ob (l.length - y < l.length - x) ∧ (Ob (AObj.ro (prV_s0 n p l c) = AObj.ro (List.map (nmap1 fun (b : Nat) ↦ b) (prV_s0 n p l c)) ∧ AObj.sc (1 : Nat) (AObj.ro (prV_s0 n p l c)) = true) ∧ True) ∧ Ob (p = p) ∧ Ob (IntKind.i64.wrap (ovI n p (List.take x l) + (1 : Int)) = ovI n p (List.take y l)) ∧ Ob (Value.slice (some (ad0 0)) l.length c = Value.slice (some (ad0 0)) l.length c) ∧ Ob ((↑l.length : Int) = (↑l.length : Int)) ∧ Ob (IntKind.i64.wrap ((↑x : Int) + (1 : Int)) = (↑y : Int)) ∧ True) ∧ (decide (p ≤ getI (prV_s0 n p l c) ((0 : Nat) + (↑x : Int).toNat * (1 : Nat))) = false → ∃ (y : Nat), Ob (y ≤ l.length) ∧ Ob (l.length - y < l.length - x) ∧ (Ob (AObj.ro (prV_s0 n p l c) = AObj.ro (List.map (nmap1 fun (b : Nat) ↦ b) (prV_s0 n p l c)) ∧ AObj.sc (1 : Nat) (AObj.ro (prV_s0 n p l c)) = true) ∧ True) ∧ Ob (p = p) ∧ Ob (ovI n p (List.take x l) = ovI n p (List.take y l)) ∧ Ob (Value.slice (some (ad0 0)) l.length c = Value.slice (some (ad0 0)) l.length c) ∧ Ob ((↑l.length : Int) = (↑l.length : Int)) ∧ Ob (IntKind.i64.wrap ((↑x : Int) + (1 : Int)) = (↑y : Int)) ∧ True)) ∧ (decide ((↑x : Int) < (↑l.length : Int)) = false → True ∧ Ob (vi (ovI n p (List.take x l)) = vi (ovI n p l)))
theorem prV_eq : prV = fun (n p : Int) (l : List Int) (c : Nat) => vc Try.prog {} 1 26 true (prI n p l c) prB [] (argFr 0 [vi n, .slice (some ⟨0,0,none⟩) l.length c, vi p]) [ros l] (retK Try.prog Try.f57 (fun v _ => v = vi (ovI n p l))) := by kernel_rfl
noncomputable def prN :=
fun (n p : Int) ↦ (∃ (y : Unit), Ob True ∧ True ∧ Ob (p = p) ∧ Ob (IntKind.i64.wrap (p - n) = p - n) ∧ Ob (Value.slice none (0 : Nat) (0 : Nat) = Value.slice none (0 : Nat) (0 : Nat)) ∧ Ob ((↑(0 : Nat) : Int) = (0 : Int)) ∧ Ob ((0 : Int) = (0 : Int)) ∧ True) ∧ ∀ (x : Unit), Ob True → (false = true → False) ∧ (false = false → True ∧ Ob (vi (p - n) = vi (ovI n p [])))
theorem prN_eq : prN = fun (n p : Int) => vc Try.prog {} 0 26 true (pr0I n p nilS []) prB [] (argFr 0 [vi n, nilS, vi p]) [] (retK Try.prog Try.f57 (fun v _ => v = vi (ovI n p []))) := by kernel_rfl
noncomputable def prH :=
fun (n p : Int) (s : Option Nat) (c : Nat) ↦ (∃ (y : Unit), Ob True ∧ True ∧ Ob (p = p) ∧ Ob (IntKind.i64.wrap (p - n) = p - n) ∧ Ob (Value.slice (some { block := (0 : Nat), off := (0 : Nat), spot := s }) (0 : Nat) c = Value.slice (some { block := (0 : Nat), off := (0 : Nat), spot := s }) (0 : Nat) c) ∧ Ob ((↑(0 : Nat) : Int) = (0 : Int)) ∧ Ob ((0 : Int) = (0 : Int)) ∧ True) ∧ ∀ (x : Unit), Ob True → (false = true → Ob ((0 : Int) ≤ (0 : Int) ∧ (0 : Int) < (↑(0 : Nat) : Int) ∧ std { block := (0 : Nat), off := (0 : Nat), spot := s } c = true) ∧ False) ∧ (false = false → True ∧ Ob (vi (p - n) = vi (ovI n p [])))
theorem prH_eq : prH = fun (n p : Int) (s : Option Nat) (c : Nat) => vc Try.prog {} 1 26 true (pr0I n p (.slice (some ⟨0,0,s⟩) 0 c) [.gone]) prB [] (argFr 0 [vi n, .slice (some ⟨0,0,s⟩) 0 c, vi p]) [.gone] (retK Try.prog Try.f57 (fun v _ => v = vi (ovI n p []))) := by kernel_rfl
def prS (r : List Arg) : Prop × Value := match r with
  | [n, l, p] => ((0 ≤ n.num ∧ n.num ≤ 8) ∧ (0 ≤ p.num ∧ p.num ≤ 8) ∧ l.list.length ≤ 12, vi (ovI n.num p.num l.list))
  | _ => (False, undef)
abbrev psB : List PK := [.int .i64, .ints .i64, .int .i64]
noncomputable def coE : VEnv := { ct := (Ct.none.add 23 (pureG psA cdS)).add 57 (pureG psB prS), cc := ccIn Try.prog cdE0 [⟨55, Try.f55, fun _ _ _ => none⟩] }
def coA (n p : Int) (l : List Int) : Array Value := #[vi (if errD n l = 0 ∧ 0 ≤ p ∧ p < n then ovI n p l else 0), vi (if errD n l = 0 then (if 0 ≤ p ∧ p < n then 0 else 2) else errD n l)]
def coF (n p : Int) (l : List Int) : Value := .tuple (coA n p l)
noncomputable def coV_s0 (n p : Int) (l : List Int) (c : Nat) := (List.take l.length (List.drop (0 : Nat) (intsOf (List.map (Value.int IntKind.i64) l))))
noncomputable def coV_s1 (n p : Int) (l : List Int) (c : Nat) : Array Value := { toList := [vi (if errD n l = (0 : Int) ∧ (0 : Int) ≤ p ∧ p < n then ovI n p l else (0 : Int)), vi (if errD n l = (0 : Int) then if (0 : Int) ≤ p ∧ p < n then (0 : Int) else (2 : Int) else errD n l)] }
noncomputable def coV :=
fun (n p : Int) (l : List Int) (c : Nat) ↦ Ob ((List.take l.length (List.drop (0 : Nat) (List.map (Value.int IntKind.i64) l)) = List.map (Value.int IntKind.i64) (coV_s0 n p l c) ∧ (0 : Nat) + l.length ≤ (List.map (Value.int IntKind.i64) l).length ∧ true = true) ∧ (Arg.ints IntKind.i64 (coV_s0 n p l c)).list.length ≤ (1000000 : Nat)) ∧ ((errD (Arg.plain (vi n)).num (Arg.ints IntKind.i64 (coV_s0 n p l c)).list != (0 : Int)) = true → True ∧ Ob (Value.tuple { toList := [vi (0 : Int), vi (errD (Arg.plain (vi n)).num (Arg.ints IntKind.i64 (coV_s0 n p l c)).list)] } = Value.tuple (coV_s1 n p l c))) ∧ ((errD (Arg.plain (vi n)).num (Arg.ints IntKind.i64 (coV_s0 n p l c)).list != (0 : Int)) = false → Ob (([vi p] = [vi (intOf (vi p))] ∧ (0 : Nat) + (1 : Nat) ≤ (1 : Nat) ∧ true = true) ∧ (1 : Nat) ≤ (1000000 : Nat)) ∧ ((!wiF (Arg.plain (vi (0 : Int))).num (Arg.plain (vi (IntKind.i64.wrap (n - (1 : Int))))).num [intOf (vi p)]) = true → True ∧ Ob (Value.tuple { toList := [vi (0 : Int), vi (2 : Int)] } = Value.tuple (coV_s1 n p l c))) ∧ ((!wiF (Arg.plain (vi (0 : Int))).num (Arg.plain (vi (IntKind.i64.wrap (n - (1 : Int))))).num [intOf (vi p)]) = false → Ob ((List.take l.length (List.drop (0 : Nat) (List.map (Value.int IntKind.i64) l)) = List.map (Value.int IntKind.i64) (coV_s0 n p l c) ∧ (0 : Nat) + l.length ≤ (List.map (Value.int IntKind.i64) l).length ∧ true = true) ∧ ((0 : Int) ≤ (Arg.plain (vi n)).num ∧ (Arg.plain (vi n)).num ≤ (8 : Int)) ∧ ((0 : Int) ≤ (Arg.plain (vi p)).num ∧ (Arg.plain (vi p)).num ≤ (8 : Int)) ∧ (Arg.ints IntKind.i64 (coV_s0 n p l c)).list.length ≤ (12 : Nat)) ∧ True ∧ Ob (Value.tuple { toList := [vi (ovI (Arg.plain (vi n)).num (Arg.plain (vi p)).num (Arg.ints IntKind.i64 (coV_s0 n p l c)).list), vi (0 : Int)] } = Value.tuple (coV_s1 n p l c))))
theorem coV_eq : coV = fun (n p : Int) (l : List Int) (c : Nat) => vc Try.prog coE 1 24 true (fun _ => none) coB [] (argFr 0 [vi n, .slice (some ⟨0,0,none⟩) l.length c, vi p]) [ros l] (retK Try.prog Try.f26 (fun v _ => v = coF n p l)) := by kernel_rfl
noncomputable def coN_s0 (n p : Int) : Array Value := { toList := [vi (if errD n [] = (0 : Int) ∧ (0 : Int) ≤ p ∧ p < n then ovI n p [] else (0 : Int)), vi (if errD n [] = (0 : Int) then if (0 : Int) ≤ p ∧ p < n then (0 : Int) else (2 : Int) else errD n [])] }
noncomputable def coN :=
fun (n p : Int) ↦ Ob ((0 : Nat) ≤ (1000000 : Nat)) ∧ ((errD (Arg.plain (vi n)).num [] != (0 : Int)) = true → True ∧ Ob (Value.tuple { toList := [vi (0 : Int), vi (errD (Arg.plain (vi n)).num [])] } = Value.tuple (coN_s0 n p))) ∧ ((errD (Arg.plain (vi n)).num [] != (0 : Int)) = false → Ob (([vi p] = [vi (intOf (vi p))] ∧ (1 : Nat) ≤ (1 : Nat) ∧ true = true) ∧ (1 : Nat) ≤ (1000000 : Nat)) ∧ ((!wiF (Arg.plain (vi (0 : Int))).num (Arg.plain (vi (IntKind.i64.wrap (n - (1 : Int))))).num [intOf (vi p)]) = true → True ∧ Ob (Value.tuple { toList := [vi (0 : Int), vi (2 : Int)] } = Value.tuple (coN_s0 n p))) ∧ ((!wiF (Arg.plain (vi (0 : Int))).num (Arg.plain (vi (IntKind.i64.wrap (n - (1 : Int))))).num [intOf (vi p)]) = false → Ob (((0 : Int) ≤ (Arg.plain (vi n)).num ∧ (Arg.plain (vi n)).num ≤ (8 : Int)) ∧ ((0 : Int) ≤ (Arg.plain (vi p)).num ∧ (Arg.plain (vi p)).num ≤ (8 : Int)) ∧ (0 : Nat) ≤ (12 : Nat)) ∧ True ∧ Ob (Value.tuple { toList := [vi (ovI (Arg.plain (vi n)).num (Arg.plain (vi p)).num []), vi (0 : Int)] } = Value.tuple (coN_s0 n p))))
theorem coN_eq : coN = fun (n p : Int) => vc Try.prog coE 0 24 true (fun _ => none) coB [] (argFr 0 [vi n, nilS, vi p]) [] (retK Try.prog Try.f26 (fun v _ => v = coF n p [])) := by kernel_rfl
noncomputable def coH_s0 (n p : Int) (s : Option Nat) (c : Nat) : Array Value := { toList := [vi (if errD n [] = (0 : Int) ∧ (0 : Int) ≤ p ∧ p < n then ovI n p [] else (0 : Int)), vi (if errD n [] = (0 : Int) then if (0 : Int) ≤ p ∧ p < n then (0 : Int) else (2 : Int) else errD n [])] }
noncomputable def coH :=
fun (n p : Int) (s : Option Nat) (c : Nat) ↦ Ob ((0 : Nat) ≤ (1000000 : Nat)) ∧ ((errD (Arg.plain (vi n)).num [] != (0 : Int)) = true → True ∧ Ob (Value.tuple { toList := [vi (0 : Int), vi (errD (Arg.plain (vi n)).num [])] } = Value.tuple (coH_s0 n p s c))) ∧ ((errD (Arg.plain (vi n)).num [] != (0 : Int)) = false → Ob (([vi p] = [vi (intOf (vi p))] ∧ (1 : Nat) ≤ (1 : Nat) ∧ true = true) ∧ (1 : Nat) ≤ (1000000 : Nat)) ∧ ((!wiF (Arg.plain (vi (0 : Int))).num (Arg.plain (vi (IntKind.i64.wrap (n - (1 : Int))))).num [intOf (vi p)]) = true → True ∧ Ob (Value.tuple { toList := [vi (0 : Int), vi (2 : Int)] } = Value.tuple (coH_s0 n p s c))) ∧ ((!wiF (Arg.plain (vi (0 : Int))).num (Arg.plain (vi (IntKind.i64.wrap (n - (1 : Int))))).num [intOf (vi p)]) = false → Ob (((0 : Int) ≤ (Arg.plain (vi n)).num ∧ (Arg.plain (vi n)).num ≤ (8 : Int)) ∧ ((0 : Int) ≤ (Arg.plain (vi p)).num ∧ (Arg.plain (vi p)).num ≤ (8 : Int)) ∧ (0 : Nat) ≤ (12 : Nat)) ∧ True ∧ Ob (Value.tuple { toList := [vi (ovI (Arg.plain (vi n)).num (Arg.plain (vi p)).num []), vi (0 : Int)] } = Value.tuple (coH_s0 n p s c))))
theorem coH_eq : coH = fun (n p : Int) (s : Option Nat) (c : Nat) => vc Try.prog coE 1 24 true (fun _ => none) coB [] (argFr 0 [vi n, .slice (some ⟨0,0,s⟩) 0 c, vi p]) [.gone] (retK Try.prog Try.f26 (fun v _ => v = coF n p [])) := by kernel_rfl
theorem ovI_succ {n p : Int} {l : List Int} {x : Nat} (hx : x < l.length) : ovI n p (l.take (x + 1)) = ovI n p (l.take x) + if p ≤ l.getD x 0 then 1 else 0 := by
  unfold ovI
  rw [List.take_succ_eq_append_getElem hx, List.filter_append, List.length_append, List.getD_eq_getElem?_getD, List.getElem?_eq_getElem hx, List.filter_cons]
  by_cases h : p ≤ l[x]
  · simp [h]; omega
  · simp [h]
theorem ovI_bd {n p : Int} {l : List Int} : p - n ≤ ovI n p l ∧ ovI n p l ≤ p - n + l.length := by
  unfold ovI
  have := List.length_filter_le (fun x => decide (p ≤ x)) l
  omega
theorem ovI_nil {n p : Int} : ovI n p [] = p - n := by simp [ovI]
theorem prV_ok (n p : Int) (l : List Int) (c : Nat) (hn : 0 ≤ n ∧ n ≤ 8) (hp : 0 ≤ p ∧ p ≤ 8) (hl : l.length ≤ 12) : prV n p l c := by
  unfold prV prV_s0
  simp only [SS, reduceCtorEq, Arg.list, Arg.num, Arg.flag, intOf, andP, Nat.reduceLeDiff, Nat.reduceAdd, Nat.reduceMul, Nat.reduceLT]
  refine ⟨⟨0, by omega, ?_, rfl⟩, fun x hx => ⟨fun h1 => ⟨⟨by omega, by omega⟩, by omega, fun h2 => ⟨x + 1, by omega, by omega, ?_, ?_⟩, fun h2 => ⟨x + 1, by omega, by omega, ?_, ?_⟩⟩, fun h1 => ?_⟩⟩
  · rw [List.take_zero, ovI_nil, wrap_in (by omega) (by omega)]
  · have := ovI_bd (n := n) (p := p) (l := l.take x)
    have h3 : (l.take x).length ≤ 12 := by rw [List.length_take]; omega
    rw [ovI_succ (by omega), if_pos h2, wrap_in (by omega) (by omega)]
  · rw [wrap_in (by omega) (by omega)]; rfl
  · rw [ovI_succ (by omega), if_neg h2, Int.add_zero]
  · rw [wrap_in (by omega) (by omega)]; rfl
  · rw [List.take_of_length_le (by omega)]
theorem prN_ok (n p : Int) (hn : 0 ≤ n ∧ n ≤ 8) (hp : 0 ≤ p ∧ p ≤ 8) : prN n p := by
  have h : IntKind.i64.wrap (p - n) = p - n := wrap_in (by omega) (by omega)
  unfold prN
  simp only [SS, reduceCtorEq, Arg.list, Arg.num, Arg.flag, intOf, andP, Nat.reduceLeDiff, Nat.reduceAdd, Nat.reduceMul, Nat.reduceLT, ovI_nil, h]
  rfl
theorem prH_ok (n p : Int) (s : Option Nat) (c : Nat) (hn : 0 ≤ n ∧ n ≤ 8) (hp : 0 ≤ p ∧ p ≤ 8) : prH n p s c := by
  have h : IntKind.i64.wrap (p - n) = p - n := wrap_in (by omega) (by omega)
  unfold prH
  simp only [SS, reduceCtorEq, Arg.list, Arg.num, Arg.flag, intOf, andP, Nat.reduceLeDiff, Nat.reduceAdd, Nat.reduceMul, Nat.reduceLT, ovI_nil, h]
  rfl
theorem prG_ok : ∀ args H φ v H' l, pureG psB prS args H = some (φ, v, H', l) → Asks φ → Call Try.prog 57 args H (fun v' H2 => v' = v ∧ H2 = H') ∧ Kept H H' l :=
  pureG_ok fun r hk hs => match r, hk with
    | [_, _, _], ⟨⟨n, rfl⟩, ha, ⟨p, rfl⟩, _⟩ => by
      obtain ⟨h1, h2, h3⟩ := hs
      refine ⟨rfl, fun caps => ?_⟩
      rcases ha with rfl | ⟨s, rfl⟩ | ⟨l, rfl⟩
      · have h := prN_ok n p h1 h2
        rw [prN_eq] at h
        exact Call.ofVc (VOk.ofCt CtOk.none) mixed (c := prB) Try.func57 (by kernel_rfl) h
      · have h := prH_ok n p s (caps 0) h1 h2
        rw [prH_eq] at h
        exact Call.ofVc (VOk.ofCt CtOk.none) mixed (c := prB) Try.func57 (by kernel_rfl) h
      · have h := prV_ok n p l (caps 0) h1 h2 h3
        rw [prV_eq] at h
        exact Call.ofVc (VOk.ofCt CtOk.none) mixed (c := prB) Try.func57 (by kernel_rfl) h
theorem coF_ok {n p : Int} {l : List Int} : (¬errD n l = 0 → #[vi 0, vi (errD n l)] = coA n p l) ∧ (errD n l = 0 → (wiF 0 (IntKind.i64.wrap (n - 1)) [p] = false → #[vi 0, vi 2] = coA n p l) ∧
    (wiF 0 (IntKind.i64.wrap (n - 1)) [p] = true → ((0 ≤ n ∧ n ≤ 8) ∧ (0 ≤ p ∧ p ≤ 8) ∧ l.length ≤ 12) ∧ #[vi (ovI n p l), vi 0] = coA n p l)) := by
  unfold coA
  refine ⟨fun h => by rw [if_neg fun k => h k.1, if_neg h], fun h => ?_⟩
  have hb : 1 ≤ n ∧ n ≤ 8 ∧ l.length ≤ 12 := by
    unfold errD at h
    split at h
    · cases h
    · omega
  rw [wrap_in (x := n - 1) (by omega) (by omega), wiF_one, decide_eq_false_iff_not, decide_eq_true_eq]
  refine ⟨fun h2 => ?_, fun h2 => ⟨by omega, ?_⟩⟩
  · rw [if_neg fun k => absurd k.2 (by omega), if_pos h, if_neg (by omega)]
  · rw [if_pos ⟨h, by omega⟩, if_pos h, if_pos (by omega)]
theorem coV_ok (n p : Int) (l : List Int) (c : Nat) (hl : l.length ≤ 1000000) : coV n p l c := by
  unfold coV coV_s1 coV_s0
  simp only [SS, reduceCtorEq, Arg.list, Arg.num, Arg.flag, intOf, andP, Nat.reduceLeDiff, Nat.reduceAdd, Nat.reduceMul, Nat.reduceLT, hl]
  exact coF_ok
theorem coN_ok (n p : Int) : coN n p := by
  have := coF_ok (n := n) (p := p) (l := [])
  unfold coN coN_s0
  simp only [SS, reduceCtorEq, Arg.list, Arg.num, Arg.flag, intOf, andP, Nat.reduceLeDiff, Nat.reduceAdd, Nat.reduceMul, Nat.reduceLT]
  exact ⟨this.1, fun h => ⟨(this.2 h).1, fun h2 => ⟨⟨((this.2 h).2 h2).1.1, ((this.2 h).2 h2).1.2.1⟩, ((this.2 h).2 h2).2⟩⟩⟩
theorem coH_ok (n p : Int) (s : Option Nat) (c : Nat) : coH n p s c := by
  have := coF_ok (n := n) (p := p) (l := [])
  unfold coH coH_s0
  simp only [SS, reduceCtorEq, Arg.list, Arg.num, Arg.flag, intOf, andP, Nat.reduceLeDiff, Nat.reduceAdd, Nat.reduceMul, Nat.reduceLT]
  exact ⟨this.1, fun h => ⟨(this.2 h).1, fun h2 => ⟨⟨((this.2 h).2 h2).1.1, ((this.2 h).2 h2).1.2.1⟩, ((this.2 h).2 h2).2⟩⟩⟩
theorem coE_ok : VOk Try.prog coE := ⟨(CtOk.none.add cdG_ok).add prG_ok, ccIn_ok cdE0_ok mixed (inl_one Try.func55), cdE0_ok.yc, E0_ok.orc⟩
def coS (r : List Arg) : Prop × Value := match r with
  | [n, l, p] => (l.list.length ≤ 1000000, coF n.num p.num l.list)
  | _ => (False, undef)
theorem sc_coF {n p : Int} {l : List Int} : sc 0 (coF n p l) = true := by simp [coF, coA, sc, sc2, sc1, sc0]
theorem coG_ok : ∀ args H φ v H' l, pureG psB coS args H = some (φ, v, H', l) → Asks φ → Call Try.prog 26 args H (fun v' H2 => v' = v ∧ H2 = H') ∧ Kept H H' l :=
  pureG_ok fun r hk hs => match r, hk with
    | [_, _, _], ⟨⟨n, rfl⟩, ha, ⟨p, rfl⟩, _⟩ => by
      refine ⟨sc_coF, fun caps => ?_⟩
      rcases ha with rfl | ⟨s, rfl⟩ | ⟨l, rfl⟩
      · have h := coN_ok n p
        rw [coN_eq] at h
        exact Call.ofVc coE_ok mixed (c := coB) Try.func26 (by kernel_rfl) h
      · have h := coH_ok n p s (caps 0)
        rw [coH_eq] at h
        exact Call.ofVc coE_ok mixed (c := coB) Try.func26 (by kernel_rfl) h
      · have h := coV_ok n p l (caps 0) hs
        rw [coV_eq] at h
        exact Call.ofVc coE_ok mixed (c := coB) Try.func26 (by kernel_rfl) h
end Go.Pier.Lg
