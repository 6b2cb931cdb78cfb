import Derived.Test.YtinkmgacaoohnaaPierLover
import Derived.Test.YtinkmgacaoohnaaPierZX
import Derived.KernelRfl
set_option linter.unusedSimpArgs false
set_option linter.unusedVariables false
set_option maxRecDepth 100000
set_option linter.unusedVariables false
set_option linter.unusedSimpArgs false
namespace Go.Pier.Lg
open Go Go.Pier Go.Proofs
def allV : Value := .func (.func 59) #[] #[]
noncomputable def waE : VEnv := { cc := ccIn Try.prog {} [⟨59, Try.f59, fun _ _ _ => none⟩], orc := orcW }
def allT : Nat → Bool := fun _ => true
noncomputable def whA_s0 (n : Nat) (tk : Nat → Bool) (x : Nat) := (List.take ((whL allT x).length.min (IntKind.i64.wrap (↑(whL allT x).length : Int)).toNat * (1 : Nat)) (List.drop (0 : Nat) (List.map (Value.int IntKind.i64) (whC allT x))))
noncomputable def whA_s1 (n : Nat) (tk : Nat → Bool) (y : Nat) := (List.map (Value.int IntKind.i64) (whC allT y))
noncomputable def whA :=
fun (n : Nat) (tk : Nat → Bool) ↦ Ob (some (vi (↑n : Int)) = some (vi (↑n : Int))) ∧ Ob (((0 : Int) ≤ (↑n : Int) ∧ (↑n : Int) ≤ (↑(8 : Nat) : Int)) ∧ (0 : Int) ≤ (0 : Int) ∧ (0 : Int) ≤ (↑(↑n : Int).toNat : Int)) ∧ Ob (some (vi (↑n : Int)) = some (vi (↑n : Int))) ∧ (∃ (y : Nat), Ob (y ≤ n) ∧ (Ob (AObj.rw (lgC (↑n : Int) tk) none = AObj.rw (lgC (↑n : Int) tk) none ∧ true = true) ∧ Ob (AObj.rw [vi (0 : Int), vi (0 : Int), vi (0 : Int), vi (0 : Int), vi (0 : Int), vi (0 : Int), vi (0 : Int), vi (0 : Int)] none = AObj.rw (List.map (nmap1 fun (b : Nat) ↦ b) (whA_s1 n tk y)) none ∧ AObj.sc (2 : Nat) (AObj.rw (whA_s1 n tk y) none) = true) ∧ True) ∧ Ob (Value.func (Fn.func (59 : FuncId)) { toList := [] } { toList := [] } = Value.func (Fn.func (59 : FuncId)) { toList := [] } { toList := [] }) ∧ Ob (Value.slice (some (ad0 1)) (0 : Nat) (↑n : Int).toNat = Value.slice (some (ad0 1)) (whL allT y).length n) ∧ Ob ((↑n : Int) = (↑n : Int)) ∧ Ob ((0 : Int) = (↑y : Int)) ∧ True) ∧ ∀ (x : Nat), Ob (x ≤ n) → (decide ((↑x : Int) < (↑n : Int)) = true → (true = true → Ob (andP (some ((0 : Nat) + (1 : Nat) ≤ (1 : Nat) ∧ true = true)) ((whL allT x).length + (1 : Nat) ≤ (1099511627776 : Nat) ∧ ((2 : Nat) * ((whL allT x).length + (1 : Nat)) + (256 : Nat)) * (8 : Nat) ≤ (281474976710656 : Nat) ∧ (1 : Nat) = (1 : Nat) ∧ (1 : Nat) = (1 : Nat) ∧ (whL allT x).length + (1 : Nat) ≤ n ∧ (0 : Nat) < (1 : Nat) ∧ (0 : Nat) + (whL allT x).length * (1 : Nat) + (1 : Nat) ≤ (List.map (Value.int IntKind.i64) (whC allT x)).length ∧ true = true)) ∧ ∃ (y : Nat), Ob (y ≤ n) ∧ Ob (n - y < n - x) ∧ (Ob (AObj.rw (lgC (↑n : Int) tk) none = AObj.rw (lgC (↑n : Int) tk) none ∧ true = true) ∧ Ob (AObj.rw (putL (List.map (Value.int IntKind.i64) (whC allT x)) ((0 : Nat) + (whL allT x).length * (1 : Nat)) [vi (↑x : Int)]) none = AObj.rw (List.map (nmap1 fun (b : Nat) ↦ b) (whA_s1 n tk y)) none ∧ AObj.sc (2 : Nat) (AObj.rw (whA_s1 n tk y) none) = true) ∧ True) ∧ Ob (Value.func (Fn.func (59 : FuncId)) { toList := [] } { toList := [] } = Value.func (Fn.func (59 : FuncId)) { toList := [] } { toList := [] }) ∧ Ob (Value.slice (some (ad0 1)) ((whL allT x).length + (1 : Nat)) n = Value.slice (some (ad0 1)) (whL allT y).length n) ∧ Ob ((↑n : Int) = (↑n : Int)) ∧ Ob (IntKind.i64.wrap ((↑x : Int) + (1 : Int)) = (↑y : Int)) ∧ True) ∧ (true = false → ∃ (y : Nat), Ob (y ≤ n) ∧ Ob (n - y < n - x) ∧ (Ob (AObj.rw (lgC (↑n : Int) tk) none = AObj.rw (lgC (↑n : Int) tk) none ∧ true = true) ∧ Ob (AObj.rw (List.map (Value.int IntKind.i64) (whC allT x)) none = AObj.rw (List.map (nmap1 fun (b : Nat) ↦ b) (whA_s1 n tk y)) none ∧ AObj.sc (2 : Nat) (AObj.rw (whA_s1 n tk y) none) = true) ∧ True) ∧ Ob (Value.func (Fn.func (59 : FuncId)) { toList := [] } { toList := [] } = Value.func (Fn.func (59 : FuncId)) { toList := [] } { toList := [] }) ∧ Ob (Value.slice (some (ad0 1)) (whL allT x).length n = Value.slice (some (ad0 1)) (whL allT y).length n) ∧ Ob ((↑n : Int) = (↑n : Int)) ∧ Ob (IntKind.i64.wrap ((↑x : Int) + (1 : Int)) = (↑y : Int)) ∧ True)) ∧ (decide ((↑x : Int) < (↑n : Int)) = false → Ob ((0 : Int) ≤ IntKind.i64.wrap (↑(whL allT x).length : Int) ∧ IntKind.i64.wrap (↑(whL allT x).length : Int) ≤ IntKind.i64.wrap (↑(whL allT x).length : Int) ∧ (↑(8 : Nat) : Int) * IntKind.i64.wrap (↑(whL allT x).length : Int) ≤ (281474976710656 : Int)) ∧ Ob (andP (some ((0 : Nat) + (whL allT x).length.min (IntKind.i64.wrap (↑(whL allT x).length : Int)).toNat * (1 : Nat) ≤ (List.map (Value.int IntKind.i64) (whC allT x)).length ∧ true = true)) ((0 : Nat) + (whA_s0 n tk x).length ≤ (List.replicate (IntKind.i64.wrap (↑(whL allT x).length : Int)).toNat (vi (0 : Int))).length ∧ (whA_s0 n tk x).all (sc1 (3 : Nat)) = true)) ∧ (Ob (AObj.rw (putL (List.replicate (IntKind.i64.wrap (↑(whL allT x).length : Int)).toNat (vi (0 : Int))) (0 : Nat) (whA_s0 n tk x)) none = AObj.rw (List.map (nmap1 (nsub (0 : Nat) (2 : Nat))) (List.map (Value.int IntKind.i64) (whL allT n))) none ∧ AObj.sc (1 : Nat) (AObj.rw (List.map (Value.int IntKind.i64) (whL allT n)) none) = true) ∧ True) ∧ Ob (Value.slice (some (ad0 2)) (IntKind.i64.wrap (↑(whL allT x).length : Int)).toNat (IntKind.i64.wrap (↑(whL allT x).length : Int)).toNat = Value.slice (some (ad0 2)) (whL allT n).length (whL allT n).length) ∧ True)
theorem whA_eq : whA = fun (n : Nat) (tk : Nat → Bool) => vc Try.prog waE 0 32 true (whI allT n tk allV) whB [] (argFr 0 [lgV n tk, allV]) [] (retR Try.prog Try.f51 0 (nsub 0 2) (.slice (some ⟨0,0,none⟩) (whL allT n).length (whL allT n).length) [.rw ((whL allT n).map (.int .i64)) none]) := by kernel_rfl
def goodA (_ : Int) (_ gv : Value) : Prop × (Nat → Bool) := (gv = allV, allT)
noncomputable def ovC : Ct := ((Ct.none.add 49 pushedG).add 51 (whG goodA)).add 57 (pureG psB prS)
noncomputable def ovE1 : VEnv := { ct := ovC, cc := ccIn Try.prog { ct := ovC } [⟨61, Try.f61, fun _ _ _ => none⟩] }
def bestTo (w : Nat → Int) : Nat → Nat
  | 0 => 0
  | i + 1 => if w (bestTo w i) < w (i + 1) then i + 1 else bestTo w i
def ovIv (n : Nat) (l : List Int) : List Value → Heap → Nat → Option LInv := fun args H => match args with
  | [.slice (some ad) _ _, fv] => invOf 0 (LInv.one Nat (fun i => i + 1 ≤ n) (fun i => [(1, fv), (5, vi (bestTo (fun p => ovI n p l) i)), (12, .slice (some ⟨ad.block, if n = 1 then 0 else 1, none⟩) (n - 1) (n - 1)), (13, vi ((n - 1 : Nat) : Int)), (14, vi i)]) (fun _ => H) (fun i => n - i))
  | _ => fun _ => none
noncomputable def ovE (n : Nat) (l : List Int) (tk : Nat → Bool) (sl fe : Int) (la : List Int) : VEnv := { ct := ovC.add 49 (nameCt pushedG (fun b => .tuple #[ptr0 b, vi 0]) (fun b => [pu n tk (newS (b + 1) l.length) sl fe, rws la])), cc := ccIn Try.prog ovE1 [⟨60, Try.f60, ovIv n l⟩] }
noncomputable def ovEZ (n : Nat) : VEnv := { ct := ovC.add 49 (nameCt pushedG (fun b => .tuple #[ptr0 b, vi 0]) (fun _ => [pu n emp nilS 0 0])) }
def ovF (n : Nat) (l : List Int) (fe : Int) : Value := .tuple #[vi (if fe = 0 then 0 else (bestTo (fun p => ovI n p l) (n - 1) : Int)), vi (if fe = 0 then 20 else 0)]
noncomputable def ovV_s0 (n : Nat) (l : List Int) (c : Nat) (tk : Nat → Bool) (sl fe : Int) (la : List Int) := (List.take l.length (List.drop (0 : Nat) (intsOf (List.map (Value.int IntKind.i64) l))))
noncomputable def ovV_s1 (n : Nat) (l : List Int) (c : Nat) (tk : Nat → Bool) (sl fe : Int) (la : List Int) := (vi (↑n : Int) :: T8 tk [Value.slice (some { block := (3 : Nat) + (1 : Nat), off := (0 : Nat), spot := some (0 : Nat) }) l.length (0 : Nat), vi sl, vi fe])
noncomputable def ovV_s2 (n : Nat) (l : List Int) (c : Nat) (tk : Nat → Bool) (sl fe : Int) (la : List Int) := (List.map (Value.int IntKind.i64) (whL allT (fN (lgC (↑n : Int) tk)).toNat))
noncomputable def ovV_s3 (n : Nat) (l : List Int) (c : Nat) (tk : Nat → Bool) (sl fe : Int) (la : List Int) (x : Nat) := (Arg.plain (vi (getI (ovV_s2 n l c tk sl fe la) ((if n = (1 : Nat) then (0 : Nat) else (1 : Nat)) + (↑x : Int).toNat * (1 : Nat)))))
noncomputable def ovV_s4 (n : Nat) (l : List Int) (c : Nat) (tk : Nat → Bool) (sl fe : Int) (la : List Int) := (vi (↑n : Int) :: T8 tk [Value.slice (some { block := (4 : Nat), off := (0 : Nat), spot := some (0 : Nat) }) l.length (0 : Nat), vi sl, vi fe])
noncomputable def ovV :=
fun (n : Nat) (l : List Int) (c : Nat) (tk : Nat → Bool) (sl fe : Int) (la : List Int) ↦ Ob (some (vi (↑n : Int)) = some (vi (↑n : Int))) ∧ Ob (((List.take l.length (List.drop (0 : Nat) (List.map (Value.int IntKind.i64) l)) = List.map (Value.int IntKind.i64) (ovV_s0 n l c tk sl fe la) ∧ (0 : Nat) + l.length ≤ (List.map (Value.int IntKind.i64) l).length ∧ true = true) ∧ errD (↑n : Int) (ovV_s0 n l c tk sl fe la) = (0 : Int) ∧ (0 : Nat) < (ovV_s0 n l c tk sl fe la).length ∧ (0 : Int) ≤ (↑n : Int)) ∧ Value.tuple { toList := [ptr0 3, vi (0 : Int)] } = Value.tuple { toList := [ptr0 3, vi (0 : Int)] } ∧ [AObj.ro (List.map (Value.int IntKind.i64) l), AObj.rw [vi (↑n : Int)] none, AObj.rw [Value.slice (some (ad0 0)) l.length c] none, AObj.rw (vi (↑n : Int) :: T8 ((runA (↑n : Int).toNat (ovV_s0 n l c tk sl fe la)).tk) [Value.slice (some { block := (3 : Nat) + (1 : Nat), off := (0 : Nat), spot := some (0 : Nat) }) (ovV_s0 n l c tk sl fe la).length (0 : Nat), vi (runA (↑n : Int).toNat (ovV_s0 n l c tk sl fe la)).slid, vi (runA (↑n : Int).toNat (ovV_s0 n l c tk sl fe la)).fell]) none, AObj.rw (List.map (Value.int IntKind.i64) (runA (↑n : Int).toNat (ovV_s0 n l c tk sl fe la)).lies) (some (1 : Nat))] = [AObj.ro (List.map (Value.int IntKind.i64) l), AObj.rw [vi (↑n : Int)] none, AObj.rw [Value.slice (some (ad0 0)) l.length c] none, AObj.rw (ovV_s1 n l c tk sl fe la) none, AObj.rw (List.map (Value.int IntKind.i64) la) (some (1 : Nat))]) ∧ (false = true → True ∧ Ob (Value.tuple { toList := [vi (0 : Int), vi (0 : Int)] } = Value.tuple { toList := [vi (if fe = (0 : Int) then (0 : Int) else (↑(bestTo (fun (p : Nat) ↦ ovI (↑n : Int) (↑p : Int) l) (n - (1 : Nat))) : Int)), vi (if fe = (0 : Int) then (20 : Int) else (0 : Int))] })) ∧ (false = false → Ob (IntAt IntKind.i64 (ovV_s1 n l c tk sl fe la) ((0 : Nat) + (11 : Nat))) ∧ ((getI (ovV_s1 n l c tk sl fe la) ((0 : Nat) + (11 : Nat)) == (0 : Int)) = true → True ∧ Ob (Value.tuple { toList := [vi (0 : Int), vi (20 : Int)] } = Value.tuple { toList := [vi (if fe = (0 : Int) then (0 : Int) else (↑(bestTo (fun (p : Nat) ↦ ovI (↑n : Int) (↑p : Int) l) (n - (1 : Nat))) : Int)), vi (if fe = (0 : Int) then (20 : Int) else (0 : Int))] })) ∧ ((getI (ovV_s1 n l c tk sl fe la) ((0 : Nat) + (11 : Nat)) == (0 : Int)) = false → Ob (Value.agg { toList := (lgC (↑n : Int) tk) } = Value.agg { toList := (lgC (fN (lgC (↑n : Int) tk)) (fT (lgC (↑n : Int) tk))) } ∧ (0 : Int) ≤ fN (lgC (↑n : Int) tk) ∧ fN (lgC (↑n : Int) tk) ≤ (8 : Int) ∧ Value.func (Fn.func (59 : Nat)) { toList := [] } { toList := [] } = Value.func (Fn.func (59 : FuncId)) { toList := [] } { toList := [] }) ∧ Ob ((0 : Int) ≤ (0 : Int) ∧ (0 : Int) < (↑(whL allT (fN (lgC (↑n : Int) tk)).toNat).length : Int) ∧ true = true) ∧ Ob (IntAt IntKind.i64 (ovV_s2 n l c tk sl fe la) ((0 : Nat) + (0 : Nat))) ∧ Ob ((whL allT (fN (lgC (↑n : Int) tk)).toNat).length ≤ (whL allT (fN (lgC (↑n : Int) tk)).toNat).length ∧ (0 : Int) ≤ (1 : Int) ∧ (1 : Int) ≤ (↑(whL allT (fN (lgC (↑n : Int) tk)).toNat).length : Int)) ∧ (∃ (y : Nat), Ob (y + (1 : Nat) ≤ n) ∧ (Ob (AObj.ro (List.map (Value.int IntKind.i64) l) = AObj.ro (List.map (nmap1 fun (b : Nat) ↦ b) (List.map (Value.int IntKind.i64) l)) ∧ AObj.sc (6 : Nat) (AObj.ro (List.map (Value.int IntKind.i64) l)) = true) ∧ Ob (AObj.rw [vi (↑n : Int)] none = AObj.rw [vi (↑n : Int)] none ∧ true = true) ∧ Ob (AObj.rw [Value.slice (some (ad0 0)) l.length c] none = AObj.rw [Value.slice (some (ad0 0)) l.length c] none ∧ true = true) ∧ Ob (AObj.rw (ovV_s1 n l c tk sl fe la) none = AObj.rw (ovV_s4 n l c tk sl fe la) none ∧ true = true) ∧ Ob (AObj.rw (List.map (Value.int IntKind.i64) la) (some (1 : Nat)) = AObj.rw (List.map (nmap1 fun (b : Nat) ↦ b) (List.map (Value.int IntKind.i64) la)) (some (1 : Nat)) ∧ AObj.sc (6 : Nat) (AObj.rw (List.map (Value.int IntKind.i64) la) (some (1 : Nat))) = true) ∧ Ob (AObj.rw (ovV_s2 n l c tk sl fe la) none = AObj.rw (List.map (nmap1 fun (b : Nat) ↦ b) (ovV_s2 n l c tk sl fe la)) none ∧ AObj.sc (6 : Nat) (AObj.rw (ovV_s2 n l c tk sl fe la) none) = true) ∧ True) ∧ Ob (Value.func (Fn.func (61 : Nat)) { toList := [] } { toList := [ptr0 1, ptr0 2] } = Value.func (Fn.func (61 : Nat)) { toList := [] } { toList := [ptr0 1, ptr0 2] }) ∧ Ob (getI (ovV_s2 n l c tk sl fe la) ((0 : Nat) + (0 : Nat)) = (↑(bestTo (fun (p : Nat) ↦ ovI (↑n : Int) (↑p : Int) l) y) : Int)) ∧ Ob (Value.slice (some { block := (5 : Nat), off := if (whL allT (fN (lgC (↑n : Int) tk)).toNat).length = (1 : Nat) then (0 : Nat) else (0 : Nat) + (1 : Nat), spot := none }) ((whL allT (fN (lgC (↑n : Int) tk)).toNat).length - (1 : Nat)) ((whL allT (fN (lgC (↑n : Int) tk)).toNat).length - (1 : Nat)) = Value.slice (some { block := (5 : Nat), off := if n = (1 : Nat) then (0 : Nat) else (1 : Nat), spot := none }) (n - (1 : Nat)) (n - (1 : Nat))) ∧ Ob ((↑((whL allT (fN (lgC (↑n : Int) tk)).toNat).length - (1 : Nat)) : Int) = (↑(n - (1 : Nat)) : Int)) ∧ Ob ((0 : Int) = (↑y : Int)) ∧ True) ∧ ∀ (x : Nat), Ob (x + (1 : Nat) ≤ n) → (decide ((↑x : Int) < (↑(n - (1 : Nat)) : Int)) = true → Ob ((0 : Int) ≤ (↑x : Int) ∧ (↑x : Int) < (↑(n - (1 : Nat)) : Int) ∧ true = true) ∧ Ob (IntAt IntKind.i64 (ovV_s2 n l c tk sl fe la) ((if n = (1 : Nat) then (0 : Nat) else (1 : Nat)) + (↑x : Int).toNat * (1 : Nat))) ∧ Ob (some (vi (↑n : Int)) = some (vi (↑n : Int))) ∧ Ob ((List.take l.length (List.drop (0 : Nat) (List.map (Value.int IntKind.i64) l)) = List.map (Value.int IntKind.i64) (ovV_s0 n l c tk sl fe la) ∧ (0 : Nat) + l.length ≤ (List.map (Value.int IntKind.i64) l).length ∧ true = true) ∧ ((0 : Int) ≤ (Arg.plain (vi (↑n : Int))).num ∧ (Arg.plain (vi (↑n : Int))).num ≤ (8 : Int)) ∧ ((0 : Int) ≤ (ovV_s3 n l c tk sl fe la x).num ∧ (ovV_s3 n l c tk sl fe la x).num ≤ (8 : Int)) ∧ (Arg.ints IntKind.i64 (ovV_s0 n l c tk sl fe la)).list.length ≤ (12 : Nat)) ∧ Ob (some (vi (↑n : Int)) = some (vi (↑n : Int))) ∧ Ob ((List.take l.length (List.drop (0 : Nat) (List.map (Value.int IntKind.i64) l)) = List.map (Value.int IntKind.i64) (ovV_s0 n l c tk sl fe la) ∧ (0 : Nat) + l.length ≤ (List.map (Value.int IntKind.i64) l).length ∧ true = true) ∧ ((0 : Int) ≤ (Arg.plain (vi (↑n : Int))).num ∧ (Arg.plain (vi (↑n : Int))).num ≤ (8 : Int)) ∧ ((0 : Int) ≤ (Arg.plain (vi (↑(bestTo (fun (p : Nat) ↦ ovI (↑n : Int) (↑p : Int) l) x) : Int))).num ∧ (Arg.plain (vi (↑(bestTo (fun (p : Nat) ↦ ovI (↑n : Int) (↑p : Int) l) x) : Int))).num ≤ (8 : Int)) ∧ (Arg.ints IntKind.i64 (ovV_s0 n l c tk sl fe la)).list.length ≤ (12 : Nat)) ∧ (decide (ovI (Arg.plain (vi (↑n : Int))).num (Arg.plain (vi (↑(bestTo (fun (p : Nat) ↦ ovI (↑n : Int) (↑p : Int) l) x) : Int))).num (Arg.ints IntKind.i64 (ovV_s0 n l c tk sl fe la)).list < ovI (Arg.plain (vi (↑n : Int))).num (ovV_s3 n l c tk sl fe la x).num (Arg.ints IntKind.i64 (ovV_s0 n l c tk sl fe la)).list) = true → ∃ (y : Nat), Ob (y + (1 : Nat) ≤ n) ∧ Ob (n - y < n - x) ∧ (Ob (AObj.ro (List.map (Value.int IntKind.i64) l) = AObj.ro (List.map (nmap1 fun (b : Nat) ↦ b) (List.map (Value.int IntKind.i64) l)) ∧ AObj.sc (6 : Nat) (AObj.ro (List.map (Value.int IntKind.i64) l)) = true) ∧ Ob (AObj.rw [vi (↑n : Int)] none = AObj.rw [vi (↑n : Int)] none ∧ true = true) ∧ Ob (AObj.rw [Value.slice (some (ad0 0)) l.length c] none = AObj.rw [Value.slice (some (ad0 0)) l.length c] none ∧ true = true) ∧ Ob (AObj.rw (ovV_s1 n l c tk sl fe la) none = AObj.rw (ovV_s4 n l c tk sl fe la) none ∧ true = true) ∧ Ob (AObj.rw (List.map (Value.int IntKind.i64) la) (some (1 : Nat)) = AObj.rw (List.map (nmap1 fun (b : Nat) ↦ b) (List.map (Value.int IntKind.i64) la)) (some (1 : Nat)) ∧ AObj.sc (6 : Nat) (AObj.rw (List.map (Value.int IntKind.i64) la) (some (1 : Nat))) = true) ∧ Ob (AObj.rw (ovV_s2 n l c tk sl fe la) none = AObj.rw (List.map (nmap1 fun (b : Nat) ↦ b) (ovV_s2 n l c tk sl fe la)) none ∧ AObj.sc (6 : Nat) (AObj.rw (ovV_s2 n l c tk sl fe la) none) = true) ∧ True) ∧ Ob (Value.func (Fn.func (61 : Nat)) { toList := [] } { toList := [ptr0 1, ptr0 2] } = Value.func (Fn.func (61 : Nat)) { toList := [] } { toList := [ptr0 1, ptr0 2] }) ∧ Ob (getI (ovV_s2 n l c tk sl fe la) ((if n = (1 : Nat) then (0 : Nat) else (1 : Nat)) + (↑x : Int).toNat * (1 : Nat)) = (↑(bestTo (fun (p : Nat) ↦ ovI (↑n : Int) (↑p : Int) l) y) : Int)) ∧ Ob (Value.slice (some { block := (5 : Nat), off := if n = (1 : Nat) then (0 : Nat) else (1 : Nat), spot := none }) (n - (1 : Nat)) (n - (1 : Nat)) = Value.slice (some { block := (5 : Nat), off := if n = (1 : Nat) then (0 : Nat) else (1 : Nat), spot := none }) (n - (1 : Nat)) (n - (1 : Nat))) ∧ Ob ((↑(n - (1 : Nat)) : Int) = (↑(n - (1 : Nat)) : Int)) ∧ Ob (IntKind.i64.wrap ((↑x : Int) + (1 : Int)) = (↑y : Int)) ∧ True) ∧ (decide (ovI (Arg.plain (vi (↑n : Int))).num (Arg.plain (vi (↑(bestTo (fun (p : Nat) ↦ ovI (↑n : Int) (↑p : Int) l) x) : Int))).num (Arg.ints IntKind.i64 (ovV_s0 n l c tk sl fe la)).list < ovI (Arg.plain (vi (↑n : Int))).num (ovV_s3 n l c tk sl fe la x).num (Arg.ints IntKind.i64 (ovV_s0 n l c tk sl fe la)).list) = false → ∃ (y : Nat), Ob (y + (1 : Nat) ≤ n) ∧ Ob (n - y < n - x) ∧ (Ob (AObj.ro (List.map (Value.int IntKind.i64) l) = AObj.ro (List.map (nmap1 fun (b : Nat) ↦ b) (List.map (Value.int IntKind.i64) l)) ∧ AObj.sc (6 : Nat) (AObj.ro (List.map (Value.int IntKind.i64) l)) = true) ∧ Ob (AObj.rw [vi (↑n : Int)] none = AObj.rw [vi (↑n : Int)] none ∧ true = true) ∧ Ob (AObj.rw [Value.slice (some (ad0 0)) l.length c] none = AObj.rw [Value.slice (some (ad0 0)) l.length c] none ∧ true = true) ∧ Ob (AObj.rw (ovV_s1 n l c tk sl fe la) none = AObj.rw (ovV_s4 n l c tk sl fe la) none ∧ true = true) ∧ Ob (AObj.rw (List.map (Value.int IntKind.i64) la) (some (1 : Nat)) = AObj.rw (List.map (nmap1 fun (b : Nat) ↦ b) (List.map (Value.int IntKind.i64) la)) (some (1 : Nat)) ∧ AObj.sc (6 : Nat) (AObj.rw (List.map (Value.int IntKind.i64) la) (some (1 : Nat))) = true) ∧ Ob (AObj.rw (ovV_s2 n l c tk sl fe la) none = AObj.rw (List.map (nmap1 fun (b : Nat) ↦ b) (ovV_s2 n l c tk sl fe la)) none ∧ AObj.sc (6 : Nat) (AObj.rw (ovV_s2 n l c tk sl fe la) none) = true) ∧ True) ∧ Ob (Value.func (Fn.func (61 : Nat)) { toList := [] } { toList := [ptr0 1, ptr0 2] } = Value.func (Fn.func (61 : Nat)) { toList := [] } { toList := [ptr0 1, ptr0 2] }) ∧ Ob ((↑(bestTo (fun (p : Nat) ↦ ovI (↑n : Int) (↑p : Int) l) x) : Int) = (↑(bestTo (fun (p : Nat) ↦ ovI (↑n : Int) (↑p : Int) l) y) : Int)) ∧ Ob (Value.slice (some { block := (5 : Nat), off := if n = (1 : Nat) then (0 : Nat) else (1 : Nat), spot := none }) (n - (1 : Nat)) (n - (1 : Nat)) = Value.slice (some { block := (5 : Nat), off := if n = (1 : Nat) then (0 : Nat) else (1 : Nat), spot := none }) (n - (1 : Nat)) (n - (1 : Nat))) ∧ Ob ((↑(n - (1 : Nat)) : Int) = (↑(n - (1 : Nat)) : Int)) ∧ Ob (IntKind.i64.wrap ((↑x : Int) + (1 : Int)) = (↑y : Int)) ∧ True)) ∧ (decide ((↑x : Int) < (↑(n - (1 : Nat)) : Int)) = false → True ∧ Ob (Value.tuple { toList := [vi (↑(bestTo (fun (p : Nat) ↦ ovI (↑n : Int) (↑p : Int) l) x) : Int), vi (0 : Int)] } = Value.tuple { toList := [vi (if fe = (0 : Int) then (0 : Int) else (↑(bestTo (fun (p : Nat) ↦ ovI (↑n : Int) (↑p : Int) l) (n - (1 : Nat))) : Int)), vi (if fe = (0 : Int) then (20 : Int) else (0 : Int))] }))))
theorem ovV_eq : ovV = fun (n : Nat) (l : List Int) (c : Nat) (tk : Nat → Bool) (sl fe : Int) (la : List Int) => vc Try.prog (ovE n l tk sl fe la) 1 31 true (fun _ => none) ovB [] (argFr 0 [vi n, .slice (some ⟨0,0,none⟩) l.length c]) [ros l] (retK Try.prog Try.f28 (fun v _ => v = ovF n l fe)) := by kernel_rfl
noncomputable def ovN_s0 (n : Nat) := (vi (↑n : Int) :: T8 emp [Value.slice none (0 : Nat) (0 : Nat), vi (0 : Int), vi (0 : Int)])
noncomputable def ovN :=
fun (n : Nat) ↦ Ob (some (vi (↑n : Int)) = some (vi (↑n : Int))) ∧ Ob (errD (↑n : Int) [] = (0 : Int) ∧ Value.tuple { toList := [ptr0 2, vi (0 : Int)] } = Value.tuple { toList := [ptr0 2, vi (0 : Int)] } ∧ [AObj.rw [vi (↑n : Int)] none, AObj.rw [Value.slice none (0 : Nat) (0 : Nat)] none, AObj.rw (ovN_s0 n) none] = [AObj.rw [vi (↑n : Int)] none, AObj.rw [Value.slice none (0 : Nat) (0 : Nat)] none, AObj.rw (ovN_s0 n) none]) ∧ (false = true → True ∧ Ob (Value.tuple { toList := [vi (0 : Int), vi (0 : Int)] } = Value.tuple { toList := [vi (0 : Int), vi (20 : Int)] })) ∧ (false = false → Ob (IntAt IntKind.i64 (ovN_s0 n) ((0 : Nat) + (11 : Nat))) ∧ ((getI (ovN_s0 n) ((0 : Nat) + (11 : Nat)) == (0 : Int)) = true → True ∧ Ob (Value.tuple { toList := [vi (0 : Int), vi (20 : Int)] } = Value.tuple { toList := [vi (0 : Int), vi (20 : Int)] })) ∧ ((getI (ovN_s0 n) ((0 : Nat) + (11 : Nat)) == (0 : Int)) = false → Ob (Value.agg { toList := (lgC (↑n : Int) emp) } = Value.agg { toList := (lgC (fN (lgC (↑n : Int) emp)) emp) } ∧ (0 : Int) ≤ fN (lgC (↑n : Int) emp) ∧ fN (lgC (↑n : Int) emp) ≤ (8 : Int) ∧ Value.func (Fn.func (59 : Nat)) { toList := [] } { toList := [] } = Value.func (Fn.func (59 : FuncId)) { toList := [] } { toList := [] }) ∧ False))
theorem ovN_eq : ovN = fun (n : Nat) => vc Try.prog (ovEZ n) 0 31 true (fun _ => none) ovB [] (argFr 0 [vi n, nilS]) [] (retK Try.prog Try.f28 (fun v _ => v = .tuple #[vi 0, vi 20])) := by kernel_rfl
noncomputable def ovH_s0 (n : Nat) (s : Option Nat) (c : Nat) := (vi (↑n : Int) :: T8 emp [Value.slice none (0 : Nat) (0 : Nat), vi (0 : Int), vi (0 : Int)])
noncomputable def ovH :=
fun (n : Nat) (s : Option Nat) (c : Nat) ↦ Ob (some (vi (↑n : Int)) = some (vi (↑n : Int))) ∧ Ob (errD (↑n : Int) [] = (0 : Int) ∧ Value.tuple { toList := [ptr0 3, vi (0 : Int)] } = Value.tuple { toList := [ptr0 3, vi (0 : Int)] } ∧ [AObj.gone, AObj.rw [vi (↑n : Int)] none, AObj.rw [Value.slice (some { block := (0 : Nat), off := (0 : Nat), spot := s }) (0 : Nat) c] none, AObj.rw (ovH_s0 n s c) none] = [AObj.gone, AObj.rw [vi (↑n : Int)] none, AObj.rw [Value.slice (some { block := (0 : Nat), off := (0 : Nat), spot := s }) (0 : Nat) c] none, AObj.rw (ovH_s0 n s c) none]) ∧ (false = true → True ∧ Ob (Value.tuple { toList := [vi (0 : Int), vi (0 : Int)] } = Value.tuple { toList := [vi (0 : Int), vi (20 : Int)] })) ∧ (false = false → Ob (IntAt IntKind.i64 (ovH_s0 n s c) ((0 : Nat) + (11 : Nat))) ∧ ((getI (ovH_s0 n s c) ((0 : Nat) + (11 : Nat)) == (0 : Int)) = true → True ∧ Ob (Value.tuple { toList := [vi (0 : Int), vi (20 : Int)] } = Value.tuple { toList := [vi (0 : Int), vi (20 : Int)] })) ∧ ((getI (ovH_s0 n s c) ((0 : Nat) + (11 : Nat)) == (0 : Int)) = false → Ob (Value.agg { toList := (lgC (↑n : Int) emp) } = Value.agg { toList := (lgC (fN (lgC (↑n : Int) emp)) emp) } ∧ (0 : Int) ≤ fN (lgC (↑n : Int) emp) ∧ fN (lgC (↑n : Int) emp) ≤ (8 : Int) ∧ Value.func (Fn.func (59 : Nat)) { toList := [] } { toList := [] } = Value.func (Fn.func (59 : FuncId)) { toList := [] } { toList := [] }) ∧ False))
theorem ovH_eq : ovH = fun (n : Nat) (s : Option Nat) (c : Nat) => vc Try.prog (ovEZ n) 1 31 true (fun _ => none) ovB [] (argFr 0 [vi n, .slice (some ⟨0,0,s⟩) 0 c]) [.gone] (retK Try.prog Try.f28 (fun v _ => v = .tuple #[vi 0, vi 20])) := by kernel_rfl
theorem whA_ok (n : Nat) (tk : Nat → Bool) (hn : n ≤ 8) : whA n tk := by
  unfold whA whA_s1 whA_s0
  simp only [SS, reduceCtorEq, Arg.list, Arg.num, Arg.flag, intOf, andP, Nat.reduceLeDiff, Nat.reduceAdd, Nat.reduceMul, Nat.reduceLT]
  refine ⟨⟨by omega, by omega⟩, ⟨0, by omega, rfl, rfl, rfl⟩, fun x hx => ⟨fun h1 => ?_, fun h1 => ?_⟩⟩
  · have hl := whL_len (g := allT) (i := x)
    refine ⟨⟨by omega, by omega, by omega, by rw [whC_len (by omega)]; omega⟩, x + 1, by omega, by omega, whC_yes (by omega) rfl, ?_, ?_⟩
    · rw [whL_succ, if_pos (show allT x = true from rfl)]; simp
    · rw [wrap_in (by omega) (by omega)]; push_cast; rfl
  · obtain rfl : x = n := by omega
    have hl := whL_len (g := allT) (i := x)
    have hc := whC_len (g := allT) (i := x) (by omega)
    have ht : List.take (whL allT x).length (whC allT x) = whL allT x := by unfold whC; rw [List.take_append_of_le_length (Nat.le_refl _), List.take_length]
    rw [wrap_in (x := ((whL allT x).length : Int)) (by omega) (by omega)]
    simp only [Int.toNat_natCast, Nat.min_self, ← List.map_take, ht, List.length_replicate, List.length_map, hc]
    exact ⟨⟨by omega, by omega, by omega⟩, ⟨by omega, by omega, all_sc_int⟩, by simpa using putL_full ((whL allT x).map (Value.int .i64)) (vi 0) [], trivial, trivial⟩
theorem waE_ok : VOk Try.prog waE := ⟨E0_ok.ct, ccIn_ok E0_ok mixed (inl_one Try.func59), E0_ok.yc, orcOr_ok orcSl_ok (orcOr_ok orcAp_ok orcCp_ok)⟩
theorem whAG_ok : ∀ args H φ v H' l, whG goodA args H = some (φ, v, H', l) → Asks φ → Call Try.prog 51 args H (fun v' H2 => v' = v ∧ H2 = H') ∧ Kept H H' l :=
  whG_ok fun n tk gv hn hg => by
    have hg' : gv = allV := hg
    subst hg'
    have h := whA_ok n tk hn
    rw [whA_eq] at h
    exact ⟨fun σ => by simp [allV, nmap, nmap2, nmap1, nmapA, nmap0, nmapFn], fun m => by simp [allV, sc, sc2, sc1, scA, sc0, aggAll], Call.ofVcR waE_ok mixed (c := whB) (inv := whI allT n tk allV) Try.func51 (by kernel_rfl) h⟩
theorem ovC_ok : CtOk Try.prog ovC := ((CtOk.none.add pushedG_ok).add whAG_ok).add prG_ok
theorem whL_all : ∀ n : Nat, whL allT n = (List.range n).map Int.ofNat := fun n => by
  unfold whL; rw [List.filter_eq_self.2 fun x _ => (show allT x = true from rfl)]
theorem fN_lg {n : Int} {tk : Nat → Bool} : fN (lgC n tk) = n := rfl
theorem rg_get {n i : Nat} (h : i < n) : ((List.range n).map Int.ofNat).getD i 0 = (i : Int) := by
  rw [List.getD_eq_getElem?_getD, List.getElem?_map, List.getElem?_range h]; rfl
theorem bestTo_le {w : Nat → Int} : ∀ {i : Nat}, bestTo w i ≤ i
  | 0 => Nat.le_refl _
  | i + 1 => by
    have := bestTo_le (w := w) (i := i)
    unfold bestTo; split <;> omega
theorem bestTo_max {w : Nat → Int} : ∀ {i j : Nat}, j ≤ i → w j ≤ w (bestTo w i)
  | 0, j, h => by rw [show j = 0 by omega]; exact Int.le_refl _
  | i + 1, j, h => by
    unfold bestTo
    rcases Nat.eq_or_lt_of_le h with e | e
    · subst e; split <;> omega
    · have := bestTo_max (w := w) (i := i) (j := j) (by omega)
      split <;> omega
theorem bestTo_first {w : Nat → Int} : ∀ {i j : Nat}, j < bestTo w i → w j < w (bestTo w i)
  | 0, j, h => absurd h (Nat.not_lt_zero _)
  | i + 1, j, h => by
    unfold bestTo at h ⊢
    by_cases e : w (bestTo w i) < w (i + 1)
    · rw [if_pos e] at h ⊢
      have := bestTo_max (w := w) (i := i) (j := j) (by omega)
      omega
    · rw [if_neg e] at h ⊢
      exact bestTo_first h
theorem ovV_ok (n : Nat) (l : List Int) (c : Nat) (he : errD n l = 0) (h0 : 0 < l.length) : ovV n l c (runA n l).tk (runA n l).slid (runA n l).fell (runA n l).lies := by
  obtain ⟨hn, hb, hl⟩ := pre_ok he
  have hn1 : 1 ≤ n := by
    unfold errD at he
    split at he
    · cases he
    · omega
  unfold ovV ovV_s4 ovV_s3 ovV_s2 ovV_s1 ovV_s0
  simp only [SS, reduceCtorEq, Arg.list, Arg.num, Arg.flag, intOf, andP, Nat.reduceLeDiff, Nat.reduceAdd, Nat.reduceMul, Nat.reduceLT, he, T8_10, T8_11, T8_i10, T8_i11, ovF, whL_all, List.length_range, fN_lg]
  generalize hw : (fun p : Nat => ovI n p l) = w
  have hwp : ∀ p : Nat, ovI n p l = w p := fun p => by rw [← hw]
  refine ⟨⟨h0, by omega⟩, fun h => by rw [if_pos h, if_pos h], fun h => ⟨⟨rfl, by omega, by omega⟩, ⟨by omega, by omega⟩, by omega, ⟨by omega, by omega⟩, ⟨0, by omega, rg_get (by omega), rfl⟩, fun x hx => ⟨fun h1 => ?_, fun h1 => ?_⟩⟩⟩
  · have hle := bestTo_le (w := w) (i := x)
    rw [if_neg (show ¬ n = 1 by omega), rg_get (show 1 + x < n by omega)]
    refine ⟨⟨by omega, by omega⟩, by omega, ⟨⟨by omega, by omega⟩, ⟨by omega, by omega⟩, hl⟩, ⟨⟨by omega, by omega⟩, ⟨by omega, by omega⟩, hl⟩, fun h2 => ⟨x + 1, by omega, by omega, ?_, ?_⟩, fun h2 => ⟨x + 1, by omega, by omega, ?_, ?_⟩⟩
    · rw [hwp, hwp, Nat.add_comm 1 x] at h2
      rw [bestTo, if_pos h2, Nat.add_comm]
    · rw [wrap_in (by omega) (by omega)]; rfl
    · rw [hwp, hwp, Nat.add_comm 1 x] at h2
      rw [bestTo, if_neg h2]
    · rw [wrap_in (by omega) (by omega)]; rfl
  · rw [if_neg h, if_neg h, show x = n - 1 by omega]
theorem ovN_ok (n : Nat) (he : errD n [] = 0) : ovN n := by
  unfold ovN ovN_s0
  simp only [SS, reduceCtorEq, Arg.list, Arg.num, Arg.flag, intOf, andP, Nat.reduceLeDiff, Nat.reduceAdd, Nat.reduceMul, Nat.reduceLT, he, T8_10, T8_11, T8_i10, T8_i11]
theorem ovH_ok (n : Nat) (s : Option Nat) (c : Nat) (he : errD n [] = 0) : ovH n s c := by
  unfold ovH ovH_s0
  simp only [SS, reduceCtorEq, Arg.list, Arg.num, Arg.flag, intOf, andP, Nat.reduceLeDiff, Nat.reduceAdd, Nat.reduceMul, Nat.reduceLT, he, T8_10, T8_11, T8_i10, T8_i11]
theorem ovE1_ok : VOk Try.prog ovE1 := ⟨ovC_ok, ccIn_ok (VOk.ofCt ovC_ok) mixed (inl_one Try.func61), (VOk.ofCt ovC_ok).yc, (VOk.ofCt ovC_ok).orc⟩
theorem ovE_ok (n : Nat) (l : List Int) (tk : Nat → Bool) (sl fe : Int) (la : List Int) : VOk Try.prog (ovE n l tk sl fe la) :=
  ⟨ovC_ok.add (nameCt_ok pushedG_ok), ccIn_ok ovE1_ok mixed (inl_one Try.func60), (VOk.ofCt ovC_ok).yc, (VOk.ofCt ovC_ok).orc⟩
theorem ovEZ_ok (n : Nat) : VOk Try.prog (ovEZ n) := VOk.ofCt (ovC_ok.add (nameCt_ok pushedG_ok))
def ovrS (r : List Arg) : Prop × Value := match r with
  | [p, .ints _ l] => (errD p.num l = 0 ∧ 0 < l.length, ovF p.num.toNat l (runA p.num.toNat l).fell)
  | [p, _] => (errD p.num [] = 0, .tuple #[vi 0, vi 20])
  | _ => (False, undef)
theorem ovrG_ok : ∀ args H φ v H' l, pureG psA ovrS args H = some (φ, v, H', l) → Asks φ → Call Try.prog 28 args H (fun v' H2 => v' = v ∧ H2 = H') ∧ Kept H H' l :=
  pureG_ok fun r hk hs => match r, hk with
    | [_, _], ⟨⟨p, rfl⟩, ha, _⟩ => by
      rcases ha with rfl | ⟨s, rfl⟩ | ⟨l, rfl⟩
      · obtain ⟨n, rfl⟩ : ∃ n : Nat, p = n := errD_pos hs
        have h := ovN_ok n hs
        rw [ovN_eq] at h
        exact ⟨by simp [ovrS, sc, sc2, sc1, sc0], fun caps => Call.ofVc (ovEZ_ok n) mixed (c := ovB) Try.func28 (by kernel_rfl) h⟩
      · obtain ⟨n, rfl⟩ : ∃ n : Nat, p = n := errD_pos hs
        refine ⟨by simp [ovrS, sc, sc2, sc1, sc0], fun caps => ?_⟩
        have h := ovH_ok n s (caps 0) hs
        rw [ovH_eq] at h
        exact Call.ofVc (ovEZ_ok n) mixed (c := ovB) Try.func28 (by kernel_rfl) h
      · obtain ⟨n, rfl⟩ : ∃ n : Nat, p = n := errD_pos hs.1
        refine ⟨by simp [ovrS, ovF, sc, sc2, sc1, sc0], fun caps => ?_⟩
        have h := ovV_ok n l (caps 0) hs.1 hs.2
        rw [ovV_eq] at h
        exact Call.ofVc (ovE_ok ..) mixed (c := ovB) Try.func28 (by kernel_rfl) h
end Go.Pier.Lg
