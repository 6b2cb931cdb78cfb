import Derived.Test.YtinkmgacaoohnaaPierLover2
import Derived.Test.YtinkmgacaoohnaaPierLdropt
import Derived.KernelRfl
set_option linter.unusedSimpArgs false
set_option linter.unusedVariables false
set_option maxRecDepth 100000
set_option linter.unusedVariables false
set_option linter.unusedSimpArgs false
namespace Go.Pier.Lg
open Go Go.Pier Go.Proofs
noncomputable def pvB : Code := Try.f8.body.getD .skip
noncomputable def pvC (n : Nat) : Ct := (((Ct.none.add 18 (pureG [] worksS)).add 42 (plainG (placeN n))).add 26 (pureG psB coS))
noncomputable def pvR (n q o : Nat) (fe le : Int) (d f : List Int) : VEnv := { ct := (((((pvC n).add 43 (nameCt (freshG [.int .i64, .ints .u8] dpdS) (fun b => newS b d.length) (fun _ => [rws d]))).add 21 (nameCt (freshG psA afullS) (fun b => .tuple #[madeS b f.length, vi fe, vi 0]) (fun _ => [madeA f]))).add 32 (nameV (pureG psA arowS) (vi le))).add 28 (nameV (pureG psA ovrS) (.tuple #[vi (if fe = 0 then 0 else o), vi (if fe = 0 then 20 else 0)]))), orc := orcName Try.prog 31 (vi q) }
noncomputable def pvZ (n q : Nat) : VEnv := { ct := (((((pvC n).add 43 dpdZ).add 21 (freshG psA afullS)).add 32 (pureG psA arowS)).add 28 (pureG psA ovrS)), orc := orcName Try.prog 31 (vi q) }
noncomputable def pvRv_s0 (a m : Int) (l : List Int) (c n q o : Nat) (fe le : Int) (d f : List Int) := (List.take d.length (List.drop (0 : Nat) (intsOf (List.map (Value.int IntKind.i64) d))))
noncomputable def pvRv_s1 (a m : Int) (l : List Int) (c n q o : Nat) (fe le : Int) (d f : List Int) := ((if errD (Arg.plain (vi (↑n : Int))).num (Arg.ints IntKind.i64 (pvRv_s0 a m l c n q o fe le d f)).list = (0 : Int) ∧ (0 : Int) ≤ (Arg.plain (vi (if fe = (0 : Int) then (0 : Int) else (↑o : Int)))).num ∧ (Arg.plain (vi (if fe = (0 : Int) then (0 : Int) else (↑o : Int)))).num < (Arg.plain (vi (↑n : Int))).num then ovI (Arg.plain (vi (↑n : Int))).num (Arg.plain (vi (if fe = (0 : Int) then (0 : Int) else (↑o : Int)))).num (Arg.ints IntKind.i64 (pvRv_s0 a m l c n q o fe le d f)).list else (0 : Int)) == fe)
noncomputable def pvRv_s2 (a m : Int) (l : List Int) (c n q o : Nat) (fe le : Int) (d f : List Int) := ((if errD (Arg.plain (vi (↑n : Int))).num (Arg.ints IntKind.i64 (pvRv_s0 a m l c n q o fe le d f)).list = (0 : Int) then if (0 : Int) ≤ (Arg.plain (vi (if fe = (0 : Int) then (0 : Int) else (↑o : Int)))).num ∧ (Arg.plain (vi (if fe = (0 : Int) then (0 : Int) else (↑o : Int)))).num < (Arg.plain (vi (↑n : Int))).num then (0 : Int) else (2 : Int) else errD (Arg.plain (vi (↑n : Int))).num (Arg.ints IntKind.i64 (pvRv_s0 a m l c n q o fe le d f)).list) == (0 : Int))
noncomputable def pvRv_s3 (a m : Int) (l : List Int) (c n q o : Nat) (fe le : Int) (d f : List Int) := ((if errD (Arg.plain (vi (↑n : Int))).num (Arg.ints IntKind.i64 (pvRv_s0 a m l c n q o fe le d f)).list = (0 : Int) then if (0 : Int) ≤ (Arg.plain (vi (↑q : Int))).num ∧ (Arg.plain (vi (↑q : Int))).num < (Arg.plain (vi (↑n : Int))).num then (0 : Int) else (2 : Int) else errD (Arg.plain (vi (↑n : Int))).num (Arg.ints IntKind.i64 (pvRv_s0 a m l c n q o fe le d f)).list) != (0 : Int))
noncomputable def pvRv_s4 (a m : Int) (l : List Int) (c n q o : Nat) (fe le : Int) (d f : List Int) := (List.take l.length (List.drop (0 : Nat) (intsOf (List.map (Value.int IntKind.u8) l))))
noncomputable def pvRv_s5 (a m : Int) (l : List Int) (c n q o : Nat) (fe le : Int) (d f : List Int) := (runA (Arg.plain (vi (↑n : Int))).num.toNat (pvRv_s0 a m l c n q o fe le d f))
noncomputable def pvRv :=
fun (a m : Int) (l : List Int) (c n q o : Nat) (fe le : Int) (d f : List Int) ↦ (decide ((30 : Int) < (↑l.length : Int)) = true → Ob True ∧ True ∧ Ob (Value.bool true = Value.bool true)) ∧ (decide ((30 : Int) < (↑l.length : Int)) = false → Ob (((0 : Int) ≤ a ∧ a < (256 : Int)) ∧ plcN a = (↑n : Int)) ∧ Ob (((List.take l.length (List.drop (0 : Nat) (List.map (Value.int IntKind.u8) l)) = List.map (Value.int IntKind.u8) (pvRv_s4 a m l c n q o fe le d f) ∧ (0 : Nat) + l.length ≤ (List.map (Value.int IntKind.u8) l).length ∧ true = true) ∧ ((0 : Int) < (Arg.plain (vi (↑n : Int))).num ∧ (Arg.plain (vi (↑n : Int))).num ≤ (8 : Int)) ∧ (0 : Nat) < (pvRv_s4 a m l c n q o fe le d f).length ∧ u8s (pvRv_s4 a m l c n q o fe le d f) ∧ (pvRv_s4 a m l c n q o fe le d f).length ≤ (30 : Nat)) ∧ Value.slice (some { block := (1 : Nat), off := (0 : Nat), spot := some (0 : Nat) }) (dropped (Arg.plain (vi (↑n : Int))).num (pvRv_s4 a m l c n q o fe le d f)).length (0 : Nat) = Value.slice (some { block := (1 : Nat), off := (0 : Nat), spot := some (0 : Nat) }) d.length (0 : Nat) ∧ [AObj.ro (List.map (Value.int IntKind.u8) l), AObj.rw (List.map (Value.int IntKind.i64) (dropped (Arg.plain (vi (↑n : Int))).num (pvRv_s4 a m l c n q o fe le d f))) (some (1 : Nat))] = [AObj.ro (List.map (Value.int IntKind.u8) l), AObj.rw (List.map (Value.int IntKind.i64) d) (some (1 : Nat))]) ∧ Ob ((↑n : Int) ≠ (0 : Int) ∧ vi ((IntKind.i64.wrap m).tmod (↑n : Int)) = vi (↑q : Int)) ∧ Ob (((List.take d.length (List.drop (0 : Nat) (List.map (Value.int IntKind.i64) d)) = List.map (Value.int IntKind.i64) (pvRv_s0 a m l c n q o fe le d f) ∧ (0 : Nat) + d.length ≤ (List.map (Value.int IntKind.i64) d).length ∧ true = true) ∧ errD (Arg.plain (vi (↑n : Int))).num (pvRv_s0 a m l c n q o fe le d f) = (0 : Int) ∧ (0 : Nat) < (pvRv_s0 a m l c n q o fe le d f).length) ∧ Value.tuple { toList := [Value.slice (some (ad0 2)) (whL (pvRv_s5 a m l c n q o fe le d f).tk (Arg.plain (vi (↑n : Int))).num.toNat).length (whL (pvRv_s5 a m l c n q o fe le d f).tk (Arg.plain (vi (↑n : Int))).num.toNat).length, vi (pvRv_s5 a m l c n q o fe le d f).fell, vi (0 : Int)] } = Value.tuple { toList := [Value.slice (some (ad0 2)) f.length f.length, vi fe, vi (0 : Int)] } ∧ [AObj.ro (List.map (Value.int IntKind.u8) l), AObj.rw (List.map (Value.int IntKind.i64) d) (some (1 : Nat)), AObj.rw (List.map (Value.int IntKind.i64) (whL (pvRv_s5 a m l c n q o fe le d f).tk (Arg.plain (vi (↑n : Int))).num.toNat)) none] = [AObj.ro (List.map (Value.int IntKind.u8) l), AObj.rw (List.map (Value.int IntKind.i64) d) (some (1 : Nat)), AObj.rw (List.map (Value.int IntKind.i64) f) none]) ∧ Ob ((List.take d.length (List.drop (0 : Nat) (List.map (Value.int IntKind.i64) d)) = List.map (Value.int IntKind.i64) (pvRv_s0 a m l c n q o fe le d f) ∧ (0 : Nat) + d.length ≤ (List.map (Value.int IntKind.i64) d).length ∧ true = true) ∧ (Arg.ints IntKind.i64 (pvRv_s0 a m l c n q o fe le d f)).list.length ≤ (1000000 : Nat)) ∧ Ob (((List.take d.length (List.drop (0 : Nat) (List.map (Value.int IntKind.i64) d)) = List.map (Value.int IntKind.i64) (pvRv_s0 a m l c n q o fe le d f) ∧ (0 : Nat) + d.length ≤ (List.map (Value.int IntKind.i64) d).length ∧ true = true) ∧ errD (Arg.plain (vi (↑n : Int))).num (pvRv_s0 a m l c n q o fe le d f) = (0 : Int) ∧ (0 : Nat) < (pvRv_s0 a m l c n q o fe le d f).length) ∧ Value.tuple { toList := [vi (if (pvRv_s5 a m l c n q o fe le d f).fell = (0 : Int) then (0 : Int) else (↑(bestTo (fun (p : Nat) ↦ ovI (↑(Arg.plain (vi (↑n : Int))).num.toNat : Int) (↑p : Int) (pvRv_s0 a m l c n q o fe le d f)) ((Arg.plain (vi (↑n : Int))).num.toNat - (1 : Nat))) : Int)), vi (if (pvRv_s5 a m l c n q o fe le d f).fell = (0 : Int) then (20 : Int) else (0 : Int))] } = Value.tuple { toList := [vi (if fe = (0 : Int) then (0 : Int) else (↑o : Int)), vi (if fe = (0 : Int) then (20 : Int) else (0 : Int))] }) ∧ (false = false → ((pvRv_s3 a m l c n q o fe le d f) = false → (decide (fe < if errD (Arg.plain (vi (↑n : Int))).num (Arg.ints IntKind.i64 (pvRv_s0 a m l c n q o fe le d f)).list = (0 : Int) ∧ (0 : Int) ≤ (Arg.plain (vi (↑q : Int))).num ∧ (Arg.plain (vi (↑q : Int))).num < (Arg.plain (vi (↑n : Int))).num then ovI (Arg.plain (vi (↑n : Int))).num (Arg.plain (vi (↑q : Int))).num (Arg.ints IntKind.i64 (pvRv_s0 a m l c n q o fe le d f)).list else (0 : Int)) = false → (decide (fe < (0 : Int)) = false → (decide ((↑d.length : Int) < fe) = true → True ∧ Ob (Value.bool false = Value.bool true)) ∧ (decide ((↑d.length : Int) < fe) = false → ((fe == (0 : Int)) = true → (((if fe = (0 : Int) then (20 : Int) else (0 : Int)) == (20 : Int)) = true → (((if fe = (0 : Int) then (0 : Int) else (↑o : Int)) == (0 : Int)) = true → Ob (((List.take d.length (List.drop (0 : Nat) (List.map (Value.int IntKind.i64) d)) = List.map (Value.int IntKind.i64) (pvRv_s0 a m l c n q o fe le d f) ∧ (0 : Nat) + d.length ≤ (List.map (Value.int IntKind.i64) d).length ∧ true = true) ∧ errD (Arg.plain (vi (↑n : Int))).num (pvRv_s0 a m l c n q o fe le d f) = (0 : Int) ∧ (0 : Nat) < (pvRv_s0 a m l c n q o fe le d f).length) ∧ vi (ledC (Arg.plain (vi (↑n : Int))).num.toNat (pvRv_s0 a m l c n q o fe le d f)) = vi le) ∧ ((le == (0 : Int)) = true → Ob True ∧ True ∧ Ob (Value.bool true = Value.bool true)) ∧ ((le == (0 : Int)) = false → True ∧ Ob (Value.bool false = Value.bool true))) ∧ (((if fe = (0 : Int) then (0 : Int) else (↑o : Int)) == (0 : Int)) = false → True ∧ Ob (Value.bool false = Value.bool true))) ∧ (((if fe = (0 : Int) then (20 : Int) else (0 : Int)) == (20 : Int)) = false → True ∧ Ob (Value.bool false = Value.bool true))) ∧ ((fe == (0 : Int)) = false → (((if fe = (0 : Int) then (20 : Int) else (0 : Int)) != (0 : Int)) = false → (decide ((if fe = (0 : Int) then (0 : Int) else (↑o : Int)) < (0 : Int)) = false → (decide ((↑n : Int) ≤ if fe = (0 : Int) then (0 : Int) else (↑o : Int)) = false → Ob (((List.take d.length (List.drop (0 : Nat) (List.map (Value.int IntKind.i64) d)) = List.map (Value.int IntKind.i64) (pvRv_s0 a m l c n q o fe le d f) ∧ (0 : Nat) + d.length ≤ (List.map (Value.int IntKind.i64) d).length ∧ true = true) ∧ errD (Arg.plain (vi (↑n : Int))).num (pvRv_s0 a m l c n q o fe le d f) = (0 : Int) ∧ (0 : Nat) < (pvRv_s0 a m l c n q o fe le d f).length) ∧ vi (ledC (Arg.plain (vi (↑n : Int))).num.toNat (pvRv_s0 a m l c n q o fe le d f)) = vi le) ∧ ((le != (20 : Int)) = true → True ∧ Ob (Value.bool false = Value.bool true)) ∧ ((le != (20 : Int)) = false → Ob ((List.take d.length (List.drop (0 : Nat) (List.map (Value.int IntKind.i64) d)) = List.map (Value.int IntKind.i64) (pvRv_s0 a m l c n q o fe le d f) ∧ (0 : Nat) + d.length ≤ (List.map (Value.int IntKind.i64) d).length ∧ true = true) ∧ (Arg.ints IntKind.i64 (pvRv_s0 a m l c n q o fe le d f)).list.length ≤ (1000000 : Nat)) ∧ ((pvRv_s2 a m l c n q o fe le d f) = true → ((pvRv_s1 a m l c n q o fe le d f) = true → (decide ((if fe = (0 : Int) then (0 : Int) else (↑o : Int)) ≤ (↑q : Int)) = false → (decide ((if errD (Arg.plain (vi (↑n : Int))).num (Arg.ints IntKind.i64 (pvRv_s0 a m l c n q o fe le d f)).list = (0 : Int) ∧ (0 : Int) ≤ (Arg.plain (vi (↑q : Int))).num ∧ (Arg.plain (vi (↑q : Int))).num < (Arg.plain (vi (↑n : Int))).num then ovI (Arg.plain (vi (↑n : Int))).num (Arg.plain (vi (↑q : Int))).num (Arg.ints IntKind.i64 (pvRv_s0 a m l c n q o fe le d f)).list else (0 : Int)) < fe) = true → Ob True ∧ True ∧ Ob (Value.bool true = Value.bool true)) ∧ (decide ((if errD (Arg.plain (vi (↑n : Int))).num (Arg.ints IntKind.i64 (pvRv_s0 a m l c n q o fe le d f)).list = (0 : Int) ∧ (0 : Int) ≤ (Arg.plain (vi (↑q : Int))).num ∧ (Arg.plain (vi (↑q : Int))).num < (Arg.plain (vi (↑n : Int))).num then ovI (Arg.plain (vi (↑n : Int))).num (Arg.plain (vi (↑q : Int))).num (Arg.ints IntKind.i64 (pvRv_s0 a m l c n q o fe le d f)).list else (0 : Int)) < fe) = false → True ∧ Ob (Value.bool false = Value.bool true))) ∧ (decide ((if fe = (0 : Int) then (0 : Int) else (↑o : Int)) ≤ (↑q : Int)) = true → Ob True ∧ True ∧ Ob (Value.bool true = Value.bool true))) ∧ ((pvRv_s1 a m l c n q o fe le d f) = false → True ∧ Ob (Value.bool false = Value.bool true))) ∧ ((pvRv_s2 a m l c n q o fe le d f) = false → True ∧ Ob (Value.bool false = Value.bool true)))) ∧ (decide ((↑n : Int) ≤ if fe = (0 : Int) then (0 : Int) else (↑o : Int)) = true → True ∧ Ob (Value.bool false = Value.bool true))) ∧ (decide ((if fe = (0 : Int) then (0 : Int) else (↑o : Int)) < (0 : Int)) = true → True ∧ Ob (Value.bool false = Value.bool true))) ∧ (((if fe = (0 : Int) then (20 : Int) else (0 : Int)) != (0 : Int)) = true → True ∧ Ob (Value.bool false = Value.bool true))))) ∧ (decide (fe < (0 : Int)) = true → True ∧ Ob (Value.bool false = Value.bool true))) ∧ (decide (fe < if errD (Arg.plain (vi (↑n : Int))).num (Arg.ints IntKind.i64 (pvRv_s0 a m l c n q o fe le d f)).list = (0 : Int) ∧ (0 : Int) ≤ (Arg.plain (vi (↑q : Int))).num ∧ (Arg.plain (vi (↑q : Int))).num < (Arg.plain (vi (↑n : Int))).num then ovI (Arg.plain (vi (↑n : Int))).num (Arg.plain (vi (↑q : Int))).num (Arg.ints IntKind.i64 (pvRv_s0 a m l c n q o fe le d f)).list else (0 : Int)) = true → True ∧ Ob (Value.bool false = Value.bool true))) ∧ ((pvRv_s3 a m l c n q o fe le d f) = true → True ∧ Ob (Value.bool false = Value.bool true))) ∧ (false = true → True ∧ Ob (Value.bool false = Value.bool true)))
theorem pvRv_eq : pvRv = fun (a m : Int) (l : List Int) (c n q o : Nat) (fe le : Int) (d f : List Int) => vc Try.prog (pvR n q o fe le d f) 1 134 true (fun _ => none) pvB [] (argFr 0 [.int .u8 a, .slice (some ⟨0,0,none⟩) l.length c, .int .u8 m]) [bys l] (retK Try.prog Try.f8 (fun v _ => v = .bool true)) := by kernel_rfl
noncomputable def pvZv_s0 (a m : Int) (n q : Nat) (x : Option Addr) (c : Nat) := ((if errD (Arg.plain (vi (↑n : Int))).num [] = (0 : Int) ∧ (0 : Int) ≤ (Arg.plain (vi (0 : Int))).num ∧ (Arg.plain (vi (0 : Int))).num < (Arg.plain (vi (↑n : Int))).num then ovI (Arg.plain (vi (↑n : Int))).num (Arg.plain (vi (0 : Int))).num [] else (0 : Int)) == (0 : Int))
noncomputable def pvZv_s1 (a m : Int) (n q : Nat) (x : Option Addr) (c : Nat) := ((if errD (Arg.plain (vi (↑n : Int))).num [] = (0 : Int) then if (0 : Int) ≤ (Arg.plain (vi (↑q : Int))).num ∧ (Arg.plain (vi (↑q : Int))).num < (Arg.plain (vi (↑n : Int))).num then (0 : Int) else (2 : Int) else errD (Arg.plain (vi (↑n : Int))).num []) != (0 : Int))
noncomputable def pvZv_s2 (a m : Int) (n q : Nat) (x : Option Addr) (c : Nat) := ((if errD (Arg.plain (vi (↑n : Int))).num [] = (0 : Int) then if (0 : Int) ≤ (Arg.plain (vi (0 : Int))).num ∧ (Arg.plain (vi (0 : Int))).num < (Arg.plain (vi (↑n : Int))).num then (0 : Int) else (2 : Int) else errD (Arg.plain (vi (↑n : Int))).num []) == (0 : Int))
noncomputable def pvZv :=
fun (a m : Int) (n q : Nat) (x : Option Addr) (c : Nat) ↦ (false = true → Ob True ∧ True ∧ Ob (Value.bool true = Value.bool true)) ∧ (false = false → Ob (((0 : Int) ≤ a ∧ a < (256 : Int)) ∧ plcN a = (↑n : Int)) ∧ Ob ((0 : Nat) = (0 : Nat) ∧ ZeroOk x c) ∧ Ob ((↑n : Int) ≠ (0 : Int) ∧ vi ((IntKind.i64.wrap m).tmod (↑n : Int)) = vi (↑q : Int)) ∧ Ob (errD (Arg.plain (vi (↑n : Int))).num [] = (0 : Int)) ∧ Ob ((0 : Nat) ≤ (1000000 : Nat)) ∧ Ob (errD (Arg.plain (vi (↑n : Int))).num [] = (0 : Int)) ∧ (false = false → ((pvZv_s1 a m n q x c) = false → (decide ((0 : Int) < if errD (Arg.plain (vi (↑n : Int))).num [] = (0 : Int) ∧ (0 : Int) ≤ (Arg.plain (vi (↑q : Int))).num ∧ (Arg.plain (vi (↑q : Int))).num < (Arg.plain (vi (↑n : Int))).num then ovI (Arg.plain (vi (↑n : Int))).num (Arg.plain (vi (↑q : Int))).num [] else (0 : Int)) = false → (false = false → (false = true → True ∧ Ob (Value.bool false = Value.bool true)) ∧ (false = false → (true = true → (true = true → (true = true → Ob (errD (Arg.plain (vi (↑n : Int))).num [] = (0 : Int)) ∧ (true = true → Ob True ∧ True ∧ Ob (Value.bool true = Value.bool true)) ∧ (true = false → True ∧ Ob (Value.bool false = Value.bool true))) ∧ (true = false → True ∧ Ob (Value.bool false = Value.bool true))) ∧ (true = false → True ∧ Ob (Value.bool false = Value.bool true))) ∧ (true = false → (true = false → (false = false → (decide ((↑n : Int) ≤ (0 : Int)) = false → Ob (errD (Arg.plain (vi (↑n : Int))).num [] = (0 : Int)) ∧ (true = true → True ∧ Ob (Value.bool false = Value.bool true)) ∧ (true = false → Ob ((0 : Nat) ≤ (1000000 : Nat)) ∧ ((pvZv_s2 a m n q x c) = true → ((pvZv_s0 a m n q x c) = true → (decide ((0 : Int) ≤ (↑q : Int)) = false → (decide ((if errD (Arg.plain (vi (↑n : Int))).num [] = (0 : Int) ∧ (0 : Int) ≤ (Arg.plain (vi (↑q : Int))).num ∧ (Arg.plain (vi (↑q : Int))).num < (Arg.plain (vi (↑n : Int))).num then ovI (Arg.plain (vi (↑n : Int))).num (Arg.plain (vi (↑q : Int))).num [] else (0 : Int)) < (0 : Int)) = true → Ob True ∧ True ∧ Ob (Value.bool true = Value.bool true)) ∧ (decide ((if errD (Arg.plain (vi (↑n : Int))).num [] = (0 : Int) ∧ (0 : Int) ≤ (Arg.plain (vi (↑q : Int))).num ∧ (Arg.plain (vi (↑q : Int))).num < (Arg.plain (vi (↑n : Int))).num then ovI (Arg.plain (vi (↑n : Int))).num (Arg.plain (vi (↑q : Int))).num [] else (0 : Int)) < (0 : Int)) = false → True ∧ Ob (Value.bool false = Value.bool true))) ∧ (decide ((0 : Int) ≤ (↑q : Int)) = true → Ob True ∧ True ∧ Ob (Value.bool true = Value.bool true))) ∧ ((pvZv_s0 a m n q x c) = false → True ∧ Ob (Value.bool false = Value.bool true))) ∧ ((pvZv_s2 a m n q x c) = false → True ∧ Ob (Value.bool false = Value.bool true)))) ∧ (decide ((↑n : Int) ≤ (0 : Int)) = true → True ∧ Ob (Value.bool false = Value.bool true))) ∧ (false = true → True ∧ Ob (Value.bool false = Value.bool true))) ∧ (true = true → True ∧ Ob (Value.bool false = Value.bool true))))) ∧ (false = true → True ∧ Ob (Value.bool false = Value.bool true))) ∧ (decide ((0 : Int) < if errD (Arg.plain (vi (↑n : Int))).num [] = (0 : Int) ∧ (0 : Int) ≤ (Arg.plain (vi (↑q : Int))).num ∧ (Arg.plain (vi (↑q : Int))).num < (Arg.plain (vi (↑n : Int))).num then ovI (Arg.plain (vi (↑n : Int))).num (Arg.plain (vi (↑q : Int))).num [] else (0 : Int)) = true → True ∧ Ob (Value.bool false = Value.bool true))) ∧ ((pvZv_s1 a m n q x c) = true → True ∧ Ob (Value.bool false = Value.bool true))) ∧ (false = true → True ∧ Ob (Value.bool false = Value.bool true)))
theorem pvZv_eq : pvZv = fun (a m : Int) (n q : Nat) (x : Option Addr) (c : Nat) => vc Try.prog (pvZ n q) 1 134 true (fun _ => none) pvB [] (argFr 0 [.int .u8 a, .slice x 0 c, .int .u8 m]) [.gone] (retK Try.prog Try.f8 (fun v _ => v = .bool true)) := by kernel_rfl
structure PvFacts (n : Nat) (d : List Int) (f b : Int) : Prop where
  nn : 0 ≤ f
  le : f ≤ d.length
  ov : ∀ p : Nat, p ≤ n → ovI n p d ≤ f
  led : ledC n d = if f = 0 then 0 else 20
  bn : f ≠ 0 → 0 ≤ b ∧ b < n ∧ ovI n b d = f
  first : ∀ p : Nat, (p : Int) < b → f ≠ 0 → ovI n p d < f
theorem pv_facts {n : Nat} {d : List Int} (hn : 1 ≤ n) (hb : ∀ x ∈ d, 0 ≤ x ∧ x < (n : Int)) : PvFacts n d (runA n d).fell (bestTo (fun p => ovI n p d) (n - 1)) := by
  have hbd := stI_bd (ar := false) (tk := emp) hb (Nat.le_refl d.length)
  rw [stI_end (Nat.le_refl _)] at hbd
  obtain ⟨_, _, _, h4, h5⟩ := hbd
  have hov : ∀ p : Nat, p ≤ n → ovI n p d ≤ (runA n d).fell := fun p hp => over_le hb hp
  obtain ⟨p, k1, k2⟩ := over_is hb
  have hend := over_end hb
  have hbl := bestTo_le (w := fun p => ovI n p d) (i := n - 1)
  have key : (runA n d).fell ≠ 0 → ovI n (bestTo (fun p => ovI n p d) (n - 1)) d = (runA n d).fell := fun hf => by
    have hpn : p ≠ n := fun e => by subst e; rw [hend] at k2; exact hf k2.symm
    have h1 : ovI n p d ≤ ovI n (bestTo (fun p => ovI n p d) (n - 1)) d := bestTo_max (w := fun p => ovI n p d) (i := n - 1) (j := p) (by omega)
    have h2 : ovI n p d = (runA n d).fell := k2
    have h3 := hov (bestTo (fun p => ovI n p d) (n - 1)) (by omega)
    omega
  refine ⟨h4, h5, hov, rfl, fun hf => ⟨by omega, by omega, key hf⟩, fun j hj hf => ?_⟩
  have h1 : ovI n j d < ovI n (bestTo (fun p => ovI n p d) (n - 1)) d := bestTo_first (w := fun p => ovI n p d) (i := n - 1) (j := j) (by omega)
  rw [key hf] at h1; exact h1
theorem pvRv_ok (a m : Int) (l : List Int) (c n q : Nat) (ha : (0 ≤ a ∧ a < 256) ∧ plcN a = n) (hq : (IntKind.i64.wrap m).tmod n = q) (hqn : q < n) (hn : 1 ≤ n ∧ n ≤ 8) (hl : 0 < l.length) (hul : u8s l) :
    pvRv a m l c n q (bestTo (fun p => ovI n p (dropped n l)) (n - 1)) (runA n (dropped n l)).fell (ledC n (dropped n l)) (dropped n l) (whL (runA n (dropped n l)).tk n) := by
  have dl := dz_len (n := (n : Int)) (l := l)
  have hb := dz_bd (n := n) (l := l) hn.1
  have he := err0 hn (by rw [dl]; omega) hb
  have F := pv_facts hn.1 hb
  unfold pvRv pvRv_s5 pvRv_s4 pvRv_s3 pvRv_s2 pvRv_s1 pvRv_s0
  simp only [SS, reduceCtorEq, Arg.list, Arg.num, Arg.flag, intOf, andP, Nat.reduceLeDiff, Nat.reduceAdd, Nat.reduceMul, Nat.reduceLT, hq, he, hl, hul]
  generalize dropped (n : Int) l = d at *
  generalize (bestTo (fun p => ovI n p d) (n - 1) : Int) = b at *
  generalize (runA n d).fell = f at *
  obtain ⟨nn, le, ov, led, bn, first⟩ := F
  have ovq := ov q (by omega)
  have q0 : (0 : Int) ≤ q := by omega
  have q1 : (q : Int) < n := by omega
  have a1 : a < 256 := ha.1.2
  intro h30
  have n0 : ¬ (n : Int) = 0 := by omega
  have n8 : (0 : Int) < n ∧ (n : Int) ≤ 8 := by omega
  have dd : 0 < d.length ∧ d.length ≤ 1000000 := by omega
  have l30 : l.length ≤ 30 := by omega
  by_cases h0 : f = 0
  · subst h0
    simp only [led, q0, q1, n0, n8, dd, l30, ha, if_true, and_self, true_and, and_true, not_true_eq_false, false_implies, true_implies, not_false_eq_true, implies_true, reduceIte]
    omega
  · obtain ⟨b0, b1, b2⟩ := bn h0
    have fq : ¬ b ≤ q → ovI n q d < f := fun h => first q (by omega) h0
    simp only [led, h0, q0, q1, b0, b1, b2, n0, n8, dd, l30, ha, if_true, if_false, and_self, true_and, and_true, not_true_eq_false, false_implies, true_implies, not_false_eq_true, implies_true, reduceIte]
    omega
theorem pvZv_ok (a m : Int) (n q : Nat) (x : Option Addr) (c : Nat) (ha : (0 ≤ a ∧ a < 256) ∧ plcN a = n) (hq : (IntKind.i64.wrap m).tmod n = q) (hqn : q < n) (hn : 1 ≤ n ∧ n ≤ 8) (hx : ZeroOk x c) : pvZv a m n q x c := by
  have e1 := err0 (l := []) hn (by simp) (by simp)
  have h : ovI n q [] < 0 := by rw [ovI_nil]; omega
  have q0 : (0 : Int) ≤ q ∧ (q : Int) < n := by omega
  unfold pvZv pvZv_s2 pvZv_s1 pvZv_s0
  simp only [SS, reduceCtorEq, Arg.list, Arg.num, Arg.flag, intOf, andP, Nat.reduceLeDiff, Nat.reduceAdd, Nat.reduceMul, Nat.reduceLT, hq, e1, ha, hx]
  simp only [q0, and_self, if_true, true_implies, not_true_eq_false, false_implies, and_true]
  omega
theorem pvC_ok (n : Nat) : CtOk Try.prog (pvC n) := ((CtOk.none.add worksG_ok).add (placeG_ok n)).add coG_ok
theorem pvR_ok (n q o : Nat) (fe le : Int) (d f : List Int) : VOk Try.prog (pvR n q o fe le d f) :=
  ⟨((((pvC_ok n).add (nameCt_ok dpdG_ok)).add (nameCt_ok afullG_ok)).add (nameV_ok arowG_ok)).add (nameV_ok ovrG_ok), E0_ok.cc, E0_ok.yc, orcName_ok⟩
theorem pvZ_ok (n q : Nat) : VOk Try.prog (pvZ n q) := ⟨((((pvC_ok n).add dpdZ_ok).add afullG_ok).add arowG_ok).add ovrG_ok, E0_ok.cc, E0_ok.yc, orcName_ok⟩
theorem pv_q (m : Int) (n : Nat) (hm : 0 ≤ m ∧ m < 256) (hn : 1 ≤ n ∧ n ≤ 8) : ∃ q : Nat, (IntKind.i64.wrap m).tmod n = q ∧ q < n := by
  refine ⟨(m % n).toNat, ?_, ?_⟩
  · rw [wrap_in (by omega) (by omega), Int.tmod_eq_emod_of_nonneg hm.1]
    have := Int.emod_nonneg m (show (n : Int) ≠ 0 by omega)
    omega
  · have := Int.emod_lt_of_pos m (show (0 : Int) < n by omega)
    have := Int.emod_nonneg m (show (n : Int) ≠ 0 by omega)
    omega
theorem pv_r (a m : Int) (ha : 0 ≤ a ∧ a < 256) (hm : 0 ≤ m ∧ m < 256) (l : List Int) (c : Nat) (hl : 0 < l.length) (hul : u8s l) : Call Try.prog 8 [.int .u8 a, .slice (some ⟨0,0,none⟩) l.length c, .int .u8 m] [bys l] isTrue := by
  obtain ⟨n, h1, h2⟩ := plc_nat a
  obtain ⟨q, h3, h4⟩ := pv_q m n hm h2
  have h := pvRv_ok a m l c n q ⟨ha, h1⟩ h3 h4 h2 hl hul
  rw [pvRv_eq] at h
  exact Call.ofVc (pvR_ok ..) mixed (c := pvB) Try.func8 (by kernel_rfl) h
theorem pv_z (a m : Int) (ha : 0 ≤ a ∧ a < 256) (hm : 0 ≤ m ∧ m < 256) (x : Option Addr) (c : Nat) (hx : ZeroOk x c) : Call Try.prog 8 [.int .u8 a, .slice x 0 c, .int .u8 m] [.gone] isTrue := by
  obtain ⟨n, h1, h2⟩ := plc_nat a
  obtain ⟨q, h3, h4⟩ := pv_q m n hm h2
  have h := pvZv_ok a m n q x c ⟨ha, h1⟩ h3 h4 h2 hx
  rw [pvZv_eq] at h
  exact Call.ofVc (pvZ_ok ..) mixed (c := pvB) Try.func8 (by kernel_rfl) h
theorem proved_small (r : List Arg) (hr : fitsAll [.int .u8, .ints .u8, .int .u8] r) (caps : Nat → Nat) : Call Try.prog 8 (canonA caps 0 r) (canonH r) isTrue := by
  obtain ⟨x, r, rfl, hx, hr⟩ := fits_cons hr
  obtain ⟨y, r, rfl, hy, hr⟩ := fits_cons hr
  obtain ⟨z, r, rfl, hz, hr⟩ := fits_cons hr
  obtain rfl := fits_nil hr
  obtain ⟨a, rfl, ha⟩ := fits_byte hx
  obtain ⟨m, rfl, hm⟩ := fits_byte hz
  rcases fits_bytes hy with (rfl | ⟨s, rfl⟩) | ⟨l, rfl, hl, hul⟩
  · exact Call.gone (H := []) (q := fun v => v = .bool true) (pv_z a m ha hm none 0 zero_nil)
  · exact pv_z a m ha hm (some ⟨0,0,s⟩) _ zero_hole
  · exact pv_r a m ha hm l _ hl hul
theorem proved_law {K : Type} : ∀ (H : Heap) (avs : List Value) (ds : List (DataW K)), Still H → ReadsAll Try.prog H Try.f8.params.toList avs ds → Call Try.prog 8 avs H fun v _ => v = .bool true :=
  law_of (ps := [.int .u8, .ints .u8, .int .u8]) (by kernel_rfl) proved_small
end Go.Pier.Lg
