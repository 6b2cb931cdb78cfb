import Derived.Test.YtinkmgacaoohnaaPierLwheelm
import Derived.Test.YtinkmgacaoohnaaPierLdropt
import Derived.Test.YtinkmgacaoohnaaPierZX
import Derived.KernelRfl
set_option linter.unusedSimpArgs false
set_option linter.unusedVariables false
set_option maxRecDepth 100000
set_option linter.unusedVariables false
set_option linter.unusedSimpArgs false
namespace Go.Pier.Lg
open Go Go.Pier Go.Proofs
noncomputable def whlB : Code := Try.f13.body.getD .skip
noncomputable def whlC : Ct := (((((Ct.none.add 18 (pureG [] worksS)).add 32 (pureG psA arowS)).add 19 (freshG psA alieS)).add 40 (freshG psA rndS)).add 25 (pureG [.ints .i64, .ints .i64] iiS)).add 45 hasG
noncomputable def whlN (n : Nat) (e s t : Int) (d la lb : List Int) : VEnv := { ct := (((((Ct.none.add 18 (pureG [] worksS)).add 32 (nameV (pureG psA arowS) (vi e))).add 19 (nameCt (freshG psA alieS) (fun b => .tuple #[newS b d.length, vi s, vi 0]) (fun _ => [rws la]))).add 40 (nameCt (freshG psA rndS) (fun b => .tuple #[newS b d.length, vi t, vi 0]) (fun _ => [rws lb]))).add 25 (pureG [.ints .i64, .ints .i64] iiS)).add 45 hasG |>.add 43 (nameCt (freshG [.int .i64, .ints .u8] dpdS) (fun b => newS b d.length) (fun _ => [rws d])), orc := orcOr (orcName Try.prog 17 (vi n)) (orcName Try.prog 38 (vi ((n + 1 : Nat) : Int))) }
noncomputable def whlZ : VEnv := { ct := whlC.add 43 dpdZ }
noncomputable def whRv_s0 (a : Int) (l : List Int) (c n : Nat) (ee ss tt : Int) (dd la lb : List Int) := (List.take dd.length (List.drop (0 : Nat) (intsOf (List.map (Value.int IntKind.i64) dd))))
noncomputable def whRv_s1 (a : Int) (l : List Int) (c n : Nat) (ee ss tt : Int) (dd la lb : List Int) := (List.take dd.length (List.drop (0 : Nat) (intsOf (List.map (Value.int IntKind.i64) lb))))
noncomputable def whRv_s2 (a : Int) (l : List Int) (c n : Nat) (ee ss tt : Int) (dd la lb : List Int) := (Arg.ints IntKind.i64 (List.take dd.length (List.drop (0 : Nat) (intsOf (List.map (Value.int IntKind.i64) la)))))
noncomputable def whRv_s3 (a : Int) (l : List Int) (c n : Nat) (ee ss tt : Int) (dd la lb : List Int) := ((ee == (0 : Int)) == decide ((↑n : Int) ∈ List.take dd.length (List.drop (0 : Nat) (intsOf (List.map (Value.int IntKind.i64) lb)))))
noncomputable def whRv_s4 (a : Int) (l : List Int) (c n : Nat) (ee ss tt : Int) (dd la lb : List Int) := (List.take l.length (List.drop (0 : Nat) (intsOf (List.map (Value.int IntKind.u8) l))))
noncomputable def whRv :=
fun (a : Int) (l : List Int) (c n : Nat) (ee ss tt : Int) (dd la lb : List Int) ↦ Ob ((7 : Int) ≠ (0 : Int)) ∧ Ob (vi (IntKind.i64.wrap ((1 : Int) + (IntKind.i64.wrap a).tmod (7 : Int))) = vi (↑n : Int)) ∧ (decide ((↑n : Int) < (↑l.length : Int)) = true → Ob True ∧ True ∧ Ob (Value.bool true = Value.bool true)) ∧ (decide ((↑n : Int) < (↑l.length : Int)) = false → Ob (((List.take l.length (List.drop (0 : Nat) (List.map (Value.int IntKind.u8) l)) = List.map (Value.int IntKind.u8) (whRv_s4 a l c n ee ss tt dd la lb) ∧ (0 : Nat) + l.length ≤ (List.map (Value.int IntKind.u8) l).length ∧ true = true) ∧ ((0 : Int) < (Arg.plain (vi (↑n : Int))).num ∧ (Arg.plain (vi (↑n : Int))).num ≤ (8 : Int)) ∧ (0 : Nat) < (whRv_s4 a l c n ee ss tt dd la lb).length ∧ u8s (whRv_s4 a l c n ee ss tt dd la lb) ∧ (whRv_s4 a l c n ee ss tt dd la lb).length ≤ (30 : Nat)) ∧ Value.slice (some { block := (1 : Nat), off := (0 : Nat), spot := some (0 : Nat) }) (dropped (Arg.plain (vi (↑n : Int))).num (whRv_s4 a l c n ee ss tt dd la lb)).length (0 : Nat) = Value.slice (some { block := (1 : Nat), off := (0 : Nat), spot := some (0 : Nat) }) dd.length (0 : Nat) ∧ [AObj.ro (List.map (Value.int IntKind.u8) l), AObj.rw (List.map (Value.int IntKind.i64) (dropped (Arg.plain (vi (↑n : Int))).num (whRv_s4 a l c n ee ss tt dd la lb))) (some (1 : Nat))] = [AObj.ro (List.map (Value.int IntKind.u8) l), AObj.rw (List.map (Value.int IntKind.i64) dd) (some (1 : Nat))]) ∧ Ob (((List.take dd.length (List.drop (0 : Nat) (List.map (Value.int IntKind.i64) dd)) = List.map (Value.int IntKind.i64) (whRv_s0 a l c n ee ss tt dd la lb) ∧ (0 : Nat) + dd.length ≤ (List.map (Value.int IntKind.i64) dd).length ∧ true = true) ∧ errD (Arg.plain (vi (↑n : Int))).num (whRv_s0 a l c n ee ss tt dd la lb) = (0 : Int) ∧ (0 : Nat) < (whRv_s0 a l c n ee ss tt dd la lb).length) ∧ vi (ledC (Arg.plain (vi (↑n : Int))).num.toNat (whRv_s0 a l c n ee ss tt dd la lb)) = vi ee) ∧ Ob (((List.take dd.length (List.drop (0 : Nat) (List.map (Value.int IntKind.i64) dd)) = List.map (Value.int IntKind.i64) (whRv_s0 a l c n ee ss tt dd la lb) ∧ (0 : Nat) + dd.length ≤ (List.map (Value.int IntKind.i64) dd).length ∧ true = true) ∧ errD (Arg.plain (vi (↑n : Int))).num (whRv_s0 a l c n ee ss tt dd la lb) = (0 : Int) ∧ (0 : Nat) < (whRv_s0 a l c n ee ss tt dd la lb).length) ∧ Value.tuple { toList := [Value.slice (some { block := (2 : Nat), off := (0 : Nat), spot := some (0 : Nat) }) (whRv_s0 a l c n ee ss tt dd la lb).length (0 : Nat), vi (runA (Arg.plain (vi (↑n : Int))).num.toNat (whRv_s0 a l c n ee ss tt dd la lb)).slid, vi (0 : Int)] } = Value.tuple { toList := [Value.slice (some { block := (2 : Nat), off := (0 : Nat), spot := some (0 : Nat) }) dd.length (0 : Nat), vi ss, vi (0 : Int)] } ∧ [AObj.ro (List.map (Value.int IntKind.u8) l), AObj.rw (List.map (Value.int IntKind.i64) dd) (some (1 : Nat)), AObj.rw (List.map (Value.int IntKind.i64) (runA (Arg.plain (vi (↑n : Int))).num.toNat (whRv_s0 a l c n ee ss tt dd la lb)).lies) (some (1 : Nat))] = [AObj.ro (List.map (Value.int IntKind.u8) l), AObj.rw (List.map (Value.int IntKind.i64) dd) (some (1 : Nat)), AObj.rw (List.map (Value.int IntKind.i64) la) (some (1 : Nat))]) ∧ Ob (vi (IntKind.i64.wrap ((↑n : Int) + (1 : Int))) = vi (↑(n + (1 : Nat)) : Int)) ∧ Ob (((List.take dd.length (List.drop (0 : Nat) (List.map (Value.int IntKind.i64) dd)) = List.map (Value.int IntKind.i64) (whRv_s0 a l c n ee ss tt dd la lb) ∧ (0 : Nat) + dd.length ≤ (List.map (Value.int IntKind.i64) dd).length ∧ true = true) ∧ errD (Arg.plain (vi (↑(n + (1 : Nat)) : Int))).num (whRv_s0 a l c n ee ss tt dd la lb) = (0 : Int) ∧ (0 : Nat) < (whRv_s0 a l c n ee ss tt dd la lb).length ∧ (↑(whRv_s0 a l c n ee ss tt dd la lb).length : Int) ≤ (Arg.plain (vi (↑(n + (1 : Nat)) : Int))).num) ∧ Value.tuple { toList := [Value.slice (some { block := (3 : Nat), off := (0 : Nat), spot := some (0 : Nat) }) (whRv_s0 a l c n ee ss tt dd la lb).length (0 : Nat), vi (runR (Arg.plain (vi (↑(n + (1 : Nat)) : Int))).num.toNat (whRv_s0 a l c n ee ss tt dd la lb)).slid, vi (0 : Int)] } = Value.tuple { toList := [Value.slice (some { block := (3 : Nat), off := (0 : Nat), spot := some (0 : Nat) }) dd.length (0 : Nat), vi tt, vi (0 : Int)] } ∧ [AObj.ro (List.map (Value.int IntKind.u8) l), AObj.rw (List.map (Value.int IntKind.i64) dd) (some (1 : Nat)), AObj.rw (List.map (Value.int IntKind.i64) la) (some (1 : Nat)), AObj.rw (List.map (Value.int IntKind.i64) (runR (Arg.plain (vi (↑(n + (1 : Nat)) : Int))).num.toNat (whRv_s0 a l c n ee ss tt dd la lb)).lies) (some (1 : Nat))] = [AObj.ro (List.map (Value.int IntKind.u8) l), AObj.rw (List.map (Value.int IntKind.i64) dd) (some (1 : Nat)), AObj.rw (List.map (Value.int IntKind.i64) la) (some (1 : Nat)), AObj.rw (List.map (Value.int IntKind.i64) lb) (some (1 : Nat))]) ∧ ((ee != (0 : Int)) = true → ((ee != (20 : Int)) = false → (false = false → (false = false → (((↑dd.length : Int) != (↑dd.length : Int)) = false → Ob ((List.take dd.length (List.drop (0 : Nat) (List.map (Value.int IntKind.i64) lb)) = List.map (Value.int IntKind.i64) (whRv_s1 a l c n ee ss tt dd la lb) ∧ (0 : Nat) + dd.length ≤ (List.map (Value.int IntKind.i64) lb).length ∧ true = true) ∧ (whRv_s1 a l c n ee ss tt dd la lb).length < (1000000 : Nat)) ∧ ((whRv_s3 a l c n ee ss tt dd la lb) = true → True ∧ Ob (Value.bool false = Value.bool true)) ∧ ((whRv_s3 a l c n ee ss tt dd la lb) = false → ((ee != (0 : Int)) = false → Ob (((List.take dd.length (List.drop (0 : Nat) (List.map (Value.int IntKind.i64) la)) = List.map (Value.int IntKind.i64) (List.take dd.length (List.drop (0 : Nat) (intsOf (List.map (Value.int IntKind.i64) la)))) ∧ (0 : Nat) + dd.length ≤ (List.map (Value.int IntKind.i64) la).length ∧ true = true) ∧ List.take dd.length (List.drop (0 : Nat) (List.map (Value.int IntKind.i64) lb)) = List.map (Value.int IntKind.i64) (whRv_s1 a l c n ee ss tt dd la lb) ∧ (0 : Nat) + dd.length ≤ (List.map (Value.int IntKind.i64) lb).length ∧ true = true) ∧ (whRv_s2 a l c n ee ss tt dd la lb).list.length ≤ (1000000 : Nat)) ∧ (decide ((whRv_s2 a l c n ee ss tt dd la lb).list = (Arg.ints IntKind.i64 (whRv_s1 a l c n ee ss tt dd la lb)).list) = true → ((ss == tt) = true → Ob True ∧ True ∧ Ob (Value.bool true = Value.bool true)) ∧ ((ss == tt) = false → True ∧ Ob (Value.bool false = Value.bool true))) ∧ (decide ((whRv_s2 a l c n ee ss tt dd la lb).list = (Arg.ints IntKind.i64 (whRv_s1 a l c n ee ss tt dd la lb)).list) = false → True ∧ Ob (Value.bool false = Value.bool true))) ∧ ((ee != (0 : Int)) = true → Ob True ∧ True ∧ Ob (Value.bool true = Value.bool true)))) ∧ (((↑dd.length : Int) != (↑dd.length : Int)) = true → True ∧ Ob (Value.bool false = Value.bool true))) ∧ (false = true → True ∧ Ob (Value.bool false = Value.bool true))) ∧ (false = true → True ∧ Ob (Value.bool false = Value.bool true))) ∧ ((ee != (20 : Int)) = true → True ∧ Ob (Value.bool false = Value.bool true))) ∧ ((ee != (0 : Int)) = false → (false = false → (false = false → (((↑dd.length : Int) != (↑dd.length : Int)) = false → Ob ((List.take dd.length (List.drop (0 : Nat) (List.map (Value.int IntKind.i64) lb)) = List.map (Value.int IntKind.i64) (whRv_s1 a l c n ee ss tt dd la lb) ∧ (0 : Nat) + dd.length ≤ (List.map (Value.int IntKind.i64) lb).length ∧ true = true) ∧ (whRv_s1 a l c n ee ss tt dd la lb).length < (1000000 : Nat)) ∧ ((whRv_s3 a l c n ee ss tt dd la lb) = true → True ∧ Ob (Value.bool false = Value.bool true)) ∧ ((whRv_s3 a l c n ee ss tt dd la lb) = false → ((ee != (0 : Int)) = false → Ob (((List.take dd.length (List.drop (0 : Nat) (List.map (Value.int IntKind.i64) la)) = List.map (Value.int IntKind.i64) (List.take dd.length (List.drop (0 : Nat) (intsOf (List.map (Value.int IntKind.i64) la)))) ∧ (0 : Nat) + dd.length ≤ (List.map (Value.int IntKind.i64) la).length ∧ true = true) ∧ List.take dd.length (List.drop (0 : Nat) (List.map (Value.int IntKind.i64) lb)) = List.map (Value.int IntKind.i64) (whRv_s1 a l c n ee ss tt dd la lb) ∧ (0 : Nat) + dd.length ≤ (List.map (Value.int IntKind.i64) lb).length ∧ true = true) ∧ (whRv_s2 a l c n ee ss tt dd la lb).list.length ≤ (1000000 : Nat)) ∧ (decide ((whRv_s2 a l c n ee ss tt dd la lb).list = (Arg.ints IntKind.i64 (whRv_s1 a l c n ee ss tt dd la lb)).list) = true → ((ss == tt) = true → Ob True ∧ True ∧ Ob (Value.bool true = Value.bool true)) ∧ ((ss == tt) = false → True ∧ Ob (Value.bool false = Value.bool true))) ∧ (decide ((whRv_s2 a l c n ee ss tt dd la lb).list = (Arg.ints IntKind.i64 (whRv_s1 a l c n ee ss tt dd la lb)).list) = false → True ∧ Ob (Value.bool false = Value.bool true))) ∧ ((ee != (0 : Int)) = true → Ob True ∧ True ∧ Ob (Value.bool true = Value.bool true)))) ∧ (((↑dd.length : Int) != (↑dd.length : Int)) = true → True ∧ Ob (Value.bool false = Value.bool true))) ∧ (false = true → True ∧ Ob (Value.bool false = Value.bool true))) ∧ (false = true → True ∧ Ob (Value.bool false = Value.bool true))))
theorem whRv_eq : whRv = fun (a : Int) (l : List Int) (c n : Nat) (ee ss tt : Int) (dd la lb : List Int) => vc Try.prog (whlN n ee ss tt dd la lb) 1 88 true (fun _ => none) whlB [] (argFr 0 [.int .u8 a, .slice (some ⟨0,0,none⟩) l.length c]) [bys l] (retK Try.prog Try.f13 (fun v _ => v = .bool true)) := by kernel_rfl
noncomputable def whZv :=
fun (a : Int) (x : Option Addr) (c : Nat) ↦ Ob ((7 : Int) ≠ (0 : Int)) ∧ (decide (IntKind.i64.wrap ((1 : Int) + (IntKind.i64.wrap a).tmod (7 : Int)) < (↑(0 : Nat) : Int)) = true → Ob True ∧ True ∧ Ob (Value.bool true = Value.bool true)) ∧ (decide (IntKind.i64.wrap ((1 : Int) + (IntKind.i64.wrap a).tmod (7 : Int)) < (↑(0 : Nat) : Int)) = false → Ob ((0 : Nat) = (0 : Nat) ∧ ZeroOk x c) ∧ Ob (errD (Arg.plain (vi (IntKind.i64.wrap ((1 : Int) + (IntKind.i64.wrap a).tmod (7 : Int))))).num [] = (0 : Int)) ∧ Ob (errD (Arg.plain (vi (IntKind.i64.wrap ((1 : Int) + (IntKind.i64.wrap a).tmod (7 : Int))))).num [] = (0 : Int)) ∧ Ob (errD (Arg.plain (vi (IntKind.i64.wrap (IntKind.i64.wrap ((1 : Int) + (IntKind.i64.wrap a).tmod (7 : Int)) + (1 : Int))))).num [] = (0 : Int)) ∧ (false = true → (true = false → (false = false → (false = false → (false = false → (false = true → True ∧ Ob (Value.bool false = Value.bool true)) ∧ (false = false → (false = false → Ob ((0 : Nat) ≤ (1000000 : Nat)) ∧ (true = true → (true = true → Ob True ∧ True ∧ Ob (Value.bool true = Value.bool true)) ∧ (true = false → True ∧ Ob (Value.bool false = Value.bool true))) ∧ (true = false → True ∧ Ob (Value.bool false = Value.bool true))) ∧ (false = true → Ob True ∧ True ∧ Ob (Value.bool true = Value.bool true)))) ∧ (false = true → True ∧ Ob (Value.bool false = Value.bool true))) ∧ (false = true → True ∧ Ob (Value.bool false = Value.bool true))) ∧ (false = true → True ∧ Ob (Value.bool false = Value.bool true))) ∧ (true = true → True ∧ Ob (Value.bool false = Value.bool true))) ∧ (false = false → (false = false → (false = false → (false = false → (false = true → True ∧ Ob (Value.bool false = Value.bool true)) ∧ (false = false → (false = false → Ob ((0 : Nat) ≤ (1000000 : Nat)) ∧ (true = true → (true = true → Ob True ∧ True ∧ Ob (Value.bool true = Value.bool true)) ∧ (true = false → True ∧ Ob (Value.bool false = Value.bool true))) ∧ (true = false → True ∧ Ob (Value.bool false = Value.bool true))) ∧ (false = true → Ob True ∧ True ∧ Ob (Value.bool true = Value.bool true)))) ∧ (false = true → True ∧ Ob (Value.bool false = Value.bool true))) ∧ (false = true → True ∧ Ob (Value.bool false = Value.bool true))) ∧ (false = true → True ∧ Ob (Value.bool false = Value.bool true))))
theorem whZv_eq : whZv = fun (a : Int) (x : Option Addr) (c : Nat) => vc Try.prog whlZ 1 88 true (fun _ => none) whlB [] (argFr 0 [.int .u8 a, .slice x 0 c]) [.gone] (retK Try.prog Try.f13 (fun v _ => v = .bool true)) := by kernel_rfl
theorem whn_is (a : Int) (ha : 0 ≤ a ∧ a < 256) : ∃ n : Nat, IntKind.i64.wrap (1 + (IntKind.i64.wrap a).tmod 7) = n ∧ IntKind.i64.wrap ((n : Int) + 1) = ((n + 1 : Nat) : Int) ∧ 1 ≤ n ∧ n ≤ 7 := by
  refine ⟨(1 + a % 7).toNat, ?_, ?_, by omega, by omega⟩
  · rw [wrap_in (x := a) (by omega) (by omega), Int.tmod_eq_emod_of_nonneg ha.1, wrap_in (by omega) (by omega)]; omega
  · rw [wrap_in (by omega) (by omega)]; rfl
structure WhFacts (n : Nat) (d : List Int) : Prop where
  e1 : errD n d = 0
  e2 : errD ((n + 1 : Nat) : Int) d = 0
  la : (runA n d).lies.length = d.length
  lb : (runR (n + 1) d).lies.length = d.length
  has : ledC n d = 0 ↔ ¬ (n : Int) ∈ (runR (n + 1) d).lies
  two : ledC n d = 0 ∨ ledC n d = 20
  same : ledC n d = 0 → (runA n d).lies = (runR (n + 1) d).lies ∧ (runA n d).slid = (runR (n + 1) d).slid
theorem wh_facts {n : Nat} {d : List Int} (hn : 1 ≤ n ∧ n ≤ 7) (hl : d.length ≤ n) (hb : ∀ x ∈ d, 0 ≤ x ∧ x < (n : Int)) : WhFacts n d := by
  have hb2 : ∀ x ∈ d, 0 ≤ x ∧ x < ((n + 1 : Nat) : Int) := fun x hx => by have := hb x hx; omega
  have hh := round_has (n := n + 1) (l := d) (by omega) n (by omega)
  have two : ledC n d = 0 ∨ ledC n d = 20 := by unfold ledC; split <;> simp
  rcases wheel_run hb with ⟨h1, h2, h3, h4, h5⟩ | ⟨h1, h2⟩
  · refine ⟨err0 (by omega) (by omega) hb, err0 (n := n + 1) (by omega) (by omega) hb2, lies_len hb, lies_len hb2, ⟨fun _ hm => ?_, fun _ => by unfold ledC; rw [if_pos h1]⟩, two, fun _ => ⟨h4.symm, h5.symm⟩⟩
    rw [hh.2 hm] at h2; cases h2
  · have hne : ledC n d ≠ 0 := by unfold ledC; rw [if_neg (by omega)]; decide
    exact ⟨err0 (by omega) (by omega) hb, err0 (n := n + 1) (by omega) (by omega) hb2, lies_len hb, lies_len hb2, ⟨fun h => absurd h hne, fun h => absurd (hh.1 h2) h⟩, two, fun h => absurd h hne⟩
theorem whRv_ok (a : Int) (l : List Int) (c n : Nat) (ha : 0 ≤ a ∧ a < 256) (hl : 0 < l.length) (hul : u8s l) (h1 : IntKind.i64.wrap (1 + (IntKind.i64.wrap a).tmod 7) = n) (h2 : IntKind.i64.wrap ((n : Int) + 1) = ((n + 1 : Nat) : Int)) (hn : 1 ≤ n ∧ n ≤ 7) :
    whRv a l c n (ledC n (dropped n l)) (runA n (dropped n l)).slid (runR (n + 1) (dropped n l)).slid (dropped n l) (runA n (dropped n l)).lies (runR (n + 1) (dropped n l)).lies := by
  have dl := dz_len (n := (n : Int)) (l := l)
  have hb := dz_bd (n := n) (l := l) hn.1
  unfold whRv whRv_s4 whRv_s3 whRv_s2 whRv_s1 whRv_s0
  simp only [SS, reduceCtorEq, Arg.list, Arg.num, Arg.flag, intOf, andP, Nat.reduceLeDiff, Nat.reduceAdd, Nat.reduceMul, Nat.reduceLT, h1, h2]
  refine ⟨by decide, fun hle => ?_⟩
  have hdn : (dropped (n : Int) l).length ≤ n := by omega
  have hd0 : 0 < (dropped (n : Int) l).length := by omega
  have F := wh_facts hn hdn hb
  generalize dropped (n : Int) l = d at *
  obtain ⟨e1, e2, la, lb, has, two, same⟩ := F
  have t1 : List.take d.length (runA n d).lies = (runA n d).lies := List.take_of_length_le (by omega)
  have t2 : List.take d.length (runR (n + 1) d).lies = (runR (n + 1) d).lies := List.take_of_length_le (by omega)
  simp only [SS, reduceCtorEq, Arg.list, Arg.num, Arg.flag, intOf, andP, Nat.reduceLeDiff, Nat.reduceAdd, Nat.reduceMul, Nat.reduceLT, e1, e2, ← List.map_take, t1, t2, la, lb, hd0, hul, hl]
  have q : (d.length : Int) ≤ ((n + 1 : Nat) : Int) ∧ d.length < 1000000 ∧ d.length ≤ 1000000 ∧ l.length ≤ 30 ∧ (0 : Int) < n ∧ (n : Int) ≤ 8 := by omega
  obtain ⟨q1, q2, q3, q4, q5, q6⟩ := q
  rcases two with h0 | h0
  · obtain ⟨s1, s2⟩ := same h0
    have nm := has.1 h0
    simp only [h0, nm, q1, q2, q3, q4, q5, q6, s1, s2, true_and, and_true, not_true_eq_false, false_implies, true_implies, decide_false, beq_self_eq_true, Bool.true_eq_false, not_false_eq_true, imp_self, implies_true]
  · have nm : (n : Int) ∈ (runR (n + 1) d).lies := by
      rcases Classical.em ((n : Int) ∈ (runR (n + 1) d).lies) with h | h
      · exact h
      · have := has.2 h; omega
    have hb0 : ((20 : Int) == 0) = false := rfl
    have h20 : ¬ (20 : Int) = 0 := by decide
    simp only [h0, nm, q1, q2, q3, q4, q5, q6, h20, hb0, true_and, and_true, not_true_eq_false, false_implies, true_implies, decide_true, Bool.false_eq_true, not_false_eq_true, imp_self, implies_true]
theorem whZv_ok (a : Int) (x : Option Addr) (c : Nat) (ha : 0 ≤ a ∧ a < 256) (hx : ZeroOk x c) : whZv a x c := by
  obtain ⟨n, h1, h2, hn⟩ := whn_is a ha
  have e1 := err0 (n := n) (l := []) (by omega) (by simp) (by simp)
  have e2 := err0 (n := n + 1) (l := []) (by omega) (by simp) (by simp)
  unfold whZv
  simp only [SS, reduceCtorEq, Arg.list, Arg.num, Arg.flag, intOf, andP, Nat.reduceLeDiff, Nat.reduceAdd, Nat.reduceMul, Nat.reduceLT, h1, h2, e1, e2, hx]
  decide
theorem whlC_ok : CtOk Try.prog whlC := (((((CtOk.none.add worksG_ok).add arowG_ok).add alieG_ok).add rndG_ok).add iiG_ok).add hasG_ok
theorem whlZ_ok : VOk Try.prog whlZ := VOk.ofCt (whlC_ok.add dpdZ_ok)
theorem whlN_ok (n : Nat) (e s t : Int) (d la lb : List Int) : VOk Try.prog (whlN n e s t d la lb) :=
  ⟨((((((CtOk.none.add worksG_ok).add (nameV_ok arowG_ok)).add (nameCt_ok alieG_ok)).add (nameCt_ok rndG_ok)).add iiG_ok).add hasG_ok).add (nameCt_ok dpdG_ok), E0_ok.cc, E0_ok.yc, orcOr_ok orcName_ok orcName_ok⟩
theorem wh_r (a : Int) (ha : 0 ≤ a ∧ a < 256) (l : List Int) (c : Nat) (hl : 0 < l.length) (hul : u8s l) : Call Try.prog 13 [.int .u8 a, .slice (some ⟨0,0,none⟩) l.length c] [bys l] isTrue := by
  obtain ⟨n, h1, h2, hn⟩ := whn_is a ha
  have h := whRv_ok a l c n ha hl hul h1 h2 hn
  rw [whRv_eq] at h
  exact Call.ofVc (whlN_ok ..) mixed (c := whlB) Try.func13 (by kernel_rfl) h
theorem wh_z (a : Int) (ha : 0 ≤ a ∧ a < 256) (x : Option Addr) (c : Nat) (hx : ZeroOk x c) : Call Try.prog 13 [.int .u8 a, .slice x 0 c] [.gone] isTrue := by
  have h := whZv_ok a x c ha hx
  rw [whZv_eq] at h
  exact Call.ofVc whlZ_ok mixed (c := whlB) Try.func13 (by kernel_rfl) h
theorem wheel_small (r : List Arg) (hr : fitsAll [.int .u8, .ints .u8] r) (caps : Nat → Nat) : Call Try.prog 13 (canonA caps 0 r) (canonH r) isTrue := by
  obtain ⟨x, r, rfl, hx, hr⟩ := fits_cons hr
  obtain ⟨y, r, rfl, hy, hr⟩ := fits_cons hr
  obtain rfl := fits_nil hr
  obtain ⟨a, rfl, ha⟩ := fits_byte hx
  rcases fits_bytes hy with (rfl | ⟨s, rfl⟩) | ⟨l, rfl, hl, hul⟩
  · exact Call.gone (H := []) (q := fun v => v = .bool true) (wh_z a ha none 0 zero_nil)
  · exact wh_z a ha (some ⟨0,0,s⟩) _ zero_hole
  · exact wh_r a ha l _ hl hul
theorem wheel_law {K : Type} : ∀ (H : Heap) (avs : List Value) (ds : List (DataW K)), Still H → ReadsAll Try.prog H Try.f13.params.toList avs ds → Call Try.prog 13 avs H fun v _ => v = .bool true :=
  law_of (ps := [.int .u8, .ints .u8]) (by kernel_rfl) wheel_small
end Go.Pier.Lg
