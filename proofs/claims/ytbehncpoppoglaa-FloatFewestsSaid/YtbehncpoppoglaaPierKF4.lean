import Derived.Test.YtbehncpoppoglaaPierKF3
import Derived.KernelRfl
import Derived.Test.YtbehncpoppoglaaPierKF2
set_option linter.unusedSimpArgs false
set_option linter.unusedVariables false
set_option maxRecDepth 100000
namespace Go.Pier.Fl
open Go Go.Pier Go.Proofs
def errK (l m : List Int) : Int := if errC l ≠ 0 then errC l else if m.length ≠ l.length then 15 else if wiF 0 1000 m = false then 3 else 0
def chA (l m : List Int) : Int := if errK l m = 0 then dotF l (gt m) l.length else 0
def chM (l m : List Int) : Int := if errK l m = 0 then pf (gt m) l.length else 0
theorem errK_0 {l m : List Int} (h : errC l = 0) (h2 : m.length = l.length) (h3 : ∀ x ∈ m,0≤x∧x≤1000) : errK l m = 0 := by
 rw [errK,if_neg (fun k => k h),if_neg (fun k => k h2),if_neg (by rw [show wiF 0 1000 m = true from decide_eq_true h3]; exact Bool.noConfusion)]
end Go.Pier.Fl
namespace Go.Pier.Fl
open Go Go.Pier Go.Proofs
noncomputable def xgE (l : List Int) (c : Nat) : VEnv := { ct := (fwT.add 67 (cgCt l c)).add 74 (born3 [.agg [.rows [.i .i64] false],ps5] liS),cc := ccOr (ccIn Try.prog (tiE l c) [⟨66,Try.f66,fun _ _ _ => none⟩]) (ccIn Try.prog { ct := fwT.add 74 (born3 [.agg [.rows [.i .i64] false],ps5] liS) } [⟨71,Try.f71,fun _ _ _ => none⟩]) }
noncomputable def xgB : Code := Try.f26.body.getD .skip
def bestL (l : List Int) (a : Int) : List Int := List.take l.length (L5 (bF l a.toNat))
noncomputable def xgV :=
fun (l:List Int) (c:Nat) (a:Int)↦Ob (some (AObj.ro (List.map (Value.int IntKind.i64) l))=some (AObj.ro (List.map (Value.int IntKind.i64) l))∧l.length=l.length∧c=c∧l.length≤1000000)∧(Ob (errC l≠(0:Int))→((errC l==(0:Int))=true→Ob (([vi a]=[vi (intOf (vi a))]∧0+1≤1∧true=true)∧1≤1000000)∧((!wiF (Arg.plain (vi (0:Int))).num (Arg.plain (vi (300:Int))).num [intOf (vi a)])=true→(true=true→True∧Ob (Value.tuple ⟨[Value.slice none 0 0,vi (3:Int)]⟩=Value.tuple ⟨[Value.slice none 0 0,vi (errN l a)]⟩))∧(true=false→False))∧((!wiF (Arg.plain (vi (0:Int))).num (Arg.plain (vi (300:Int))).num [intOf (vi a)])=false→((errC l !=(0:Int))=true→True∧Ob (Value.tuple ⟨[Value.slice none 0 0,vi (errC l)]⟩=Value.tuple ⟨[Value.slice none 0 0,vi (errN l a)]⟩))∧((errC l !=(0:Int))=false→False)))∧((errC l==(0:Int))=false→((errC l !=(0:Int))=true→True∧Ob (Value.tuple ⟨[Value.slice none 0 0,vi (errC l)]⟩=Value.tuple ⟨[Value.slice none 0 0,vi (errN l a)]⟩))∧((errC l !=(0:Int))=false→False)))∧(Ob (errC l=(0:Int))→∀ (zl:List Int),Ob (isZ zl)→(true=true→Ob (([vi a]=[vi (intOf (vi a))]∧0+1≤1∧true=true)∧1≤1000000)∧((!wiF (Arg.plain (vi (0:Int))).num (Arg.plain (vi (300:Int))).num [intOf (vi a)])=true→(true=true→True∧Ob (Value.tuple ⟨[Value.slice none 0 0,vi (3:Int)]⟩=Value.tuple ⟨[Value.slice none 0 0,vi (errN l a)]⟩))∧(true=false→False))∧((!wiF (Arg.plain (vi (0:Int))).num (Arg.plain (vi (300:Int))).num [intOf (vi a)])=false→(false=true→True∧Ob (Value.tuple ⟨[Value.slice none 0 0,vi (0:Int)]⟩=Value.tuple ⟨[Value.slice none 0 0,vi (errN l a)]⟩))∧(false=false→Ob (AtZ l c [AObj.ro (List.map (Value.int IntKind.i64) l),AObj.rw (Value.slice (some (ad0 0)) l.length c::List.map (Value.int IntKind.i64) zl) none,AObj.rw [vi a] none]∧Coins l∧(0:Int)≤a∧a≤(5000:Int))∧Ob True∧((!(a==(0:Int) || !same5 (l5 (bF l a.toNat 0) (bF l a.toNat 1) (bF l a.toNat 2) (bF l a.toNat 3) (bF l a.toNat 4)) z5))=true→True∧Ob (Value.tuple ⟨[Value.slice none 0 0,vi (5:Int)]⟩=Value.tuple ⟨[Value.slice none 0 0,vi (errN l a)]⟩))∧((!(a==(0:Int) || !same5 (l5 (bF l a.toNat 0) (bF l a.toNat 1) (bF l a.toNat 2) (bF l a.toNat 3) (bF l a.toNat 4)) z5))=false→Ob ((true=true∧Flat (List.map (Value.int IntKind.i64) l))∧okC (Leaf.view (List.map (Value.int IntKind.i64) l) l.length false))∧True∧Ob (Value.tuple ⟨[Value.slice (some ⟨4,0,some 0⟩) l.length 0,vi (0:Int)]⟩=Value.tuple ⟨[Value.slice none 0 0,vi (errN l a)]⟩)))))∧(true=false→(false=true→True∧Ob (Value.tuple ⟨[Value.slice none 0 0,vi (0:Int)]⟩=Value.tuple ⟨[Value.slice none 0 0,vi (errN l a)]⟩))∧(false=false→Ob (AtZ l c [AObj.ro (List.map (Value.int IntKind.i64) l),AObj.rw (Value.slice (some (ad0 0)) l.length c::List.map (Value.int IntKind.i64) zl) none]∧Coins l∧(0:Int)≤a∧a≤(5000:Int))∧Ob True∧((!(a==(0:Int) || !same5 (l5 (bF l a.toNat 0) (bF l a.toNat 1) (bF l a.toNat 2) (bF l a.toNat 3) (bF l a.toNat 4)) z5))=true→True∧Ob (Value.tuple ⟨[Value.slice none 0 0,vi (5:Int)]⟩=Value.tuple ⟨[Value.slice none 0 0,vi (errN l a)]⟩))∧((!(a==(0:Int) || !same5 (l5 (bF l a.toNat 0) (bF l a.toNat 1) (bF l a.toNat 2) (bF l a.toNat 3) (bF l a.toNat 4)) z5))=false→Ob ((true=true∧Flat (List.map (Value.int IntKind.i64) l))∧okC (Leaf.view (List.map (Value.int IntKind.i64) l) l.length false))∧True∧Ob (Value.tuple ⟨[Value.slice (some ⟨3,0,some 0⟩) l.length 0,vi (0:Int)]⟩=Value.tuple ⟨[Value.slice none 0 0,vi (errN l a)]⟩)))))
theorem xgV_eq : xgV = fun (l : List Int) (c : Nat) (a : Int) => vc Try.prog (xgE l c) 1 25 true (fun _ => none) xgB [] (argFr 0 [.slice (some ⟨0,0,none⟩) l.length c,vi a]) [ros l] (retK Try.prog Try.f26 (fun v H => v = .tuple #[.slice none 0 0,vi (errN l a)])) := by kernel_rfl
noncomputable def xgO :=
fun (l:List Int) (c:Nat) (a:Int)↦Ob (some (AObj.ro (List.map (Value.int IntKind.i64) l))=some (AObj.ro (List.map (Value.int IntKind.i64) l))∧l.length=l.length∧c=c∧l.length≤1000000)∧(Ob (errC l≠(0:Int))→((errC l==(0:Int))=true→Ob (([vi a]=[vi (intOf (vi a))]∧0+1≤1∧true=true)∧1≤1000000)∧((!wiF (Arg.plain (vi (0:Int))).num (Arg.plain (vi (300:Int))).num [intOf (vi a)])=true→(true=true→(Ob (AObj.ro (List.map (Value.int IntKind.i64) l)=AObj.ro (List.map (nmap1 (nsub 1 4)) (List.map (Value.int IntKind.i64) l))∧AObj.sc 2 (AObj.ro (List.map (Value.int IntKind.i64) l))=true)∧False)∧Ob (Value.tuple ⟨[Value.slice none 0 0,vi (3:Int)]⟩=Value.tuple ⟨[Value.slice (some ⟨4,0,some 0⟩) l.length 0,vi (0:Int)]⟩)∧True)∧(true=false→False))∧((!wiF (Arg.plain (vi (0:Int))).num (Arg.plain (vi (300:Int))).num [intOf (vi a)])=false→((errC l !=(0:Int))=true→(Ob (AObj.ro (List.map (Value.int IntKind.i64) l)=AObj.ro (List.map (nmap1 (nsub 1 4)) (List.map (Value.int IntKind.i64) l))∧AObj.sc 2 (AObj.ro (List.map (Value.int IntKind.i64) l))=true)∧False)∧Ob (Value.tuple ⟨[Value.slice none 0 0,vi (errC l)]⟩=Value.tuple ⟨[Value.slice (some ⟨4,0,some 0⟩) l.length 0,vi (0:Int)]⟩)∧True)∧((errC l !=(0:Int))=false→False)))∧((errC l==(0:Int))=false→((errC l !=(0:Int))=true→(Ob (AObj.ro (List.map (Value.int IntKind.i64) l)=AObj.ro (List.map (nmap1 (nsub 1 4)) (List.map (Value.int IntKind.i64) l))∧AObj.sc 2 (AObj.ro (List.map (Value.int IntKind.i64) l))=true)∧False)∧Ob (Value.tuple ⟨[Value.slice none 0 0,vi (errC l)]⟩=Value.tuple ⟨[Value.slice (some ⟨4,0,some 0⟩) l.length 0,vi (0:Int)]⟩)∧True)∧((errC l !=(0:Int))=false→False)))∧(Ob (errC l=(0:Int))→∀ (zl:List Int),Ob (isZ zl)→(true=true→Ob (([vi a]=[vi (intOf (vi a))]∧0+1≤1∧true=true)∧1≤1000000)∧((!wiF (Arg.plain (vi (0:Int))).num (Arg.plain (vi (300:Int))).num [intOf (vi a)])=true→(true=true→(Ob (AObj.ro (List.map (Value.int IntKind.i64) l)=AObj.ro (List.map (nmap1 (nsub 1 4)) (List.map (Value.int IntKind.i64) l))∧AObj.sc 2 (AObj.ro (List.map (Value.int IntKind.i64) l))=true)∧False)∧Ob (Value.tuple ⟨[Value.slice none 0 0,vi (3:Int)]⟩=Value.tuple ⟨[Value.slice (some ⟨4,0,some 0⟩) l.length 0,vi (0:Int)]⟩)∧True)∧(true=false→False))∧((!wiF (Arg.plain (vi (0:Int))).num (Arg.plain (vi (300:Int))).num [intOf (vi a)])=false→(false=true→(Ob (AObj.ro (List.map (Value.int IntKind.i64) l)=AObj.ro (List.map (nmap1 (nsub 1 4)) (List.map (Value.int IntKind.i64) l))∧AObj.sc 2 (AObj.ro (List.map (Value.int IntKind.i64) l))=true)∧False)∧Ob (Value.tuple ⟨[Value.slice none 0 0,vi (0:Int)]⟩=Value.tuple ⟨[Value.slice (some ⟨4,0,some 0⟩) l.length 0,vi (0:Int)]⟩)∧True)∧(false=false→Ob (AtZ l c [AObj.ro (List.map (Value.int IntKind.i64) l),AObj.rw (Value.slice (some (ad0 0)) l.length c::List.map (Value.int IntKind.i64) zl) none,AObj.rw [vi a] none]∧Coins l∧(0:Int)≤a∧a≤(5000:Int))∧Ob True∧((!(a==(0:Int) || !same5 (l5 (bF l a.toNat 0) (bF l a.toNat 1) (bF l a.toNat 2) (bF l a.toNat 3) (bF l a.toNat 4)) z5))=true→(Ob (AObj.ro (List.map (Value.int IntKind.i64) l)=AObj.ro (List.map (nmap1 (nsub 1 4)) (List.map (Value.int IntKind.i64) l))∧AObj.sc 2 (AObj.ro (List.map (Value.int IntKind.i64) l))=true)∧False)∧Ob (Value.tuple ⟨[Value.slice none 0 0,vi (5:Int)]⟩=Value.tuple ⟨[Value.slice (some ⟨4,0,some 0⟩) l.length 0,vi (0:Int)]⟩)∧True)∧((!(a==(0:Int) || !same5 (l5 (bF l a.toNat 0) (bF l a.toNat 1) (bF l a.toNat 2) (bF l a.toNat 3) (bF l a.toNat 4)) z5))=false→Ob ((true=true∧Flat (List.map (Value.int IntKind.i64) l))∧okC (Leaf.view (List.map (Value.int IntKind.i64) l) l.length false))∧(Ob (AObj.ro (List.map (Value.int IntKind.i64) l)=AObj.ro (List.map (nmap1 (nsub 1 4)) (List.map (Value.int IntKind.i64) l))∧AObj.sc 2 (AObj.ro (List.map (Value.int IntKind.i64) l))=true)∧Ob (AObj.rw (List.map (Value.int IntKind.i64) (List.take l.length [l5 (bF l a.toNat 0) (bF l a.toNat 1) (bF l a.toNat 2) (bF l a.toNat 3) (bF l a.toNat 4) 0,l5 (bF l a.toNat 0) (bF l a.toNat 1) (bF l a.toNat 2) (bF l a.toNat 3) (bF l a.toNat 4) 1,l5 (bF l a.toNat 0) (bF l a.toNat 1) (bF l a.toNat 2) (bF l a.toNat 3) (bF l a.toNat 4) 2,l5 (bF l a.toNat 0) (bF l a.toNat 1) (bF l a.toNat 2) (bF l a.toNat 3) (bF l a.toNat 4) 3,l5 (bF l a.toNat 0) (bF l a.toNat 1) (bF l a.toNat 2) (bF l a.toNat 3) (bF l a.toNat 4) 4])) (some 1)=AObj.rw (List.map (nmap1 (nsub 1 4)) (List.map (Value.int IntKind.i64) (bestL l a))) (some 1)∧AObj.sc 2 (AObj.rw (List.map (Value.int IntKind.i64) (bestL l a)) (some 1))=true)∧True)∧Ob (Value.tuple ⟨[Value.slice (some ⟨4,0,some 0⟩) l.length 0,vi (0:Int)]⟩=Value.tuple ⟨[Value.slice (some ⟨4,0,some 0⟩) l.length 0,vi (0:Int)]⟩)∧True))))∧(true=false→(false=true→(Ob (AObj.ro (List.map (Value.int IntKind.i64) l)=AObj.ro (List.map (nmap1 (nsub 1 4)) (List.map (Value.int IntKind.i64) l))∧AObj.sc 2 (AObj.ro (List.map (Value.int IntKind.i64) l))=true)∧False)∧Ob (Value.tuple ⟨[Value.slice none 0 0,vi (0:Int)]⟩=Value.tuple ⟨[Value.slice (some ⟨4,0,some 0⟩) l.length 0,vi (0:Int)]⟩)∧True)∧(false=false→Ob (AtZ l c [AObj.ro (List.map (Value.int IntKind.i64) l),AObj.rw (Value.slice (some (ad0 0)) l.length c::List.map (Value.int IntKind.i64) zl) none]∧Coins l∧(0:Int)≤a∧a≤(5000:Int))∧Ob True∧((!(a==(0:Int) || !same5 (l5 (bF l a.toNat 0) (bF l a.toNat 1) (bF l a.toNat 2) (bF l a.toNat 3) (bF l a.toNat 4)) z5))=true→(Ob (AObj.ro (List.map (Value.int IntKind.i64) l)=AObj.ro (List.map (nmap1 (nsub 1 4)) (List.map (Value.int IntKind.i64) l))∧AObj.sc 2 (AObj.ro (List.map (Value.int IntKind.i64) l))=true)∧False)∧Ob (Value.tuple ⟨[Value.slice none 0 0,vi (5:Int)]⟩=Value.tuple ⟨[Value.slice (some ⟨4,0,some 0⟩) l.length 0,vi (0:Int)]⟩)∧True)∧((!(a==(0:Int) || !same5 (l5 (bF l a.toNat 0) (bF l a.toNat 1) (bF l a.toNat 2) (bF l a.toNat 3) (bF l a.toNat 4)) z5))=false→Ob ((true=true∧Flat (List.map (Value.int IntKind.i64) l))∧okC (Leaf.view (List.map (Value.int IntKind.i64) l) l.length false))∧(Ob (AObj.ro (List.map (Value.int IntKind.i64) l)=AObj.ro (List.map (nmap1 (nsub 1 4)) (List.map (Value.int IntKind.i64) l))∧AObj.sc 2 (AObj.ro (List.map (Value.int IntKind.i64) l))=true)∧False)∧Ob (Value.tuple ⟨[Value.slice (some ⟨3,0,some 0⟩) l.length 0,vi (0:Int)]⟩=Value.tuple ⟨[Value.slice (some ⟨4,0,some 0⟩) l.length 0,vi (0:Int)]⟩)∧True))))
noncomputable def xgN :=
fun (a:Int)↦Ob True∧(false=true→Ob (([vi a]=[vi (intOf (vi a))]∧1≤1∧true=true)∧1≤1000000)∧((!wiF (Arg.plain (vi (0:Int))).num (Arg.plain (vi (300:Int))).num [intOf (vi a)])=true→(true=true→True∧Ob (Value.tuple ⟨[Value.slice none 0 0,vi (3:Int)]⟩=Value.tuple ⟨[Value.slice none 0 0,vi (6:Int)]⟩))∧(true=false→False))∧((!wiF (Arg.plain (vi (0:Int))).num (Arg.plain (vi (300:Int))).num [intOf (vi a)])=false→(true=true→True∧Ob (Value.tuple ⟨[Value.slice none 0 0,vi (6:Int)]⟩=Value.tuple ⟨[Value.slice none 0 0,vi (6:Int)]⟩))∧(true=false→False)))∧(false=false→(true=true→True∧Ob (Value.tuple ⟨[Value.slice none 0 0,vi (6:Int)]⟩=Value.tuple ⟨[Value.slice none 0 0,vi (6:Int)]⟩))∧(true=false→False))
theorem xgN_eq : xgN = fun (a : Int) => vc Try.prog fnE 0 25 true (fun _ => none) xgB [] (argFr 0 [.slice none 0 0,vi a]) [] (retK Try.prog Try.f26 (fun v H => v = .tuple #[.slice none 0 0,vi 6])) := by kernel_rfl
noncomputable def xgH :=
fun (s:Option Nat) (c:Nat) (a:Int)↦Ob True∧(false=true→Ob (([vi a]=[vi (intOf (vi a))]∧1≤1∧true=true)∧1≤1000000)∧((!wiF (Arg.plain (vi (0:Int))).num (Arg.plain (vi (300:Int))).num [intOf (vi a)])=true→(true=true→True∧Ob (Value.tuple ⟨[Value.slice none 0 0,vi (3:Int)]⟩=Value.tuple ⟨[Value.slice none 0 0,vi (6:Int)]⟩))∧(true=false→False))∧((!wiF (Arg.plain (vi (0:Int))).num (Arg.plain (vi (300:Int))).num [intOf (vi a)])=false→(true=true→True∧Ob (Value.tuple ⟨[Value.slice none 0 0,vi (6:Int)]⟩=Value.tuple ⟨[Value.slice none 0 0,vi (6:Int)]⟩))∧(true=false→False)))∧(false=false→(true=true→True∧Ob (Value.tuple ⟨[Value.slice none 0 0,vi (6:Int)]⟩=Value.tuple ⟨[Value.slice none 0 0,vi (6:Int)]⟩))∧(true=false→False))
theorem xgH_eq : xgH = fun (s : Option Nat) (c : Nat) (a : Int) => vc Try.prog fnE 1 25 true (fun _ => none) xgB [] (argFr 0 [.slice (some ⟨0,0,s⟩) 0 c,vi a]) [.gone] (retK Try.prog Try.f26 (fun v H => v = .tuple #[.slice none 0 0,vi 6])) := by kernel_rfl
theorem nil_eq {x y : Int} (h : x = y) : ({ toList := [Value.slice none 0 0,vi x] } : Array Value) = { toList := [Value.slice none 0 0,vi y] } := by rw [h]
theorem okC_of {l : List Int} (hc : Coins l) {r : Bool} : okC (Leaf.view (List.map (Value.int .i64) l) l.length r) := ⟨by rw [intsOf_map],by simp,hc.pos,hc.few⟩
theorem xgV_ok (l : List Int) (c : Nat) (a : Int) (hl : l.length≤1000000) (hn : errN l a ≠ 0) : xgV l c a := by
 unfold xgV
 simp only [SS,reduceCtorEq,Arg.list,Arg.num,Arg.flag,intOf,andP,Nat.reduceLeDiff,Nat.reduceAdd,Nat.reduceMul,Nat.reduceLT]
 refine ⟨hl,fun he => ⟨fun h => absurd h he,fun _ => ⟨fun _ => nil_eq (by rw [errN_a (by rw [errA_c he]; exact he),errA_c he]),fun h => he h⟩⟩,fun he zl hz => ⟨fun h => ?_,fun h => ?_⟩⟩
 · have h3 := errA_3 he ((wi_300 h).2 rfl)
   exact nil_eq (by rw [errN_a (by rw [h3]; decide),h3])
 · have hr := (wi_300 h).1 rfl
   have hc := errC_ok.1 he
   have h0 : errA l a = 0 := errA_0.2 ⟨he,hr⟩
   exact ⟨⟨at_z,hc,by omega,by omega⟩,fun h4 => nil_eq (errN_5 h0 (can_ofI hr.1 h4)).symm,fun h4 => absurd (errN_0 h0 (can_ofI hr.1 h4)) hn⟩
theorem xgO_ok (l : List Int) (c : Nat) (a : Int) (hn : errN l a = 0) : xgO l c a := by
 unfold xgO
 simp only [SS,reduceCtorEq,Arg.list,Arg.num,Arg.flag,intOf,andP,Nat.reduceLeDiff,Nat.reduceAdd,Nat.reduceMul,Nat.reduceLT,til_sc,nm_sl]
 have h0 : errA l a = 0 := by
   by_cases h : errA l a = 0
   · exact h
   · rw [errN_a h] at hn; exact absurd hn h
 obtain ⟨he,hr⟩ := errA_0.1 h0
 have hc := errC_ok.1 he
 have := hc.few
 refine ⟨by omega,fun h => absurd he h,fun _ zl hz => ⟨fun h => (wi_300 h).2 rfl hr,fun h => ⟨⟨at_z,hc,by omega,by omega⟩,fun h4 => ?_,fun h4 => ⟨⟨all_sc_int,okC_of hc⟩,rfl⟩⟩⟩⟩
 rw [errN_5 h0 (can_ofI hr.1 h4)] at hn
 cases hn
theorem xgN_ok (a : Int) : xgN a := by
 unfold xgN
 simp only [SS,reduceCtorEq,Arg.list,Arg.num,Arg.flag,intOf,andP,Nat.reduceLeDiff,Nat.reduceAdd,Nat.reduceMul,Nat.reduceLT]
theorem xgH_ok (s : Option Nat) (c : Nat) (a : Int) : xgH s c a := by
 unfold xgH
 simp only [SS,reduceCtorEq,Arg.list,Arg.num,Arg.flag,intOf,andP,Nat.reduceLeDiff,Nat.reduceAdd,Nat.reduceMul,Nat.reduceLT]
noncomputable def xg1E : VEnv := { ct := fwT.add 74 (born3 [.agg [.rows [.i .i64] false],ps5] liS) }
theorem xg1E_ok : VOk Try.prog xg1E := VOk.ofCt (fwT_ok.add liG_ok)
theorem xgE_ok {l : List Int} {c : Nat} : VOk Try.prog (xgE l c) := ⟨(fwT_ok.add cgCt_ok).add liG_ok,ccOr_ok (ccIn_ok tiE_ok mixed (inl_one Try.func66)) (ccIn_ok xg1E_ok mixed (inl_one Try.func71)),E0_ok.yc,E0_ok.orc⟩
def xgES (r : List Arg) : Prop × Value := match r with
 | [.ints _ l,.plain (.int .i64 a)] => (l.length≤1000000∧errN l a ≠ 0,.tuple #[.slice none 0 0,vi (errN l a)])
 | [_,.plain (.int .i64 _)] => (True,.tuple #[.slice none 0 0,vi 6])
 | _ => (False,undef)
theorem xgEG_ok : ∀ args H φ v H' l,pureG [.ints .i64,.int .i64] xgES args H = some (φ,v,H',l)→Asks φ→Call Try.prog 26 args H (fun v' H2 => v' = v∧H2 = H')∧Kept H H' l :=
 pureG_ok fun r hk hs => match r,hk with
   | [_,_],⟨hl,⟨a,ha⟩,_⟩ => by
     subst ha
     rcases hl with rfl | ⟨s,rfl⟩ | ⟨l,rfl⟩
     · exact ⟨by simp [xgES,sc,sc2,sc1,sc0],fun caps => Call.ofVc fnE_ok mixed (c := xgB) (inv := fun _ => none) Try.func26 (by kernel_rfl) (cast (congrFun xgN_eq a) (xgN_ok a))⟩
     · exact ⟨by simp [xgES,sc,sc2,sc1,sc0],fun caps => Call.ofVc fnE_ok mixed (c := xgB) (inv := fun _ => none) Try.func26 (by kernel_rfl) (cast (congrFun (congrFun (congrFun xgH_eq s) (caps 0)) a) (xgH_ok s _ a))⟩
     · exact ⟨by simp [xgES,sc,sc2,sc1,sc0],fun caps => Call.ofVc xgE_ok mixed (c := xgB) (inv := fun _ => none) Try.func26 (by kernel_rfl) (cast (congrFun (congrFun (congrFun xgV_eq l) (caps 0)) a) (xgV_ok l _ a hs.1 hs.2))⟩
def xgOS (r : List Arg) : Option (Prop × Back) := match r with
 | [.ints _ l,.plain (.int .i64 a)] => some (errN l a = 0,.both (bestL l a) [vi 0])
 | _ => none
theorem best_len {l : List Int} {a : Int} (h : l.length≤5) : (bestL l a).length = l.length := tk_len h
theorem xgOG_ok : ∀ args H φ v H' l,newG [.ints .i64,.int .i64] xgOS args H = some (φ,v,H',l)→Asks φ→Call Try.prog 26 args H (fun v' H2 => v' = v∧H2 = H')∧Kept H H' l :=
 newG_ok fun r ψ b hk hs hψ => match r,hk with
   | [_,_],⟨hl,⟨a,ha⟩,_⟩ => by
     subst ha
     rcases hl with rfl | ⟨s,rfl⟩ | ⟨l,rfl⟩
     · cases hs
     · cases hs
     · cases hs
       refine ⟨rfl,fun caps => ?_⟩
       have h0 : errA l a = 0 := by
         by_cases h : errA l a = 0
         · exact h
         · rw [errN_a h] at hψ; exact absurd hψ h
       have hc := errC_ok.1 (errA_0.1 h0).1
       have h := Call.ofVcR (E := xgE l (caps 0)) (H := [ros l]) (args := [.slice (some ⟨0,0,none⟩) l.length (caps 0),vi a]) (σ := nsub 1 4) (v2 := .tuple #[newSlice 1 l.length,vi 0]) (H2 := [ros l,.rw ((bestL l a).map (.int .i64)) (some 1)]) xgE_ok mixed (c := xgB) (inv := fun _ => none) Try.func26 (by kernel_rfl) (cast (by kernel_rfl) (xgO_ok l (caps 0) a hψ))
       have h' : Call Try.prog 26 [.slice (some ⟨0,0,none⟩) l.length (caps 0),vi a] [ros l] fun v H' => v = .tuple #[newSlice 1 (bestL l a).length,vi 0]∧H' = [ros l] ++ [.rw ((bestL l a).map (.int .i64)) (some 1)] := by
         rw [best_len hc.few]
         exact h
       exact h'
end Go.Pier.Fl
namespace Go.Pier.Fl
open Go Go.Pier Go.Proofs
theorem gt_best {l : List Int} {a : Int} {k : Nat} (hk : k < l.length) (h5 : l.length≤5) : gt (bestL l a) k = bF l a.toNat k := by
 unfold gt bestL
 rw [List.getD_eq_getElem?_getD,List.getElem?_take,if_pos hk]
 unfold L5
 rcases k with _ | _ | _ | _ | _ | k <;> first | rfl | omega
theorem pf_dot {l : List Int} {y : Nat→Int} : ∀ n,(∀ k,k < n→1≤l.getD k 0∧0≤y k)→pf y n≤dotF l y n
 | 0,_ => Int.le_refl _
 | n + 1,h => by
   have h1 := pf_dot n fun k hk => h k (by omega)
   have h2 := h n (by omega)
   have := Int.mul_le_mul_of_nonneg_right h2.1 h2.2
   rw [pf,dotF]; omega
theorem best_fact {l : List Int} {a : Int} (hc : Coins l) (ha : 0≤a∧a≤300) (h : errN l a = 0) : canB l a.toNat = true∧errK l (bestL l a) = 0∧chA l (bestL l a) = a∧chM l (bestL l a) = fewF l a∧0≤fewF l a∧fewF l a≤300 := by
 have hf := hc.few
 have h0 : errA l a = 0 := errA_0.2 ⟨errC_ok.2 hc,ha⟩
 have hcan : canB l a.toNat = true := by
   cases hx : canB l a.toNat with
   | true => rfl
   | false => rw [errN_5 h0 hx] at h; cases h
 have hl := best_len (a := a) hf
 obtain ⟨⟨⟨p1,p2⟩,p3⟩,_⟩ : (isCh l a.toNat (bF l a.toNat)∧_)∧True := ⟨(best_is hc a.toNat (by omega)).1 hcan,trivial⟩
 have hbd : ∀ k,k < l.length→0≤bF l a.toNat k∧bF l a.toNat k≤300 := fun k hk => by
   have := bF_bd hc (a := a.toNat) (by omega) (k := k) (by omega)
   omega
 have hall : ∀ x ∈ bestL l a,0≤x∧x≤1000 := ints_all (i := l.length) (by omega) fun j hj => by
   have e : (bestL l a).getD j 0 = bF l a.toNat j := gt_best hj hf
   rw [e]; have := hbd j hj; omega
 have hk := errK_0 (errC_ok.2 hc) hl hall
 have hA : chA l (bestL l a) = a := by
   rw [chA,if_pos hk,dot_congr (z := bF l a.toNat) _ fun k hk => gt_best hk hf,p2]; omega
 have hm : m5 (bF l a.toNat) = pf (bF l a.toNat) l.length := best_m5 hc (by omega) hcan
 have hM : chM l (bestL l a) = fewF l a := by
   rw [chM,if_pos hk,pf_congr (z := bF l a.toNat) _ fun k hk => gt_best hk hf,fewF_ok h,hm]
 have hpd := pf_dot (l := l) (y := bF l a.toNat) l.length fun k hk => ⟨by have := coin_rng hc hk; omega,p1 k hk⟩
 have hd := (dot_bd (l := l) (y := bF l a.toNat) (B := 50) (C := 300) (by omega) (by omega) l.length (fun j hj => by have := coin_rng hc hj; omega) fun j hj => hbd j hj).2.1
 rw [p2] at hpd
 refine ⟨hcan,hk,hA,hM,?_,?_⟩ <;> rw [fewF_ok h,hm] <;> omega
end Go.Pier.Fl
namespace Go.Pier
open Go
variable {P : Program} {H : Heap}
structure FrmC where
 f : FuncId
 args : List Value
 E : Heap
 v : Value
 F : Heap
 N : Heap
def tt' : Nat→Bool := fun _ => true
def FrmC.chk (p : FrmC) : Bool := Nat.beq p.F.length p.E.length && (p.E.all (fun o => o.wr && o.sc p.E.length) && (p.args.all (sc p.E.length) && ((p.F ++ p.N).all (fun o => o.nm tt') && (p.N.all (fun o => !o.isRo) && nm tt' p.v))))
def FrmC.Ok (P : Program) (p : FrmC) : Prop := Call P p.f p.args p.E (fun v' F' => v' = p.v∧F' = p.F ++ p.N)∧p.chk = true
theorem FrmC.ok_ev {p : FrmC} {tbl : Tbl} (ht : TblOk P tbl) {n : Nat} (h : (gcFun (evFunT P (evCT P tbl n none)) p.f p.args p.E).map (fun r => (r.1,r.2.1)) = some (p.v,p.F ++ p.N)) (hp : p.chk = true) : p.Ok P := by
 rw [Option.map_eq_some_iff] at h
 obtain ⟨⟨v,H2,l⟩,h1,h2⟩ := h
 cases h2
 exact ⟨(ExactC.ok_ev (p := ⟨p.f,p.args,p.E,p.v,p.F ++ p.N,l⟩) ht h1).1,hp⟩
def valNames : Value→List Nat
 | .slice (some a) _ _ => [a.block]
 | .pointer (some a) => [a.block]
 | .agg cs => cs.toList.flatMap fun | .slice (some a) _ _ => [a.block] | .pointer (some a) => [a.block] | _ => []
 | _ => []
def dedup : List Nat→List Nat→List Nat
 | acc,[] => acc.reverse
 | acc,b :: r => match acc.any (Nat.beq b) with
   | true => dedup acc r
   | false => dedup (b :: acc) r
def frmNames (args : List Value) (H : Heap) : List Nat :=
 let L := args.flatMap valNames
 dedup [] (L ++ L.flatMap fun (b : Nat) => match H[b]? with
   | some (AObj.rw cs _) => cs.flatMap fun (v : Value) => match v with | .map (some r) => [r] | v => valNames v
   | _ => [])
def objsB (σ : Nat→Nat) (H : Heap) : List Nat→Heap→Bool
 | [],[] => true
 | b :: L,o :: E => (match H[b]? with | some o' => oeq o' (omap σ o) | none => false) && objsB σ H L E
 | _,_ => false
theorem objsB_ok {σ : Nat→Nat} : ∀ {L : List Nat} {E : Heap},objsB σ H L E = true→∀ (c : Nat) (o : AObj),E[c]? = some o→H[L.getD c 0]? = some (omap σ o)
 | [],[],_,c,o,h => by simp at h
 | [],_ :: _,h,_,_,_ => by cases h
 | _ :: _,[],h,_,_,_ => by cases h
 | b :: L,o' :: E,h,c,o,hc => by
   simp only [objsB,Bool.and_eq_true] at h
   cases c with
   | zero =>
     simp only [List.getElem?_cons_zero,Option.some.injEq] at hc
     subst hc
     have h1 := h.1
     split at h1
     · rename_i o2 ho; rw [show (b :: L).getD 0 0 = b from rfl,ho,oeq_eq h1]
     · cases h1
   | succ c =>
     simp only [List.getElem?_cons_succ] at hc
     exact objsB_ok h.2 c o hc
def FrmC.go (p : FrmC) (args : List Value) (H : Heap) : Option (Value × Heap × List Nat) :=
 let L := frmNames args H
 let τ := nameL L p.E.length H.length
 match Nat.beq L.length p.E.length && (nodupB L && (allB (fun b => Nat.blt b H.length) L && (listB veq (p.args.map (nmap fun c => L.getD c 0)) args && (objsB (fun c => L.getD c 0) H L p.E &&
     (((p.F ++ p.N).all fun o => (omap τ o).sc (H.length + p.N.length)) && sc (H.length + p.N.length) (nmap τ p.v)))))) with
 | true => some (nmap τ p.v,setL H L (p.F.map (omap τ)) ++ p.N.map (omap τ),L)
 | false => none
theorem any_nm {m e : Nat} (he : e = m) : (fun d => decide (d < m) || decide (e≤d)) = tt' := by
 subst he
 funext d
 simp only [tt',Bool.or_eq_true,decide_eq_true_eq]
 by_cases h : d < e
 · simp [h]
 · simp [h]; omega
theorem read_sc {σ : Nat→Nat} {B : List Nat} {m : Nat} : ∀ {l : List Value},l.all (sc m) = true→ReadA2 H σ B m (l.map Arg2.val) (l.map (nmap σ))
 | [],_ => trivial
 | v :: l,h => by
   rw [List.all_cons,Bool.and_eq_true] at h
   exact ⟨rfl,h.1,read_sc h.2⟩
end Go.Pier
namespace Go.Pier
open Go
variable {P : Program} {H : Heap}
def quickV : Value→Value→Bool
 | .int k n,v => veq (.int k n) v
 | .bool b,v => veq (.bool b) v
 | _,_ => true
def quickC : List Value→List Value→Bool
 | a :: l,b :: r => match quickV a b with
   | true => quickC l r
   | false => false
 | _,_ => true
def quick1 : Value→Value→Bool
 | .agg cs,.agg ds => quickC cs.toList ds.toList
 | a,b => quickV a b
def quickL : List Value→List Value→Bool
 | a :: l,b :: r => match quick1 a b with
   | true => quickL l r
   | false => false
 | _,_ => true
def cellNames (H : Heap) (b : Nat) : List Nat := match H[b]? with
 | some (AObj.rw cs _) => cs.flatMap fun (v : Value) => match v with | .map (some r) => [r] | v => valNames v
 | _ => []
def stepNames (H : Heap) (L : List Nat) : List Nat := dedup [] (L ++ L.flatMap (cellNames H))
def frmNamesD (args : List Value) (H : Heap) : List Nat := stepNames H (stepNames H (args.flatMap valNames))
def FrmC.goD (p : FrmC) (args : List Value) (H : Heap) : Option (Value × Heap × List Nat) :=
 match quickL p.args args with
 | false => none
 | true =>
 let L := frmNamesD args H
 let τ := nameL L p.E.length H.length
 match Nat.beq L.length p.E.length && (nodupB L && (allB (fun b => Nat.blt b H.length) L && (listB veq (p.args.map (nmap fun c => L.getD c 0)) args && (objsB (fun c => L.getD c 0) H L p.E &&
     (((p.F ++ p.N).all fun o => (omap τ o).sc (H.length + p.N.length)) && sc (H.length + p.N.length) (nmap τ p.v)))))) with
 | true => some (nmap τ p.v,setL H L (p.F.map (omap τ)) ++ p.N.map (omap τ),L)
 | false => none
theorem FrmC.goD_ok {p : FrmC} (h : p.Ok P) {args : List Value} {v : Value} {H' : Heap} {l : List Nat} (hg : p.goD args H = some (v,H',l)) : Call P p.f args H (fun v' H2 => v' = v∧H2 = H')∧Kept H H' l := by
 obtain ⟨hcall,hc⟩ := h
 unfold FrmC.chk at hc
 simp only [Bool.and_eq_true,List.all_eq_true,Bool.not_eq_true'] at hc
 obtain ⟨c1,c2,c3,c4,c5,c6⟩ := hc
 have c1 := Nat.eq_of_beq_eq_true c1
 unfold FrmC.goD at hg
 split at hg <;> try (cases hg; done)
 dsimp only at hg
 split at hg <;> cases hg
 rename_i hk
 simp only [Bool.and_eq_true,List.all_eq_true] at hk
 obtain ⟨k1,k2,k3,k4,k5,k6,k7⟩ := hk
 have k1 := Nat.eq_of_beq_eq_true k1
 have ka := listB_eq (fun _ _ => veq_eq) k4
 have e0 : canonH2 (p.args.map Arg2.val) = [] := canonH2_vals
 have := Call.frameL (P := P) (f := p.f) (H := H) (Et := p.E) (Ft := p.F) (N := p.N) (L := frmNamesD args H) (ags := p.args.map Arg2.val) (vs := args) (v := p.v) k1 c1 (nodupB_ok k2)
   (fun b hb => by have := allB_ok k3 b hb; rw [Nat.blt_eq] at this; exact this)
   (objsB_ok k5) (fun o ho => by have := c2 o ho; simpa using this)
   (by
     have := read_sc (H := H) (σ := fun c => (frmNamesD args H).getD c 0) (B := frmNamesD args H) (List.all_eq_true.2 c3)
     rw [ka] at this; exact this)
   (fun caps => by rw [canonA2_vals,e0,List.append_nil,List.append_nil]; exact hcall)
   (fun o ho => by rw [e0,List.append_nil,any_nm rfl]; exact c4 o ho)
   c5
   (by rw [e0,List.append_nil,any_nm rfl]; exact c6)
   (fun o ho => by rw [e0,List.append_nil]; exact k6 o ho)
   (by rw [e0,List.append_nil]; exact k7)
 rw [e0,List.append_nil] at this
 exact this
def frmFindD : List FrmC→FuncId→List Value→Heap→Option (Value × Heap × List Nat)
 | [],_,_,_ => none
 | p :: l,f,args,H => match Nat.beq p.f f with
   | true => match p.goD args H with
     | some q => some q
     | none => frmFindD l f args H
   | false => frmFindD l f args H
theorem frmFindD_ok {f : FuncId} {args : List Value} {v : Value} {H' : Heap} {lg : List Nat} : ∀ {l : List FrmC},(∀ p ∈ l,p.Ok P)→frmFindD l f args H = some (v,H',lg)→Call P f args H (fun v' H2 => v' = v∧H2 = H')∧Kept H H' lg
 | [],_,h => by cases h
 | p :: l,hl,h => by
   unfold frmFindD at h
   split at h
   · rename_i hf
     obtain rfl := Nat.eq_of_beq_eq_true hf
     split at h
     · rename_i hq
       cases h
       exact FrmC.goD_ok (hl p List.mem_cons_self) hq
     · exact frmFindD_ok (fun q hq => hl q (List.mem_cons_of_mem _ hq)) h
   · exact frmFindD_ok (fun q hq => hl q (List.mem_cons_of_mem _ hq)) h
def frmTblD (l : List FrmC) (tbl : Tbl) : Tbl := fun f => match (l.any fun p => Nat.beq p.f f) with
 | true => some fun args H => match frmFindD l f args H with
   | some q => some q
   | none => match tbl f with
     | some g => g args H
     | none => none
 | false => tbl f
theorem frmTblD_ok {l : List FrmC} {tbl : Tbl} (hl : ∀ p ∈ l,p.Ok P) (ht : TblOk P tbl) : TblOk P (frmTblD l tbl) := by
 intro f g hg args H v H' lg h
 unfold frmTblD at hg
 split at hg
 · cases hg
   simp only at h
   split at h
   · rename_i hq
     cases h
     exact frmFindD_ok hl hq
   · split at h <;> try (cases h; done)
     rename_i g hg
     exact ht f g hg args H v H' lg h
 · exact ht f g hg args H v H' lg h
theorem frms_nil : ∀ p ∈ ([] : List FrmC),p.Ok P := fun _ h => by cases h
theorem frms_cons {p : FrmC} {l : List FrmC} (h : p.Ok P) (hl : ∀ q ∈ l,q.Ok P) : ∀ q ∈ p :: l,q.Ok P := List.forall_mem_cons.2 ⟨h,hl⟩
end Go.Pier
namespace Go.Pier.Fl
open Go Go.Pier Go.Proofs
noncomputable def gy_c0 : Code := ((Code.region (3 : Nat) { toList := [{ dst := some (7 : Nat),op := Op.assign (Operand.tmp (15 : Nat)),type := (3 : Nat),pos := "change.go:59",after := { toList := [] },guard := none }] } false).seq (Code.region (4 : Nat) { toList := [{ dst := some (8 : Nat),op := Op.assign (Operand.tmp (16 : Nat)),type := (2 : Nat),pos := "change.go:59",after := { toList := [] },guard := none }] } false))
noncomputable def gy_c1 : Code := (Code.block (1 : Nat) ((Code.region (5 : Nat) { toList := [{ dst := some (17 : Nat),op := Op.move (Operand.tmp (7 : Nat)),type := (3 : Nat),pos := "change.go:60",after := { toList := [] },guard := none },{ dst := some (18 : Nat),op := Op.load (2 : Nat) (Operand.tmp (3 : Nat)),type := (2 : Nat),pos := "change.go:60",after := { toList := [] },guard := none },{ dst := some (19 : Nat),op := Op.move (Operand.tmp (8 : Nat)),type := (2 : Nat),pos := "change.go:60",after := { toList := [] },guard := none },{ dst := some (20 : Nat),op := Op.binOp BinOp.quo (2 : Nat) (Operand.tmp (18 : Nat)) (Operand.tmp (19 : Nat)) (2 : Nat),type := (2 : Nat),pos := "change.go:60",after := { toList := [{ on := (1 : Nat),ground := Ground.data },{ on := (2 : Nat),ground := Ground.data }] },guard := none },{ dst := some (21 : Nat),op := Op.indexAddr (71 : Nat) (Operand.tmp (6 : Nat)) (Operand.tmp (17 : Nat)),type := (0 : Nat),pos := "change.go:60",after := { toList := [{ on := (0 : Nat),ground := Ground.data },{ on := (0 : Nat),ground := Ground.phase },{ on := (1 : Nat),ground := Ground.phase },{ on := (2 : Nat),ground := Ground.phase },{ on := (3 : Nat),ground := Ground.phase }] },guard := none },{ dst := none,op := Op.store (2 : Nat) (Operand.tmp (21 : Nat)) (Operand.tmp (20 : Nat)),type := (0 : Nat),pos := "change.go:60",after := { toList := [{ on := (4 : Nat),ground := Ground.data },{ on := (3 : Nat),ground := Ground.data },{ on := (0 : Nat),ground := Ground.phase },{ on := (1 : Nat),ground := Ground.phase },{ on := (2 : Nat),ground := Ground.phase },{ on := (3 : Nat),ground := Ground.phase }] },guard := none }] } false).seq (Code.region (6 : Nat) { toList := [{ dst := some (22 : Nat),op := Op.load (2 : Nat) (Operand.tmp (3 : Nat)),type := (2 : Nat),pos := "change.go:61",after := { toList := [] },guard := none },{ dst := some (23 : Nat),op := Op.move (Operand.tmp (8 : Nat)),type := (2 : Nat),pos := "change.go:61",after := { toList := [] },guard := none },{ dst := some (24 : Nat),op := Op.binOp BinOp.rem (2 : Nat) (Operand.tmp (22 : Nat)) (Operand.tmp (23 : Nat)) (2 : Nat),type := (2 : Nat),pos := "change.go:61",after := { toList := [{ on := (0 : Nat),ground := Ground.data },{ on := (1 : Nat),ground := Ground.data }] },guard := none },{ dst := none,op := Op.store (2 : Nat) (Operand.tmp (3 : Nat)) (Operand.tmp (24 : Nat)),type := (0 : Nat),pos := "change.go:61",after := { toList := [{ on := (2 : Nat),ground := Ground.data },{ on := (0 : Nat),ground := Ground.phase },{ on := (1 : Nat),ground := Ground.phase },{ on := (2 : Nat),ground := Ground.phase }] },guard := none }] } false)))
def grF (l : List Int) (a : Int) : Nat→(Nat→Int) × Int
 | 0 => (z5,a)
 | d + 1 => (fun k => bif Nat.beq k (l.length - 1 - d) then (grF l a d).2.tdiv (l.getD (l.length - 1 - d) 0) else (grF l a d).1 k,(grF l a d).2.tmod (l.getD (l.length - 1 - d) 0))
noncomputable def gy0E : VEnv := { orc := orcI Try.prog }
noncomputable def gy1E : VEnv := { yc := ycIn Try.prog gy0E (fun _ => none) }
def gyI (l : List Int) (a : Int) : List Value→Heap→Nat→Option LInv := fun args H => match args with
 | [y, p1] => invOf 0 (LInv.one Nat (fun d => d ≤ l.length) (fun d => [(0, y), (1, p1), (3, vi ((l.length : Int) - 1 - d))])
     (fun d => (H.set 2 (.rw [vi (grF l a d).2] none)).set 4 (.rw (I5 (grF l a d).1 []) none)) (fun d => l.length - d))
 | _ => fun _ => none
noncomputable def gyE (l : List Int) (a : Int) : VEnv := { cc := ccOr (ccIn Try.prog {} [⟨95,Try.f95,fun _ _ _ => none⟩]) (ccIn Try.prog gy1E [⟨106,Try.f106,gyI l a⟩]) }
noncomputable def gyB : Code := Try.f73.body.getD .skip
noncomputable def gyV0 (l:List Int) (c:Nat) (zl:List Int) (a:Int) (x:Nat) := (0+((l.length:Int)-(1:Int)-(x:Int)).toNat * 1)
noncomputable def gyV1 (l:List Int) (c:Nat) (zl:List Int) (a:Int) (x:Nat):List Value := [vi (bif Nat.beq 0 (gyV0 l c zl a x) then IntKind.i64.wrap ((grF l a x).snd.tdiv (getI (List.map (Value.int IntKind.i64) l) (gyV0 l c zl a x))) else (grF l a x).fst 0),vi (bif Nat.beq 1 (gyV0 l c zl a x) then IntKind.i64.wrap ((grF l a x).snd.tdiv (getI (List.map (Value.int IntKind.i64) l) (gyV0 l c zl a x))) else (grF l a x).fst 1),vi (bif Nat.beq 2 (gyV0 l c zl a x) then IntKind.i64.wrap ((grF l a x).snd.tdiv (getI (List.map (Value.int IntKind.i64) l) (gyV0 l c zl a x))) else (grF l a x).fst 2),vi (bif Nat.beq 3 (gyV0 l c zl a x) then IntKind.i64.wrap ((grF l a x).snd.tdiv (getI (List.map (Value.int IntKind.i64) l) (gyV0 l c zl a x))) else (grF l a x).fst 3),vi (bif Nat.beq 4 (gyV0 l c zl a x) then IntKind.i64.wrap ((grF l a x).snd.tdiv (getI (List.map (Value.int IntKind.i64) l) (gyV0 l c zl a x))) else (grF l a x).fst 4)]
noncomputable def gyV2 (l:List Int) (c:Nat) (zl:List Int) (a:Int):Array Value := ⟨[ptr0 1,vi a,junk,ptr0 2,ptr0 3,vi (0:Int),ptr0 4,junk,junk,ptr0 1,ptr0 1,ptr0 1,ptr0 1,Value.slice (some (ad0 0)) l.length c,Value.func (Fn.func 106) ⟨[]⟩ ⟨[ptr0 5]⟩,junk,junk,junk,junk,junk,junk,junk,junk,junk,junk,junk,junk]⟩
noncomputable def gyV3 (l:List Int) (c:Nat) (zl:List Int) (a:Int) (x:Nat) := (bif true then (grF l a x).snd.tmod (getI (List.map (Value.int IntKind.i64) l) (gyV0 l c zl a x)) else (grF l a x).snd)
noncomputable def gyV4 (l:List Int) (c:Nat) (zl:List Int) (a:Int) := (Value.slice (some (ad0 0)) l.length c::List.map (Value.int IntKind.i64) zl)
noncomputable def gyV5 (l:List Int) (c:Nat) (zl:List Int) (a:Int):Array Value := ⟨[Value.agg ⟨[vi ((grF l a l.length).fst 0),vi ((grF l a l.length).fst 1),vi ((grF l a l.length).fst 2),vi ((grF l a l.length).fst 3),vi ((grF l a l.length).fst 4)]⟩,vi (grF l a l.length).snd]⟩
noncomputable def gyV6 (l:List Int) (c:Nat) (zl:List Int) (a:Int) := (List.map (Value.int IntKind.i64) l)
noncomputable def gyV7 (l:List Int) (c:Nat) (zl:List Int) (a:Int):List Value := [vi (0:Int),vi (0:Int),vi (0:Int),vi (0:Int),vi (0:Int)]
noncomputable def gyV :=
fun (l:List Int) (c:Nat) (zl:List Int) (a:Int)↦(∃ (y:Nat),Ob (y≤l.length)∧(Ob (AObj.ro (gyV6 l c zl a)=AObj.ro (List.map (nmap1 fun (b:Nat)↦b) (gyV6 l c zl a))∧AObj.sc 7 (AObj.ro (gyV6 l c zl a))=true)∧Ob (AObj.rw (gyV4 l c zl a) none=AObj.rw (List.map (nmap1 fun (b:Nat)↦b) (gyV4 l c zl a)) none∧AObj.sc 7 (AObj.rw (gyV4 l c zl a) none)=true)∧Ob (AObj.rw [vi a] none=AObj.rw [vi (grF l a y).snd] none∧true=true)∧Ob (AObj.rw (gyV7 l c zl a) none=AObj.rw (gyV7 l c zl a) none∧true=true)∧Ob (AObj.rw (gyV7 l c zl a) none=AObj.rw [vi ((grF l a y).fst 0),vi ((grF l a y).fst 1),vi ((grF l a y).fst 2),vi ((grF l a y).fst 3),vi ((grF l a y).fst 4)] none∧true=true)∧Ob (AObj.rw [Value.slice (some (ad0 0)) l.length c] none=AObj.rw [Value.slice (some (ad0 0)) l.length c] none∧true=true)∧Ob (AObj.loop LoopState.ready none (gyV2 l c zl a) ⟨[15,16]⟩ gy_c0 gy_c1=AObj.loop LoopState.ready none (gyV2 l c zl a) ⟨[15,16]⟩ gy_c0 gy_c1∧true=true)∧True)∧Ob (Value.func (Fn.yield 6) ⟨[]⟩ ⟨[]⟩=Value.func (Fn.yield 6) ⟨[]⟩ ⟨[]⟩)∧Ob (ptr0 5=ptr0 5)∧Ob (IntKind.i64.wrap ((l.length:Int)-(1:Int))=(l.length:Int)-(1:Int)-(y:Int))∧True)∧∀ (x:Nat),Ob (x≤l.length)→(decide ((0:Int)≤(l.length:Int)-(1:Int)-(x:Int))=true→Ob ((0:Int)≤(l.length:Int)-(1:Int)-(x:Int)∧(l.length:Int)-(1:Int)-(x:Int)<(l.length:Int)∧true=true)∧Ob (IntAt IntKind.i64 (gyV6 l c zl a) (gyV0 l c zl a x))∧Ob (some (vi (grF l a x).snd)=some (vi (grF l a x).snd))∧Ob (getI (gyV6 l c zl a) (gyV0 l c zl a x)≠(0:Int))∧Ob ((0:Int)≤(l.length:Int)-(1:Int)-(x:Int)∧(l.length:Int)-(1:Int)-(x:Int)<(↑(5:Nat):Int))∧Ob (IntAt IntKind.i64 [vi ((grF l a x).fst 0),vi ((grF l a x).fst 1),vi ((grF l a x).fst 2),vi ((grF l a x).fst 3),vi ((grF l a x).fst 4)] (gyV0 l c zl a x)∧some 1=some 1)∧Ob (some (vi (grF l a x).snd)=some (vi (grF l a x).snd))∧Ob (getI (gyV6 l c zl a) (gyV0 l c zl a x)≠(0:Int))∧Ob (some (vi (grF l a x).snd)=some (vi (grF l a x).snd)∧some 1=some 1)∧(false=true→Ob (some (vi (gyV3 l c zl a x))=some (vi (gyV3 l c zl a x)))∧Ob (0+5≤5)∧Ob ((true=true∧some (vi (gyV3 l c zl a x))=some (vi (gyV3 l c zl a x))∧eqV (vi (gyV3 l c zl a x)) (vi (gyV3 l c zl a x))=true)∧True)∧(Ob (AObj.ro (gyV6 l c zl a)=AObj.ro (List.map (nmap1 fun (b:Nat)↦b) (gyV6 l c zl a))∧AObj.sc 2 (AObj.ro (gyV6 l c zl a))=true)∧Ob (AObj.rw (gyV4 l c zl a) none=AObj.rw (List.map (nmap1 fun (b:Nat)↦b) (gyV4 l c zl a)) none∧AObj.sc 2 (AObj.rw (gyV4 l c zl a) none)=true)∧True)∧Ob (Value.tuple ⟨[Value.agg { toList := (gyV1 l c zl a x) },vi (gyV3 l c zl a x)]⟩=Value.tuple (gyV5 l c zl a))∧True)∧(false=false→∃ (y:Nat),Ob (y≤l.length)∧Ob (l.length-y<l.length-x)∧(Ob (AObj.ro (gyV6 l c zl a)=AObj.ro (List.map (nmap1 fun (b:Nat)↦b) (gyV6 l c zl a))∧AObj.sc 7 (AObj.ro (gyV6 l c zl a))=true)∧Ob (AObj.rw (gyV4 l c zl a) none=AObj.rw (List.map (nmap1 fun (b:Nat)↦b) (gyV4 l c zl a)) none∧AObj.sc 7 (AObj.rw (gyV4 l c zl a) none)=true)∧Ob (AObj.rw [vi (gyV3 l c zl a x)] none=AObj.rw [vi (grF l a y).snd] none∧true=true)∧Ob (AObj.rw (gyV7 l c zl a) none=AObj.rw (gyV7 l c zl a) none∧true=true)∧Ob (AObj.rw (gyV1 l c zl a x) none=AObj.rw [vi ((grF l a y).fst 0),vi ((grF l a y).fst 1),vi ((grF l a y).fst 2),vi ((grF l a y).fst 3),vi ((grF l a y).fst 4)] none∧true=true)∧Ob (AObj.rw [Value.slice (some (ad0 0)) l.length c] none=AObj.rw [Value.slice (some (ad0 0)) l.length c] none∧true=true)∧Ob (AObj.loop LoopState.ready none (gyV2 l c zl a) ⟨[15,16]⟩ gy_c0 gy_c1=AObj.loop LoopState.ready none (gyV2 l c zl a) ⟨[15,16]⟩ gy_c0 gy_c1∧true=true)∧True)∧Ob (Value.func (Fn.yield 6) ⟨[]⟩ ⟨[]⟩=Value.func (Fn.yield 6) ⟨[]⟩ ⟨[]⟩)∧Ob (ptr0 5=ptr0 5)∧Ob (IntKind.i64.wrap ((l.length:Int)-(1:Int)-(x:Int)-(1:Int))=(l.length:Int)-(1:Int)-(y:Int))∧True))∧(decide ((0:Int)≤(l.length:Int)-(1:Int)-(x:Int))=false→Ob (some (vi (grF l a x).snd)=some (vi (grF l a x).snd))∧Ob (0+5≤5)∧Ob ((true=true∧some (vi (grF l a x).snd)=some (vi (grF l a x).snd)∧eqV (vi (grF l a x).snd) (vi (grF l a x).snd)=true)∧True)∧(Ob (AObj.ro (gyV6 l c zl a)=AObj.ro (List.map (nmap1 fun (b:Nat)↦b) (gyV6 l c zl a))∧AObj.sc 2 (AObj.ro (gyV6 l c zl a))=true)∧Ob (AObj.rw (gyV4 l c zl a) none=AObj.rw (List.map (nmap1 fun (b:Nat)↦b) (gyV4 l c zl a)) none∧AObj.sc 2 (AObj.rw (gyV4 l c zl a) none)=true)∧True)∧Ob (Value.tuple ⟨[Value.agg ⟨[vi ((grF l a x).fst 0),vi ((grF l a x).fst 1),vi ((grF l a x).fst 2),vi ((grF l a x).fst 3),vi ((grF l a x).fst 4)]⟩,vi (grF l a x).snd]⟩=Value.tuple (gyV5 l c zl a))∧True)
theorem div_bd {r v : Int} (hr : 0≤r) (hv : 1≤v) : 0≤r.tdiv v∧r.tdiv v≤r∧0≤r.tmod v∧r.tmod v≤r∧r.tmod v < v := by
 rw [Int.tdiv_eq_ediv_of_nonneg hr,Int.tmod_eq_emod_of_nonneg hr]
 have h1 := Int.ediv_nonneg hr (show 0≤v by omega)
 have h2 := Int.ediv_le_self v hr
 have h3 := Int.emod_nonneg r (show v ≠ 0 by omega)
 have h4 := Int.emod_lt_of_pos r (show 0 < v by omega)
 have h5 := Int.mul_ediv_add_emod r v
 have h6 : 0≤v * (r / v) := Int.mul_nonneg (by omega) h1
 omega
theorem gr_bd {l : List Int} {a : Int} (hc : Coins l) (ha : 0≤a) : ∀ d,d≤l.length→(0≤(grF l a d).2∧(grF l a d).2≤a)∧∀ k,k < 5→0≤(grF l a d).1 k∧(grF l a d).1 k≤a
 | 0,_ => ⟨⟨ha,Int.le_refl _⟩,fun k _ => ⟨Int.le_refl _,ha⟩⟩
 | d + 1,h => by
   have ih := gr_bd hc ha d (by omega)
   have hv := coin_rng hc (j := l.length - 1 - d) (by omega)
   have hb := div_bd ih.1.1 hv.1
   refine ⟨⟨hb.2.2.1,by show (grF l a d).2.tmod _≤a; omega⟩,fun k hk => ?_⟩
   have h2 := ih.2 k hk
   show 0≤(bif Nat.beq k (l.length - 1 - d) then (grF l a d).2.tdiv (l.getD (l.length - 1 - d) 0) else (grF l a d).1 k)∧(bif Nat.beq k (l.length - 1 - d) then (grF l a d).2.tdiv (l.getD (l.length - 1 - d) 0) else (grF l a d).1 k)≤a
   cases Nat.beq k (l.length - 1 - d) <;> simp only [cond_true,cond_false] <;> omega
theorem gyV_ok (l : List Int) (c : Nat) (zl : List Int) (a : Int) (hc : Coins l) (ha : 0≤a∧a≤100000) : gyV l c zl a := by
 unfold gyV gyV7 gyV6 gyV5 gyV4 gyV3 gyV2 gyV1 gyV0
 have hp := hc.pos
 have hw := hc.few
 simp only [SS,reduceCtorEq,Arg.list,Arg.num,Arg.flag,intOf,andP,Nat.reduceLeDiff,Nat.reduceAdd,Nat.reduceMul,Nat.reduceLT,til_sc,nm_sl]
 refine ⟨⟨0,by omega,⟨rfl,rfl,rfl,rfl,rfl,rfl⟩,by rw [wrap_in (by omega) (by omega)]; omega⟩,fun x hx => ⟨fun h1 => ?_,fun h1 => ?_⟩⟩
 · have e : ((l.length : Int) - 1 - (x : Int)).toNat = l.length - 1 - x := by omega
   rw [e]
   have hv := coin_rng hc (j := l.length - 1 - x) (by omega)
   have hb := gr_bd hc ha.1 x (by omega)
   have hd := div_bd hb.1.1 hv.1
   have hw2 : IntKind.i64.wrap ((grF l a x).2.tdiv (l.getD (l.length - 1 - x) 0)) = (grF l a x).2.tdiv (l.getD (l.length - 1 - x) 0) := wrap_in (by omega) (by omega)
   rw [hw2]
   exact ⟨by omega,by omega,by omega,by omega,I5_at (f := (grF l a x).1) (by omega),by omega,x + 1,by omega,by omega,⟨rfl,rfl,rfl,rfl,rfl,rfl⟩,by rw [wrap_in (by omega) (by omega)]; omega⟩
 · rw [show x = l.length by omega]
   exact ⟨by simp [eqV,eqS],rfl⟩
theorem gy0E_ok : VOk Try.prog gy0E := ⟨CtOk.none,E0_ok.cc,E0_ok.yc,orcI_ok⟩
theorem gy1E_ok : VOk Try.prog gy1E := ⟨CtOk.none,E0_ok.cc,ycIn_ok gy0E_ok mixed,E0_ok.orc⟩
theorem gyE_ok {l : List Int} {a : Int} : VOk Try.prog (gyE l a) := ⟨CtOk.none,ccOr_ok (ccIn_ok E0_ok mixed (inl_one Try.func95)) (ccIn_ok gy1E_ok mixed (inl_one Try.func106)),E0_ok.yc,E0_ok.orc⟩
theorem gy_call (l : List Int) (c : Nat) (zl : List Int) (a : Int) (hc : Coins l) (ha : 0≤a∧a≤100000) : Call Try.prog 73 [ptr0 1,vi a] [ros l,tillO l.length c zl] fun v H' => v = .tuple #[C5 (grF l a l.length).1,vi (grF l a l.length).2]∧H' = [ros l,tillO l.length c zl] :=
 Call.ofVcR (E := gyE l a) (H := [ros l,tillO l.length c zl]) (args := [ptr0 1,vi a]) (σ := fun b => b) (v2 := .tuple #[C5 (grF l a l.length).1,vi (grF l a l.length).2]) (H2 := [ros l,tillO l.length c zl]) gyE_ok mixed (c := gyB) (inv := fun _ => none) Try.func73 (by kernel_rfl) (cast (by kernel_rfl) (gyV_ok l c zl a hc ha))
noncomputable def gyCt (l : List Int) (c : Nat) : List Value→Heap→Option (Option Prop × Value × Heap × List Nat) := fun args H => match args with
 | [.pointer (some ⟨1,0,none⟩),.int .i64 a] => some (some (AtZ l c H∧Coins l∧0≤a∧a≤100000),.tuple #[C5 (grF l a l.length).1,vi (grF l a l.length).2],H,[])
 | _ => none
theorem gyCt_ok {l : List Int} {c : Nat} : ∀ args H φ v H' k,gyCt l c args H = some (φ,v,H',k)→Asks φ→Call Try.prog 73 args H (fun v' H2 => v' = v∧H2 = H')∧Kept H H' k := fun args H φ v H' k h hφ => by
 unfold gyCt at h
 split at h <;> cases h
 rename_i a
 obtain ⟨⟨zl,hA⟩,hc,h1,h2⟩ := hφ
 exact ⟨till_frame hA rfl (gy_call l c zl a hc ⟨h1,h2⟩) (by simp [C5,sc,sc2,sc1,sc0]),Kept.refl _ _⟩
end Go.Pier.Fl
namespace Go.Pier.Fl
open Go Go.Pier Go.Proofs
noncomputable def ibE (l : List Int) (c : Nat) : VEnv := { ct := ((Ct.none.add 73 (gyCt l c)).add 64 (pure3 [ps5] maS)) }
noncomputable def ibB : Code := Try.f80.body.getD .skip
def badF (l : List Int) (a : Int) (f : Nat→Int) : Bool := decide (0 < (grF l a l.length).2) || decide (m5 f < m5 (grF l a l.length).1)
noncomputable def iaV :=
fun (l:List Int) (c:Nat) (zl:List Int) (a:Int) (f:Nat→Int)↦Ob (AtZ l c [AObj.ro (List.map (Value.int IntKind.i64) l),AObj.rw (Value.slice (some (ad0 0)) l.length c::List.map (Value.int IntKind.i64) zl) none,AObj.rw [vi (f 0),vi (f 1),vi (f 2),vi (f 3),vi (f 4)] none]∧Coins l∧(0:Int)≤a∧a≤(100000:Int))∧Ob (0+5≤5)∧(decide ((0:Int)<(grF l a l.length).snd)=false→Ob (smallP (l5 ((grF l a l.length).fst 0) ((grF l a l.length).fst 1) ((grF l a l.length).fst 2) ((grF l a l.length).fst 3) ((grF l a l.length).fst 4)))∧Ob (smallP (l5 (f 0) (f 1) (f 2) (f 3) (f 4)))∧(Ob (AObj.ro (List.map (Value.int IntKind.i64) l)=AObj.ro (List.map (nmap1 fun (b:Nat)↦b) (List.map (Value.int IntKind.i64) l))∧AObj.sc 2 (AObj.ro (List.map (Value.int IntKind.i64) l))=true)∧Ob (AObj.rw (Value.slice (some (ad0 0)) l.length c::List.map (Value.int IntKind.i64) zl) none=AObj.rw (List.map (nmap1 fun (b:Nat)↦b) (Value.slice (some (ad0 0)) l.length c::List.map (Value.int IntKind.i64) zl)) none∧AObj.sc 2 (AObj.rw (Value.slice (some (ad0 0)) l.length c::List.map (Value.int IntKind.i64) zl) none)=true)∧True)∧Ob (decide (m5 (l5 (f 0) (f 1) (f 2) (f 3) (f 4))<m5 (l5 ((grF l a l.length).fst 0) ((grF l a l.length).fst 1) ((grF l a l.length).fst 2) ((grF l a l.length).fst 3) ((grF l a l.length).fst 4)))=badF l a f)∧True)∧(decide ((0:Int)<(grF l a l.length).snd)=true→(Ob (AObj.ro (List.map (Value.int IntKind.i64) l)=AObj.ro (List.map (nmap1 fun (b:Nat)↦b) (List.map (Value.int IntKind.i64) l))∧AObj.sc 2 (AObj.ro (List.map (Value.int IntKind.i64) l))=true)∧Ob (AObj.rw (Value.slice (some (ad0 0)) l.length c::List.map (Value.int IntKind.i64) zl) none=AObj.rw (List.map (nmap1 fun (b:Nat)↦b) (Value.slice (some (ad0 0)) l.length c::List.map (Value.int IntKind.i64) zl)) none∧AObj.sc 2 (AObj.rw (Value.slice (some (ad0 0)) l.length c::List.map (Value.int IntKind.i64) zl) none)=true)∧True)∧Ob (true=badF l a f)∧True)
theorem gr_small {l : List Int} {a : Int} (hc : Coins l) (ha : 0≤a∧a≤100000) (d : Nat) (hd : d≤l.length) : smallP (grF l a d).1 := by
 have h : ∀ k,k < 5→0≤(grF l a d).1 k∧(grF l a d).1 k≤100000 := fun k hk => by have := (gr_bd hc ha.1 d hd).2 k hk; omega
 exact ⟨h 0 (by omega),h 1 (by omega),h 2 (by omega),h 3 (by omega),h 4 (by omega)⟩
theorem iaV_ok (l : List Int) (c : Nat) (zl : List Int) (a : Int) (f : Nat→Int) (hc : Coins l) (ha : 0≤a∧a≤100000) (hf : smallP f) : iaV l c zl a f := by
 unfold iaV
 simp only [SS,reduceCtorEq,Arg.list,Arg.num,Arg.flag,intOf,andP,Nat.reduceLeDiff,Nat.reduceAdd,Nat.reduceMul,Nat.reduceLT,til_sc,nm_sl]
 refine ⟨⟨at_z,hc,ha.1,ha.2⟩,fun h => ⟨gr_small hc ha _ (Nat.le_refl _),hf,?_⟩,fun h => ?_⟩
 · rw [badF,decide_eq_false h]; rfl
 · rw [badF,decide_eq_true h]; rfl
theorem ibE_ok {l : List Int} {c : Nat} : VOk Try.prog (ibE l c) := VOk.ofCt ((CtOk.none.add gyCt_ok).add maG_ok)
theorem ib_call (l : List Int) (c : Nat) (zl : List Int) (a : Int) (f : Nat→Int) (hc : Coins l) (ha : 0≤a∧a≤100000) (hf : smallP f) : Call Try.prog 80 [ptr0 1,vi a,C5 f] [ros l,tillO l.length c zl] fun v H' => v = .bool (badF l a f)∧H' = [ros l,tillO l.length c zl] :=
 Call.ofVcR (E := ibE l c) (H := [ros l,tillO l.length c zl]) (args := [ptr0 1,vi a,C5 f]) (σ := fun b => b) (v2 := .bool (badF l a f)) (H2 := [ros l,tillO l.length c zl]) ibE_ok mixed (c := ibB) (inv := fun _ => none) Try.func80 (by kernel_rfl) (cast (by kernel_rfl) (iaV_ok l c zl a f hc ha hf))
noncomputable def ibCt (l : List Int) (c : Nat) : List Value→Heap→Option (Option Prop × Value × Heap × List Nat) := fun args H => match args with
 | [.pointer (some ⟨1,0,none⟩),.int .i64 a,.agg ⟨[.int .i64 a0,.int .i64 a1,.int .i64 a2,.int .i64 a3,.int .i64 a4]⟩] => some (some (AtZ l c H∧Coins l∧(0≤a∧a≤100000)∧smallP (l5 a0 a1 a2 a3 a4)),.bool (badF l a (l5 a0 a1 a2 a3 a4)),H,[])
 | _ => none
theorem ibCt_ok {l : List Int} {c : Nat} : ∀ args H φ v H' k,ibCt l c args H = some (φ,v,H',k)→Asks φ→Call Try.prog 80 args H (fun v' H2 => v' = v∧H2 = H')∧Kept H H' k := fun args H φ v H' k h hφ => by
 unfold ibCt at h
 split at h <;> cases h
 rename_i a a0 a1 a2 a3 a4
 obtain ⟨⟨zl,hA⟩,hc,ha,hf⟩ := hφ
 exact ⟨till_frame hA (by simp [sc,sc2,sc1,sc0]) (ib_call l c zl a (l5 a0 a1 a2 a3 a4) hc ha hf) rfl,Kept.refl _ _⟩
end Go.Pier.Fl
namespace Go.Pier.Fl
open Go Go.Pier Go.Proofs
noncomputable def bd_c0 : Code := ((Code.region (2 : Nat) { toList := [{ dst := some (4 : Nat),op := Op.assign (Operand.tmp (8 : Nat)),type := (2 : Nat),pos := "change.go:75",after := { toList := [] },guard := none }] } false).seq (Code.region (3 : Nat) { toList := [{ dst := some (5 : Nat),op := Op.alloc (71 : Nat),type := (0 : Nat),pos := "change.go:75",after := { toList := [] },guard := none },{ dst := none,op := Op.store (71 : Nat) (Operand.tmp (5 : Nat)) (Operand.tmp (9 : Nat)),type := (0 : Nat),pos := "change.go:75",after := { toList := [{ on := (0 : Nat),ground := Ground.data },{ on := (0 : Nat),ground := Ground.phase }] },guard := none }] } false))
noncomputable def bd_c1 : Code := (Code.block (1 : Nat) ((Code.region (4 : Nat) { toList := [{ dst := some (10 : Nat),op := Op.load (61 : Nat) (Operand.tmp (1 : Nat)),type := (61 : Nat),pos := "change.go:76",after := { toList := [] },guard := none },{ dst := some (11 : Nat),op := Op.move (Operand.tmp (4 : Nat)),type := (2 : Nat),pos := "change.go:76",after := { toList := [] },guard := none },{ dst := some (12 : Nat),op := Op.load (71 : Nat) (Operand.tmp (5 : Nat)),type := (71 : Nat),pos := "change.go:76",after := { toList := [] },guard := none },{ dst := some (13 : Nat),op := Op.call { callee := Callee.value (Operand.func (80 : Nat)),args := { toList := [Operand.tmp (10 : Nat),Operand.tmp (11 : Nat),Operand.tmp (12 : Nat)] },argTypes := { toList := [(61 : Nat),(2 : Nat),(71 : Nat)] } },type := (4 : Nat),pos := "change.go:76",after := { toList := [{ on := (0 : Nat),ground := Ground.data },{ on := (1 : Nat),ground := Ground.data },{ on := (2 : Nat),ground := Ground.data }] },guard := none }] } false).seq (Code.cond (Operand.tmp (13 : Nat)) ((Code.region (5 : Nat) { toList := [{ dst := some (14 : Nat),op := Op.move (Operand.tmp (4 : Nat)),type := (2 : Nat),pos := "change.go:77",after := { toList := [] },guard := none },{ dst := none,op := Op.store (2 : Nat) (Operand.tmp (2 : Nat)) (Operand.tmp (14 : Nat)),type := (0 : Nat),pos := "change.go:77",after := { toList := [{ on := (0 : Nat),ground := Ground.data },{ on := (0 : Nat),ground := Ground.phase }] },guard := none },{ dst := none,op := Op.store (25 : Nat) (Operand.tmp (3 : Nat)) (Operand.const (vi (0 : Int))),type := (0 : Nat),pos := "change.go:77",after := { toList := [{ on := (1 : Nat),ground := Ground.chain },{ on := (0 : Nat),ground := Ground.phase },{ on := (1 : Nat),ground := Ground.phase }] },guard := none }] } false).seq Code.ret) Code.skip)))
def lbF (l : List Int) : Nat→Nat→Option Nat
 | 0,_ => none
 | n + 1,a => bif canB l a && badF l a (bF l a) then some a else lbF l n (a + 1)
noncomputable def bd0E (l : List Int) (c : Nat) : VEnv := { ct := Ct.none.add 80 (ibCt l c) }
noncomputable def bdE (l : List Int) (c : Nat) (zl : List Int) : VEnv := { cc := ccOr (ccIn Try.prog {} [⟨93,Try.f93,fun _ _ _ => none⟩]) (ccIn Try.prog (chE l c zl (bd0E l c)) [⟨104,Try.f104,chI l 100 (fun _ H => H) (fun a => ∀ b,b < a→(canB l b && badF l b (bF l b)) = false)⟩]) }
noncomputable def bdB : Code := Try.f79.body.getD .skip
def bdVal (l : List Int) : Int := match lbF l 101 0 with | some a => a | none => 0
def bdErr (l : List Int) : Int := match lbF l 101 0 with | some _ => 0 | none => 5
noncomputable def bdV0 (l:List Int) (c:Nat) (zl:List Int) (x:Nat × List MapEntry × Nat):List Value := [vi ((bstF l (lookE uA x.snd.fst) (x.fst:Int) l.length).fst 0),vi ((bstF l (lookE uA x.snd.fst) (x.fst:Int) l.length).fst 1),vi ((bstF l (lookE uA x.snd.fst) (x.fst:Int) l.length).fst 2),vi ((bstF l (lookE uA x.snd.fst) (x.fst:Int) l.length).fst 3),vi ((bstF l (lookE uA x.snd.fst) (x.fst:Int) l.length).fst 4)]
noncomputable def bdV1 (l:List Int) (c:Nat) (zl:List Int):Array Value := ⟨[ptr0 1,ptr0 2,ptr0 3,ptr0 4,junk,junk,ptr0 1,Value.func (Fn.func 104) ⟨[]⟩ ⟨[ptr0 6,ptr0 5]⟩,junk,junk,junk,junk,junk,junk,junk]⟩
noncomputable def bdV2 (l:List Int) (c:Nat) (zl:List Int) := (Value.slice (some (ad0 0)) l.length c::List.map (Value.int IntKind.i64) zl)
noncomputable def bdV3 (l:List Int) (c:Nat) (zl:List Int) (x:Nat × List MapEntry × Nat) := (Value.agg ⟨[vi (IntKind.i64.wrap ((x.fst:Int)-getI (List.map (Value.int IntKind.i64) l) (0+(IntKind.i64.wrap ((l.length:Int)-(1:Int))).toNat * 1)))]⟩)
noncomputable def bdV4 (l:List Int) (c:Nat) (zl:List Int) (x:Nat × List MapEntry × Nat) := (l5 ((bstF l (lookE uA x.snd.fst) (x.fst:Int) l.length).fst 0) ((bstF l (lookE uA x.snd.fst) (x.fst:Int) l.length).fst 1) ((bstF l (lookE uA x.snd.fst) (x.fst:Int) l.length).fst 2) ((bstF l (lookE uA x.snd.fst) (x.fst:Int) l.length).fst 3) ((bstF l (lookE uA x.snd.fst) (x.fst:Int) l.length).fst 4))
noncomputable def bdV5 (l:List Int) (c:Nat) (zl:List Int) (x:Nat × List MapEntry × Nat) := (x.snd.fst++[{ key := Value.agg ⟨[vi (x.fst:Int)]⟩,val := Value.agg { toList := (bdV0 l c zl x) },born := x.snd.snd }])
noncomputable def bdV6 (l:List Int) (c:Nat) (zl:List Int) := (List.map (Value.int IntKind.i64) l)
noncomputable def bdV7 (l:List Int) (c:Nat) (zl:List Int) := (IntAt IntKind.i64 (bdV6 l c zl) (0+(IntKind.i64.wrap ((l.length:Int)-(1:Int))).toNat * 1))
noncomputable def bdV :=
fun (l:List Int) (c:Nat) (zl:List Int)↦Ob (some (vi (100:Int))=some (vi (100:Int)))∧(∃ (y:Nat × List MapEntry × Nat),Ob (y.fst≤101∧keptP l y.fst y.snd.fst∧∀ (b:Nat),b<y.fst→(canB l b && badF l (b:Int) (bF l b))=false)∧(Ob (AObj.ro (bdV6 l c zl)=AObj.ro (List.map (nmap1 fun (b:Nat)↦b) (bdV6 l c zl))∧AObj.sc 9 (AObj.ro (bdV6 l c zl))=true)∧Ob (AObj.rw (bdV2 l c zl) none=AObj.rw (List.map (nmap1 fun (b:Nat)↦b) (bdV2 l c zl)) none∧AObj.sc 9 (AObj.rw (bdV2 l c zl) none)=true)∧Ob (AObj.rw [ptr0 1] none=AObj.rw [ptr0 1] none∧true=true)∧Ob (AObj.rw [vi (0:Int)] none=AObj.rw [vi (0:Int)] none∧true=true)∧Ob (AObj.rw [vi (0:Int)] none=AObj.rw [vi (0:Int)] none∧true=true)∧Ob (AObj.rw [ptr0 1] none=AObj.rw [ptr0 1] none∧true=true)∧Ob (AObj.rw [vi (100:Int)] none=AObj.rw [vi (100:Int)] none∧true=true)∧Ob (AObj.loop LoopState.ready none (bdV1 l c zl) ⟨[8,9]⟩ bd_c0 bd_c1=AObj.loop LoopState.ready none (bdV1 l c zl) ⟨[8,9]⟩ bd_c0 bd_c1∧true=true)∧Ob (AObj.map [] 0=AObj.map (List.map (fun (e:MapEntry)↦{ key := e.key,val := nmap2 (fun (b:Nat)↦b) e.val,born := e.born }) y.snd.fst) y.snd.snd∧AObj.sc 9 (AObj.map y.snd.fst y.snd.snd)=true)∧True)∧Ob (Value.func (Fn.yield 7) ⟨[]⟩ ⟨[]⟩=Value.func (Fn.yield 7) ⟨[]⟩ ⟨[]⟩)∧Ob (ptr0 6=ptr0 6)∧Ob (ptr0 5=ptr0 5)∧Ob (Value.map (some 8)=Value.map (some 8))∧Ob (IntKind.i64.wrap ((100:Int)+(1:Int))=(↑(101:Nat):Int))∧Ob ((0:Int)=(y.fst:Int))∧True)∧∀ (x:Nat × List MapEntry × Nat),Ob (x.fst≤101∧keptP l x.fst x.snd.fst∧∀ (b:Nat),b<x.fst→(canB l b && badF l (b:Int) (bF l b))=false)→(decide ((x.fst:Int)<(↑(101:Nat):Int))=true→Ob (AtT l c zl [AObj.ro (bdV6 l c zl),AObj.rw (bdV2 l c zl) none,AObj.rw [ptr0 1] none,AObj.rw [vi (0:Int)] none,AObj.rw [vi (0:Int)] none,AObj.rw [ptr0 1] none,AObj.rw [vi (100:Int)] none,AObj.loop LoopState.ready none (bdV1 l c zl) ⟨[8,9]⟩ bd_c0 bd_c1,AObj.map x.snd.fst x.snd.snd,AObj.rw [ptr0 1] none,AObj.rw [Value.map (some 8)] none,AObj.rw [vi (x.fst:Int)] none]∧rngC l∧((0:Int)≤(x.fst:Int)∧(x.fst:Int)≤(5000:Int))∧EntOk x.snd.fst∧true=true∧6≤12)∧Ob (0+5≤5)∧Ob True∧(((x.fst:Int)==(0:Int) || !same5 (bdV4 l c zl x) z5)=true→Ob (aMapUpdate Try.prog [AObj.ro (bdV6 l c zl),AObj.rw (bdV2 l c zl) none,AObj.rw [ptr0 1] none,AObj.rw [vi (0:Int)] none,AObj.rw [vi (0:Int)] none,AObj.rw [ptr0 1] none,AObj.rw [vi (100:Int)] none,AObj.loop LoopState.ready none (bdV1 l c zl) ⟨[8,9]⟩ bd_c0 bd_c1,AObj.map x.snd.fst x.snd.snd,AObj.rw [ptr0 1] none,AObj.rw [Value.map (some 8)] none,AObj.rw [vi (x.fst:Int)] none,AObj.rw (bdV0 l c zl x) none] 112 (Value.map (some 8)) (Value.agg ⟨[vi (x.fst:Int)]⟩) (Value.agg { toList := (bdV0 l c zl x) })=some [AObj.ro (bdV6 l c zl),AObj.rw (bdV2 l c zl) none,AObj.rw [ptr0 1] none,AObj.rw [vi (0:Int)] none,AObj.rw [vi (0:Int)] none,AObj.rw [ptr0 1] none,AObj.rw [vi (100:Int)] none,AObj.loop LoopState.ready none (bdV1 l c zl) ⟨[8,9]⟩ bd_c0 bd_c1,AObj.map (bdV5 l c zl x) (x.snd.snd+1),AObj.rw [ptr0 1] none,AObj.rw [Value.map (some 8)] none,AObj.rw [vi (x.fst:Int)] none,AObj.rw (bdV0 l c zl x) none])∧Ob (0+5≤5)∧Ob (AtZ l c [AObj.ro (bdV6 l c zl),AObj.rw (bdV2 l c zl) none,AObj.rw [ptr0 1] none,AObj.rw [vi (0:Int)] none,AObj.rw [vi (0:Int)] none,AObj.rw [ptr0 1] none,AObj.rw [vi (100:Int)] none,AObj.loop LoopState.busy none (bdV1 l c zl) ⟨[8,9]⟩ bd_c0 bd_c1,AObj.map (bdV5 l c zl x) (x.snd.snd+1),AObj.rw [ptr0 1] none,AObj.rw [Value.map (some 8)] none,AObj.rw [vi (x.fst:Int)] none,AObj.rw (bdV0 l c zl x) none,AObj.rw (bdV0 l c zl x) none]∧Coins l∧((0:Int)≤(x.fst:Int)∧(x.fst:Int)≤(100000:Int))∧smallP (bdV4 l c zl x))∧(badF l (x.fst:Int) (bdV4 l c zl x)=true→Ob (0+1≤1)∧Ob (0+1≤1)∧(true=true→(Ob (some (vi (x.fst:Int))=some (vi (x.fst:Int)))∧Ob (some (vi (0:Int))=some (vi (0:Int)))∧True)∧(Ob (AObj.ro (bdV6 l c zl)=AObj.ro (List.map (nmap1 fun (b:Nat)↦b) (bdV6 l c zl))∧AObj.sc 2 (AObj.ro (bdV6 l c zl))=true)∧Ob (AObj.rw (bdV2 l c zl) none=AObj.rw (List.map (nmap1 fun (b:Nat)↦b) (bdV2 l c zl)) none∧AObj.sc 2 (AObj.rw (bdV2 l c zl) none)=true)∧True)∧Ob (Value.tuple ⟨[vi (x.fst:Int),vi (0:Int)]⟩=Value.tuple ⟨[vi (bdVal l),vi (bdErr l)]⟩)∧True)∧(true=false→Ob ((0:Int)≤IntKind.i64.wrap ((l.length:Int)-(1:Int))∧IntKind.i64.wrap ((l.length:Int)-(1:Int))<(l.length:Int)∧true=true)∧Ob (bdV7 l c zl)∧Ob (aDelete Try.prog [AObj.ro (bdV6 l c zl),AObj.rw (bdV2 l c zl) none,AObj.rw [ptr0 1] none,AObj.rw [vi (x.fst:Int)] none,AObj.rw [vi (0:Int)] none,AObj.rw [ptr0 1] none,AObj.rw [vi (100:Int)] none,AObj.loop LoopState.done (some Code.ret) (bdV1 l c zl) ⟨[8,9]⟩ bd_c0 bd_c1,AObj.map (bdV5 l c zl x) (x.snd.snd+1),AObj.rw [ptr0 1] none,AObj.rw [Value.map (some 8)] none,AObj.rw [vi (x.fst:Int)] none,AObj.rw (bdV0 l c zl x) none,AObj.rw (bdV0 l c zl x) none,AObj.rw [Value.slice (some (ad0 0)) l.length c] none] ⟨[112,115]⟩ (Value.map (some 8)) (bdV3 l c zl x)=some [AObj.ro (bdV6 l c zl),AObj.rw (bdV2 l c zl) none,AObj.rw [ptr0 1] none,AObj.rw [vi (x.fst:Int)] none,AObj.rw [vi (0:Int)] none,AObj.rw [ptr0 1] none,AObj.rw [vi (100:Int)] none,AObj.loop LoopState.done (some Code.ret) (bdV1 l c zl) ⟨[8,9]⟩ bd_c0 bd_c1,AObj.map (delE uA (bdV5 l c zl x) (uA (bdV3 l c zl x))) (x.snd.snd+1),AObj.rw [ptr0 1] none,AObj.rw [Value.map (some 8)] none,AObj.rw [vi (x.fst:Int)] none,AObj.rw (bdV0 l c zl x) none,AObj.rw (bdV0 l c zl x) none,AObj.rw [Value.slice (some (ad0 0)) l.length c] none])∧∃ (y:Nat × List MapEntry × Nat),Ob (y.fst≤101∧keptP l y.fst y.snd.fst∧∀ (b:Nat),b<y.fst→(canB l b && badF l (b:Int) (bF l b))=false)∧Ob (101-y.fst<101-x.fst)∧(Ob (AObj.ro (bdV6 l c zl)=AObj.ro (List.map (nmap1 fun (b:Nat)↦b) (bdV6 l c zl))∧AObj.sc 9 (AObj.ro (bdV6 l c zl))=true)∧Ob (AObj.rw (bdV2 l c zl) none=AObj.rw (List.map (nmap1 fun (b:Nat)↦b) (bdV2 l c zl)) none∧AObj.sc 9 (AObj.rw (bdV2 l c zl) none)=true)∧Ob (AObj.rw [ptr0 1] none=AObj.rw [ptr0 1] none∧true=true)∧Ob (AObj.rw [vi (x.fst:Int)] none=AObj.rw [vi (0:Int)] none∧true=true)∧Ob (AObj.rw [vi (0:Int)] none=AObj.rw [vi (0:Int)] none∧true=true)∧Ob (AObj.rw [ptr0 1] none=AObj.rw [ptr0 1] none∧true=true)∧Ob (AObj.rw [vi (100:Int)] none=AObj.rw [vi (100:Int)] none∧true=true)∧Ob (AObj.loop LoopState.done (some Code.ret) (bdV1 l c zl) ⟨[8,9]⟩ bd_c0 bd_c1=AObj.loop LoopState.ready none (bdV1 l c zl) ⟨[8,9]⟩ bd_c0 bd_c1∧true=true)∧Ob (AObj.map (delE uA (bdV5 l c zl x) (uA (bdV3 l c zl x))) (x.snd.snd+1)=AObj.map (List.map (fun (e:MapEntry)↦{ key := e.key,val := nmap2 (fun (b:Nat)↦b) e.val,born := e.born }) y.snd.fst) y.snd.snd∧AObj.sc 9 (AObj.map y.snd.fst y.snd.snd)=true)∧True)∧Ob (Value.func (Fn.yield 7) ⟨[]⟩ ⟨[]⟩=Value.func (Fn.yield 7) ⟨[]⟩ ⟨[]⟩)∧Ob (ptr0 6=ptr0 6)∧Ob (ptr0 5=ptr0 5)∧Ob (Value.map (some 8)=Value.map (some 8))∧Ob ((↑(101:Nat):Int)=(↑(101:Nat):Int))∧Ob (IntKind.i64.wrap ((x.fst:Int)+(1:Int))=(y.fst:Int))∧True))∧(badF l (x.fst:Int) (bdV4 l c zl x)=false→(false=true→Ob (0+1≤1)∧Ob (0+1≤1)∧(Ob (some (vi (0:Int))=some (vi (0:Int)))∧Ob (some (vi (5:Int))=some (vi (5:Int)))∧True)∧(Ob (AObj.ro (bdV6 l c zl)=AObj.ro (List.map (nmap1 fun (b:Nat)↦b) (bdV6 l c zl))∧AObj.sc 2 (AObj.ro (bdV6 l c zl))=true)∧Ob (AObj.rw (bdV2 l c zl) none=AObj.rw (List.map (nmap1 fun (b:Nat)↦b) (bdV2 l c zl)) none∧AObj.sc 2 (AObj.rw (bdV2 l c zl) none)=true)∧True)∧Ob (Value.tuple ⟨[vi (0:Int),vi (5:Int)]⟩=Value.tuple ⟨[vi (bdVal l),vi (bdErr l)]⟩)∧True)∧(false=false→Ob ((0:Int)≤IntKind.i64.wrap ((l.length:Int)-(1:Int))∧IntKind.i64.wrap ((l.length:Int)-(1:Int))<(l.length:Int)∧true=true)∧Ob (bdV7 l c zl)∧Ob (aDelete Try.prog [AObj.ro (bdV6 l c zl),AObj.rw (bdV2 l c zl) none,AObj.rw [ptr0 1] none,AObj.rw [vi (0:Int)] none,AObj.rw [vi (0:Int)] none,AObj.rw [ptr0 1] none,AObj.rw [vi (100:Int)] none,AObj.loop LoopState.ready none (bdV1 l c zl) ⟨[8,9]⟩ bd_c0 bd_c1,AObj.map (bdV5 l c zl x) (x.snd.snd+1),AObj.rw [ptr0 1] none,AObj.rw [Value.map (some 8)] none,AObj.rw [vi (x.fst:Int)] none,AObj.rw (bdV0 l c zl x) none,AObj.rw (bdV0 l c zl x) none,AObj.rw [Value.slice (some (ad0 0)) l.length c] none] ⟨[112,115]⟩ (Value.map (some 8)) (bdV3 l c zl x)=some [AObj.ro (bdV6 l c zl),AObj.rw (bdV2 l c zl) none,AObj.rw [ptr0 1] none,AObj.rw [vi (0:Int)] none,AObj.rw [vi (0:Int)] none,AObj.rw [ptr0 1] none,AObj.rw [vi (100:Int)] none,AObj.loop LoopState.ready none (bdV1 l c zl) ⟨[8,9]⟩ bd_c0 bd_c1,AObj.map (delE uA (bdV5 l c zl x) (uA (bdV3 l c zl x))) (x.snd.snd+1),AObj.rw [ptr0 1] none,AObj.rw [Value.map (some 8)] none,AObj.rw [vi (x.fst:Int)] none,AObj.rw (bdV0 l c zl x) none,AObj.rw (bdV0 l c zl x) none,AObj.rw [Value.slice (some (ad0 0)) l.length c] none])∧∃ (y:Nat × List MapEntry × Nat),Ob (y.fst≤101∧keptP l y.fst y.snd.fst∧∀ (b:Nat),b<y.fst→(canB l b && badF l (b:Int) (bF l b))=false)∧Ob (101-y.fst<101-x.fst)∧(Ob (AObj.ro (bdV6 l c zl)=AObj.ro (List.map (nmap1 fun (b:Nat)↦b) (bdV6 l c zl))∧AObj.sc 9 (AObj.ro (bdV6 l c zl))=true)∧Ob (AObj.rw (bdV2 l c zl) none=AObj.rw (List.map (nmap1 fun (b:Nat)↦b) (bdV2 l c zl)) none∧AObj.sc 9 (AObj.rw (bdV2 l c zl) none)=true)∧Ob (AObj.rw [ptr0 1] none=AObj.rw [ptr0 1] none∧true=true)∧Ob (AObj.rw [vi (0:Int)] none=AObj.rw [vi (0:Int)] none∧true=true)∧Ob (AObj.rw [vi (0:Int)] none=AObj.rw [vi (0:Int)] none∧true=true)∧Ob (AObj.rw [ptr0 1] none=AObj.rw [ptr0 1] none∧true=true)∧Ob (AObj.rw [vi (100:Int)] none=AObj.rw [vi (100:Int)] none∧true=true)∧Ob (AObj.loop LoopState.ready none (bdV1 l c zl) ⟨[8,9]⟩ bd_c0 bd_c1=AObj.loop LoopState.ready none (bdV1 l c zl) ⟨[8,9]⟩ bd_c0 bd_c1∧true=true)∧Ob (AObj.map (delE uA (bdV5 l c zl x) (uA (bdV3 l c zl x))) (x.snd.snd+1)=AObj.map (List.map (fun (e:MapEntry)↦{ key := e.key,val := nmap2 (fun (b:Nat)↦b) e.val,born := e.born }) y.snd.fst) y.snd.snd∧AObj.sc 9 (AObj.map y.snd.fst y.snd.snd)=true)∧True)∧Ob (Value.func (Fn.yield 7) ⟨[]⟩ ⟨[]⟩=Value.func (Fn.yield 7) ⟨[]⟩ ⟨[]⟩)∧Ob (ptr0 6=ptr0 6)∧Ob (ptr0 5=ptr0 5)∧Ob (Value.map (some 8)=Value.map (some 8))∧Ob ((↑(101:Nat):Int)=(↑(101:Nat):Int))∧Ob (IntKind.i64.wrap ((x.fst:Int)+(1:Int))=(y.fst:Int))∧True)))∧(((x.fst:Int)==(0:Int) || !same5 (bdV4 l c zl x) z5)=false→Ob ((0:Int)≤IntKind.i64.wrap ((l.length:Int)-(1:Int))∧IntKind.i64.wrap ((l.length:Int)-(1:Int))<(l.length:Int)∧true=true)∧Ob (bdV7 l c zl)∧Ob (aDelete Try.prog [AObj.ro (bdV6 l c zl),AObj.rw (bdV2 l c zl) none,AObj.rw [ptr0 1] none,AObj.rw [vi (0:Int)] none,AObj.rw [vi (0:Int)] none,AObj.rw [ptr0 1] none,AObj.rw [vi (100:Int)] none,AObj.loop LoopState.ready none (bdV1 l c zl) ⟨[8,9]⟩ bd_c0 bd_c1,AObj.map x.snd.fst x.snd.snd,AObj.rw [ptr0 1] none,AObj.rw [Value.map (some 8)] none,AObj.rw [vi (x.fst:Int)] none,AObj.rw (bdV0 l c zl x) none,AObj.rw [Value.slice (some (ad0 0)) l.length c] none] ⟨[112,115]⟩ (Value.map (some 8)) (bdV3 l c zl x)=some [AObj.ro (bdV6 l c zl),AObj.rw (bdV2 l c zl) none,AObj.rw [ptr0 1] none,AObj.rw [vi (0:Int)] none,AObj.rw [vi (0:Int)] none,AObj.rw [ptr0 1] none,AObj.rw [vi (100:Int)] none,AObj.loop LoopState.ready none (bdV1 l c zl) ⟨[8,9]⟩ bd_c0 bd_c1,AObj.map (delE uA x.snd.fst (uA (bdV3 l c zl x))) x.snd.snd,AObj.rw [ptr0 1] none,AObj.rw [Value.map (some 8)] none,AObj.rw [vi (x.fst:Int)] none,AObj.rw (bdV0 l c zl x) none,AObj.rw [Value.slice (some (ad0 0)) l.length c] none])∧∃ (y:Nat × List MapEntry × Nat),Ob (y.fst≤101∧keptP l y.fst y.snd.fst∧∀ (b:Nat),b<y.fst→(canB l b && badF l (b:Int) (bF l b))=false)∧Ob (101-y.fst<101-x.fst)∧(Ob (AObj.ro (bdV6 l c zl)=AObj.ro (List.map (nmap1 fun (b:Nat)↦b) (bdV6 l c zl))∧AObj.sc 9 (AObj.ro (bdV6 l c zl))=true)∧Ob (AObj.rw (bdV2 l c zl) none=AObj.rw (List.map (nmap1 fun (b:Nat)↦b) (bdV2 l c zl)) none∧AObj.sc 9 (AObj.rw (bdV2 l c zl) none)=true)∧Ob (AObj.rw [ptr0 1] none=AObj.rw [ptr0 1] none∧true=true)∧Ob (AObj.rw [vi (0:Int)] none=AObj.rw [vi (0:Int)] none∧true=true)∧Ob (AObj.rw [vi (0:Int)] none=AObj.rw [vi (0:Int)] none∧true=true)∧Ob (AObj.rw [ptr0 1] none=AObj.rw [ptr0 1] none∧true=true)∧Ob (AObj.rw [vi (100:Int)] none=AObj.rw [vi (100:Int)] none∧true=true)∧Ob (AObj.loop LoopState.ready none (bdV1 l c zl) ⟨[8,9]⟩ bd_c0 bd_c1=AObj.loop LoopState.ready none (bdV1 l c zl) ⟨[8,9]⟩ bd_c0 bd_c1∧true=true)∧Ob (AObj.map (delE uA x.snd.fst (uA (bdV3 l c zl x))) x.snd.snd=AObj.map (List.map (fun (e:MapEntry)↦{ key := e.key,val := nmap2 (fun (b:Nat)↦b) e.val,born := e.born }) y.snd.fst) y.snd.snd∧AObj.sc 9 (AObj.map y.snd.fst y.snd.snd)=true)∧True)∧Ob (Value.func (Fn.yield 7) ⟨[]⟩ ⟨[]⟩=Value.func (Fn.yield 7) ⟨[]⟩ ⟨[]⟩)∧Ob (ptr0 6=ptr0 6)∧Ob (ptr0 5=ptr0 5)∧Ob (Value.map (some 8)=Value.map (some 8))∧Ob ((↑(101:Nat):Int)=(↑(101:Nat):Int))∧Ob (IntKind.i64.wrap ((x.fst:Int)+(1:Int))=(y.fst:Int))∧True))∧(decide ((x.fst:Int)<(↑(101:Nat):Int))=false→Ob (0+1≤1)∧Ob (0+1≤1)∧(Ob (some (vi (0:Int))=some (vi (0:Int)))∧Ob (some (vi (5:Int))=some (vi (5:Int)))∧True)∧(Ob (AObj.ro (bdV6 l c zl)=AObj.ro (List.map (nmap1 fun (b:Nat)↦b) (bdV6 l c zl))∧AObj.sc 2 (AObj.ro (bdV6 l c zl))=true)∧Ob (AObj.rw (bdV2 l c zl) none=AObj.rw (List.map (nmap1 fun (b:Nat)↦b) (bdV2 l c zl)) none∧AObj.sc 2 (AObj.rw (bdV2 l c zl) none)=true)∧True)∧Ob (Value.tuple ⟨[vi (0:Int),vi (5:Int)]⟩=Value.tuple ⟨[vi (bdVal l),vi (bdErr l)]⟩)∧True)
theorem lb_at {l : List Int} {a : Nat} (h : (canB l a && badF l a (bF l a)) = true) : ∀ n s,s≤a→a < s + n→(∀ b,s≤b→b < a→(canB l b && badF l b (bF l b)) = false)→lbF l n s = some a
 | 0,s,h1,h2,_ => by omega
 | n + 1,s,h1,h2,h3 => by
   unfold lbF
   by_cases e : s = a
   · subst e; rw [h]; rfl
   · rw [h3 s (Nat.le_refl _) (by omega)]
     exact lb_at h n (s + 1) (by omega) (by omega) fun b hb => h3 b (by omega)
theorem lb_no {l : List Int} : ∀ n s,(∀ b,s≤b→b < s + n→(canB l b && badF l b (bF l b)) = false)→lbF l n s = none
 | 0,s,_ => rfl
 | n + 1,s,h3 => by
   unfold lbF
   rw [h3 s (Nat.le_refl _) (by omega)]
   exact lb_no n (s + 1) fun b hb hb2 => h3 b (by omega) (by omega)
theorem bdV_ok (l : List Int) (c : Nat) (zl : List Int) (hc : Coins l) : bdV l c zl := by
 unfold bdV bdV7 bdV6 bdV5 bdV4 bdV3 bdV2 bdV1 bdV0
 have hl := last_rng hc
 have hp := hc.pos
 have hw := hc.few
 simp only [SS,reduceCtorEq,Arg.list,Arg.num,Arg.flag,intOf,andP,Nat.reduceLeDiff,Nat.reduceAdd,Nat.reduceMul,Nat.reduceLT,til_sc,nm_sl,uA_k,len_pred hc]
 refine ⟨⟨(0,[],0),⟨by simp,kept_0,fun b h => by simp at h⟩,⟨rfl,rfl⟩,by rw [wrap_in (by omega) (by omega)]; rfl,rfl⟩,fun x hx => ⟨fun h1 => ?_,fun h1 => ?_⟩⟩
 · obtain ⟨a,es,k⟩ := x
   obtain ⟨x1,hk,x3⟩ := hx
   simp only at x1 hk x3 h1
   simp only [kept_bF hc hk]
   have h5 : a≤100 := by omega
   have hA : ∀ r,AtT l c zl (AObj.ro (List.map (Value.int IntKind.i64) l) :: AObj.rw (Value.slice (some (ad0 0)) l.length c :: List.map (Value.int IntKind.i64) zl) none :: r) := fun r => ⟨rfl,rfl⟩
   have wk : IntKind.i64.wrap ((a : Int) - l.getD (l.length - 1) 0) = (a : Int) - lastF l := by unfold lastF at *; rw [wrap_in (by omega) (by omega)]
   rw [wk]
   have nx : IntKind.i64.wrap ((a : Int) + 1) = ((a + 1 : Nat) : Int) := wrap_succ (n := 10000) (by omega) (by omega)
   have e5 : badF l (a : Int) (l5 (bF l a 0) (bF l a 1) (bF l a 2) (bF l a 3) (bF l a 4)) = badF l a (bF l a) := rfl
   rw [e5]
   refine ⟨⟨hA _,rng_of hc,by omega,hk.1⟩,fun h2 => ⟨new_es hk.1 rfl (kept_fresh hc (by omega) hk),⟨at_z,hc,by omega,(bF_less hc (by omega)).small⟩,fun h3 => ?_,fun h3 => ⟨by omega,by omega,del_es (hk.1.snoc (bF_less hc (by omega))) rfl rfl,(a + 1,_,k + 1),⟨by simp; omega,kept_new hc (by omega) hk (can_of h2),fun b hb => ?_⟩,by simp; omega,map_same (kept_new hc (by omega) hk (can_of h2)).1,nx⟩⟩,fun h2 => ⟨by omega,by omega,del_es hk.1 rfl rfl,(a + 1,_,k),⟨by simp; omega,kept_old hc (by omega) hk (can_of h2),fun b hb => ?_⟩,by simp; omega,map_same (kept_old hc (by omega) hk (can_of h2)).1,nx⟩⟩
   · have e6 : lbF l 101 0 = some a := lb_at (by rw [can_of h2,h3]; rfl) 101 0 (by omega) (by omega) fun b _ hb => x3 b hb
     rw [bdVal,bdErr,e6]
   · by_cases e : b = a
     · rw [e,h3,Bool.and_false]
     · exact x3 b (by simp only at hb; omega)
   · by_cases e : b = a
     · rw [e,can_of h2,Bool.false_and]
     · exact x3 b (by simp only at hb; omega)
 · have e6 : lbF l 101 0 = none := lb_no 101 0 fun b _ hb => hx.2.2 b (by omega)
   rw [bdVal,bdErr,e6]
theorem bd0E_ok {l : List Int} {c : Nat} : VOk Try.prog (bd0E l c) := VOk.ofCt (CtOk.none.add ibCt_ok)
theorem bdE_ok {l : List Int} {c : Nat} {zl : List Int} : VOk Try.prog (bdE l c zl) := ⟨CtOk.none,ccOr_ok (ccIn_ok E0_ok mixed (inl_one Try.func93)) (ccIn_ok (chE_ok bd0E_ok) mixed (inl_one Try.func104)),E0_ok.yc,E0_ok.orc⟩
theorem bd_call (l : List Int) (c : Nat) (zl : List Int) (hc : Coins l) : Call Try.prog 79 [ptr0 1] [ros l,tillO l.length c zl] fun v H' => v = .tuple #[vi (bdVal l),vi (bdErr l)]∧H' = [ros l,tillO l.length c zl] :=
 Call.ofVcR (E := bdE l c zl) (H := [ros l,tillO l.length c zl]) (args := [ptr0 1]) (σ := fun b => b) (v2 := .tuple #[vi (bdVal l),vi (bdErr l)]) (H2 := [ros l,tillO l.length c zl]) bdE_ok mixed (c := bdB) (inv := fun _ => none) Try.func79 (by kernel_rfl) (cast (by kernel_rfl) (bdV_ok l c zl hc))
noncomputable def bdCt (l : List Int) (c : Nat) : List Value→Heap→Option (Option Prop × Value × Heap × List Nat) := fun args H => match args with
 | [.pointer (some ⟨1,0,none⟩)] => some (some (AtZ l c H∧Coins l),.tuple #[vi (bdVal l),vi (bdErr l)],H,[])
 | _ => none
theorem bdCt_ok {l : List Int} {c : Nat} : ∀ args H φ v H' k,bdCt l c args H = some (φ,v,H',k)→Asks φ→Call Try.prog 79 args H (fun v' H2 => v' = v∧H2 = H')∧Kept H H' k := fun args H φ v H' k h hφ => by
 unfold bdCt at h
 split at h <;> cases h
 obtain ⟨⟨zl,hA⟩,hc⟩ := hφ
 exact ⟨till_frame (rest := []) hA rfl (bd_call l c zl hc) (by simp [sc,sc2,sc1,sc0]),Kept.refl _ _⟩
end Go.Pier.Fl
