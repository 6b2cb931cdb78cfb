import Derived.Test.YtbehncpoppoglaaPierKG4
import Derived.Test.YtbehncpoppoglaaPierFlwk
import Derived.KernelRfl
set_option linter.unusedSimpArgs false
set_option linter.unusedVariables false
set_option maxRecDepth 100000
namespace Go.Pier.Fl
open Go Go.Pier Go.Proofs
noncomputable def atB : Code := Try.f50.body.getD .skip
def amt (w : Int) : Int := w % 301
noncomputable def atV :=
fun (w:Int)↦Ob ((301:Int)≠(0:Int))∧True∧Ob (vi ((IntKind.i64.wrap w).tmod (301:Int))=vi (amt w))
theorem atV_eq : atV = fun (w : Int) => vc Try.prog {} 0 6 true (fun _ => none) atB [] (argFr 0 [.int .u16 w]) [] (retK Try.prog Try.f50 (fun v _ => v = vi (amt w))) := by kernel_rfl
def atS (r : List Arg) : Prop × Value := match r with
 | [.plain (.int .u16 w)] => (0≤w∧w < 65536,vi (amt w))
 | _ => (False,undef)
def worksS (r : List Arg) : Prop × Value := match r with | [] => (True,.bool true) | _ => (False,undef)
def isTrue (v : Value) (_ : Heap) : Prop := v = .bool true
theorem atV_ok (w : Int) (h : 0≤w∧w < 65536) : atV w := by
 unfold atV
 simp only [SS,reduceCtorEq,Arg.list,Arg.num,Arg.flag,intOf,andP,Nat.reduceLeDiff,Nat.reduceAdd,Nat.reduceMul,Nat.reduceLT]
 rw [wrap_in (by omega) (by omega),Int.tmod_eq_emod_of_nonneg h.1]
 exact ⟨by decide,rfl⟩
theorem amt_rng (w : Int) : 0≤amt w∧amt w≤300 := by unfold amt; omega
theorem worksG_ok : ∀ args H φ v H' l,pureG [] worksS args H = some (φ,v,H',l)→Asks φ→Call Try.prog 19 args H (fun v' H2 => v' = v∧H2 = H')∧Kept H H' l :=
 closedG_ok (works_ok.call.mono fun v H h => h.1) rfl
theorem atG_ok : ∀ args H φ v H' l,pureG [.int .u16] atS args H = some (φ,v,H',l)→Asks φ→Call Try.prog 50 args H (fun v' H2 => v' = v∧H2 = H')∧Kept H H' l :=
 pureG_ok fun r hk hs => match r,hk with
   | [_],⟨⟨w,ha⟩,_⟩ => by
     subst ha
     exact ⟨rfl,fun caps => Call.ofVc E0_ok mixed (c := atB) (inv := fun _ => none) Try.func50 (by kernel_rfl) (cast (congrFun atV_eq w) (atV_ok w hs))⟩
theorem u16_wfA {n : Int} (h : (Lit.int .u16 n).wf = true) : 0≤n∧n < 65536 := by
 simp only [Lit.wf,Bool.and_eq_true,decide_eq_true_eq] at h
 have h1 : IntKind.u16.min = 0 := rfl
 have h2 : IntKind.u16.max = 65535 := rfl
 rw [h1,h2] at h
 omega
end Go.Pier.Fl
