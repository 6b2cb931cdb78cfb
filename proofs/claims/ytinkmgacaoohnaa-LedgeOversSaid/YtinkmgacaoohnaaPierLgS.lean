import Derived.Test.YtinkmgacaoohnaaPierMO3
import Derived.Test.YtinkmgacaoohnaaPierMO2
import Derived.KernelRfl
set_option linter.unusedSimpArgs false
set_option linter.unusedVariables false
namespace Go.Pier.Lg
open Go Go.Pier Go.Proofs
def fh0 : Heap := [.rw [vi (2),vi (0),vi (2),vi (1)] none,.rw [vi (3),vi (4),vi (3),vi (4)] none,.gone,.gone,.gone,.gone,.gone,.gone,.gone,.gone,.gone,.gone,.gone,.gone,.gone,.gone,.gone,.gone,.gone,.gone,.gone,.gone,.gone,.gone,
 .gone,.gone,.gone,.rw [vi (2),vi (0),vi (3),vi (1)] (some 1),.gone,.gone,.gone,.gone,.gone,.gone,.gone,.gone,.gone,.gone,.gone,.gone,.gone,.gone,.gone,.gone,.gone,.gone,.gone,.gone,.gone,.gone,.gone,.gone,.gone,
 .rw [vi (3),vi (4),vi (-1),vi (-1)] (some 1),.gone,.gone,.gone,.gone,.gone,.gone,.gone,.gone,.gone,.gone,.gone,.gone,.gone,.gone,.gone,.gone,.gone,.gone,.gone,.gone,.gone,.gone,.gone,.gone,.gone,.gone,.gone,.gone,
 .gone,.gone,.rw [vi (3),vi (4)] none,.rw [vi (4),vi (1)] none]
def fh1 : Heap := [.rw [vi (2),vi (0),vi (2),vi (1)] none,.rw [vi (3),vi (4),vi (3),vi (4)] none,.gone,.gone,.gone,.gone,.gone,.gone,.gone,.gone,.gone,.gone,.gone,.gone,.gone,.gone,.gone,.gone,.gone,.gone,.gone,.gone,.gone,.gone,
 .gone,.gone,.gone,.rw [vi (2),vi (0),vi (3),vi (1)] (some 1),.gone,.gone,.gone,.gone,.gone,.gone,.gone,.gone,.gone,.gone,.gone,.gone,.gone,.gone,.gone,.gone,.gone,.gone,.gone,.gone,.gone,.gone,.gone,.gone,.gone,
 .rw [vi (3),vi (4),vi (-1),vi (-1)] (some 1),.gone,.gone,.gone,.gone,.gone,.gone,.gone,.gone,.gone,.gone,.gone,.gone,.gone,.gone,.gone,.gone,.gone,.gone,.gone,.gone,.gone,.gone,.gone,.gone,.gone,.gone,.gone,.gone,
 .gone,.gone,.rw [vi (3),vi (4)] none,.rw [vi (4),vi (1)] none,.gone,.gone,.gone,.gone,.gone,.gone,.gone,.gone,.gone,.gone,.gone,.gone,.gone,.gone,.gone,.gone,.gone,.gone,.gone,.gone,.gone,.gone,.gone,.gone,.gone,
 .gone,.gone,.gone,.gone,.gone,.gone,.gone,.gone,.gone,.gone,.gone,.gone,.gone,.gone,.gone,.gone,.gone,.gone,.gone,.gone,.gone,.gone,.gone,.gone,.gone,.gone,.gone,.gone,.gone,.gone,.gone,.gone,.gone,.gone,.gone,
 .gone,.gone,.gone,.gone,.gone,.gone,.gone,.gone,.gone,.gone,.gone,.gone,.gone,.gone,.gone,.gone,.gone,.gone,.gone,.gone,.gone,.gone,.gone,.gone,.gone,.gone,.gone,.gone,.gone,.gone,.gone,.gone,.gone,.gone,.gone,
 .gone,.gone,.gone,.gone,.gone,.gone,.gone,.gone,.gone,.gone,.gone,.gone,.gone,.gone,.gone,.gone,.gone,.gone,.gone,.rw [vi (0),vi (1),vi (2),vi (3)] none]
def f0 : ExactC := ⟨30,[vi (5),.slice (some ⟨85,0,none⟩) 2 2],fh0,.tuple #[.slice (some ⟨200,0,none⟩) 4 4,vi (0)],fh1,[]⟩
theorem fk0 : f0.Ok Try.prog := ExactC.ok_ev (n := 20000) tl_ok (by kernel_rfl)
def fs : List ExactC := [f0]
theorem fs_ok : ∀ p ∈ fs,p.Ok Try.prog := by
 intro p hp
 simp only [fs,List.mem_cons,List.not_mem_nil,or_false] at hp
 rcases hp with rfl
 · exact fk0
noncomputable def ft : Tbl := exactTbl fs tl
theorem ft_ok : TblOk Try.prog ft := exactTbl_ok fs_ok tl_ok
def works1 : PureC := ⟨18,[],[],.bool true⟩
theorem works1_ok : works1.Ok Try.prog := PureC.ok_ev (n := 20000) ft_ok (by kernel_rfl) (by kernel_rfl)
def worksS (r : List Arg) : Prop × Value := match r with | [] => (True,.bool true) | _ => (False,undef)
theorem worksG_ok : ∀ args H φ v H' l,pureG [] worksS args H = some (φ,v,H',l)→Asks φ→Call Try.prog 18 args H (fun v' H2 => v' = v∧H2 = H')∧Kept H H' l :=
 closedG_ok (works1_ok.call.mono fun v H h => h.1) rfl
end Go.Pier.Lg
