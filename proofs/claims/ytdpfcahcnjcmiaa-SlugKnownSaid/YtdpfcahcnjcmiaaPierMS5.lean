import Derived.Test.YtdpfcahcnjcmiaaPierSlugE0
import Derived.Test.YtdpfcahcnjcmiaaPierSlugE1
import Derived.Test.YtdpfcahcnjcmiaaPierSlugE2
import Derived.Test.YtdpfcahcnjcmiaaPierSlugE3
import Derived.Test.YtdpfcahcnjcmiaaPierSlugE4
import Derived.Test.YtdpfcahcnjcmiaaPierSlugE5
import Derived.Test.YtdpfcahcnjcmiaaPierSlugM
set_option linter.unusedSimpArgs false
set_option linter.unusedVariables false
namespace Go.Pier.SlugK
open Go Go.Pier Go.Proofs
def es : List ExactC := [e0, e1, e2, e3, e4, e5, e6, e7, e8, e9, e10, e11, e12, e13, e14, e15, e16, e17]
theorem es_ok : ∀ p ∈ es, p.Ok Try.prog := by
  intro p hp
  simp only [es, List.mem_cons, List.not_mem_nil, or_false] at hp
  rcases hp with rfl | rfl | rfl | rfl | rfl | rfl | rfl | rfl | rfl | rfl | rfl | rfl | rfl | rfl | rfl | rfl | rfl | rfl
  · exact ek0
  · exact ek1
  · exact ek2
  · exact ek3
  · exact ek4
  · exact ek5
  · exact ek6
  · exact ek7
  · exact ek8
  · exact ek9
  · exact ek10
  · exact ek11
  · exact ek12
  · exact ek13
  · exact ek14
  · exact ek15
  · exact ek16
  · exact ek17
noncomputable def et : Tbl := exactTbl es mt
theorem et_ok : TblOk Try.prog et := exactTbl_ok es_ok mt_ok
end Go.Pier.SlugK
namespace Go.Pier.SlugK
open Go Go.Pier Go.Proofs
def works : PureC := ⟨16, [], [], .bool true⟩
theorem works_ok : works.Ok Try.prog := PureC.ok_ev (n := 20000) et_ok (by kernel_rfl) (by kernel_rfl)
end Go.Pier.SlugK
namespace Go.Pier.SlugK
open Go Go.Pier Go.Proofs
def nh0 : Heap := [.gone, .rw [vi (3), vi (3), vi (3), vi (3)] none, .gone, .rw [vi (1), vi (1), vi (1)] none, .gone, .rw [vi (3), vi (3)] none, .gone, .rw [vi (3), vi (3), vi (0)] none, .rw [.slice (some ⟨1, 0, none⟩) 4 4, .bool true] none, .rw [.slice (some
  ⟨3, 0, none⟩) 3 3, .bool false] none, .rw [.slice (some ⟨5, 0, none⟩) 2 2, .bool false] none, .rw [.slice (some ⟨7, 0, none⟩) 3 3, .bool false] none, .rw [vi (0), vi (0)] none]
def nh1 : Heap := [.gone, .rw [vi (3), vi (3), vi (3), vi (3)] none, .gone, .rw [vi (1), vi (1), vi (1)] none, .gone, .rw [vi (3), vi (3)] none, .gone, .rw [vi (3), vi (3), vi (0)] none, .rw [.slice (some ⟨1, 0, none⟩) 4 4, .bool true] none, .rw [.slice (some
  ⟨3, 0, none⟩) 3 3, .bool false] none, .rw [.slice (some ⟨5, 0, none⟩) 2 2, .bool false] none, .rw [.slice (some ⟨7, 0, none⟩) 3 3, .bool false] none, .rw [vi (0), vi (0)] none, .rw [vi (0), vi (0)] none]
def nh2 : Heap := [.gone, .rw [vi (3), vi (3), vi (3), vi (3)] none, .gone, .rw [vi (1), vi (1), vi (1)] none, .gone, .rw [vi (3), vi (3)] none, .gone, .rw [vi (3), vi (3), vi (0)] none, .rw [.slice (some ⟨1, 0, none⟩) 4 4, .bool true] none, .rw [.slice (some
  ⟨3, 0, none⟩) 3 3, .bool false] none, .rw [.slice (some ⟨5, 0, none⟩) 2 2, .bool false] none, .rw [.slice (some ⟨7, 0, none⟩) 3 3, .bool false] none, .rw [vi (0), vi (0)] none, .rw [vi (0), vi (0)] none, .rw [vi (1), vi (-1), vi (0)] none]
def nh3 : Heap := [.gone, .rw [vi (3), vi (3), vi (3), vi (3)] none, .gone, .rw [vi (1), vi (1), vi (1)] none, .gone, .rw [vi (3), vi (3)] none, .gone, .rw [vi (3), vi (3), vi (0)] none, .rw [.slice (some ⟨1, 0, none⟩) 4 4, .bool true] none, .rw [.slice (some
  ⟨3, 0, none⟩) 3 3, .bool false] none, .rw [.slice (some ⟨5, 0, none⟩) 2 2, .bool false] none, .rw [.slice (some ⟨7, 0, none⟩) 3 3, .bool false] none, .rw [vi (0), vi (0)] none, .rw [vi (0), vi (0)] none, .rw [vi (1), vi (-1), vi (0)] none, .rw
  [vi (1), vi (-1), vi (0)] none]
def nh4 : Heap := [.gone, .rw [vi (3), vi (3), vi (3), vi (3)] none, .gone, .rw [vi (1), vi (1), vi (1)] none, .gone, .rw [vi (3), vi (3)] none, .gone, .rw [vi (3), vi (3), vi (0)] none, .rw [.slice (some ⟨1, 0, none⟩) 4 4, .bool true] none, .rw [.slice (some
  ⟨3, 0, none⟩) 3 3, .bool false] none, .rw [.slice (some ⟨5, 0, none⟩) 2 2, .bool false] none, .rw [.slice (some ⟨7, 0, none⟩) 3 3, .bool false] none, .rw [vi (0), vi (0)] none, .rw [vi (0), vi (0)] none, .rw [vi (1), vi (-1), vi (0)] none, .rw
  [vi (1), vi (-1), vi (0)] none, .rw [vi (1), vi (-1), vi (0), vi (0)] none]
def nh5 : Heap := [.gone, .rw [vi (3), vi (3), vi (3), vi (3)] none, .gone, .rw [vi (1), vi (1), vi (1)] none, .gone, .rw [vi (3), vi (3)] none, .gone, .rw [vi (3), vi (3), vi (0)] none, .rw [.slice (some ⟨1, 0, none⟩) 4 4, .bool true] none, .rw [.slice (some
  ⟨3, 0, none⟩) 3 3, .bool false] none, .rw [.slice (some ⟨5, 0, none⟩) 2 2, .bool false] none, .rw [.slice (some ⟨7, 0, none⟩) 3 3, .bool false] none, .rw [vi (0), vi (0)] none, .rw [vi (0), vi (0)] none, .rw [vi (1), vi (-1), vi (0)] none, .rw
  [vi (1), vi (-1), vi (0)] none, .rw [vi (1), vi (-1), vi (0), vi (0)] none, .gone, .gone, .gone, .gone, .gone, .gone, .gone, .gone, .gone, .gone, .gone, .gone, .gone, .gone, .gone, .gone, .gone, .gone, .gone, .gone, .gone, .gone, .gone, .gone,
  .gone, .gone, .gone, .gone, .gone, .gone, .gone, .gone, .gone, .gone, .gone, .gone, .gone, .gone, .gone, .gone, .gone, .gone, .gone, .gone, .gone, .gone, .rw [vi (0), vi (0), vi (3), vi (3)] none]
def nh6 : Heap := [.gone, .rw [vi (3), vi (3), vi (3), vi (3)] none, .gone, .rw [vi (1), vi (1), vi (1)] none, .gone, .rw [vi (3), vi (3)] none, .gone, .rw [vi (3), vi (3), vi (0)] none, .rw [.slice (some ⟨1, 0, none⟩) 4 4, .bool true] none, .rw [.slice (some
  ⟨3, 0, none⟩) 3 3, .bool false] none, .rw [.slice (some ⟨5, 0, none⟩) 2 2, .bool false] none, .rw [.slice (some ⟨7, 0, none⟩) 3 3, .bool false] none, .rw [vi (0), vi (0)] none, .rw [vi (0), vi (0)] none, .rw [vi (1), vi (-1), vi (0)] none, .rw
  [vi (1), vi (-1), vi (0)] none, .rw [vi (1), vi (-1), vi (0), vi (0)] none, .gone, .gone, .gone, .gone, .gone, .gone, .gone, .gone, .gone, .gone, .gone, .gone, .gone, .gone, .gone, .gone, .gone, .gone, .gone, .gone, .gone, .gone, .gone, .gone,
  .gone, .gone, .gone, .gone, .gone, .gone, .gone, .gone, .gone, .gone, .gone, .gone, .gone, .gone, .gone, .gone, .gone, .gone, .gone, .gone, .gone, .gone, .rw [vi (0), vi (0), vi (3), vi (3)] none, .rw [.slice (some ⟨63, 0, none⟩) 4 4, .bool
  true] none]
def nh7 : Heap := [.gone, .rw [vi (3), vi (3), vi (3), vi (3)] none, .gone, .rw [vi (1), vi (1), vi (1)] none, .gone, .rw [vi (3), vi (3)] none, .gone, .rw [vi (3), vi (3), vi (0)] none, .rw [.slice (some ⟨1, 0, none⟩) 4 4, .bool true] none, .rw [.slice (some
  ⟨3, 0, none⟩) 3 3, .bool false] none, .rw [.slice (some ⟨5, 0, none⟩) 2 2, .bool false] none, .rw [.slice (some ⟨7, 0, none⟩) 3 3, .bool false] none, .rw [vi (0), vi (0)] none, .rw [vi (0), vi (0)] none, .rw [vi (1), vi (-1), vi (0)] none, .rw
  [vi (1), vi (-1), vi (0)] none, .rw [vi (1), vi (-1), vi (0), vi (0)] none, .gone, .gone, .gone, .gone, .gone, .gone, .gone, .gone, .gone, .gone, .gone, .gone, .gone, .gone, .gone, .gone, .gone, .gone, .gone, .gone, .gone, .gone, .gone, .gone,
  .gone, .gone, .gone, .gone, .gone, .gone, .gone, .gone, .gone, .gone, .gone, .gone, .gone, .gone, .gone, .gone, .gone, .gone, .gone, .gone, .gone, .gone, .rw [vi (0), vi (0), vi (3), vi (3)] none, .rw [.slice (some ⟨63, 0, none⟩) 4 4, .bool
  true] none, .rw [vi (1), vi (-1), vi (0)] none]
def nh8 : Heap := [.gone, .rw [vi (3), vi (3), vi (3), vi (3)] none, .gone, .rw [vi (1), vi (1), vi (1)] none, .gone, .rw [vi (3), vi (3)] none, .gone, .rw [vi (3), vi (3), vi (0)] none, .rw [.slice (some ⟨1, 0, none⟩) 4 4, .bool true] none, .rw [.slice (some
  ⟨3, 0, none⟩) 3 3, .bool false] none, .rw [.slice (some ⟨5, 0, none⟩) 2 2, .bool false] none, .rw [.slice (some ⟨7, 0, none⟩) 3 3, .bool false] none, .rw [vi (0), vi (0)] none, .rw [vi (0), vi (0)] none, .rw [vi (1), vi (-1), vi (0)] none, .rw
  [vi (1), vi (-1), vi (0)] none, .rw [vi (1), vi (-1), vi (0), vi (0)] none, .gone, .gone, .gone, .gone, .gone, .gone, .gone, .gone, .gone, .gone, .gone, .gone, .gone, .gone, .gone, .gone, .gone, .gone, .gone, .gone, .gone, .gone, .gone, .gone,
  .gone, .gone, .gone, .gone, .gone, .gone, .gone, .gone, .gone, .gone, .gone, .gone, .gone, .gone, .gone, .gone, .gone, .gone, .gone, .gone, .gone, .gone, .rw [vi (0), vi (0), vi (3), vi (3)] none, .rw [.slice (some ⟨63, 0, none⟩) 4 4, .bool
  true] none, .rw [vi (1), vi (-1), vi (0)] none, .rw [vi (1), vi (-1), vi (0)] none, .rw [.slice (some ⟨66, 0, none⟩) 3 3] none]
def n0 : ExactC := ⟨19, [.agg #[.slice (some ⟨12, 0, none⟩) 2 2, .bool false]], nh0, vi (5), nh0, []⟩
def n1 : ExactC := ⟨19, [.agg #[.slice (some ⟨13, 0, none⟩) 2 2, .bool true]], nh1, vi (0), nh1, []⟩
def n2 : ExactC := ⟨26, [.agg #[.slice (some ⟨3, 0, none⟩) 3 3, .bool false], .slice (some ⟨14, 0, none⟩) 3 3], nh2, vi (0), nh2, []⟩
def n3 : ExactC := ⟨22, [.agg #[.slice (some ⟨3, 0, none⟩) 3 3, .bool false], .slice (some ⟨15, 0, none⟩) 3 3, .agg #[vi (2), vi (1)]], nh3, .tuple #[vi (0), vi (0)], nh3, []⟩
def n4 : ExactC := ⟨24, [.agg #[.slice (some ⟨1, 0, none⟩) 4 4, .bool true], .slice (some ⟨16, 0, none⟩) 4 4, vi (0)], nh4, .tuple #[.agg #[.slice (some ⟨63, 0, none⟩) 4 4, .bool true], vi (0)], nh5, []⟩
def n5 : ExactC := ⟨38, [.agg #[.slice (some ⟨7, 0, none⟩) 3 3, .bool false]], nh6, .tuple #[vi (2), vi (0)], nh6, []⟩
def n6 : ExactC := ⟨40, [.agg #[.slice (some ⟨7, 0, none⟩) 3 3, .bool false], .slice (some ⟨65, 0, none⟩) 3 3], nh7, .tuple #[vi (1), vi (0)], nh7, []⟩
def n7 : ExactC := ⟨42, [.agg #[.slice (some ⟨5, 0, none⟩) 2 2, .bool false]], nh7, .tuple #[.slice none 0 0, vi (21)], nh7, []⟩
def n8 : ExactC := ⟨30, [.agg #[.slice (some ⟨3, 0, none⟩) 3 3, .bool false], .slice (some ⟨67, 0, none⟩) 1 1], nh8, .tuple #[.agg #[vi (0), vi (0)], .agg #[vi (0), vi (0)], vi (5)], nh8, []⟩
end Go.Pier.SlugK
namespace Go.Pier.SlugK
open Go Go.Pier Go.Proofs
theorem nk0 : n0.Ok Try.prog := ExactC.ok_ev (n := 20000) mt_ok (by kernel_rfl)
theorem nk6 : n6.Ok Try.prog := ExactC.ok_ev (n := 20000) mt_ok (by kernel_rfl)
end Go.Pier.SlugK
namespace Go.Pier.SlugK
open Go Go.Pier Go.Proofs
theorem nk1 : n1.Ok Try.prog := ExactC.ok_ev (n := 20000) mt_ok (by kernel_rfl)
theorem nk7 : n7.Ok Try.prog := ExactC.ok_ev (n := 20000) mt_ok (by kernel_rfl)
end Go.Pier.SlugK
namespace Go.Pier.SlugK
open Go Go.Pier Go.Proofs
theorem nk2 : n2.Ok Try.prog := ExactC.ok_ev (n := 20000) mt_ok (by kernel_rfl)
theorem nk8 : n8.Ok Try.prog := ExactC.ok_ev (n := 20000) mt_ok (by kernel_rfl)
end Go.Pier.SlugK
namespace Go.Pier.SlugK
open Go Go.Pier Go.Proofs
theorem nk3 : n3.Ok Try.prog := ExactC.ok_ev (n := 20000) mt_ok (by kernel_rfl)
end Go.Pier.SlugK
namespace Go.Pier.SlugK
open Go Go.Pier Go.Proofs
theorem nk4 : n4.Ok Try.prog := ExactC.ok_ev (n := 20000) mt_ok (by kernel_rfl)
end Go.Pier.SlugK
namespace Go.Pier.SlugK
open Go Go.Pier Go.Proofs
theorem nk5 : n5.Ok Try.prog := ExactC.ok_ev (n := 20000) mt_ok (by kernel_rfl)
end Go.Pier.SlugK
namespace Go.Pier.SlugK
open Go Go.Pier Go.Proofs
def ns : List ExactC := [n0, n1, n2, n3, n4, n5, n6, n7, n8]
theorem ns_ok : ∀ p ∈ ns, p.Ok Try.prog := by
  intro p hp
  simp only [ns, List.mem_cons, List.not_mem_nil, or_false] at hp
  rcases hp with rfl | rfl | rfl | rfl | rfl | rfl | rfl | rfl | rfl
  · exact nk0
  · exact nk1
  · exact nk2
  · exact nk3
  · exact nk4
  · exact nk5
  · exact nk6
  · exact nk7
  · exact nk8
noncomputable def nt : Tbl := exactTbl ns mt
theorem nt_ok : TblOk Try.prog nt := exactTbl_ok ns_ok mt_ok
end Go.Pier.SlugK
namespace Go.Pier.SlugK
open Go Go.Pier Go.Proofs
noncomputable def tk : Tbl := pureTbl [16] [works] nt
theorem tk_ok : TblOk Try.prog tk := pureTbl_ok (by intro p hp; rw [List.mem_singleton] at hp; rw [hp]; exact works_ok) nt_ok
def known : PureC := ⟨14, [], [], .bool true⟩
theorem known_ok : known.Ok Try.prog := PureC.ok_ev (n := 20000) tk_ok (by kernel_rfl) (by kernel_rfl)
end Go.Pier.SlugK
