import Derived.Test.YtalaonfipkmelaaPierPleaA0
import Derived.Test.YtalaonfipkmelaaPierPleaA1
import Derived.Test.YtalaonfipkmelaaPierPleaA2
import Derived.Test.YtalaonfipkmelaaPierPleaA3
set_option linter.unusedSimpArgs false
set_option linter.unusedVariables false
namespace Go.Pier.PleaK
open Go Go.Pier Go.Proofs
def aas0 : List FrmC := [aa0, aa1, aa2, aa3, aa4, aa5, aa6, aa7, aa8, aa9, aa10, aa11, aa12, aa13, aa14, aa15, aa16, aa17, aa18, aa19, aa20, aa21, aa22, aa23, aa24, aa25, aa26, aa27, aa28, aa29, aa30, aa31]
theorem aas0_ok : ∀ p ∈ aas0, p.Ok Try.prog :=
  frms_cons aak0 (frms_cons aak1 (frms_cons aak2 (frms_cons aak3 (frms_cons aak4 (frms_cons aak5 (frms_cons aak6 (frms_cons aak7 (frms_cons aak8 (frms_cons aak9 (frms_cons aak10 (frms_cons aak11 (frms_cons aak12 (frms_cons aak13 (frms_cons aak14 (frms_cons aak15 (frms_cons aak16 (frms_cons aak17 (frms_cons aak18 (frms_cons aak19 (frms_cons aak20 (frms_cons aak21 (frms_cons aak22 (frms_cons aak23 (frms_cons aak24 (frms_cons aak25 (frms_cons aak26 (frms_cons aak27 (frms_cons aak28 (frms_cons aak29 (frms_cons aak30 (frms_cons aak31 (frms_nil))))))))))))))))))))))))))))))))
def aas1 : List FrmC := [aa32, aa33, aa34, aa35, aa36, aa37, aa38, aa39, aa40, aa41, aa42, aa43, aa44, aa45, aa46, aa47, aa48, aa49, aa50, aa51, aa52, aa53, aa54, aa55, aa56, aa57, aa58, aa59, aa60, aa61, aa62, aa63]
theorem aas1_ok : ∀ p ∈ aas1, p.Ok Try.prog :=
  frms_cons aak32 (frms_cons aak33 (frms_cons aak34 (frms_cons aak35 (frms_cons aak36 (frms_cons aak37 (frms_cons aak38 (frms_cons aak39 (frms_cons aak40 (frms_cons aak41 (frms_cons aak42 (frms_cons aak43 (frms_cons aak44 (frms_cons aak45 (frms_cons aak46 (frms_cons aak47 (frms_cons aak48 (frms_cons aak49 (frms_cons aak50 (frms_cons aak51 (frms_cons aak52 (frms_cons aak53 (frms_cons aak54 (frms_cons aak55 (frms_cons aak56 (frms_cons aak57 (frms_cons aak58 (frms_cons aak59 (frms_cons aak60 (frms_cons aak61 (frms_cons aak62 (frms_cons aak63 (frms_nil))))))))))))))))))))))))))))))))
def aas2 : List FrmC := [aa64, aa65, aa66, aa67, aa68, aa69, aa70, aa71, aa72, aa73, aa74, aa75, aa76, aa77, aa78, aa79, aa80, aa81, aa82, aa83, aa84, aa85, aa86, aa87, aa88, aa89, aa90, aa91, aa92, aa93, aa94, aa95]
theorem aas2_ok : ∀ p ∈ aas2, p.Ok Try.prog :=
  frms_cons aak64 (frms_cons aak65 (frms_cons aak66 (frms_cons aak67 (frms_cons aak68 (frms_cons aak69 (frms_cons aak70 (frms_cons aak71 (frms_cons aak72 (frms_cons aak73 (frms_cons aak74 (frms_cons aak75 (frms_cons aak76 (frms_cons aak77 (frms_cons aak78 (frms_cons aak79 (frms_cons aak80 (frms_cons aak81 (frms_cons aak82 (frms_cons aak83 (frms_cons aak84 (frms_cons aak85 (frms_cons aak86 (frms_cons aak87 (frms_cons aak88 (frms_cons aak89 (frms_cons aak90 (frms_cons aak91 (frms_cons aak92 (frms_cons aak93 (frms_cons aak94 (frms_cons aak95 (frms_nil))))))))))))))))))))))))))))))))
def aas3 : List FrmC := [aa96, aa97, aa98, aa99, aa100, aa101, aa102, aa103, aa104, aa105, aa106, aa107, aa108, aa109, aa110, aa111, aa112, aa113, aa114, aa115, aa116, aa117, aa118, aa119, aa120, aa121, aa122, aa123, aa124, aa125, aa126, aa127]
theorem aas3_ok : ∀ p ∈ aas3, p.Ok Try.prog :=
  frms_cons aak96 (frms_cons aak97 (frms_cons aak98 (frms_cons aak99 (frms_cons aak100 (frms_cons aak101 (frms_cons aak102 (frms_cons aak103 (frms_cons aak104 (frms_cons aak105 (frms_cons aak106 (frms_cons aak107 (frms_cons aak108 (frms_cons aak109 (frms_cons aak110 (frms_cons aak111 (frms_cons aak112 (frms_cons aak113 (frms_cons aak114 (frms_cons aak115 (frms_cons aak116 (frms_cons aak117 (frms_cons aak118 (frms_cons aak119 (frms_cons aak120 (frms_cons aak121 (frms_cons aak122 (frms_cons aak123 (frms_cons aak124 (frms_cons aak125 (frms_cons aak126 (frms_cons aak127 (frms_nil))))))))))))))))))))))))))))))))
def aas : List FrmC := aas0 ++ (aas1 ++ (aas2 ++ (aas3)))
theorem aas_ok : ∀ p ∈ aas, p.Ok Try.prog := frms_append aas0_ok (frms_append aas1_ok (frms_append aas2_ok (aas3_ok)))
noncomputable def aat : Tbl := frmTblD aas t0
theorem aat_ok : TblOk Try.prog aat := frmTblD_ok aas_ok t0_ok
end Go.Pier.PleaK
