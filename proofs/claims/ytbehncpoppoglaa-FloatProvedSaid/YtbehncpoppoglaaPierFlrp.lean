import Derived.Test.YtbehncpoppoglaaPierKP2
import Derived.Test.YtbehncpoppoglaaPierKP3
set_option linter.unusedSimpArgs false
set_option linter.unusedVariables false
namespace Go.Pier.Fl
open Go Go.Pier Go.Proofs
noncomputable def rpT : Tbl := fun _ => none
theorem rpT_ok : TblOk Try.prog rpT := tblOk_none
def rpF (n : Nat) : FrmC := ⟨98,[.slice (some ⟨0,0,none⟩) 1 1,vi n],[.rw [vi (-1)] none],.slice (some ⟨1,0,none⟩) n n,[.rw [vi (-1)] none],[.rw (List.replicate n (vi (-1))) none]⟩
theorem rp1 : (rpF 1).Ok Try.prog := FrmC.ok_ev (n := 20000) rpT_ok (by kernel_rfl) (by kernel_rfl)
theorem rp2 : (rpF 2).Ok Try.prog := FrmC.ok_ev (n := 20000) rpT_ok (by kernel_rfl) (by kernel_rfl)
theorem rp3 : (rpF 3).Ok Try.prog := FrmC.ok_ev (n := 20000) rpT_ok (by kernel_rfl) (by kernel_rfl)
theorem rp4 : (rpF 4).Ok Try.prog := FrmC.ok_ev (n := 20000) rpT_ok (by kernel_rfl) (by kernel_rfl)
theorem rp5 : (rpF 5).Ok Try.prog := FrmC.ok_ev (n := 20000) rpT_ok (by kernel_rfl) (by kernel_rfl)
theorem rp6 : (rpF 6).Ok Try.prog := FrmC.ok_ev (n := 20000) rpT_ok (by kernel_rfl) (by kernel_rfl)
theorem rp7 : (rpF 7).Ok Try.prog := FrmC.ok_ev (n := 20000) rpT_ok (by kernel_rfl) (by kernel_rfl)
theorem rp8 : (rpF 8).Ok Try.prog := FrmC.ok_ev (n := 20000) rpT_ok (by kernel_rfl) (by kernel_rfl)
theorem rp9 : (rpF 9).Ok Try.prog := FrmC.ok_ev (n := 20000) rpT_ok (by kernel_rfl) (by kernel_rfl)
theorem rp10 : (rpF 10).Ok Try.prog := FrmC.ok_ev (n := 20000) rpT_ok (by kernel_rfl) (by kernel_rfl)
theorem rp11 : (rpF 11).Ok Try.prog := FrmC.ok_ev (n := 20000) rpT_ok (by kernel_rfl) (by kernel_rfl)
theorem rp12 : (rpF 12).Ok Try.prog := FrmC.ok_ev (n := 20000) rpT_ok (by kernel_rfl) (by kernel_rfl)
theorem rp13 : (rpF 13).Ok Try.prog := FrmC.ok_ev (n := 20000) rpT_ok (by kernel_rfl) (by kernel_rfl)
theorem rp14 : (rpF 14).Ok Try.prog := FrmC.ok_ev (n := 20000) rpT_ok (by kernel_rfl) (by kernel_rfl)
theorem rp15 : (rpF 15).Ok Try.prog := FrmC.ok_ev (n := 20000) rpT_ok (by kernel_rfl) (by kernel_rfl)
theorem rp16 : (rpF 16).Ok Try.prog := FrmC.ok_ev (n := 20000) rpT_ok (by kernel_rfl) (by kernel_rfl)
theorem rp17 : (rpF 17).Ok Try.prog := FrmC.ok_ev (n := 20000) rpT_ok (by kernel_rfl) (by kernel_rfl)
theorem rp18 : (rpF 18).Ok Try.prog := FrmC.ok_ev (n := 20000) rpT_ok (by kernel_rfl) (by kernel_rfl)
theorem rp19 : (rpF 19).Ok Try.prog := FrmC.ok_ev (n := 20000) rpT_ok (by kernel_rfl) (by kernel_rfl)
theorem rp20 : (rpF 20).Ok Try.prog := FrmC.ok_ev (n := 20000) rpT_ok (by kernel_rfl) (by kernel_rfl)
theorem rp21 : (rpF 21).Ok Try.prog := FrmC.ok_ev (n := 20000) rpT_ok (by kernel_rfl) (by kernel_rfl)
theorem rp22 : (rpF 22).Ok Try.prog := FrmC.ok_ev (n := 20000) rpT_ok (by kernel_rfl) (by kernel_rfl)
theorem rp23 : (rpF 23).Ok Try.prog := FrmC.ok_ev (n := 20000) rpT_ok (by kernel_rfl) (by kernel_rfl)
theorem rp24 : (rpF 24).Ok Try.prog := FrmC.ok_ev (n := 20000) rpT_ok (by kernel_rfl) (by kernel_rfl)
theorem rp25 : (rpF 25).Ok Try.prog := FrmC.ok_ev (n := 20000) rpT_ok (by kernel_rfl) (by kernel_rfl)
theorem rp26 : (rpF 26).Ok Try.prog := FrmC.ok_ev (n := 20000) rpT_ok (by kernel_rfl) (by kernel_rfl)
theorem rp27 : (rpF 27).Ok Try.prog := FrmC.ok_ev (n := 20000) rpT_ok (by kernel_rfl) (by kernel_rfl)
theorem rp28 : (rpF 28).Ok Try.prog := FrmC.ok_ev (n := 20000) rpT_ok (by kernel_rfl) (by kernel_rfl)
theorem rp29 : (rpF 29).Ok Try.prog := FrmC.ok_ev (n := 20000) rpT_ok (by kernel_rfl) (by kernel_rfl)
theorem rp30 : (rpF 30).Ok Try.prog := FrmC.ok_ev (n := 20000) rpT_ok (by kernel_rfl) (by kernel_rfl)
theorem rp31 : (rpF 31).Ok Try.prog := FrmC.ok_ev (n := 20000) rpT_ok (by kernel_rfl) (by kernel_rfl)
theorem rp32 : (rpF 32).Ok Try.prog := FrmC.ok_ev (n := 20000) rpT_ok (by kernel_rfl) (by kernel_rfl)
theorem rp33 : (rpF 33).Ok Try.prog := FrmC.ok_ev (n := 20000) rpT_ok (by kernel_rfl) (by kernel_rfl)
theorem rp34 : (rpF 34).Ok Try.prog := FrmC.ok_ev (n := 20000) rpT_ok (by kernel_rfl) (by kernel_rfl)
theorem rp35 : (rpF 35).Ok Try.prog := FrmC.ok_ev (n := 20000) rpT_ok (by kernel_rfl) (by kernel_rfl)
theorem rp36 : (rpF 36).Ok Try.prog := FrmC.ok_ev (n := 20000) rpT_ok (by kernel_rfl) (by kernel_rfl)
theorem rp37 : (rpF 37).Ok Try.prog := FrmC.ok_ev (n := 20000) rpT_ok (by kernel_rfl) (by kernel_rfl)
theorem rp38 : (rpF 38).Ok Try.prog := FrmC.ok_ev (n := 20000) rpT_ok (by kernel_rfl) (by kernel_rfl)
theorem rp39 : (rpF 39).Ok Try.prog := FrmC.ok_ev (n := 20000) rpT_ok (by kernel_rfl) (by kernel_rfl)
theorem rp40 : (rpF 40).Ok Try.prog := FrmC.ok_ev (n := 20000) rpT_ok (by kernel_rfl) (by kernel_rfl)
theorem rp41 : (rpF 41).Ok Try.prog := FrmC.ok_ev (n := 20000) rpT_ok (by kernel_rfl) (by kernel_rfl)
theorem rp42 : (rpF 42).Ok Try.prog := FrmC.ok_ev (n := 20000) rpT_ok (by kernel_rfl) (by kernel_rfl)
theorem rp43 : (rpF 43).Ok Try.prog := FrmC.ok_ev (n := 20000) rpT_ok (by kernel_rfl) (by kernel_rfl)
theorem rp44 : (rpF 44).Ok Try.prog := FrmC.ok_ev (n := 20000) rpT_ok (by kernel_rfl) (by kernel_rfl)
theorem rp45 : (rpF 45).Ok Try.prog := FrmC.ok_ev (n := 20000) rpT_ok (by kernel_rfl) (by kernel_rfl)
theorem rp46 : (rpF 46).Ok Try.prog := FrmC.ok_ev (n := 20000) rpT_ok (by kernel_rfl) (by kernel_rfl)
theorem rp47 : (rpF 47).Ok Try.prog := FrmC.ok_ev (n := 20000) rpT_ok (by kernel_rfl) (by kernel_rfl)
theorem rp48 : (rpF 48).Ok Try.prog := FrmC.ok_ev (n := 20000) rpT_ok (by kernel_rfl) (by kernel_rfl)
theorem rp49 : (rpF 49).Ok Try.prog := FrmC.ok_ev (n := 20000) rpT_ok (by kernel_rfl) (by kernel_rfl)
theorem rp50 : (rpF 50).Ok Try.prog := FrmC.ok_ev (n := 20000) rpT_ok (by kernel_rfl) (by kernel_rfl)
theorem rp_ok {n : Nat} (h : 1≤n∧n≤50) : (rpF n).Ok Try.prog := by
 obtain ⟨h1,h2⟩ := h
 match n,h1,h2 with
 | 1,_,_ => exact rp1
 | 2,_,_ => exact rp2
 | 3,_,_ => exact rp3
 | 4,_,_ => exact rp4
 | 5,_,_ => exact rp5
 | 6,_,_ => exact rp6
 | 7,_,_ => exact rp7
 | 8,_,_ => exact rp8
 | 9,_,_ => exact rp9
 | 10,_,_ => exact rp10
 | 11,_,_ => exact rp11
 | 12,_,_ => exact rp12
 | 13,_,_ => exact rp13
 | 14,_,_ => exact rp14
 | 15,_,_ => exact rp15
 | 16,_,_ => exact rp16
 | 17,_,_ => exact rp17
 | 18,_,_ => exact rp18
 | 19,_,_ => exact rp19
 | 20,_,_ => exact rp20
 | 21,_,_ => exact rp21
 | 22,_,_ => exact rp22
 | 23,_,_ => exact rp23
 | 24,_,_ => exact rp24
 | 25,_,_ => exact rp25
 | 26,_,_ => exact rp26
 | 27,_,_ => exact rp27
 | 28,_,_ => exact rp28
 | 29,_,_ => exact rp29
 | 30,_,_ => exact rp30
 | 31,_,_ => exact rp31
 | 32,_,_ => exact rp32
 | 33,_,_ => exact rp33
 | 34,_,_ => exact rp34
 | 35,_,_ => exact rp35
 | 36,_,_ => exact rp36
 | 37,_,_ => exact rp37
 | 38,_,_ => exact rp38
 | 39,_,_ => exact rp39
 | 40,_,_ => exact rp40
 | 41,_,_ => exact rp41
 | 42,_,_ => exact rp42
 | 43,_,_ => exact rp43
 | 44,_,_ => exact rp44
 | 45,_,_ => exact rp45
 | 46,_,_ => exact rp46
 | 47,_,_ => exact rp47
 | 48,_,_ => exact rp48
 | 49,_,_ => exact rp49
 | 50,_,_ => exact rp50
 | n + 51,_,h => exact absurd h (by omega)
end Go.Pier.Fl
