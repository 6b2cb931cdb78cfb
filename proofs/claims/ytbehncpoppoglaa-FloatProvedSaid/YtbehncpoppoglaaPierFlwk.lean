import Derived.Test.YtbehncpoppoglaaPierKP4
import Derived.Test.YtbehncpoppoglaaPierFlwe0
import Derived.Test.YtbehncpoppoglaaPierFlwe1
import Derived.Test.YtbehncpoppoglaaPierFlwe2
import Derived.Test.YtbehncpoppoglaaPierFlwe3
import Derived.Test.YtbehncpoppoglaaPierFlwe4
import Derived.Test.YtbehncpoppoglaaPierFlwe5
set_option linter.unusedSimpArgs false
set_option linter.unusedVariables false
namespace Go.Pier.Fl
open Go Go.Pier Go.Proofs
def purC (f : Nat) (l : List Int) (ws : List Int) (v : Value) : FrmC := ⟨f,.slice (some ⟨0,0,none⟩) l.length l.length   :: ws.map (.int .i64),[.rw (l.map (.int .i64)) none],v,[.rw (l.map (.int .i64)) none],[]⟩
def bvO : Option Nat→Int
 | some a => a
 | none => 0
def beO : Option Nat→Int
 | some _ => 0
 | none => 5
theorem bad_T {l : List Int} {T : List (Option Value)} (hc : Coins l) (h : tabOk l T 101 = true) (h1 : fstF l = 1) {x : Option Nat} (hx : lbT l T 101 0 = x) : badV l = bvO x∧badE l = beO x := by
 have h0 : ¬ errC l ≠ 0 := fun h2 => h2 (errC_ok.2 hc)
 have e : lbF l 101 0 = x := by rw [lb_tab hc h 101 0 (by omega),hx]
 rw [badV,badE,if_neg h0,if_neg h0,if_pos h1,if_pos h1,bdVal,bdErr,e]
 cases x <;> exact ⟨rfl,rfl⟩
theorem cbd_T {l : List Int} {T : List (Option Value)} {n a : Nat} {b : Bool} (hc : Coins l) (h : tabOk l T n = true) (ha : a < n) (h3 : a≤300) (hb : (T.getD a none).isSome = true) (hx : badF l a (bT l T a) = b) : cbdE l (a : Int) = bif b then 0 else 16 := by
 have e : errN l (a : Int) = 0 := errN_0 (errA_0.2 ⟨errC_ok.2 hc,by omega⟩) (by rw [Int.toNat_natCast]; exact can_T hc h ha hb)
 rw [cbdE,if_neg (by omega),Int.toNat_natCast,b_tab hc h ha,hx]
theorem cbd_5 {l : List Int} {T : List (Option Value)} {n a : Nat} (hc : Coins l) (h : tabOk l T n = true) (ha : a < n) (h3 : a≤300) (hb : (T.getD a none).isSome = false) : cbdE l (a : Int) = 5 := by
 have e : errN l (a : Int) = 5 := errN_5 (errA_0.2 ⟨errC_ok.2 hc,by omega⟩) (by rw [Int.toNat_natCast]; exact can_T hc h ha hb)
 rw [cbdE,if_pos (by omega),e]
theorem res_T {l : List Int} {T : List (Option Value)} {n m : Nat} {r : List Int} (hc : Coins l) (h : tabOk l T n = true) (hm : topF l + 1 = m) (hn : m≤n) (hr : rsT l T m = r) : resF l = r := by
 rw [resF,hm,rs_tab hc h m hn,hr]
theorem gt_of {l r : List Int} {x y : Int} (h : resF l = r) (hc : errC l = 0) (hx : (if (bif r.contains (-1) then (4 : Int) else if mxF r (r.length - 1) - fstF l < 0 then 5 else 0) = 0 then mxF r (r.length - 1) - fstF l else 0) = x) (hy : (bif r.contains (-1) then (4 : Int) else if mxF r (r.length - 1) - fstF l < 0 then 5 else 0) = y) : gtV l = x∧gtE l = y := by
 have h0 : ¬ errC l ≠ 0 := fun h2 => h2 hc
 rw [gtV,gtE,if_neg h0,h]; exact ⟨hx,hy⟩
theorem mn_of {l r : List Int} {x y : Int} (h : resF l = r) (hc : errC l = 0) (hx : (if (bif r.contains (-1) then (4 : Int) else 0) = 0 then smF r (fstF l) r.length else 0) = x) (hy : (bif r.contains (-1) then (4 : Int) else 0) = y) : mnV l = x∧mnE l = y := by
 have h0 : ¬ errC l ≠ 0 := fun h2 => h2 hc
 rw [mnV,mnE,if_neg h0,h]; exact ⟨hx,hy⟩
theorem one_v {x y : Int} (h : x = y) : vi x = vi y := by rw [h]
theorem rsE : resF xlE = [0,-1,6,-1] := res_T xcE xkE (m := 25) (by kernel_rfl) (by decide) (by kernel_rfl)
theorem rsTT : resF xlT = [0,16,32,8,24] := res_T xcT xkT (m := 41) (by kernel_rfl) (by decide) (by kernel_rfl)
theorem rsK : resF xlK = [0] := res_T xcK xkK (m := 7) (by kernel_rfl) (by decide) (by kernel_rfl)
def wfa : FrmC := purC 24 xlT [27] (.tuple #[vi 0,vi 5])
theorem wfa_ok : wfa.Ok Try.prog := frm_of (p := wfa) (at2 fwG_ok xlT 27 (by show (2 : Nat)≤1000000; decide)) rfl (two_v (few_5 xcT xkT (a := 27) (by decide) (by decide) (by kernel_rfl))) (by kernel_rfl)
def wfb : FrmC := purC 24 xlT [28] (.tuple #[vi 5,vi 0])
theorem wfb_ok : wfb.Ok Try.prog := frm_of (p := wfb) (at2 fwG_ok xlT 28 (by show (2 : Nat)≤1000000; decide)) rfl (two_v (few_T xcT xkT (a := 28) (by decide) (by decide) (by kernel_rfl) (by kernel_rfl))) (by kernel_rfl)
def wfc : FrmC := purC 24 xlK [8] (.tuple #[vi 2,vi 0])
theorem wfc_ok : wfc.Ok Try.prog := frm_of (p := wfc) (at2 fwG_ok xlK 8 (by show (3 : Nat)≤1000000; decide)) rfl (two_v (few_T xcK xkK (a := 8) (by decide) (by decide) (by kernel_rfl) (by kernel_rfl))) (by kernel_rfl)
def wba : FrmC := purC 35 xlT [] (.tuple #[vi 0,vi 2])
theorem wba_ok : wba.Ok Try.prog := frm_of (p := wba) (at1 baG_ok xlT (by show (2 : Nat)≤1000000; decide)) rfl (two_v ⟨by kernel_rfl,by kernel_rfl⟩) (by kernel_rfl)
def wbb : FrmC := purC 35 xlK [] (.tuple #[vi 8,vi 0])
theorem wbb_ok : wbb.Ok Try.prog := frm_of (p := wbb) (at1 baG_ok xlK (by show (3 : Nat)≤1000000; decide)) rfl (two_v (bad_T xcK xkK (by kernel_rfl) (x := some 8) (by kernel_rfl))) (by kernel_rfl)
def wbc : FrmC := purC 35 xlC [] (.tuple #[vi 0,vi 5])
theorem wbc_ok : wbc.Ok Try.prog := frm_of (p := wbc) (at1 baG_ok xlC (by show (3 : Nat)≤1000000; decide)) rfl (two_v (bad_T xcC xkC (by kernel_rfl) (x := none) (by kernel_rfl))) (by kernel_rfl)
def wca : FrmC := purC 37 xlT [27] (vi 5)
theorem wca_ok : wca.Ok Try.prog := frm_of (p := wca) (at2 cbG_ok xlT 27 (by show (2 : Nat)≤1000000; decide)) rfl (one_v (cbd_5 xcT xkT (a := 27) (by decide) (by decide) (by kernel_rfl))) (by kernel_rfl)
def wcb : FrmC := purC 37 xlK [10] (vi 16)
theorem wcb_ok : wcb.Ok Try.prog := frm_of (p := wcb) (at2 cbG_ok xlK 10 (by show (3 : Nat)≤1000000; decide)) rfl (one_v (cbd_T xcK xkK (a := 10) (b := false) (by decide) (by decide) (by kernel_rfl) (by kernel_rfl))) (by kernel_rfl)
def wcc : FrmC := purC 37 xlK [8] (vi 0)
theorem wcc_ok : wcc.Ok Try.prog := frm_of (p := wcc) (at2 cbG_ok xlK 8 (by show (3 : Nat)≤1000000; decide)) rfl (one_v (cbd_T xcK xkK (a := 8) (b := true) (by decide) (by decide) (by kernel_rfl) (by kernel_rfl))) (by kernel_rfl)
def wga : FrmC := purC 41 xlE [] (.tuple #[vi 0,vi 4])
theorem wga_ok : wga.Ok Try.prog := frm_of (p := wga) (at1 gtG_ok xlE (by show (2 : Nat)≤1000000; decide)) rfl (two_v (gt_of rsE (errC_ok.2 xcE) (by kernel_rfl) (by kernel_rfl))) (by kernel_rfl)
def wgb : FrmC := purC 41 xlT [] (.tuple #[vi 27,vi 0])
theorem wgb_ok : wgb.Ok Try.prog := frm_of (p := wgb) (at1 gtG_ok xlT (by show (2 : Nat)≤1000000; decide)) rfl (two_v (gt_of rsTT (errC_ok.2 xcT) (by kernel_rfl) (by kernel_rfl))) (by kernel_rfl)
def wgc : FrmC := purC 41 xlK [] (.tuple #[vi 0,vi 5])
theorem wgc_ok : wgc.Ok Try.prog := frm_of (p := wgc) (at1 gtG_ok xlK (by show (3 : Nat)≤1000000; decide)) rfl (two_v (gt_of rsK (errC_ok.2 xcK) (by kernel_rfl) (by kernel_rfl))) (by kernel_rfl)
def wma : FrmC := purC 43 xlE [] (.tuple #[vi 0,vi 4])
theorem wma_ok : wma.Ok Try.prog := frm_of (p := wma) (at1 mnG_ok xlE (by show (2 : Nat)≤1000000; decide)) rfl (two_v (mn_of rsE (errC_ok.2 xcE) (by kernel_rfl) (by kernel_rfl))) (by kernel_rfl)
def wmb : FrmC := purC 43 xlT [] (.tuple #[vi 14,vi 0])
theorem wmb_ok : wmb.Ok Try.prog := frm_of (p := wmb) (at1 mnG_ok xlT (by show (2 : Nat)≤1000000; decide)) rfl (two_v (mn_of rsTT (errC_ok.2 xcT) (by kernel_rfl) (by kernel_rfl))) (by kernel_rfl)
def wmc : FrmC := purC 43 xlK [] (.tuple #[vi 0,vi 0])
theorem wmc_ok : wmc.Ok Try.prog := frm_of (p := wmc) (at1 mnG_ok xlK (by show (3 : Nat)≤1000000; decide)) rfl (two_v (mn_of rsK (errC_ok.2 xcK) (by kernel_rfl) (by kernel_rfl))) (by kernel_rfl)
def wra : FrmC := ⟨39,[.slice (some ⟨0,0,none⟩) 2 2],[.rw (xlE.map (.int .i64)) none],.tuple #[.slice (some ⟨1,0,none⟩) 4 4,vi 0],[.rw (xlE.map (.int .i64)) none],[.rw [vi 0,vi (-1),vi 6,vi (-1)] none]⟩
theorem wra_ok : wra.Ok Try.prog := frm_of (p := wra) (at3 xlE xcE) (by rw [rsE]; rfl) (by rw [rsE]; rfl) (by kernel_rfl)
def wrb : FrmC := ⟨39,[.slice (some ⟨0,0,none⟩) 2 2],[.rw (xlT.map (.int .i64)) none],.tuple #[.slice (some ⟨1,0,none⟩) 5 5,vi 0],[.rw (xlT.map (.int .i64)) none],[.rw [vi 0,vi 16,vi 32,vi 8,vi 24] none]⟩
theorem wrb_ok : wrb.Ok Try.prog := frm_of (p := wrb) (at3 xlT xcT) (by rw [rsTT]; rfl) (by rw [rsTT]; rfl) (by kernel_rfl)
def ees : List FrmC := [ee0,ee1,ee2,ee3,ee4,ee5,ee6,ee7,ee8,ee9,ee10,ee11,ee12,ee13,ee14,ee15,ee16,ee17,ee18,wfa,wfb,wfc,wba,wbb,wbc,wca,wcb,wcc,wga,wgb,wgc,wma,wmb,wmc,wra,wrb]
theorem ees_ok : ∀ p ∈ ees,p.Ok Try.prog :=
 frms_cons eek0 (frms_cons eek1 (frms_cons eek2 (frms_cons eek3 (frms_cons eek4 (frms_cons eek5 (frms_cons eek6 (frms_cons eek7 (frms_cons eek8 (frms_cons eek9 (frms_cons eek10 (frms_cons eek11 (frms_cons eek12 (frms_cons eek13 (frms_cons eek14 (frms_cons eek15 (frms_cons eek16 (frms_cons eek17 (frms_cons eek18 (frms_cons wfa_ok (frms_cons wfb_ok (frms_cons wfc_ok (frms_cons wba_ok (frms_cons wbb_ok (frms_cons wbc_ok (frms_cons wca_ok (frms_cons wcb_ok (frms_cons wcc_ok (frms_cons wga_ok (frms_cons wgb_ok (frms_cons wgc_ok (frms_cons wma_ok (frms_cons wmb_ok (frms_cons wmc_ok (frms_cons wra_ok (frms_cons wrb_ok (frms_nil))))))))))))))))))))))))))))))))))))
noncomputable def wk0 : Tbl := fun _ => none
theorem wk0_ok : TblOk Try.prog wk0 := tblOk_none
noncomputable def eet : Tbl := frmTblD ees wk0
theorem eet_ok : TblOk Try.prog eet := frmTblD_ok ees_ok wk0_ok
def works : PureC := ⟨19,[],[],.bool true⟩
theorem works_ok : works.Ok Try.prog := PureC.ok_ev (n := 20000) eet_ok (by kernel_rfl) (by kernel_rfl)
end Go.Pier.Fl
