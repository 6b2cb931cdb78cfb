import Derived.Test.YthbcmcmmkmoccaaPierKW8
import Derived.KernelRfl
set_option linter.unusedSimpArgs false
set_option linter.unusedVariables false
set_option maxRecDepth 100000
set_option linter.unusedVariables false
set_option linter.unusedSimpArgs false
namespace Go.Pier.Sk
open Go Go.Pier Go.Proofs
def WtCalls (f : FuncId) : Prop := ∀ m c w d z r, m.length ≤ 1000 → ¬ allL m z = [] → w.length = m.length → (∀ x ∈ w, -1 ≤ x ∧ x ≤ 1) → Call Try.prog f [knV (some ⟨0,0,none⟩) m.length c z, .slice (some ⟨1,0,none⟩) w.length d, vi r] [ros m, ros w] (finW (fl m z w r (nA m z)) m w)
theorem wtE_ok : VOk Try.prog wtE := ⟨(CtOk.none.add (caO_ok ref_cases)).add roG_ok, E0_ok.cc, E0_ok.yc, slO_ok⟩
theorem wt_calls : WtCalls 46 := fun m c w d z r h1 h2 h3 h4 => by
  have h := wtV_ok m c w d z r h1 h2 h3 h4
  rw [wtV_eq] at h
  exact Call.ofVc wtE_ok mixed (c := wtB) (inv := wtI m c w d z r) Try.func46 (by kernel_rfl) h
theorem anew2 {m w l : List Int} {e : Option Nat} {H' : Heap} {b : Nat} (hb : 2 ≤ b) (g0 : H'[0]? = some (ros m)) (g1 : H'[1]? = some (ros w)) (g2 : H'[b]? = some (.rw (l.map (.int .i64)) e)) : Anew 2 (nsub 2 b) H' [ros m, ros w, .rw (l.map (.int .i64)) e] := by
  refine ⟨by simp, fun b' hb' => ?_, fun b' o ho => ?_, fun b1 b2 o h1 h2 _ _ _ he => ?_, fun b' o ho => ?_⟩
  · have : b' = 0 ∨ b' = 1 := by omega
    rcases this with rfl | rfl <;> rfl
  · right
    rcases b' with _ | _ | _ | b'
    · cases ho
      rw [show nsub 2 b 0 = 0 from rfl, g0]
      simp only [omap, ros, map_nmap_int]
    · cases ho
      rw [show nsub 2 b (0 + 1) = 1 from rfl, g1]
      simp only [omap, ros, map_nmap_int]
    · cases ho
      rw [show nsub 2 b (0 + 1 + 1) = b from rfl, g2]
      simp only [omap, map_nmap_int]
    · simp at ho
  · simp at h1 h2
    rcases b1 with _ | _ | _ | b1 <;> rcases b2 with _ | _ | _ | b2 <;> first | rfl | omega | (simp [nsub, Nat.beq] at he <;> omega)
  · rcases b' with _ | _ | _ | b'
    · cases ho; exact sc_ro_int
    · cases ho; exact sc_ro_int
    · cases ho; exact sc_rw_int
    · simp at ho
theorem wtC_ok {f0 : FuncId} (C : WtCalls f0) : CcOk Try.prog (wtC f0) := fun f args H T h Q hT => by
  unfold wtC at h
  split at h <;> try (cases h; done)
  rename_i hf
  obtain rfl := Nat.eq_of_beq_eq_true hf
  split at h <;> try (cases h; done)
  · cases h
    rename_i φ cs n q z ds k p r ht
    obtain ⟨h1, ⟨h2, h3, h4, h5, h6⟩, h7, h8⟩ := hT
    have hr := to3_ok ht h1
    obtain ⟨m, rfl, rfl, e1⟩ := okM_of h2
    obtain ⟨w, rfl, rfl, e2⟩ := okM_of h3
    simp only [intsOf_map] at h4 h6 h7 h8
    have hc := fun caps : Nat → Nat => C m (caps 0) w (caps 1) z r e1 h4 h5 h6
    by_cases he : fl m z w r (nA m z) = []
    · refine (Call.of3 (v0 := nilS) (fun caps _ => (hc caps).mono fun v H' hk => hk.1 he) rfl hr).mono fun v H' hv => ?_
      obtain ⟨rfl, rfl⟩ := hv
      exact h7 he
    · refine (Call.of3New (mk := fun b => newS b ((fl m z w r (nA m z)).length / 2)) (N := [rowP (fl m z w r (nA m z))]) (fun caps _ => ?_) row_plain (fun ρ b ρ' c ha => new_alike ha) ?_ hr).mono fun v H' hv => ?_
      · refine Call.anew ((hc caps).mono fun v H' hk => ?_)
        obtain ⟨b, hb, rfl, g0, g1, g2⟩ := hk.2 he
        refine ⟨nsub 2 b, newS 2 _, [ros m, ros w, rowP (fl m z w r (nA m z))], anew2 hb g0 g1 g2, ?_, ?_, rfl, rfl⟩
        · simp [nmap, nmap2, nmap1, nmap0, newS, am, nsub, Nat.beq]
        · simp [sc, sc2, sc1, sc0, newS]
      · simp [sc, sc2, sc1, sc0, newS]
      · obtain ⟨rfl, rfl⟩ := hv
        exact h8 he
  · cases h
    exact hT.elim
theorem inl_three {a b c : InlE} (h1 : Try.prog.funcs[a.f]? = some a.fn) (h2 : Try.prog.funcs[b.f]? = some b.fn) (h3 : Try.prog.funcs[c.f]? = some c.fn) : ∀ e ∈ [a, b, c], Try.prog.funcs[e.f]? = some e.fn := by
  intro e he
  simp only [List.mem_cons, List.not_mem_nil, or_false] at he
  rcases he with rfl | rfl | rfl <;> assumption
theorem lrE_ok : VOk Try.prog lrE := ⟨(CtOk.none.add rwG_ok).add lfG_ok, wtC_ok wt_calls, E0_ok.yc, slO_ok⟩
theorem lnT_ok : CtOk Try.prog lnT := slT_ok.add kbG_ok
theorem lnE1_ok : VOk Try.prog lnE1 := ⟨lnT_ok, E0_ok.cc, E0_ok.yc, slO_ok⟩
theorem lnE2_ok : VOk Try.prog lnE2 := ⟨lnT_ok, ccIn_ok lnE1_ok mixed (inl_one Try.func65), E0_ok.yc, slO_ok⟩
theorem lnE3_ok (m : List Int) (z : Bool) (w : List Int) (r : Int) : VOk Try.prog (lnE3 m z w r) := ⟨lnT_ok, ccIn_ok lnE2_ok mixed (inl_one Try.func64), E0_ok.yc, slO_ok⟩
theorem lnEW_ok (m : List Int) (z : Bool) (w : List Int) (r : Int) : VOk Try.prog (lnEW m z w r) := ⟨lnT_ok, ccIn_ok (lnE3_ok m z w r) mixed (inl_three Try.func38 Try.func43 Try.func44), E0_ok.yc, slO_ok⟩
structure LnCalls (f : FuncId) : Prop where
  vv : ∀ m c w d z r, m.length ≤ 1000 → w.length ≤ 1000 → Call Try.prog f [knV (some ⟨0,0,none⟩) m.length c z, .slice (some ⟨1,0,none⟩) w.length d, vi r] [ros m, ros w] (finL m z w r)
  vn : ∀ m c z r, m.length ≤ 1000 → Call Try.prog f [knV (some ⟨0,0,none⟩) m.length c z, nilS, vi r] [ros m] fun v _ => v = errL (errX m z)
  vh : ∀ m c d t z r, m.length ≤ 1000 → Call Try.prog f [knV (some ⟨0,0,none⟩) m.length c z, .slice (some ⟨1,0,t⟩) 0 d, vi r] [ros m, .gone] fun v _ => v = errL (errX m z)
  nv : ∀ w d z r, w.length ≤ 1000 → Call Try.prog f [knV none 0 0 z, .slice (some ⟨0,0,none⟩) w.length d, vi r] [ros w] fun v _ => v = errL 6
  nn : ∀ z r, Call Try.prog f [knV none 0 0 z, nilS, vi r] [] fun v _ => v = errL 6
  nh : ∀ d t z r, Call Try.prog f [knV none 0 0 z, .slice (some ⟨0,0,t⟩) 0 d, vi r] [.gone] fun v _ => v = errL 6
  hv : ∀ c s w d z r, w.length ≤ 1000 → Call Try.prog f [knV (some ⟨0,0,s⟩) 0 c z, .slice (some ⟨1,0,none⟩) w.length d, vi r] [.gone, ros w] fun v _ => v = errL 6
  hn : ∀ c s z r, Call Try.prog f [knV (some ⟨0,0,s⟩) 0 c z, nilS, vi r] [.gone] fun v _ => v = errL 6
  hh : ∀ c s d t z r, Call Try.prog f [knV (some ⟨0,0,s⟩) 0 c z, .slice (some ⟨1,0,t⟩) 0 d, vi r] [.gone, .gone] fun v _ => v = errL 6
theorem ref_ln : LnCalls 15 where
  vv m c w d z r h1 h2 := Call.ofVc lrE_ok mixed (c := lrB) Try.func15 (by kernel_rfl) (cast (congrFun (congrFun (congrFun (congrFun (congrFun (congrFun lrVV_eq m) c) w) d) z) r) (lrVV_ok m c w d z r h1 h2))
  vn m c z r h1 := Call.ofVc lrE_ok mixed (c := lrB) Try.func15 (by kernel_rfl) (cast (congrFun (congrFun (congrFun (congrFun lrVN_eq m) c) z) r) (lrVN_ok m c z r h1))
  vh m c d t z r h1 := Call.ofVc lrE_ok mixed (c := lrB) Try.func15 (by kernel_rfl) (cast (congrFun (congrFun (congrFun (congrFun (congrFun (congrFun lrVH_eq m) c) d) t) z) r) (lrVH_ok m c d t z r h1))
  nv w d z r h2 := Call.ofVc lrE_ok mixed (c := lrB) Try.func15 (by kernel_rfl) (cast (congrFun (congrFun (congrFun (congrFun lrNV_eq w) d) z) r) (lrNV_ok w d z r h2))
  nn z r := Call.ofVc lrE_ok mixed (c := lrB) Try.func15 (by kernel_rfl) (cast (congrFun (congrFun lrNN_eq z) r) (lrNN_ok z r))
  nh d t z r := Call.ofVc lrE_ok mixed (c := lrB) Try.func15 (by kernel_rfl) (cast (congrFun (congrFun (congrFun (congrFun lrNH_eq d) t) z) r) (lrNH_ok d t z r))
  hv c s w d z r h2 := Call.ofVc lrE_ok mixed (c := lrB) Try.func15 (by kernel_rfl) (cast (congrFun (congrFun (congrFun (congrFun (congrFun (congrFun lrHV_eq c) s) w) d) z) r) (lrHV_ok c s w d z r h2))
  hn c s z r := Call.ofVc lrE_ok mixed (c := lrB) Try.func15 (by kernel_rfl) (cast (congrFun (congrFun (congrFun (congrFun lrHN_eq c) s) z) r) (lrHN_ok c s z r))
  hh c s d t z r := Call.ofVc lrE_ok mixed (c := lrB) Try.func15 (by kernel_rfl) (cast (congrFun (congrFun (congrFun (congrFun (congrFun (congrFun lrHH_eq c) s) d) t) z) r) (lrHH_ok c s d t z r))
theorem pack_ln : LnCalls 14 where
  vv m c w d z r h1 h2 := Call.ofVc (lnEW_ok m z w r) mixed (c := lnB) Try.func14 (by kernel_rfl) (cast (congrFun (congrFun (congrFun (congrFun (congrFun (congrFun lnVV_eq m) c) w) d) z) r) (lnVV_ok m c w d z r h1 h2))
  vn m c z r h1 := Call.ofVc (lnEW_ok m z [] r) mixed (c := lnB) Try.func14 (by kernel_rfl) (cast (congrFun (congrFun (congrFun (congrFun lnVN_eq m) c) z) r) (lnVN_ok m c z r h1))
  vh m c d t z r h1 := Call.ofVc (lnEW_ok m z [] r) mixed (c := lnB) Try.func14 (by kernel_rfl) (cast (congrFun (congrFun (congrFun (congrFun (congrFun (congrFun lnVH_eq m) c) d) t) z) r) (lnVH_ok m c d t z r h1))
  nv w d z r h2 := Call.ofVc (lnEW_ok [] z w r) mixed (c := lnB) Try.func14 (by kernel_rfl) (cast (congrFun (congrFun (congrFun (congrFun lnNV_eq w) d) z) r) (lnNV_ok w d z r h2))
  nn z r := Call.ofVc (lnEW_ok [] z [] r) mixed (c := lnB) Try.func14 (by kernel_rfl) (cast (congrFun (congrFun lnNN_eq z) r) (lnNN_ok z r))
  nh d t z r := Call.ofVc (lnEW_ok [] z [] r) mixed (c := lnB) Try.func14 (by kernel_rfl) (cast (congrFun (congrFun (congrFun (congrFun lnNH_eq d) t) z) r) (lnNH_ok d t z r))
  hv c s w d z r h2 := Call.ofVc (lnEW_ok [] z w r) mixed (c := lnB) Try.func14 (by kernel_rfl) (cast (congrFun (congrFun (congrFun (congrFun (congrFun (congrFun lnHV_eq c) s) w) d) z) r) (lnHV_ok c s w d z r h2))
  hn c s z r := Call.ofVc (lnEW_ok [] z [] r) mixed (c := lnB) Try.func14 (by kernel_rfl) (cast (congrFun (congrFun (congrFun (congrFun lnHN_eq c) s) z) r) (lnHN_ok c s z r))
  hh c s d t z r := Call.ofVc (lnEW_ok [] z [] r) mixed (c := lnB) Try.func14 (by kernel_rfl) (cast (congrFun (congrFun (congrFun (congrFun (congrFun (congrFun lnHH_eq c) s) d) t) z) r) (lnHH_ok c s d t z r))
theorem kinds_w3 {r : List Arg3} (h : kinds3 psW3 r) : ∃ lf z lw k, r = [.agg [lf, .plain (.bool z)], .one lw, .one (.plain (.int .i64 k))] ∧ (lf = .plain (.slice none 0 0) ∨ (∃ s, lf = .hole s) ∨ ∃ cs n, lf = .view cs n false) ∧ (lw = .plain (.slice none 0 0) ∨ (∃ s, lw = .hole s) ∨ ∃ cs n, lw = .view cs n false) := by
  match r, h with
  | [.agg [x, y], .one w, .one _], ⟨⟨h1, h2, _⟩, h3, ⟨k, rfl⟩, _⟩ =>
    obtain ⟨z, rfl⟩ := h2
    exact ⟨x, z, w, k, rfl, h1, h3⟩
theorem errL_sc {e : Int} : sc 0 (errL e) = true := by simp [errL, nilS, sc, sc2, sc1, sc0]
theorem made_plain {l : List Int} : plainNew [madeA l] := fun j o h => by
  cases j with
  | zero => cases h; exact .inr ⟨_, _, rfl, all_sc_int⟩
  | succ j => simp at h
theorem got_alike {n : Nat} {x : Bool} {l : List Int} : ∀ ρ b ρ' c, Alike [madeA l].length ρ b ρ' c → ren ρ (.tuple #[.agg #[.slice (some ⟨b, 0, none⟩) n n, .bool x], vi 0]) = ren ρ' (.tuple #[.agg #[.slice (some ⟨c, 0, none⟩) n n, .bool x], vi 0]) := fun ρ b ρ' c ha => by
  obtain ⟨h1, h2, h3⟩ := ha 0 (by simp)
  simp only [Nat.add_zero] at h1 h2
  have e : ren1 ρ (.slice (some ⟨b, 0, none⟩) n n) = ren1 ρ' (.slice (some ⟨c, 0, none⟩) n n) := by
    show Value.slice (some (Ren.adr _ _ _)) n n = Value.slice (some (Ren.adr _ _ _)) n n
    rw [adr_std (std_none rfl), adr_std (std_none rfl)]
    simp only [Ren.addr, h1, h2]
  have e2 : ren2 ρ (.agg #[.slice (some ⟨b, 0, none⟩) n n, .bool x]) = ren2 ρ' (.agg #[.slice (some ⟨c, 0, none⟩) n n, .bool x]) := by
    show Value.agg (Array.map (ren1 ρ) _) = Value.agg (Array.map (ren1 ρ') _)
    simp only [List.map_toArray, List.map_cons, List.map_nil, e]
    rfl
  show Value.tuple (Array.map (ren2 ρ) _) = Value.tuple (Array.map (ren2 ρ') _)
  simp only [List.map_toArray, List.map_cons, List.map_nil, e2]
  rfl
theorem lnC_ok {f0 : FuncId} (C : LnCalls f0) : CcOk Try.prog (lnC f0) := fun f args H T h Q hT => by
  unfold lnC at h
  split at h <;> try (cases h; done)
  rename_i hf
  obtain rfl := Nat.eq_of_beq_eq_true hf
  split at h <;> try (cases h; done)
  rename_i φ r ht
  split at h <;> cases h
  rename_i T hs
  obtain ⟨h1, hT⟩ := hT
  have hr := to3_ok ht h1
  obtain ⟨lf, z, lw, k, rfl, hl, hw⟩ := kinds_w3 (to3_kind ht)
  rcases hl with rfl | ⟨s, rfl⟩ | ⟨cs, n, rfl⟩ <;> rcases hw with rfl | ⟨t, rfl⟩ | ⟨ds, j, rfl⟩ <;> cases hs
  · refine (Call.of3 (v0 := errL 6) (fun caps _ => C.nn z k) errL_sc hr).mono fun v H' hv => ?_
    obtain ⟨rfl, rfl⟩ := hv; exact hT
  · refine (Call.of3 (v0 := errL 6) (fun caps _ => C.nh (caps 0) t z k) errL_sc hr).mono fun v H' hv => ?_
    obtain ⟨rfl, rfl⟩ := hv; exact hT
  · obtain ⟨h2, hT⟩ := hT
    obtain ⟨w, rfl, rfl, e2⟩ := okM_of h2
    refine (Call.of3 (v0 := errL 6) (fun caps _ => C.nv w (caps 0) z k e2) errL_sc hr).mono fun v H' hv => ?_
    obtain ⟨rfl, rfl⟩ := hv; exact hT
  · refine (Call.of3 (v0 := errL 6) (fun caps _ => C.hn (caps 0) s z k) errL_sc hr).mono fun v H' hv => ?_
    obtain ⟨rfl, rfl⟩ := hv; exact hT
  · refine (Call.of3 (v0 := errL 6) (fun caps _ => C.hh (caps 0) s (caps 1) t z k) errL_sc hr).mono fun v H' hv => ?_
    obtain ⟨rfl, rfl⟩ := hv; exact hT
  · obtain ⟨h2, hT⟩ := hT
    obtain ⟨w, rfl, rfl, e2⟩ := okM_of h2
    refine (Call.of3 (v0 := errL 6) (fun caps _ => C.hv (caps 0) s w (caps 1) z k e2) errL_sc hr).mono fun v H' hv => ?_
    obtain ⟨rfl, rfl⟩ := hv; exact hT
  · obtain ⟨h2, hT⟩ := hT
    obtain ⟨m, rfl, rfl, e1⟩ := okM_of h2
    rw [intsOf_map] at hT
    refine (Call.of3 (v0 := errL (errX m z)) (fun caps _ => C.vn m (caps 0) z k e1) errL_sc hr).mono fun v H' hv => ?_
    obtain ⟨rfl, rfl⟩ := hv; exact hT
  · obtain ⟨h2, hT⟩ := hT
    obtain ⟨m, rfl, rfl, e1⟩ := okM_of h2
    rw [intsOf_map] at hT
    refine (Call.of3 (v0 := errL (errX m z)) (fun caps _ => C.vh m (caps 0) (caps 1) t z k e1) errL_sc hr).mono fun v H' hv => ?_
    obtain ⟨rfl, rfl⟩ := hv; exact hT
  · obtain ⟨⟨h2, h3⟩, h4, h5⟩ := hT
    obtain ⟨m, rfl, rfl, e1⟩ := okM_of h2
    obtain ⟨w, rfl, rfl, e2⟩ := okM_of h3
    simp only [intsOf_map] at h4 h5
    have hc := fun caps : Nat → Nat => C.vv m (caps 0) w (caps 1) z k e1 e2
    by_cases he : lnE m z w k = 0
    · refine (Call.of3New (mk := fun b => .tuple #[.agg #[.slice (some ⟨b, 0, none⟩) m.length m.length, .bool (lkZ (fl m z w k (nA m z)) ((fl m z w k (nA m z)).length / 2))], vi 0]) (N := [madeA (lkL m.length (fl m z w k (nA m z)) ((fl m z w k (nA m z)).length / 2))]) (fun caps _ => ?_) made_plain got_alike ?_ hr).mono fun v H' hv => ?_
      · refine Call.anew ((hc caps).mono fun v H' hk => ?_)
        obtain ⟨b, hb, rfl, g0, g1, g2⟩ := hk.2 he
        refine ⟨nsub 2 b, .tuple #[.agg #[.slice (some ⟨2, 0, none⟩) m.length m.length, .bool _], vi 0], [ros m, ros w, madeA (lkL m.length (fl m z w k (nA m z)) ((fl m z w k (nA m z)).length / 2))], anew2 hb g0 g1 g2, ?_, ?_, rfl, rfl⟩
        · simp [nmap, nmap2, nmap1, nmap0, am, nsub, Nat.beq]
        · simp [sc, sc2, sc1, sc0]
      · simp [sc, sc2, sc1, sc0]
      · obtain ⟨rfl, rfl⟩ := hv
        exact h5 he
    · refine (Call.of3 (v0 := errL (lnE m z w k)) (fun caps _ => (hc caps).mono fun v H' hk => hk.1 he) errL_sc hr).mono fun v H' hv => ?_
      obtain ⟨rfl, rfl⟩ := hv
      exact h4 he
theorem resS2_12 : ∀ args H φ v H' l, pure3 psR resS2 args H = some (φ, v, H', l) → Asks φ → Call Try.prog 12 args H (fun v' H2 => v' = v ∧ H2 = H') ∧ Kept H H' l := by rw [resS2_eq]; exact raG_ok
theorem resS2_13 : ∀ args H φ v H' l, pure3 psR resS2 args H = some (φ, v, H', l) → Asks φ → Call Try.prog 13 args H (fun v' H2 => v' = v ∧ H2 = H') ∧ Kept H H' l := by rw [resS2_eq]; exact rbG_ok
theorem stE_ok : VOk Try.prog stE := ⟨((((((CtOk.none.add worksG_ok).add resS2_12).add resS2_13).add cwG_ok).add rwG_ok).add saG_ok), ccOr_ok (lnC_ok pack_ln) (ccOr_ok (lnC_ok ref_ln) (ccIn_ok E0_ok mixed (inl_one Try.func5))), E0_ok.yc, slO_ok⟩
abbrev psF : List K3 := [.agg [.rows [.i .i64] true, .bool], .one (.rows [.i .i64] true), kC, .one (.int .i64)]
theorem fits_rows {lf : Leaf} (h : LK.fits (.rows [.i .i64] true) lf) : lf = .plain (.slice none 0 0) ∨ (∃ s, lf = .hole s) ∨ ∃ m : List Int, lf = .view (m.map (.int .i64)) m.length true := by
  rcases h with h1 | h1 | ⟨cs, n, h1, h4⟩
  · exact .inl h1
  · exact .inr (.inl h1)
  · obtain ⟨m, rfl, e, _⟩ := RowsOk.ints (k := .i64) (m := 1) h4
    rw [Nat.mul_one] at e
    exact .inr (.inr ⟨m, by rw [e]; exact h1⟩)
theorem fits_w {r : List Arg3} (h : fits3 psF r) : ∃ lf z lw a k t, r = [.agg [lf, .plain (.bool z)], .one lw, .agg [.plain (.int .i64 a), .plain (.int .i64 k)], .one (.plain (.int .i64 t))] ∧ LK.fits (.rows [.i .i64] true) lf ∧ LK.fits (.rows [.i .i64] true) lw := by
  rcases r with _ | ⟨x, _ | ⟨y, _ | ⟨u, _ | ⟨v, _ | ⟨q, r⟩⟩⟩⟩⟩
  · exact h.elim
  · cases x <;> first | exact h.elim | exact h.2.elim
  · cases x <;> first | exact h.elim | (cases y <;> first | exact h.2.elim | exact h.2.2.elim)
  · cases x <;> first | exact h.elim | (cases y <;> first | exact h.2.elim | (cases u <;> first | exact h.2.2.elim | exact h.2.2.2.elim))
  · cases x with
    | one l => exact h.elim
    | agg ls =>
      cases y with
      | agg ls => exact h.2.elim
      | one lw =>
        cases u with
        | one l => exact h.2.2.elim
        | agg lc =>
          cases v with
          | agg l => exact h.2.2.2.elim
          | one lt =>
            obtain ⟨h1, h2, h3, h4, _⟩ := h
            obtain ⟨t, rfl, _⟩ := h4
            rcases ls with _ | ⟨lf, _ | ⟨lz, _ | ⟨l3, ls⟩⟩⟩
            · exact h1.elim
            · exact h1.2.elim
            · obtain ⟨h5, h6, _⟩ := h1
              obtain ⟨z, rfl⟩ := h6
              rcases lc with _ | ⟨la, _ | ⟨lk, _ | ⟨l3, lc⟩⟩⟩
              · exact h3.elim
              · exact h3.2.elim
              · obtain ⟨h7, h8, _⟩ := h3
                obtain ⟨a, rfl, _⟩ := h7
                obtain ⟨k, rfl, _⟩ := h8
                exact ⟨lf, z, lw, a, k, t, rfl, h5, h2⟩
              · exact h3.2.2.elim
            · exact h1.2.2.elim
  · cases x <;> first | exact h.elim | (cases y <;> first | exact h.2.elim | (cases u <;> first | exact h.2.2.elim | (cases v <;> first | exact h.2.2.2.elim | exact h.2.2.2.2.elim)))
theorem st_small (r : List Arg3) (hr : fits3 psF r) (caps : Nat → Nat) (_ : caps3 caps 0 r) : Call Try.prog 4 (canon3 caps 0 r) (canonH3 r) fun v _ => v = .bool true := by
  obtain ⟨lf, z, lw, a, k, t, rfl, hl, hw⟩ := fits_w hr
  rcases fits_rows hl with rfl | ⟨s, rfl⟩ | ⟨m, rfl⟩ <;> rcases fits_rows hw with rfl | ⟨u, rfl⟩ | ⟨w, rfl⟩
  · exact Call.ofVc stE_ok mixed (c := stB) Try.func4 (by kernel_rfl) (cast (congrFun (congrFun (congrFun (congrFun stNN_eq z) a) k) t) (stNN_ok z a k t))
  · exact Call.ofVc stE_ok mixed (c := stB) Try.func4 (by kernel_rfl) (cast (congrFun (congrFun (congrFun (congrFun (congrFun (congrFun stNH_eq (caps 0)) u) z) a) k) t) (stNH_ok (caps 0) u z a k t))
  · exact Call.ofVc stE_ok mixed (c := stB) Try.func4 (by kernel_rfl) (cast (congrFun (congrFun (congrFun (congrFun (congrFun (congrFun stNV_eq w) (caps 0)) z) a) k) t) (stNV_ok w (caps 0) z a k t))
  · exact Call.ofVc stE_ok mixed (c := stB) Try.func4 (by kernel_rfl) (cast (congrFun (congrFun (congrFun (congrFun (congrFun (congrFun stHN_eq (caps 0)) s) z) a) k) t) (stHN_ok (caps 0) s z a k t))
  · exact Call.ofVc stE_ok mixed (c := stB) Try.func4 (by kernel_rfl) (cast (congrFun (congrFun (congrFun (congrFun (congrFun (congrFun (congrFun (congrFun stHH_eq (caps 0)) s) (caps 1)) u) z) a) k) t) (stHH_ok (caps 0) s (caps 1) u z a k t))
  · exact Call.ofVc stE_ok mixed (c := stB) Try.func4 (by kernel_rfl) (cast (congrFun (congrFun (congrFun (congrFun (congrFun (congrFun (congrFun (congrFun stHV_eq (caps 0)) s) w) (caps 1)) z) a) k) t) (stHV_ok (caps 0) s w (caps 1) z a k t))
  · exact Call.ofVc stE_ok mixed (c := stB) Try.func4 (by kernel_rfl) (cast (congrFun (congrFun (congrFun (congrFun (congrFun (congrFun stVN_eq m) (caps 0)) z) a) k) t) (stVN_ok m (caps 0) z a k t))
  · exact Call.ofVc stE_ok mixed (c := stB) Try.func4 (by kernel_rfl) (cast (congrFun (congrFun (congrFun (congrFun (congrFun (congrFun (congrFun (congrFun stVH_eq m) (caps 0)) (caps 1)) u) z) a) k) t) (stVH_ok m (caps 0) (caps 1) u z a k t))
  · exact Call.ofVc stE_ok mixed (c := stB) Try.func4 (by kernel_rfl) (cast (congrFun (congrFun (congrFun (congrFun (congrFun (congrFun (congrFun (congrFun stVV_eq m) (caps 0)) w) (caps 1)) z) a) k) t) (stVV_ok m (caps 0) w (caps 1) z a k t))
theorem weighings_law {K : Type} : ∀ (H : Heap) (avs : List Value) (ds : List (DataW K)), Still H → ReadsAll Try.prog H Try.f4.params.toList avs ds → Call Try.prog 4 avs H fun v _ => v = .bool true :=
  law_of3 (ps := psF) (by kernel_rfl) st_small
end Go.Pier.Sk
