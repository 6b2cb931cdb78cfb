import Derived.Test.YtbmdkgoclijgkaaPierKF5
import Derived.Test.YtbmdkgoclijgkaaPierKF8
import Derived.KernelRfl
set_option linter.unusedSimpArgs false
set_option linter.unusedVariables false
set_option maxRecDepth 100000
set_option linter.unusedVariables false
set_option linter.unusedSimpArgs false
namespace Go.Pier.Rd
open Go Go.Pier Go.Proofs
noncomputable def frB : Code := Try.f14.body.getD .skip
noncomputable def frT : Ct := ((Ct.none.add 18 (pureG [] worksS)).add 22 (pureP (fun b n l => vi (errP b n l)) (vi 6))).add 24 (pure3 psP (specQ shF))
noncomputable def ltCc (k : Int) (l : List Int) : Cc := fun fn args H => match Nat.beq fn 50 with
  | true => match args with
    | [.agg ⟨[.int .i64 b, .slice (some ⟨0, 0, none⟩) n c]⟩, .int .i64 k1] => some fun Q => Ob (H[0]? = some (ros l) ∧ k1 = k ∧ l.length = n * 2 ∧ n ≤ 10 ∧ 1 ≤ n ∧ rngP b n l) ∧ Q (.agg #[vi b, newS H.length n]) (H ++ [rw2 (laterL k l n)])
    | _ => none
  | false => none
noncomputable def fnE : VEnv := { ct := frT, orc := prO, cc := ccIn Try.prog {} [⟨17, Try.f17, fun _ _ _ => none⟩] }
noncomputable def frE (l : List Int) : VEnv := { ct := frT, orc := prO, cc := ccOr (ltCc 9000 l) (ccIn Try.prog fnE [⟨45, Try.f45, fun _ _ _ => none⟩]) }
noncomputable def frV_s0 (b : Int) (n c : Nat) (l : List Int) := (if getI (List.map (Value.int IntKind.i64) l) ((0 : Nat) + (IntKind.i64.wrap ((↑n : Int) - (1 : Int))).toNat * (2 : Nat)) > b then getI (List.map (Value.int IntKind.i64) l) ((0 : Nat) + (IntKind.i64.wrap ((↑n : Int) - (1 : Int))).toNat * (2 : Nat)) else b)
noncomputable def frV_s1 (b : Int) (n c : Nat) (l : List Int) := (shL b n (lefts b n (intsOf (List.map (Value.int IntKind.i64) (laterL (9000 : Int) l n)))) (intsOf (List.map (Value.int IntKind.i64) (laterL (9000 : Int) l n))))
noncomputable def frV_s2 (b : Int) (n c : Nat) (l : List Int) := (List.map (Value.int IntKind.i64) l)
noncomputable def frV_s3 (b : Int) (n c : Nat) (l : List Int) := (List.map (Value.int IntKind.i64) (laterL (9000 : Int) l n))
noncomputable def frV_s4 (b : Int) (n c : Nat) (l : List Int) := (bif (frV_s1 b n c l).no then (0 : Int) else mxN (frV_s1 b n c l).st (9 : Nat))
noncomputable def frV :=
fun (b : Int) (n c : Nat) (l : List Int) ↦ ((!decide ((14 : Int) < (↑n : Int))) = true → Ob ((true = true ∧ Flat (frV_s2 b n c l)) ∧ okL (Leaf.view (frV_s2 b n c l) n false)) ∧ ((!errP b n (intsOf (frV_s2 b n c l)) == (0 : Int)) = true → Ob True ∧ True ∧ Ob (Value.bool true = Value.bool true)) ∧ ((!errP b n (intsOf (frV_s2 b n c l)) == (0 : Int)) = false → Ob (some (AObj.ro (frV_s2 b n c l)) = some (AObj.ro (frV_s2 b n c l)) ∧ (9000 : Int) = (9000 : Int) ∧ l.length = n * (2 : Nat) ∧ n ≤ (10 : Nat) ∧ (1 : Nat) ≤ n ∧ rngP b n l) ∧ Ob ((0 : Nat) + (2 : Nat) ≤ (2 : Nat)) ∧ Ob (some (vi b) = some (vi b)) ∧ Ob ((0 : Int) ≤ (0 : Int) ∧ (0 : Int) < (↑n : Int) ∧ true = true) ∧ Ob (IntAt IntKind.i64 (frV_s2 b n c l) (0 : Nat)) ∧ Ob (some (vi b) = some (vi b)) ∧ Ob ((0 : Int) ≤ IntKind.i64.wrap ((↑n : Int) - (1 : Int)) ∧ IntKind.i64.wrap ((↑n : Int) - (1 : Int)) < (↑n : Int) ∧ true = true) ∧ Ob (IntAt IntKind.i64 (frV_s2 b n c l) ((0 : Nat) + (IntKind.i64.wrap ((↑n : Int) - (1 : Int))).toNat * (2 : Nat))) ∧ Ob ((true = true ∧ Flat (frV_s3 b n c l)) ∧ okL (Leaf.view (frV_s3 b n c l) n false) ∧ errP b n (intsOf (frV_s3 b n c l)) = (0 : Int)) ∧ (((bif (frV_s1 b n c l).no then (12 : Int) else (0 : Int)) == (0 : Int)) = true → Ob (some (vi b) = some (vi b)) ∧ Ob (some (vi b) = some (vi b)) ∧ (((frV_s4 b n c l) == IntKind.i64.wrap (IntKind.i64.wrap ((frV_s0 b n c l) - if getI (frV_s2 b n c l) (0 : Nat) < b then getI (frV_s2 b n c l) (0 : Nat) else b) + if IntKind.i64.wrap (b - if getI (frV_s2 b n c l) (0 : Nat) < b then getI (frV_s2 b n c l) (0 : Nat) else b) < IntKind.i64.wrap ((frV_s0 b n c l) - b) then IntKind.i64.wrap (b - if getI (frV_s2 b n c l) (0 : Nat) < b then getI (frV_s2 b n c l) (0 : Nat) else b) else IntKind.i64.wrap ((frV_s0 b n c l) - b))) = true → Ob True ∧ True ∧ Ob (Value.bool true = Value.bool true)) ∧ (((frV_s4 b n c l) == IntKind.i64.wrap (IntKind.i64.wrap ((frV_s0 b n c l) - if getI (frV_s2 b n c l) (0 : Nat) < b then getI (frV_s2 b n c l) (0 : Nat) else b) + if IntKind.i64.wrap (b - if getI (frV_s2 b n c l) (0 : Nat) < b then getI (frV_s2 b n c l) (0 : Nat) else b) < IntKind.i64.wrap ((frV_s0 b n c l) - b) then IntKind.i64.wrap (b - if getI (frV_s2 b n c l) (0 : Nat) < b then getI (frV_s2 b n c l) (0 : Nat) else b) else IntKind.i64.wrap ((frV_s0 b n c l) - b))) = false → True ∧ Ob (Value.bool false = Value.bool true))) ∧ (((bif (frV_s1 b n c l).no then (12 : Int) else (0 : Int)) == (0 : Int)) = false → True ∧ Ob (Value.bool false = Value.bool true)))) ∧ ((!decide ((14 : Int) < (↑n : Int))) = false → (true = true → Ob True ∧ True ∧ Ob (Value.bool true = Value.bool true)) ∧ (true = false → Ob (some (AObj.ro (frV_s2 b n c l)) = some (AObj.ro (frV_s2 b n c l)) ∧ (9000 : Int) = (9000 : Int) ∧ l.length = n * (2 : Nat) ∧ n ≤ (10 : Nat) ∧ (1 : Nat) ≤ n ∧ rngP b n l) ∧ Ob ((0 : Nat) + (2 : Nat) ≤ (2 : Nat)) ∧ Ob (some (vi b) = some (vi b)) ∧ Ob ((0 : Int) ≤ (0 : Int) ∧ (0 : Int) < (↑n : Int) ∧ true = true) ∧ Ob (IntAt IntKind.i64 (frV_s2 b n c l) (0 : Nat)) ∧ Ob (some (vi b) = some (vi b)) ∧ Ob ((0 : Int) ≤ IntKind.i64.wrap ((↑n : Int) - (1 : Int)) ∧ IntKind.i64.wrap ((↑n : Int) - (1 : Int)) < (↑n : Int) ∧ true = true) ∧ Ob (IntAt IntKind.i64 (frV_s2 b n c l) ((0 : Nat) + (IntKind.i64.wrap ((↑n : Int) - (1 : Int))).toNat * (2 : Nat))) ∧ Ob ((true = true ∧ Flat (frV_s3 b n c l)) ∧ okL (Leaf.view (frV_s3 b n c l) n false) ∧ errP b n (intsOf (frV_s3 b n c l)) = (0 : Int)) ∧ (((bif (frV_s1 b n c l).no then (12 : Int) else (0 : Int)) == (0 : Int)) = true → Ob (some (vi b) = some (vi b)) ∧ Ob (some (vi b) = some (vi b)) ∧ (((frV_s4 b n c l) == IntKind.i64.wrap (IntKind.i64.wrap ((frV_s0 b n c l) - if getI (frV_s2 b n c l) (0 : Nat) < b then getI (frV_s2 b n c l) (0 : Nat) else b) + if IntKind.i64.wrap (b - if getI (frV_s2 b n c l) (0 : Nat) < b then getI (frV_s2 b n c l) (0 : Nat) else b) < IntKind.i64.wrap ((frV_s0 b n c l) - b) then IntKind.i64.wrap (b - if getI (frV_s2 b n c l) (0 : Nat) < b then getI (frV_s2 b n c l) (0 : Nat) else b) else IntKind.i64.wrap ((frV_s0 b n c l) - b))) = true → Ob True ∧ True ∧ Ob (Value.bool true = Value.bool true)) ∧ (((frV_s4 b n c l) == IntKind.i64.wrap (IntKind.i64.wrap ((frV_s0 b n c l) - if getI (frV_s2 b n c l) (0 : Nat) < b then getI (frV_s2 b n c l) (0 : Nat) else b) + if IntKind.i64.wrap (b - if getI (frV_s2 b n c l) (0 : Nat) < b then getI (frV_s2 b n c l) (0 : Nat) else b) < IntKind.i64.wrap ((frV_s0 b n c l) - b) then IntKind.i64.wrap (b - if getI (frV_s2 b n c l) (0 : Nat) < b then getI (frV_s2 b n c l) (0 : Nat) else b) else IntKind.i64.wrap ((frV_s0 b n c l) - b))) = false → True ∧ Ob (Value.bool false = Value.bool true))) ∧ (((bif (frV_s1 b n c l).no then (12 : Int) else (0 : Int)) == (0 : Int)) = false → True ∧ Ob (Value.bool false = Value.bool true))))
theorem frV_eq : frV = fun (b : Int) (n c : Nat) (l : List Int) => vc Try.prog (frE l) 1 63 true (fun _ => none) frB [] (argFr 0 [pierV b (some ⟨0,0,none⟩) n c]) [ros l] (retK Try.prog Try.f14 (fun v _ => v = .bool true)) := by kernel_rfl
noncomputable def frE0 : VEnv := { ct := frT, orc := prO, cc := ccIn Try.prog fnE [⟨45, Try.f45, fun _ _ _ => none⟩] }
noncomputable def frN :=
fun (b : Int) ↦ (true = true → Ob True ∧ (true = true → Ob True ∧ True ∧ Ob (Value.bool true = Value.bool true)) ∧ (true = false → False)) ∧ (true = false → (true = true → Ob True ∧ True ∧ Ob (Value.bool true = Value.bool true)) ∧ (true = false → False))
theorem frN_eq : frN = fun (b : Int) => vc Try.prog frE0 0 63 true (fun _ => none) frB [] (argFr 0 [pierV b none 0 0]) [] (retK Try.prog Try.f14 (fun v _ => v = .bool true)) := by kernel_rfl
noncomputable def frH :=
fun (b : Int) (c : Nat) (s : Option Nat) ↦ (true = true → Ob True ∧ (true = true → Ob True ∧ True ∧ Ob (Value.bool true = Value.bool true)) ∧ (true = false → False)) ∧ (true = false → (true = true → Ob True ∧ True ∧ Ob (Value.bool true = Value.bool true)) ∧ (true = false → False))
theorem frH_eq : frH = fun (b : Int) (c : Nat) (s : Option Nat) => vc Try.prog frE0 1 63 true (fun _ => none) frB [] (argFr 0 [pierV b (some ⟨0,0,s⟩) 0 c]) [.gone] (retK Try.prog Try.f14 (fun v _ => v = .bool true)) := by kernel_rfl
theorem getD_two {m : List Int} {x y : Int} {i : Nat} (h : m.length = i * 2) : (m ++ [x, y]).getD (i * 2) 0 = x ∧ (m ++ [x, y]).getD (i * 2 + 1) 0 = y := by
  refine ⟨?_, ?_⟩
  · rw [List.getD_eq_getElem?_getD, List.getElem?_append_right (by omega), show i * 2 - m.length = 0 by omega]; rfl
  · rw [List.getD_eq_getElem?_getD, List.getElem?_append_right (by omega), show i * 2 + 1 - m.length = 1 by omega]; rfl
theorem laterL_pl {k : Int} {l : List Int} : ∀ (n i : Nat), i < n → pl (laterL k l n) i = pl l i ∧ tw (laterL k l n) i = clampT k (tw l i)
  | 0, i, h => by omega
  | n + 1, i, h => by
    have hl := later_len (k := k) (l := l) n
    by_cases e : i = n
    · subst e
      exact getD_two hl
    · obtain ⟨h1, h2⟩ := laterL_pl (k := k) (l := l) n i (by omega)
      refine ⟨?_, ?_⟩
      · rw [← h1]; exact getD_app (by omega)
      · rw [← h2]; exact getD_app (by omega)
theorem clamp_bd {k x : Int} : 0 ≤ clampT k x ∧ clampT k x ≤ 9000 := by unfold clampT; split <;> split at * <;> omega
theorem clamp_full {x : Int} (hx : 0 ≤ x) : clampT 9000 x = 9000 := by unfold clampT; split <;> split at * <;> omega
theorem later_ok {b k : Int} {n : Nat} {l : List Int} (hP : errP b n l = 0) : errP b n (laterL k l n) = 0 := by
  obtain ⟨h1, hr, ho⟩ := errP_cases hP
  refine errP_ok h1 ⟨fun i hi => ?_, hr.2⟩ fun i hi => ?_
  · obtain ⟨e1, e2⟩ := laterL_pl (k := k) (l := l) n i hi
    rw [e1, e2]
    exact ⟨(hr.1 i hi).1, clamp_bd⟩
  · rw [(laterL_pl (k := k) (l := l) n i hi).1]
    refine ⟨(ho i hi).1, fun h0 => ?_⟩
    rw [(laterL_pl (k := k) (l := l) n (i - 1) (by omega)).1]
    exact (ho i hi).2 h0
theorem frV_ok (b : Int) (n c : Nat) (l : List Int) (hl : l.length = n * 2) : frV b n c l := by
  unfold frV frV_s4 frV_s3 frV_s2 frV_s1 frV_s0
  simp only [SS, reduceCtorEq, Arg.list, Arg.num, Arg.flag, intOf, andP, Nat.reduceLeDiff, Nat.reduceAdd, Nat.reduceMul, Nat.reduceLT, ckAsk, CK.ask, pl_fold, tw_fold]
  refine fun h14 => ⟨⟨flat_ints, okL_ints hl (by omega)⟩, fun hP => ?_⟩
  obtain ⟨⟨n1, n2⟩, hr, ho⟩ := errP_cases hP
  have w1 : IntKind.i64.wrap ((n : Int) - 1) = ((n - 1 : Nat) : Int) := by rw [wrap_in (by omega) (by omega)]; omega
  have hQ := later_ok (k := 9000) hP
  have e0 := laterL_pl (k := 9000) (l := l) n 0 (by omega)
  have e1 := laterL_pl (k := 9000) (l := l) n (n - 1) (by omega)
  obtain ⟨m1, m2⟩ := free_math hQ fun i hi => by rw [(laterL_pl n i hi).2]; exact clamp_full (hr.1 i hi).2.1
  rw [e0.1, e1.1] at m2
  have b1 := (hr.1 0 (by omega)).1
  have b2 := (hr.1 (n - 1) (by omega)).1
  have b0 := hr.2
  have g0 : l.getD 0 0 = pl l 0 := rfl
  have m3 : mxN (shL b n (lefts b n (laterL 9000 l n)) (laterL 9000 l n)).st 9 = frm b (pl l 0) (pl l (n - 1)) := m2
  rw [w1, Int.toNat_natCast, m1, m3, g0, frm_max, frm_min]
  refine ⟨⟨hl, n2, n1, hr⟩, by omega, by omega, by omega, by omega, ⟨flat_ints, okL_ints (later_len n) (by omega), hQ⟩, fun _ h => h ?_, fun h => h rfl⟩
  show frm b (pl l 0) (pl l (n - 1)) = _
  rw [wrap_in (x := b - min b (pl l 0)) (by omega) (by omega), wrap_in (x := max b (pl l (n - 1)) - b) (by omega) (by omega), wrap_in (x := max b (pl l (n - 1)) - min b (pl l 0)) (by omega) (by omega)]
  unfold frm
  split
  · rw [wrap_in (by omega) (by omega)]; omega
  · rw [wrap_in (by omega) (by omega)]; omega
theorem frN_ok (b : Int) : frN b := by
  unfold frN
  simp only [SS, reduceCtorEq, Arg.list, Arg.num, Arg.flag, intOf, andP, Nat.reduceLeDiff, Nat.reduceAdd, Nat.reduceMul, Nat.reduceLT]
theorem frH_ok (b : Int) (c : Nat) (s : Option Nat) : frH b c s := by
  unfold frH
  simp only [SS, reduceCtorEq, Arg.list, Arg.num, Arg.flag, intOf, andP, Nat.reduceLeDiff, Nat.reduceAdd, Nat.reduceMul, Nat.reduceLT]
theorem frT_ok : CtOk Try.prog frT := ((CtOk.none.add worksG_ok).add rcpG_ok).add shG_ok
theorem fnE_ok : VOk Try.prog fnE := ⟨frT_ok, ccIn_ok E0_ok mixed (inl_one Try.func17), E0_ok.yc, prE1_ok.orc⟩
theorem frE0_ok : VOk Try.prog frE0 := ⟨frT_ok, ccIn_ok fnE_ok mixed (inl_one Try.func45), E0_ok.yc, prE1_ok.orc⟩
theorem ltCc_ok (k : Int) (l : List Int) (hk : -1000000 ≤ k ∧ k ≤ 1000000) : CcOk Try.prog (ltCc k l) := by
  intro fn args H T hT Q hQ
  unfold ltCc at hT
  split at hT <;> try (cases hT; done)
  rename_i hfn
  obtain rfl := Nat.eq_of_beq_eq_true hfn
  split at hT <;> cases hT
  rename_i b n c k1
  obtain ⟨hO, hq⟩ := hQ
  obtain ⟨h0, rfl, hl, hn, hn1, hr⟩ := hO.out
  exact (made_at (az := [vi k1]) (b := b) (c := c) rfl h0 (lt_call b k1 n c l hl hn hn1 hr hk)).mono fun v H' hh => by rw [hh.1, hh.2]; exact hq
theorem frE_ok (l : List Int) : VOk Try.prog (frE l) := ⟨frT_ok, ccOr_ok (ltCc_ok 9000 l (by decide)) (ccIn_ok fnE_ok mixed (inl_one Try.func45)), E0_ok.yc, prE1_ok.orc⟩
abbrev psPT : List K3 := [.agg [.int .i64, .rows [.i .i64, .i .i64] true]]
theorem fits_p {r : List Arg3} (h : fits3 psPT r) : ∃ b lf, r = [.agg [.plain (.int .i64 b), lf]] ∧ (lf = .plain (.slice none 0 0) ∨ (∃ s, lf = .hole s) ∨ ∃ (l : List Int) (n : Nat), lf = .view (l.map (.int .i64)) n true ∧ l.length = n * 2) := by
  obtain ⟨ls, r, rfl, hg, h⟩ := fits3_agg h
  obtain rfl := fits3_nil h
  obtain ⟨x, ls, rfl, h1, hg⟩ := fitsL_cons hg
  obtain ⟨y, ls, rfl, h2, hg⟩ := fitsL_cons hg
  obtain rfl := fitsL_nil hg
  obtain ⟨b, rfl, _⟩ := h1
  refine ⟨b, y, rfl, ?_⟩
  rcases h2 with h2 | h2 | ⟨cs, n, h2, h4⟩
  · exact .inl h2
  · exact .inr (.inl h2)
  · obtain ⟨l, rfl, e, _⟩ := RowsOk.ints (k := .i64) (m := 2) h4
    exact .inr (.inr ⟨l, n, h2, e⟩)
theorem free_small (r : List Arg3) (hr : fits3 psPT r) (caps : Nat → Nat) (hcaps : caps3 caps 0 r) : Call Try.prog 14 (canon3 caps 0 r) (canonH3 r) isTrue := by
  obtain ⟨b, lf, rfl, hl⟩ := fits_p hr
  rcases hl with rfl | ⟨s, rfl⟩ | ⟨l, n, rfl, hl⟩
  · exact Call.ofVc frE0_ok mixed (c := frB) Try.func14 (by kernel_rfl) (cast (congrFun frN_eq b) (frN_ok b))
  · exact Call.ofVc frE0_ok mixed (c := frB) Try.func14 (by kernel_rfl) (cast (congrFun (congrFun (congrFun frH_eq b) (caps 0)) s) (frH_ok b (caps 0) s))
  · have h := frV_ok b n (caps 0) l hl
    rw [frV_eq] at h
    exact Call.ofVc (H := [ros l]) (args := [pierV b (some ⟨0,0,none⟩) n (caps 0)]) (frE_ok l) mixed (c := frB) (inv := fun _ => none) (R := isTrue) Try.func14 (by kernel_rfl) (cast (by kernel_rfl) h)
theorem free_law {K : Type} : ∀ (H : Heap) (avs : List Value) (ds : List (DataW K)), Still H → ReadsAll Try.prog H Try.f14.params.toList avs ds → Call Try.prog 14 avs H fun v _ => v = .bool true :=
  law_of3 (ps := psPT) (by kernel_rfl) free_small
end Go.Pier.Rd
