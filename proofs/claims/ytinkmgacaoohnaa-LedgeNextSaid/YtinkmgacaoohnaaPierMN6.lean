import Derived.Test.YtinkmgacaoohnaaPierMN4
import Derived.KernelRfl
import Derived.Test.YtinkmgacaoohnaaPierLdropt
import Derived.Test.YtinkmgacaoohnaaPierZX
import Derived.Test.YtinkmgacaoohnaaPierMN5
set_option linter.unusedSimpArgs false
set_option linter.unusedVariables false
set_option maxRecDepth 100000
set_option linter.unusedVariables false
set_option linter.unusedSimpArgs false
namespace Go.Pier.Lg
open Go Go.Pier Go.Proofs
end Go.Pier.Lg
set_option maxRecDepth 100000
set_option linter.unusedVariables false
set_option linter.unusedSimpArgs false
namespace Go.Pier.Lg
open Go Go.Pier Go.Proofs
def takGe (n : Nat) (tk : Nat → Bool) (p : Nat) : Nat := ((List.range n).filter fun i => tk i && decide (p ≤ i)).length
theorem takGe_upd {n : Nat} {tk : Nat → Bool} {a p : Nat} (ha : a < n) (h : tk a = false) : takGe n (updB tk a) p = takGe n tk p + if p ≤ a then 1 else 0 := by
  unfold takGe
  induction n with
  | zero => omega
  | succ n ih =>
    rw [List.range_succ, List.filter_append, List.filter_append, List.length_append, List.length_append]
    by_cases e : a = n
    · subst e
      have e1 : (List.range a).filter (fun i => updB tk a i && decide (p ≤ i)) = (List.range a).filter fun i => tk i && decide (p ≤ i) := List.filter_congr fun x hx => by rw [updB_ne (by have := List.mem_range.1 hx; omega)]
      have e2 : updB tk a a = true := updB_self
      rw [e1]
      by_cases hp : p ≤ a <;> simp [e2, h, hp]
    · have e2 : updB tk a n = tk n := updB_ne (Ne.symm e)
      rw [ih (by omega)]
      simp only [List.filter_cons, e2, List.filter_nil]
      split <;> simp <;> omega
theorem takGe_le {n : Nat} {tk : Nat → Bool} {p : Nat} (hp : p ≤ n) : takGe n tk p ≤ n - p := by
  unfold takGe
  induction n with
  | zero => simp
  | succ n ih =>
    rw [List.range_succ, List.filter_append, List.length_append]
    by_cases e : p ≤ n
    · have := ih e
      simp only [List.filter_cons, List.filter_nil]
      split <;> simp <;> omega
    · have e1 : (List.range n).filter (fun i => tk i && decide (p ≤ i)) = [] := List.filter_eq_nil_iff.2 fun x hx => by have := List.mem_range.1 hx; simp; omega
      rw [e1]
      have : ¬ p ≤ n := e
      simp [this]
abbrev St3 := (Nat → Bool) × Int × Int
theorem stepC_all {n : Nat} {s : St3} {d : Nat} (hd : d < n) : (takGe n (stepC n s d).1 0 : Int) + (stepC n s d).2.2 = takGe n s.1 0 + s.2.2 + 1 := by
  obtain ⟨tk, sl, fe⟩ := s
  obtain ⟨a1, a2, a3, a4⟩ := endAt_spec (tk := tk) (show d ≤ n by omega)
  unfold stepC
  by_cases e : endAt n tk d < n
  · simp only [e, if_true]
    rw [takGe_upd e (a4 e), if_pos (Nat.zero_le _)]; omega
  · simp only [e, if_false]; omega
def foldC (n : Nat) (l : List Int) (s : St3) : St3 := l.foldl (fun t d => stepC n t d.toNat) s
theorem foldC_all {n : Nat} : ∀ {l : List Int} {s : St3}, (∀ x ∈ l, 0 ≤ x ∧ x < (n : Int)) → (takGe n (foldC n l s).1 0 : Int) + (foldC n l s).2.2 = takGe n s.1 0 + s.2.2 + l.length
  | [], s, _ => by simp [foldC]
  | x :: l, s, h => by
    have hx := h x List.mem_cons_self
    have h1 := foldC_all (l := l) (s := stepC n s x.toNat) (fun y hy => h y (List.mem_cons_of_mem _ hy))
    have h2 := stepC_all (n := n) (s := s) (d := x.toNat) (by omega)
    show (takGe n (foldC n l (stepC n s x.toNat)).1 0 : Int) + (foldC n l (stepC n s x.toNat)).2.2 = _
    rw [h1, h2, List.length_cons]; push_cast; omega
theorem takGe_emp {n p : Nat} : takGe n emp p = 0 := by unfold takGe emp; simp
theorem run_core {n : Nat} {l : List Int} (h : ∀ x ∈ l, 0 ≤ x ∧ x < (n : Int)) : core (runA n l) = foldC n l (emp, 0, 0) := by
  unfold runA runP
  rw [core_run h]; rfl
end Go.Pier.Lg
set_option maxRecDepth 100000
set_option linter.unusedVariables false
set_option linter.unusedSimpArgs false
namespace Go.Pier.Lg
open Go Go.Pier Go.Proofs
end Go.Pier.Lg
set_option maxRecDepth 100000
set_option linter.unusedVariables false
set_option linter.unusedSimpArgs false
namespace Go.Pier.Lg
open Go Go.Pier Go.Proofs
noncomputable def hoB : Code := Try.f64.body.getD .skip
noncomputable def hoE1 : VEnv := { ct := Ct.none.add 74 (dropG false) }
noncomputable def hoE : VEnv := { ct := Ct.none.add 74 (dropG false), cc := ccIn Try.prog hoE1 [⟨78, Try.f78, fun _ _ _ => none⟩] }
noncomputable def hoN_s0 (n : Nat) (tk : Nat → Bool) (s f : Int) (l : List Int) (c : Nat) := (runP false (fN (vi (↑n : Int) :: T8 emp [Value.slice none (0 : Nat) (0 : Nat), vi (0 : Int), vi (0 : Int)])).toNat (fT (vi (↑n : Int) :: T8 emp [Value.slice none (0 : Nat) (0 : Nat), vi (0 : Int), vi (0 : Int)])) (List.take l.length (List.drop (0 : Nat) (intsOf (List.map (Value.int IntKind.i64) l)))))
noncomputable def hoN_s1 (n : Nat) (tk : Nat → Bool) (s f : Int) (l : List Int) (c : Nat) := (List.take l.length (List.drop (0 : Nat) (intsOf (List.map (Value.int IntKind.i64) l))))
noncomputable def hoN :=
fun (n : Nat) (tk : Nat → Bool) (s f : Int) (l : List Int) (c : Nat) ↦ Ob ((10 : Nat) ≤ (12 : Nat)) ∧ Ob ((11 : Nat) ≤ (12 : Nat)) ∧ Ob ((12 : Nat) ≤ (12 : Nat)) ∧ Ob ((List.take l.length (List.drop (0 : Nat) (List.map (Value.int IntKind.i64) l)) = List.map (Value.int IntKind.i64) (hoN_s1 n tk s f l c) ∧ (0 : Nat) + l.length ≤ (List.map (Value.int IntKind.i64) l).length ∧ true = true) ∧ dropPre false (vi (↑n : Int) :: T8 emp [Value.slice none (0 : Nat) (0 : Nat), vi (0 : Int), vi (0 : Int)]) (Value.func (Fn.func (77 : Nat)) { toList := [Value.agg { toList := (lgC (↑n : Int) emp) }] } { toList := [] }) (hoN_s1 n tk s f l c) ∧ (0 : Nat) < (hoN_s1 n tk s f l c).length ∧ some (1 : Nat) ≠ some (0 : Nat)) ∧ Ob (some (vi (hoN_s0 n tk s f l c).fell) = some (vi (hoN_s0 n tk s f l c).fell)) ∧ (Ob (AObj.rw (vi (fN (vi (↑n : Int) :: T8 emp [Value.slice none (0 : Nat) (0 : Nat), vi (0 : Int), vi (0 : Int)])) :: T8 ((hoN_s0 n tk s f l c).tk) [Value.slice (some { block := (2 : Nat), off := (0 : Nat), spot := some (0 : Nat) }) (hoN_s1 n tk s f l c).length (0 : Nat), vi (hoN_s0 n tk s f l c).slid, vi (hoN_s0 n tk s f l c).fell]) none = AObj.rw (vi (↑n : Int) :: T8 ((runA n l).tk) [Value.slice (some { block := (2 : Nat), off := (0 : Nat), spot := some (0 : Nat) }) l.length (0 : Nat), vi (runA n l).slid, vi (runA n l).fell]) none ∧ true = true) ∧ Ob (AObj.ro (List.map (Value.int IntKind.i64) l) = AObj.ro (List.map (nmap1 fun (b : Nat) ↦ b) (List.map (Value.int IntKind.i64) l)) ∧ AObj.sc (3 : Nat) (AObj.ro (List.map (Value.int IntKind.i64) l)) = true) ∧ Ob (AObj.rw (List.map (Value.int IntKind.i64) (hoN_s0 n tk s f l c).lies) (some (1 : Nat)) = AObj.rw (List.map (nmap1 fun (b : Nat) ↦ b) (List.map (Value.int IntKind.i64) (runA n l).lies)) (some (1 : Nat)) ∧ AObj.sc (3 : Nat) (AObj.rw (List.map (Value.int IntKind.i64) (runA n l).lies) (some (1 : Nat))) = true) ∧ True) ∧ Ob (((hoN_s0 n tk s f l c).fell == (0 : Int)) = decide ((runA n l).fell = (0 : Int))) ∧ True
theorem hoN_eq : hoN = fun (n : Nat) (tk : Nat → Bool) (s f : Int) (l : List Int) (c : Nat) => vc Try.prog hoE 2 20 true (fun _ => none) hoB [] (argFr 0 [ptr0 0, .slice (some ⟨1,0,none⟩) l.length c]) [pu n tk nilS s f, ros l] (retR Try.prog Try.f64 2 (fun b => b) (.bool (decide ((runA n l).fell = 0))) [pu n (runA n l).tk (newS 2 l.length) (runA n l).slid (runA n l).fell, ros l, rws (runA n l).lies]) := by kernel_rfl
noncomputable def hoG_s0 (n : Nat) (tk : Nat → Bool) (m : Nat) (s f : Int) (la l : List Int) (c : Nat) := (runP false (fN (vi (↑n : Int) :: T8 emp [Value.slice none (0 : Nat) (0 : Nat), vi (0 : Int), vi (0 : Int)])).toNat (fT (vi (↑n : Int) :: T8 emp [Value.slice none (0 : Nat) (0 : Nat), vi (0 : Int), vi (0 : Int)])) (List.take l.length (List.drop (0 : Nat) (intsOf (List.map (Value.int IntKind.i64) l)))))
noncomputable def hoG :=
fun (n : Nat) (tk : Nat → Bool) (m : Nat) (s f : Int) (la l : List Int) (c : Nat) ↦ Ob ((10 : Nat) ≤ (12 : Nat)) ∧ Ob ((11 : Nat) ≤ (12 : Nat)) ∧ Ob ((12 : Nat) ≤ (12 : Nat)) ∧ Ob ((List.take l.length (List.drop (0 : Nat) (List.map (Value.int IntKind.i64) l)) = List.map (Value.int IntKind.i64) (List.take l.length (List.drop (0 : Nat) (intsOf (List.map (Value.int IntKind.i64) l)))) ∧ (0 : Nat) + l.length ≤ (List.map (Value.int IntKind.i64) l).length ∧ true = true) ∧ dropPre false (vi (↑n : Int) :: T8 emp [Value.slice none (0 : Nat) (0 : Nat), vi (0 : Int), vi (0 : Int)]) (Value.func (Fn.func (77 : Nat)) { toList := [Value.agg { toList := (lgC (↑n : Int) emp) }] } { toList := [] }) (List.take l.length (List.drop (0 : Nat) (intsOf (List.map (Value.int IntKind.i64) l)))) ∧ (0 : Nat) < (List.take l.length (List.drop (0 : Nat) (intsOf (List.map (Value.int IntKind.i64) l)))).length ∧ some (2 : Nat) ≠ some (0 : Nat)) ∧ Ob (some (vi (hoG_s0 n tk m s f la l c).fell) = some (vi (hoG_s0 n tk m s f la l c).fell)) ∧ (Ob (AObj.rw (vi (fN (vi (↑n : Int) :: T8 emp [Value.slice none (0 : Nat) (0 : Nat), vi (0 : Int), vi (0 : Int)])) :: T8 ((hoG_s0 n tk m s f la l c).tk) [Value.slice (some { block := (3 : Nat), off := (0 : Nat), spot := some (0 : Nat) }) (List.take l.length (List.drop (0 : Nat) (intsOf (List.map (Value.int IntKind.i64) l)))).length (0 : Nat), vi (hoG_s0 n tk m s f la l c).slid, vi (hoG_s0 n tk m s f la l c).fell]) none = AObj.rw (vi (↑n : Int) :: T8 ((runA n l).tk) [Value.slice (some { block := (3 : Nat), off := (0 : Nat), spot := some (0 : Nat) }) l.length (0 : Nat), vi (runA n l).slid, vi (runA n l).fell]) none ∧ true = true) ∧ Ob (AObj.rw (List.map (Value.int IntKind.i64) la) (some (1 : Nat)) = AObj.rw (List.map (nmap1 fun (b : Nat) ↦ b) (List.map (Value.int IntKind.i64) la)) (some (1 : Nat)) ∧ AObj.sc (4 : Nat) (AObj.rw (List.map (Value.int IntKind.i64) la) (some (1 : Nat))) = true) ∧ Ob (AObj.ro (List.map (Value.int IntKind.i64) l) = AObj.ro (List.map (nmap1 fun (b : Nat) ↦ b) (List.map (Value.int IntKind.i64) l)) ∧ AObj.sc (4 : Nat) (AObj.ro (List.map (Value.int IntKind.i64) l)) = true) ∧ Ob (AObj.rw (List.map (Value.int IntKind.i64) (hoG_s0 n tk m s f la l c).lies) (some (1 : Nat)) = AObj.rw (List.map (nmap1 fun (b : Nat) ↦ b) (List.map (Value.int IntKind.i64) (runA n l).lies)) (some (1 : Nat)) ∧ AObj.sc (4 : Nat) (AObj.rw (List.map (Value.int IntKind.i64) (runA n l).lies) (some (1 : Nat))) = true) ∧ True) ∧ Ob (((hoG_s0 n tk m s f la l c).fell == (0 : Int)) = decide ((runA n l).fell = (0 : Int))) ∧ True
theorem hoG_eq : hoG = fun (n : Nat) (tk : Nat → Bool) (m : Nat) (s f : Int) (la l : List Int) (c : Nat) => vc Try.prog hoE 3 20 true (fun _ => none) hoB [] (argFr 0 [ptr0 0, .slice (some ⟨2,0,none⟩) l.length c]) [pu n tk (newS 1 m) s f, rws la, ros l] (retR Try.prog Try.f64 3 (fun b => b) (.bool (decide ((runA n l).fell = 0))) [pu n (runA n l).tk (newS 3 l.length) (runA n l).slid (runA n l).fell, rws la, ros l, rws (runA n l).lies]) := by kernel_rfl
def holdsG : List Value → Heap → Option (Option Prop × Value × Heap × List Nat) := fun args H => match args with
  | [.pointer (some ⟨b, 0, none⟩), sv] => match H[b]? with
    | some (.rw cs none) => match toArg H (.ints .i64) sv with
      | some (φ, .ints _ l) => match fL cs with
        | .slice none 0 0 => some (andO φ (some (cs = puC (fN cs) (fT cs) nilS (fS cs) (fF cs) ∧ errD (fN cs) l = 0 ∧ 0 < l.length ∧ sliceBlock sv ≠ some b)), .bool (decide ((runA (fN cs).toNat l).fell = 0)),
            H.set b (pu (fN cs) (runA (fN cs).toNat l).tk (newS H.length l.length) (runA (fN cs).toNat l).slid (runA (fN cs).toNat l).fell) ++ [rws (runA (fN cs).toNat l).lies], [b])
        | .slice (some ⟨b2, 0, some 0⟩) m 0 => match H[b2]? with
          | some (.rw c2 (some 1)) => some (andO φ (some (cs = puC (fN cs) (fT cs) (newS b2 m) (fS cs) (fF cs) ∧ c2 = (intsOf c2).map (.int .i64) ∧ errD (fN cs) l = 0 ∧ 0 < l.length ∧ sliceBlock sv ≠ some b ∧ sliceBlock sv ≠ some b2 ∧ b ≠ b2)), .bool (decide ((runA (fN cs).toNat l).fell = 0)),
            H.set b (pu (fN cs) (runA (fN cs).toNat l).tk (newS H.length l.length) (runA (fN cs).toNat l).slid (runA (fN cs).toNat l).fell) ++ [rws (runA (fN cs).toNat l).lies], [b, b2])
          | _ => none
        | _ => none
      | _ => none
    | _ => none
  | _ => none
theorem hoN_ok (n : Nat) (tk : Nat → Bool) (s f : Int) (l : List Int) (c : Nat) (h : errD n l = 0) (h0 : 0 < l.length) : hoN n tk s f l c := by
  unfold hoN hoN_s1 hoN_s0
  simp only [SS, reduceCtorEq, Arg.list, Arg.num, Arg.flag, intOf, andP, Nat.reduceLeDiff, Nat.reduceAdd, Nat.reduceMul, Nat.reduceLT, h, fN_T8, fT_emp, T8_fT, fF_T8, fS_T8]
  exact ⟨⟨pre_mk h, h0⟩, ⟨rfl, rfl⟩, rfl⟩
theorem hoG_ok (n : Nat) (tk : Nat → Bool) (m : Nat) (s f : Int) (la l : List Int) (c : Nat) (h : errD n l = 0) (h0 : 0 < l.length) : hoG n tk m s f la l c := by
  unfold hoG hoG_s0
  simp only [SS, reduceCtorEq, Arg.list, Arg.num, Arg.flag, intOf, andP, Nat.reduceLeDiff, Nat.reduceAdd, Nat.reduceMul, Nat.reduceLT, h, fN_T8, fT_emp, T8_fT, fF_T8, fS_T8]
  exact ⟨⟨pre_mk h, h0⟩, ⟨rfl, rfl⟩, rfl⟩
theorem hoE1_ok : VOk Try.prog hoE1 := VOk.ofCt (CtOk.none.add dropA_ok)
theorem hoE_ok : VOk Try.prog hoE := ⟨CtOk.none.add dropA_ok, ccIn_ok hoE1_ok mixed (inl_one Try.func78), E0_ok.yc, E0_ok.orc⟩
theorem toArg_ints {H : Heap} {sv : Value} {φ : Option Prop} {k : IntKind} {l : List Int} (ht : toArg H (.ints .i64) sv = some (φ, .ints k l)) (hψ : Asks φ) : ∃ a m c, sv = .slice (some a) m c ∧ (∃ φ, sliceInts .i64 H (.slice (some a) m c) = some (φ, l) ∧ φ) ∧ k = .i64 := by
  unfold toArg at ht
  split at ht <;> try (cases ht; done)
  · rename_i h0; cases h0
  · rename_i k' a m c h0
    cases h0
    split at ht
    · rename_i φ' l' hs; cases ht; exact ⟨a, m, c, rfl, ⟨_, hs, hψ⟩, rfl⟩
    · split at ht <;> cases ht
theorem holdsG_ok : ∀ args H φ v H' l, holdsG args H = some (φ, v, H', l) → Asks φ → Call Try.prog 64 args H (fun v' H2 => v' = v ∧ H2 = H') ∧ Kept H H' l := by
  intro args H φ v H' l h hφ
  unfold holdsG at h
  split at h <;> try (cases h; done)
  rename_i b sv
  split at h <;> try (cases h; done)
  rename_i cs hb
  have hlt := (List.getElem?_eq_some_iff.1 hb).1
  split at h <;> try (cases h; done)
  rename_i ψ k li ht
  split at h <;> try (cases h; done)
  · cases h
    obtain ⟨hψ, h1, h2, h3, h4⟩ := andO_iff.1 hφ
    obtain ⟨n, hn⟩ := errD_pos h2
    generalize fT cs = tk at *
    generalize fS cs = s at *
    generalize fF cs = f at *
    rw [hn] at h1 h2 ⊢
    simp only [Int.toNat_natCast]
    subst h1
    obtain ⟨a, m, c, rfl, hi, rfl⟩ := toArg_ints ht hψ
    have hc := fun caps : Nat → Nat => Call.ofVcR hoE_ok mixed (c := hoB) (args := [ptr0 0, .slice (some ⟨1,0,none⟩) li.length (caps 1)]) Try.func64 (by kernel_rfl) (cast (congrFun (congrFun (congrFun (congrFun (congrFun (congrFun hoN_eq n) tk) s) f) li) (caps 1)) (hoN_ok n tk s f li (caps 1) h2 h3))
    have := Call.frameL (P := Try.prog) (f := 64) (H := H) (Et := [pu n tk nilS s f]) (Ft := [pu n (runA n li).tk (newS 2 li.length) (runA n li).slid (runA n li).fell]) (N := [rws (runA n li).lies]) (L := [b])
      (ags := [.val (ptr0 0), .ints .i64 li]) (vs := [ptr0 b, .slice (some a) m c]) (v := .bool (decide ((runA n li).fell = 0))) rfl rfl (by simp) (mem_one hlt)
      (forall_one (by rw [omap_puN]; exact hb)) (mem_one ⟨rfl, sc_puN⟩) ⟨rfl, rfl, hi, (fun b' hb' hm => h4 (by rw [hb', List.mem_singleton.1 hm])), trivial⟩ hc
      (mem_two (nm_pu rfl) nm_ints) (mem_one rfl) (by simp [nm, nm2, nm1, nm0]) (mem_two (by rw [omap_pu]; exact sc_pu (by simp [nameL, canonH2])) (by rw [omap_rws]; exact sc_ints)) (by simp [nmap, nmap2, nmap1, nmap0, sc, sc2, sc1, sc0])
    simp only [List.map_cons, List.map_nil, omap_pu, omap_rws] at this
    exact this
  · rename_i b2 m2 hlv
    split at h <;> try (cases h; done)
    rename_i c2 hb2
    cases h
    have hlt2 := (List.getElem?_eq_some_iff.1 hb2).1
    obtain ⟨hψ, h1, h1b, h2, h3, h4, h5, h6⟩ := andO_iff.1 hφ
    obtain ⟨n, hn⟩ := errD_pos h2
    generalize fT cs = tk at *
    generalize fS cs = s at *
    generalize fF cs = f at *
    generalize intsOf c2 = la at *
    rw [hn] at h1 h2 ⊢
    simp only [Int.toNat_natCast]
    subst h1; subst h1b
    obtain ⟨a, m, c, rfl, hi, rfl⟩ := toArg_ints ht hψ
    have hc := fun caps : Nat → Nat => Call.ofVcR hoE_ok mixed (c := hoB) (args := [ptr0 0, .slice (some ⟨2,0,none⟩) li.length (caps 2)]) Try.func64 (by kernel_rfl) (cast (congrFun (congrFun (congrFun (congrFun (congrFun (congrFun (congrFun (congrFun hoG_eq n) tk) m2) s) f) la) li) (caps 2)) (hoG_ok n tk m2 s f la li (caps 2) h2 h3))
    have hr : ReadA2 H (fun c => [b, b2].getD c 0) [b, b2] 2 [.val (ptr0 0), .ints .i64 li] [ptr0 b, .slice (some a) m c] := ⟨by simp [nmap, nmap2, nmap1, nmap0, am], by simp [sc, sc2, sc1, sc0], hi, (fun b' hb' hm => by
        rcases List.mem_cons.1 hm with e | hm
        · exact h4 (by rw [hb', e])
        · exact h5 (by rw [hb', List.mem_singleton.1 hm])), trivial⟩
    have ho : ∀ (c : Nat) (o : AObj), ([pu n tk (newS 1 m2) s f, rws la] : Heap)[c]? = some o → H[[b, b2].getD c 0]? = some (omap (fun c => [b, b2].getD c 0) o) := forall_two (by rw [omap_pu]; exact hb) (by rw [omap_rws]; exact hb2)
    have hs : ∀ o ∈ ([pu n tk (newS 1 m2) s f, rws la] : Heap), o.wr = true ∧ o.sc 2 = true := mem_two ⟨rfl, sc_pu (by decide)⟩ ⟨rfl, sc_ints⟩
    have hnm : ∀ o ∈ [pu n (runA n li).tk (newS 3 li.length) (runA n li).slid (runA n li).fell, rws la] ++ [rws (runA n li).lies], o.nm (fun d => decide (d < 2) || decide (3 ≤ d)) = true := mem_three (nm_pu rfl) nm_ints nm_ints
    have hsn : ∀ o ∈ [pu n (runA n li).tk (newS 3 li.length) (runA n li).slid (runA n li).fell, rws la] ++ [rws (runA n li).lies], (omap (nameL [b, b2] 3 H.length) o).sc (H.length + 1) = true :=
      mem_three (by rw [omap_pu]; exact sc_pu (by simp [nameL])) (by rw [omap_rws]; exact sc_ints) (by rw [omap_rws]; exact sc_ints)
    have := Call.frameL (P := Try.prog) (f := 64) (H := H) (Et := [pu n tk (newS 1 m2) s f, rws la]) (Ft := [pu n (runA n li).tk (newS 3 li.length) (runA n li).slid (runA n li).fell, rws la]) (N := [rws (runA n li).lies]) (L := [b, b2])
      (ags := [.val (ptr0 0), .ints .i64 li]) (vs := [ptr0 b, .slice (some a) m c]) (v := .bool (decide ((runA n li).fell = 0))) rfl rfl (by simp [h6]) (mem_two hlt hlt2)
      ho hs hr hc hnm (mem_one rfl) (by simp [nm, nm2, nm1, nm0]) hsn (by simp [nmap, nmap2, nmap1, nmap0, sc, sc2, sc1, sc0])
    simp only [List.map_cons, List.map_nil, omap_pu, omap_rws] at this
    have e : setL H [b, b2] [pu n (runA n li).tk (newS (nameL [b, b2] ([pu n tk (newS 1 m2) s f, rws la] ++ canonH2 [.val (ptr0 0), .ints .i64 li]).length H.length 3) li.length) (runA n li).slid (runA n li).fell, rws la] = H.set b (pu n (runA n li).tk (newS H.length li.length) (runA n li).slid (runA n li).fell) := by
      show (H.set b _).set b2 (rws la) = _
      apply List.ext_getElem?
      intro j
      by_cases e1 : b2 = j
      · subst e1
        rw [List.getElem?_set_self (by rw [List.length_set]; exact hlt2), List.getElem?_set_ne h6, hb2]; rfl
      · rw [List.getElem?_set_ne e1]; rfl
    rw [e] at this
    exact this
end Go.Pier.Lg
set_option maxRecDepth 100000
set_option linter.unusedVariables false
set_option linter.unusedSimpArgs false
namespace Go.Pier.Lg
open Go Go.Pier Go.Proofs
end Go.Pier.Lg
set_option maxRecDepth 100000
set_option linter.unusedVariables false
set_option linter.unusedSimpArgs false
namespace Go.Pier.Lg
open Go Go.Pier Go.Proofs
end Go.Pier.Lg
set_option maxRecDepth 100000
set_option linter.unusedVariables false
set_option linter.unusedSimpArgs false
namespace Go.Pier.Lg
open Go Go.Pier Go.Proofs
noncomputable def maB : Code := Try.f30.body.getD .skip
def mayG (n : Nat) (l : List Int) : Nat → Bool := fun i => decide ((runA n (l ++ [(i : Int)])).fell = 0)
noncomputable def maE2 : VEnv := { ct := Ct.none.add 64 holdsG }
noncomputable def maE3 : VEnv := { cc := ccIn Try.prog maE2 [⟨63, Try.f63, fun _ _ _ => none⟩], orc := orcW }
def maIv (n : Nat) (l : List Int) (k : Nat) : List Value → Heap → Nat → Option LInv := fun args H => match args with
  | [_, gv] => invOf 0 (.mk [
      ⟨Unit, fun _ => True, fun _ => [(1, gv), (6, .slice (some ⟨k + 4, 0, none⟩) 0 n), (13, vi n), (14, vi 0)], fun _ => H ++ [.rw (lgC n emp) none, .rw ((whC emp 0).map (.int .i64)) none], fun _ => 20, fun _ _ => none⟩,
      ⟨Nat, fun i => 0 < i ∧ i ≤ n, fun i => [(1, gv), (6, .slice (some ⟨k + 4, 0, none⟩) (whL (mayG n l) i).length n), (13, vi n), (14, vi i)],
        fun i => H.set (k + 1) (pu n (runA n (l ++ [((i - 1 : Nat) : Int)])).tk (newS (k + 5) (l.length + 1)) (runA n (l ++ [((i - 1 : Nat) : Int)])).slid (runA n (l ++ [((i - 1 : Nat) : Int)])).fell) ++ [.rw (lgC n emp) none, .rw ((whC (mayG n l) i).map (.int .i64)) none, rws (runA n (l ++ [((i - 1 : Nat) : Int)])).lies], fun i => n - i, fun _ _ => none⟩]
    (fun _ b => b) (fun i _ => [nsub (k + 5) (k + 7 + i)]))
  | _ => fun _ => none
noncomputable def maE (n : Nat) (l : List Int) (k : Nat) : VEnv := { ct := Ct.none.add 32 (pureG psA arowS), cc := ccOr (ccIn Try.prog {} [⟨62, Try.f62, fun _ _ _ => none⟩]) (ccIn Try.prog maE3 [⟨51, Try.f51, maIv n l k⟩]) }
noncomputable def maV_s0 (n : Nat) (l : List Int) (c : Nat) (xq : Nat) := (runA (fN (vi (↑n : Int) :: T8 ((runA n (l ++ [(↑(xq - (1 : Nat)) : Int)])).tk) [Value.slice (some { block := (6 : Nat), off := (0 : Nat), spot := some (0 : Nat) }) (l.length + (1 : Nat)) (0 : Nat), vi (runA n (l ++ [(↑(xq - (1 : Nat)) : Int)])).slid, vi (runA n (l ++ [(↑(xq - (1 : Nat)) : Int)])).fell])).toNat (List.take ((↑l.length : Int).toNat + (1 : Nat)) (List.drop (0 : Nat) (intsOf (List.take ((↑l.length : Int).toNat * (1 : Nat)) (List.drop (0 : Nat) (List.map (Value.int IntKind.i64) l)) ++ [vi (↑xq : Int)])))))
noncomputable def maV_s1 (n : Nat) (l : List Int) (c : Nat) := (runA (fN (vi (↑n : Int) :: T8 emp [Value.slice none (0 : Nat) (0 : Nat), vi (0 : Int), vi (0 : Int)])).toNat (List.take ((↑l.length : Int).toNat + (1 : Nat)) (List.drop (0 : Nat) (intsOf (List.take ((↑l.length : Int).toNat * (1 : Nat)) (List.drop (0 : Nat) (List.map (Value.int IntKind.i64) l)) ++ [vi (0 : Int)])))))
noncomputable def maV_s2 (n : Nat) (l : List Int) (c : Nat) (xq : Nat) := (vi (↑n : Int) :: T8 ((runA n (l ++ [(↑(xq - (1 : Nat)) : Int)])).tk) [Value.slice (some { block := (6 : Nat), off := (0 : Nat), spot := some (0 : Nat) }) (l.length + (1 : Nat)) (0 : Nat), vi (runA n (l ++ [(↑(xq - (1 : Nat)) : Int)])).slid, vi (runA n (l ++ [(↑(xq - (1 : Nat)) : Int)])).fell])
noncomputable def maV_s3 (n : Nat) (l : List Int) (c : Nat) := (vi (fN (vi (↑n : Int) :: T8 emp [Value.slice none (0 : Nat) (0 : Nat), vi (0 : Int), vi (0 : Int)])) :: T8 ((maV_s1 n l c).tk) [Value.slice (some { block := (8 : Nat), off := (0 : Nat), spot := some (0 : Nat) }) (List.take ((↑l.length : Int).toNat + (1 : Nat)) (List.drop (0 : Nat) (intsOf (List.take ((↑l.length : Int).toNat * (1 : Nat)) (List.drop (0 : Nat) (List.map (Value.int IntKind.i64) l)) ++ [vi (0 : Int)])))).length (0 : Nat), vi (maV_s1 n l c).slid, vi (maV_s1 n l c).fell])
noncomputable def maV_s4 (n : Nat) (l : List Int) (c : Nat) (xq : Nat) := (vi (fN (maV_s2 n l c xq)) :: T8 ((maV_s0 n l c xq).tk) [Value.slice (some { block := (9 : Nat), off := (0 : Nat), spot := some (0 : Nat) }) (List.take ((↑l.length : Int).toNat + (1 : Nat)) (List.drop (0 : Nat) (intsOf (List.take ((↑l.length : Int).toNat * (1 : Nat)) (List.drop (0 : Nat) (List.map (Value.int IntKind.i64) l)) ++ [vi (↑xq : Int)])))).length (0 : Nat), vi (maV_s0 n l c xq).slid, vi (maV_s0 n l c xq).fell])
noncomputable def maV_s5 (n : Nat) (l : List Int) (c : Nat) := (List.map (Value.int IntKind.i64) l)
noncomputable def maV_s6 (n : Nat) (l : List Int) (c : Nat) : List Value := [vi (0 : Int), vi (0 : Int), vi (0 : Int), vi (0 : Int), vi (0 : Int), vi (0 : Int), vi (0 : Int), vi (0 : Int)]
noncomputable def maV_s7 (n : Nat) (l : List Int) (c : Nat) := (vi (↑n : Int) :: T8 emp [Value.slice none (0 : Nat) (0 : Nat), vi (0 : Int), vi (0 : Int)])
noncomputable def maV_s8 (n : Nat) (l : List Int) (c : Nat) : Array Value := { toList := [Value.pointer (some { block := nsub (6 : Nat) (8 : Nat) (3 : Nat), off := (0 : Nat), spot := none }), Value.pointer (some { block := nsub (6 : Nat) (8 : Nat) (1 : Nat), off := (0 : Nat), spot := none })] }
noncomputable def maV_s9 (n : Nat) (l : List Int) (c : Nat) : Array Value := { toList := [Value.pointer (some { block := nsub (6 : Nat) (9 : Nat) (3 : Nat), off := (0 : Nat), spot := none }), Value.pointer (some { block := nsub (6 : Nat) (9 : Nat) (1 : Nat), off := (0 : Nat), spot := none })] }
noncomputable def maV_s10 (n : Nat) (l : List Int) (c : Nat) : List Value := [Value.slice (some (ad0 0)) l.length c]
noncomputable def maV_s11 (n : Nat) (l : List Int) (c : Nat) := (andP (some ((0 : Nat) + (1 : Nat) ≤ (1 : Nat) ∧ true = true)) ((↑l.length : Int).toNat + (1 : Nat) ≤ (1099511627776 : Nat) ∧ ((2 : Nat) * ((↑l.length : Int).toNat + (1 : Nat)) + (256 : Nat)) * (8 : Nat) ≤ (281474976710656 : Nat) ∧ (1 : Nat) = (1 : Nat) ∧ (↑l.length : Int).toNat < (↑l.length : Int).toNat + (1 : Nat) ∧ (0 : Nat) + (↑l.length : Int).toNat * (1 : Nat) ≤ (maV_s5 n l c).length))
noncomputable def maV_s12 (n : Nat) (l : List Int) (c : Nat) (xq : Nat) := (List.take ((whL (mayG n l) xq).length.min (IntKind.i64.wrap (↑(whL (mayG n l) xq).length : Int)).toNat * (1 : Nat)) (List.drop (0 : Nat) (List.map (Value.int IntKind.i64) (whC (mayG n l) xq))))
noncomputable def maV_s13 (n : Nat) (l : List Int) (c : Nat) (xq : Nat) := (List.take ((↑l.length : Int).toNat * (1 : Nat)) (List.drop (0 : Nat) (maV_s5 n l c)) ++ [vi (↑xq : Int)])
noncomputable def maV_s14 (n : Nat) (l : List Int) (c : Nat) := (List.take ((↑l.length : Int).toNat * (1 : Nat)) (List.drop (0 : Nat) (maV_s5 n l c)) ++ [vi (0 : Int)])
noncomputable def maV_s15 (n : Nat) (l : List Int) (c : Nat) := (List.take l.length (List.drop (0 : Nat) (intsOf (maV_s5 n l c))))
noncomputable def maV_s16 (n : Nat) (l : List Int) (c : Nat) : Array Value := { toList := [Value.slice (some (ad0 7)) (whL (mayG n l) n).length (whL (mayG n l) n).length, vi (0 : Int)] }
noncomputable def maV_s17 (n : Nat) (l : List Int) (c : Nat) (xq : Nat) := (List.map (Value.int IntKind.i64) (whC (mayG n l) xq))
noncomputable def maV_s18 (n : Nat) (l : List Int) (c : Nat) := ((↑l.length : Int).toNat + (1 : Nat))
noncomputable def maV_s19 (n : Nat) (l : List Int) (c : Nat) (xq : Nat) := (IntKind.i64.wrap (↑(whL (mayG n l) xq).length : Int))
noncomputable def maV :=
fun (n : Nat) (l : List Int) (c : Nat) ↦ Ob ((List.take l.length (List.drop (0 : Nat) (maV_s5 n l c)) = List.map (Value.int IntKind.i64) (maV_s15 n l c) ∧ (0 : Nat) + l.length ≤ (maV_s5 n l c).length ∧ true = true) ∧ errD (Arg.plain (vi (↑n : Int))).num (maV_s15 n l c) = (0 : Int) ∧ (0 : Nat) < (maV_s15 n l c).length) ∧ ((ledC (Arg.plain (vi (↑n : Int))).num.toNat (maV_s15 n l c) != (0 : Int)) = true → (Ob (AObj.ro (maV_s5 n l c) = AObj.ro (List.map (nmap1 (nsub (1 : Nat) (7 : Nat))) (maV_s5 n l c)) ∧ AObj.sc (2 : Nat) (AObj.ro (maV_s5 n l c)) = true) ∧ False) ∧ Ob (Value.tuple { toList := [Value.slice none (0 : Nat) (0 : Nat), vi (ledC (Arg.plain (vi (↑n : Int))).num.toNat (maV_s15 n l c))] } = Value.tuple (maV_s16 n l c)) ∧ True) ∧ ((ledC (Arg.plain (vi (↑n : Int))).num.toNat (maV_s15 n l c) != (0 : Int)) = false → Ob ((0 : Nat) + (1 : Nat) ≤ (1 : Nat)) ∧ Ob (some (vi (↑n : Int)) = some (vi (↑n : Int))) ∧ Ob (((0 : Int) ≤ (↑n : Int) ∧ (↑n : Int) ≤ (↑(8 : Nat) : Int)) ∧ (0 : Int) ≤ (0 : Int) ∧ (0 : Int) ≤ (↑(↑n : Int).toNat : Int)) ∧ Ob (some (vi (↑n : Int)) = some (vi (↑n : Int))) ∧ ((∃ (y : Unit), Ob True ∧ (Ob (AObj.ro (maV_s5 n l c) = AObj.ro (List.map (nmap1 fun (b : Nat) ↦ b) (maV_s5 n l c)) ∧ AObj.sc (6 : Nat) (AObj.ro (maV_s5 n l c)) = true) ∧ Ob (AObj.rw (maV_s10 n l c) none = AObj.rw (maV_s10 n l c) none ∧ true = true) ∧ Ob (AObj.rw (maV_s7 n l c) none = AObj.rw (maV_s7 n l c) none ∧ true = true) ∧ Ob (AObj.rw [ptr0 2] none = AObj.rw [ptr0 2] none ∧ true = true) ∧ Ob (AObj.rw (lgC (↑n : Int) emp) none = AObj.rw (lgC (↑n : Int) emp) none ∧ true = true) ∧ Ob (AObj.rw (maV_s6 n l c) none = AObj.rw (maV_s6 n l c) none ∧ true = true) ∧ True) ∧ Ob (Value.func (Fn.func (63 : Nat)) { toList := [] } { toList := [ptr0 3, ptr0 1] } = Value.func (Fn.func (63 : Nat)) { toList := [] } { toList := [ptr0 3, ptr0 1] }) ∧ Ob (Value.slice (some (ad0 5)) (0 : Nat) (↑n : Int).toNat = Value.slice (some (ad0 5)) (0 : Nat) n) ∧ Ob ((↑n : Int) = (↑n : Int)) ∧ Ob ((0 : Int) = (0 : Int)) ∧ True) ∨ ∃ (yq : Nat), Ob ((0 : Nat) < yq ∧ yq ≤ n) ∧ (Ob (AObj.ro (maV_s5 n l c) = AObj.ro (List.map (nmap1 fun (b : Nat) ↦ b) (maV_s5 n l c)) ∧ AObj.sc (7 : Nat) (AObj.ro (maV_s5 n l c)) = true) ∧ Ob (AObj.rw (maV_s10 n l c) none = AObj.rw (maV_s10 n l c) none ∧ true = true) ∧ Ob (AObj.rw (maV_s7 n l c) none = AObj.rw (vi (↑n : Int) :: T8 ((runA n (l ++ [(↑(yq - (1 : Nat)) : Int)])).tk) [Value.slice (some { block := (6 : Nat), off := (0 : Nat), spot := some (0 : Nat) }) (l.length + (1 : Nat)) (0 : Nat), vi (runA n (l ++ [(↑(yq - (1 : Nat)) : Int)])).slid, vi (runA n (l ++ [(↑(yq - (1 : Nat)) : Int)])).fell]) none ∧ true = true) ∧ Ob (AObj.rw [ptr0 2] none = AObj.rw [ptr0 2] none ∧ true = true) ∧ Ob (AObj.rw (lgC (↑n : Int) emp) none = AObj.rw (lgC (↑n : Int) emp) none ∧ true = true) ∧ Ob (AObj.rw (maV_s6 n l c) none = AObj.rw (List.map (nmap1 fun (b : Nat) ↦ b) (List.map (Value.int IntKind.i64) (whC (mayG n l) yq))) none ∧ AObj.sc (7 : Nat) (AObj.rw (List.map (Value.int IntKind.i64) (whC (mayG n l) yq)) none) = true) ∧ False) ∧ Ob (Value.func (Fn.func (63 : Nat)) { toList := [] } { toList := [ptr0 3, ptr0 1] } = Value.func (Fn.func (63 : Nat)) { toList := [] } { toList := [ptr0 3, ptr0 1] }) ∧ Ob (Value.slice (some (ad0 5)) (0 : Nat) (↑n : Int).toNat = Value.slice (some (ad0 5)) (whL (mayG n l) yq).length n) ∧ Ob ((↑n : Int) = (↑n : Int)) ∧ Ob ((0 : Int) = (↑yq : Int)) ∧ True) ∧ (∀ (x : Unit), Ob True → (decide ((0 : Int) < (↑n : Int)) = true → Ob (l.length ≤ c ∧ ((0 : Int) ≤ (↑l.length : Int) ∧ (↑l.length : Int) ≤ (↑c : Int)) ∧ (0 : Int) ≤ (↑l.length : Int) ∧ (↑l.length : Int) ≤ (↑(↑l.length : Int).toNat : Int)) ∧ Ob (andP (some (maV_s11 n l c)) ¬(↑l.length : Int).toNat + (1 : Nat) ≤ (↑l.length : Int).toNat) ∧ Ob ((List.take (maV_s18 n l c) (List.drop (0 : Nat) (maV_s14 n l c)) = List.map (Value.int IntKind.i64) (List.take (maV_s18 n l c) (List.drop (0 : Nat) (intsOf (maV_s14 n l c)))) ∧ (0 : Nat) + (maV_s18 n l c) ≤ (maV_s14 n l c).length ∧ true = true) ∧ (maV_s7 n l c) = (vi (fN (maV_s7 n l c)) :: T8 emp [Value.slice none (0 : Nat) (0 : Nat), vi (fS (maV_s7 n l c)), vi (fF (maV_s7 n l c))]) ∧ errD (fN (maV_s7 n l c)) (List.take (maV_s18 n l c) (List.drop (0 : Nat) (intsOf (maV_s14 n l c)))) = (0 : Int) ∧ (0 : Nat) < (List.take (maV_s18 n l c) (List.drop (0 : Nat) (intsOf (maV_s14 n l c)))).length ∧ some (7 : Nat) ≠ some (2 : Nat)) ∧ (decide ((maV_s1 n l c).fell = (0 : Int)) = true → Ob (andP (some ((0 : Nat) + (1 : Nat) ≤ (1 : Nat) ∧ true = true)) ((1 : Nat) ≤ (1099511627776 : Nat) ∧ (2064 : Nat) ≤ (281474976710656 : Nat) ∧ (1 : Nat) = (1 : Nat) ∧ (1 : Nat) = (1 : Nat) ∧ (1 : Nat) ≤ n ∧ (0 : Nat) < (1 : Nat) ∧ (0 : Nat) + (1 : Nat) ≤ (8 : Nat) ∧ true = true)) ∧ ((∃ (y : Unit), Ob True ∧ Ob ((20 : Nat) < (20 : Nat)) ∧ (Ob (AObj.ro (maV_s5 n l c) = AObj.ro (List.map (nmap1 (nsub (6 : Nat) (8 : Nat))) (maV_s5 n l c)) ∧ AObj.sc (6 : Nat) (AObj.ro (maV_s5 n l c)) = true) ∧ Ob (AObj.rw (maV_s10 n l c) none = AObj.rw (maV_s10 n l c) none ∧ true = true) ∧ Ob (AObj.rw (maV_s3 n l c) none = AObj.rw (maV_s7 n l c) none ∧ true = true) ∧ Ob (AObj.rw [ptr0 2] none = AObj.rw [ptr0 2] none ∧ true = true) ∧ Ob (AObj.rw (lgC (↑n : Int) emp) none = AObj.rw (lgC (↑n : Int) emp) none ∧ true = true) ∧ Ob (AObj.rw (maV_s6 n l c) none = AObj.rw (maV_s6 n l c) none ∧ true = true) ∧ True) ∧ Ob (Value.func (Fn.func (63 : Nat)) { toList := [] } { toList := [ptr0 3, ptr0 1] } = Value.func (Fn.func (63 : Nat)) { toList := [] } (maV_s8 n l c)) ∧ Ob (Value.slice (some (ad0 5)) (1 : Nat) n = Value.slice (some (ad0 5)) (0 : Nat) n) ∧ Ob ((↑n : Int) = (↑n : Int)) ∧ Ob (IntKind.i64.wrap ((0 : Int) + (1 : Int)) = (0 : Int)) ∧ True) ∨ ∃ (yqq : Nat), Ob ((0 : Nat) < yqq ∧ yqq ≤ n) ∧ Ob (n - yqq < (20 : Nat)) ∧ (Ob (AObj.ro (maV_s5 n l c) = AObj.ro (List.map (nmap1 (nsub (6 : Nat) (8 : Nat))) (maV_s5 n l c)) ∧ AObj.sc (7 : Nat) (AObj.ro (maV_s5 n l c)) = true) ∧ Ob (AObj.rw (maV_s10 n l c) none = AObj.rw (maV_s10 n l c) none ∧ true = true) ∧ Ob (AObj.rw (maV_s3 n l c) none = AObj.rw (vi (↑n : Int) :: T8 ((runA n (l ++ [(↑(yqq - (1 : Nat)) : Int)])).tk) [Value.slice (some { block := (8 : Nat), off := (0 : Nat), spot := some (0 : Nat) }) (l.length + (1 : Nat)) (0 : Nat), vi (runA n (l ++ [(↑(yqq - (1 : Nat)) : Int)])).slid, vi (runA n (l ++ [(↑(yqq - (1 : Nat)) : Int)])).fell]) none ∧ true = true) ∧ Ob (AObj.rw [ptr0 2] none = AObj.rw [ptr0 2] none ∧ true = true) ∧ Ob (AObj.rw (lgC (↑n : Int) emp) none = AObj.rw (lgC (↑n : Int) emp) none ∧ true = true) ∧ Ob (AObj.rw (maV_s6 n l c) none = AObj.rw (List.map (nmap1 (nsub (6 : Nat) (8 : Nat))) (List.map (Value.int IntKind.i64) (whC (mayG n l) yqq))) none ∧ AObj.sc (7 : Nat) (AObj.rw (List.map (Value.int IntKind.i64) (whC (mayG n l) yqq)) none) = true) ∧ Ob (AObj.rw (List.map (Value.int IntKind.i64) (maV_s1 n l c).lies) (some (1 : Nat)) = AObj.rw (List.map (nmap1 (nsub (6 : Nat) (8 : Nat))) (List.map (Value.int IntKind.i64) (runA n (l ++ [(↑(yqq - (1 : Nat)) : Int)])).lies)) (some (1 : Nat)) ∧ AObj.sc (7 : Nat) (AObj.rw (List.map (Value.int IntKind.i64) (runA n (l ++ [(↑(yqq - (1 : Nat)) : Int)])).lies) (some (1 : Nat))) = true) ∧ True) ∧ Ob (Value.func (Fn.func (63 : Nat)) { toList := [] } { toList := [ptr0 3, ptr0 1] } = Value.func (Fn.func (63 : Nat)) { toList := [] } (maV_s8 n l c)) ∧ Ob (Value.slice (some (ad0 5)) (1 : Nat) n = Value.slice (some (ad0 5)) (whL (mayG n l) yqq).length n) ∧ Ob ((↑n : Int) = (↑n : Int)) ∧ Ob (IntKind.i64.wrap ((0 : Int) + (1 : Int)) = (↑yqq : Int)) ∧ True)) ∧ (decide ((maV_s1 n l c).fell = (0 : Int)) = false → (∃ (y : Unit), Ob True ∧ Ob ((20 : Nat) < (20 : Nat)) ∧ (Ob (AObj.ro (maV_s5 n l c) = AObj.ro (List.map (nmap1 (nsub (6 : Nat) (8 : Nat))) (maV_s5 n l c)) ∧ AObj.sc (6 : Nat) (AObj.ro (maV_s5 n l c)) = true) ∧ Ob (AObj.rw (maV_s10 n l c) none = AObj.rw (maV_s10 n l c) none ∧ true = true) ∧ Ob (AObj.rw (maV_s3 n l c) none = AObj.rw (maV_s7 n l c) none ∧ true = true) ∧ Ob (AObj.rw [ptr0 2] none = AObj.rw [ptr0 2] none ∧ true = true) ∧ Ob (AObj.rw (lgC (↑n : Int) emp) none = AObj.rw (lgC (↑n : Int) emp) none ∧ true = true) ∧ Ob (AObj.rw (maV_s6 n l c) none = AObj.rw (maV_s6 n l c) none ∧ true = true) ∧ True) ∧ Ob (Value.func (Fn.func (63 : Nat)) { toList := [] } { toList := [ptr0 3, ptr0 1] } = Value.func (Fn.func (63 : Nat)) { toList := [] } (maV_s8 n l c)) ∧ Ob (Value.slice (some (ad0 5)) (0 : Nat) n = Value.slice (some (ad0 5)) (0 : Nat) n) ∧ Ob ((↑n : Int) = (↑n : Int)) ∧ Ob (IntKind.i64.wrap ((0 : Int) + (1 : Int)) = (0 : Int)) ∧ True) ∨ ∃ (yqqq : Nat), Ob ((0 : Nat) < yqqq ∧ yqqq ≤ n) ∧ Ob (n - yqqq < (20 : Nat)) ∧ (Ob (AObj.ro (maV_s5 n l c) = AObj.ro (List.map (nmap1 (nsub (6 : Nat) (8 : Nat))) (maV_s5 n l c)) ∧ AObj.sc (7 : Nat) (AObj.ro (maV_s5 n l c)) = true) ∧ Ob (AObj.rw (maV_s10 n l c) none = AObj.rw (maV_s10 n l c) none ∧ true = true) ∧ Ob (AObj.rw (maV_s3 n l c) none = AObj.rw (vi (↑n : Int) :: T8 ((runA n (l ++ [(↑(yqqq - (1 : Nat)) : Int)])).tk) [Value.slice (some { block := (8 : Nat), off := (0 : Nat), spot := some (0 : Nat) }) (l.length + (1 : Nat)) (0 : Nat), vi (runA n (l ++ [(↑(yqqq - (1 : Nat)) : Int)])).slid, vi (runA n (l ++ [(↑(yqqq - (1 : Nat)) : Int)])).fell]) none ∧ true = true) ∧ Ob (AObj.rw [ptr0 2] none = AObj.rw [ptr0 2] none ∧ true = true) ∧ Ob (AObj.rw (lgC (↑n : Int) emp) none = AObj.rw (lgC (↑n : Int) emp) none ∧ true = true) ∧ Ob (AObj.rw (maV_s6 n l c) none = AObj.rw (List.map (nmap1 (nsub (6 : Nat) (8 : Nat))) (List.map (Value.int IntKind.i64) (whC (mayG n l) yqqq))) none ∧ AObj.sc (7 : Nat) (AObj.rw (List.map (Value.int IntKind.i64) (whC (mayG n l) yqqq)) none) = true) ∧ Ob (AObj.rw (List.map (Value.int IntKind.i64) (maV_s1 n l c).lies) (some (1 : Nat)) = AObj.rw (List.map (nmap1 (nsub (6 : Nat) (8 : Nat))) (List.map (Value.int IntKind.i64) (runA n (l ++ [(↑(yqqq - (1 : Nat)) : Int)])).lies)) (some (1 : Nat)) ∧ AObj.sc (7 : Nat) (AObj.rw (List.map (Value.int IntKind.i64) (runA n (l ++ [(↑(yqqq - (1 : Nat)) : Int)])).lies) (some (1 : Nat))) = true) ∧ True) ∧ Ob (Value.func (Fn.func (63 : Nat)) { toList := [] } { toList := [ptr0 3, ptr0 1] } = Value.func (Fn.func (63 : Nat)) { toList := [] } (maV_s8 n l c)) ∧ Ob (Value.slice (some (ad0 5)) (0 : Nat) n = Value.slice (some (ad0 5)) (whL (mayG n l) yqqq).length n) ∧ Ob ((↑n : Int) = (↑n : Int)) ∧ Ob (IntKind.i64.wrap ((0 : Int) + (1 : Int)) = (↑yqqq : Int)) ∧ True)) ∧ (decide ((0 : Int) < (↑n : Int)) = false → Ob ((0 : Int) ≤ IntKind.i64.wrap (↑(0 : Nat) : Int) ∧ IntKind.i64.wrap (↑(0 : Nat) : Int) ≤ IntKind.i64.wrap (↑(0 : Nat) : Int) ∧ (↑(8 : Nat) : Int) * IntKind.i64.wrap (↑(0 : Nat) : Int) ≤ (281474976710656 : Int)) ∧ Ob (andP (some ((0 : Nat) ≤ (8 : Nat) ∧ true = true)) ((0 : Nat) + (0 : Nat) ≤ (0 : Nat) ∧ true = true)) ∧ (Ob (AObj.ro (maV_s5 n l c) = AObj.ro (List.map (nmap1 (nsub (1 : Nat) (7 : Nat))) (maV_s5 n l c)) ∧ AObj.sc (2 : Nat) (AObj.ro (maV_s5 n l c)) = true) ∧ False) ∧ Ob (Value.tuple { toList := [Value.slice (some (ad0 6)) (0 : Nat) (0 : Nat), vi (0 : Int)] } = Value.tuple (maV_s16 n l c)) ∧ True)) ∧ ∀ (xq : Nat), Ob ((0 : Nat) < xq ∧ xq ≤ n) → (decide ((↑xq : Int) < (↑n : Int)) = true → Ob (l.length ≤ c ∧ ((0 : Int) ≤ (↑l.length : Int) ∧ (↑l.length : Int) ≤ (↑c : Int)) ∧ (0 : Int) ≤ (↑l.length : Int) ∧ (↑l.length : Int) ≤ (↑(↑l.length : Int).toNat : Int)) ∧ Ob (andP (some (maV_s11 n l c)) ¬(↑l.length : Int).toNat + (1 : Nat) ≤ (↑l.length : Int).toNat) ∧ Ob ((List.take (maV_s18 n l c) (List.drop (0 : Nat) (maV_s13 n l c xq)) = List.map (Value.int IntKind.i64) (List.take (maV_s18 n l c) (List.drop (0 : Nat) (intsOf (maV_s13 n l c xq)))) ∧ (0 : Nat) + (maV_s18 n l c) ≤ (maV_s13 n l c xq).length ∧ true = true) ∧ (maV_s2 n l c xq) = (vi (fN (maV_s2 n l c xq)) :: T8 (fT (maV_s2 n l c xq)) [Value.slice (some { block := (6 : Nat), off := (0 : Nat), spot := some (0 : Nat) }) (l.length + (1 : Nat)) (0 : Nat), vi (fS (maV_s2 n l c xq)), vi (fF (maV_s2 n l c xq))]) ∧ List.map (Value.int IntKind.i64) (runA n (l ++ [(↑(xq - (1 : Nat)) : Int)])).lies = List.map (Value.int IntKind.i64) (intsOf (List.map (Value.int IntKind.i64) (runA n (l ++ [(↑(xq - (1 : Nat)) : Int)])).lies)) ∧ errD (fN (maV_s2 n l c xq)) (List.take (maV_s18 n l c) (List.drop (0 : Nat) (intsOf (maV_s13 n l c xq)))) = (0 : Int) ∧ (0 : Nat) < (List.take (maV_s18 n l c) (List.drop (0 : Nat) (intsOf (maV_s13 n l c xq)))).length ∧ some (8 : Nat) ≠ some (2 : Nat) ∧ some (8 : Nat) ≠ some (6 : Nat) ∧ (2 : Nat) ≠ (6 : Nat)) ∧ (decide ((maV_s0 n l c xq).fell = (0 : Int)) = true → Ob (andP (some ((0 : Nat) + (1 : Nat) ≤ (1 : Nat) ∧ true = true)) ((whL (mayG n l) xq).length + (1 : Nat) ≤ (1099511627776 : Nat) ∧ ((2 : Nat) * ((whL (mayG n l) xq).length + (1 : Nat)) + (256 : Nat)) * (8 : Nat) ≤ (281474976710656 : Nat) ∧ (1 : Nat) = (1 : Nat) ∧ (1 : Nat) = (1 : Nat) ∧ (whL (mayG n l) xq).length + (1 : Nat) ≤ n ∧ (0 : Nat) < (1 : Nat) ∧ (0 : Nat) + (whL (mayG n l) xq).length * (1 : Nat) + (1 : Nat) ≤ (maV_s17 n l c xq).length ∧ true = true)) ∧ ((∃ (y : Unit), Ob True ∧ Ob ((20 : Nat) < n - xq) ∧ (Ob (AObj.ro (maV_s5 n l c) = AObj.ro (List.map (nmap1 (nsub (6 : Nat) (9 : Nat))) (maV_s5 n l c)) ∧ AObj.sc (6 : Nat) (AObj.ro (maV_s5 n l c)) = true) ∧ Ob (AObj.rw (maV_s10 n l c) none = AObj.rw (maV_s10 n l c) none ∧ true = true) ∧ Ob (AObj.rw (maV_s4 n l c xq) none = AObj.rw (maV_s7 n l c) none ∧ true = true) ∧ Ob (AObj.rw [ptr0 2] none = AObj.rw [ptr0 2] none ∧ true = true) ∧ Ob (AObj.rw (lgC (↑n : Int) emp) none = AObj.rw (lgC (↑n : Int) emp) none ∧ true = true) ∧ Ob (AObj.rw (putL (maV_s17 n l c xq) ((0 : Nat) + (whL (mayG n l) xq).length * (1 : Nat)) [vi (↑xq : Int)]) none = AObj.rw (maV_s6 n l c) none ∧ true = true) ∧ True) ∧ Ob (Value.func (Fn.func (63 : Nat)) { toList := [] } { toList := [ptr0 3, ptr0 1] } = Value.func (Fn.func (63 : Nat)) { toList := [] } (maV_s9 n l c)) ∧ Ob (Value.slice (some (ad0 5)) ((whL (mayG n l) xq).length + (1 : Nat)) n = Value.slice (some (ad0 5)) (0 : Nat) n) ∧ Ob ((↑n : Int) = (↑n : Int)) ∧ Ob (IntKind.i64.wrap ((↑xq : Int) + (1 : Int)) = (0 : Int)) ∧ True) ∨ ∃ (yqqqq : Nat), Ob ((0 : Nat) < yqqqq ∧ yqqqq ≤ n) ∧ Ob (n - yqqqq < n - xq) ∧ (Ob (AObj.ro (maV_s5 n l c) = AObj.ro (List.map (nmap1 (nsub (6 : Nat) (9 : Nat))) (maV_s5 n l c)) ∧ AObj.sc (7 : Nat) (AObj.ro (maV_s5 n l c)) = true) ∧ Ob (AObj.rw (maV_s10 n l c) none = AObj.rw (maV_s10 n l c) none ∧ true = true) ∧ Ob (AObj.rw (maV_s4 n l c xq) none = AObj.rw (vi (↑n : Int) :: T8 ((runA n (l ++ [(↑(yqqqq - (1 : Nat)) : Int)])).tk) [Value.slice (some { block := (9 : Nat), off := (0 : Nat), spot := some (0 : Nat) }) (l.length + (1 : Nat)) (0 : Nat), vi (runA n (l ++ [(↑(yqqqq - (1 : Nat)) : Int)])).slid, vi (runA n (l ++ [(↑(yqqqq - (1 : Nat)) : Int)])).fell]) none ∧ true = true) ∧ Ob (AObj.rw [ptr0 2] none = AObj.rw [ptr0 2] none ∧ true = true) ∧ Ob (AObj.rw (lgC (↑n : Int) emp) none = AObj.rw (lgC (↑n : Int) emp) none ∧ true = true) ∧ Ob (AObj.rw (putL (maV_s17 n l c xq) ((0 : Nat) + (whL (mayG n l) xq).length * (1 : Nat)) [vi (↑xq : Int)]) none = AObj.rw (List.map (nmap1 (nsub (6 : Nat) (9 : Nat))) (List.map (Value.int IntKind.i64) (whC (mayG n l) yqqqq))) none ∧ AObj.sc (7 : Nat) (AObj.rw (List.map (Value.int IntKind.i64) (whC (mayG n l) yqqqq)) none) = true) ∧ Ob (AObj.rw (List.map (Value.int IntKind.i64) (maV_s0 n l c xq).lies) (some (1 : Nat)) = AObj.rw (List.map (nmap1 (nsub (6 : Nat) (9 : Nat))) (List.map (Value.int IntKind.i64) (runA n (l ++ [(↑(yqqqq - (1 : Nat)) : Int)])).lies)) (some (1 : Nat)) ∧ AObj.sc (7 : Nat) (AObj.rw (List.map (Value.int IntKind.i64) (runA n (l ++ [(↑(yqqqq - (1 : Nat)) : Int)])).lies) (some (1 : Nat))) = true) ∧ True) ∧ Ob (Value.func (Fn.func (63 : Nat)) { toList := [] } { toList := [ptr0 3, ptr0 1] } = Value.func (Fn.func (63 : Nat)) { toList := [] } (maV_s9 n l c)) ∧ Ob (Value.slice (some (ad0 5)) ((whL (mayG n l) xq).length + (1 : Nat)) n = Value.slice (some (ad0 5)) (whL (mayG n l) yqqqq).length n) ∧ Ob ((↑n : Int) = (↑n : Int)) ∧ Ob (IntKind.i64.wrap ((↑xq : Int) + (1 : Int)) = (↑yqqqq : Int)) ∧ True)) ∧ (decide ((maV_s0 n l c xq).fell = (0 : Int)) = false → (∃ (y : Unit), Ob True ∧ Ob ((20 : Nat) < n - xq) ∧ (Ob (AObj.ro (maV_s5 n l c) = AObj.ro (List.map (nmap1 (nsub (6 : Nat) (9 : Nat))) (maV_s5 n l c)) ∧ AObj.sc (6 : Nat) (AObj.ro (maV_s5 n l c)) = true) ∧ Ob (AObj.rw (maV_s10 n l c) none = AObj.rw (maV_s10 n l c) none ∧ true = true) ∧ Ob (AObj.rw (maV_s4 n l c xq) none = AObj.rw (maV_s7 n l c) none ∧ true = true) ∧ Ob (AObj.rw [ptr0 2] none = AObj.rw [ptr0 2] none ∧ true = true) ∧ Ob (AObj.rw (lgC (↑n : Int) emp) none = AObj.rw (lgC (↑n : Int) emp) none ∧ true = true) ∧ Ob (AObj.rw (maV_s17 n l c xq) none = AObj.rw (maV_s6 n l c) none ∧ true = true) ∧ True) ∧ Ob (Value.func (Fn.func (63 : Nat)) { toList := [] } { toList := [ptr0 3, ptr0 1] } = Value.func (Fn.func (63 : Nat)) { toList := [] } (maV_s9 n l c)) ∧ Ob (Value.slice (some (ad0 5)) (whL (mayG n l) xq).length n = Value.slice (some (ad0 5)) (0 : Nat) n) ∧ Ob ((↑n : Int) = (↑n : Int)) ∧ Ob (IntKind.i64.wrap ((↑xq : Int) + (1 : Int)) = (0 : Int)) ∧ True) ∨ ∃ (yqqqqq : Nat), Ob ((0 : Nat) < yqqqqq ∧ yqqqqq ≤ n) ∧ Ob (n - yqqqqq < n - xq) ∧ (Ob (AObj.ro (maV_s5 n l c) = AObj.ro (List.map (nmap1 (nsub (6 : Nat) (9 : Nat))) (maV_s5 n l c)) ∧ AObj.sc (7 : Nat) (AObj.ro (maV_s5 n l c)) = true) ∧ Ob (AObj.rw (maV_s10 n l c) none = AObj.rw (maV_s10 n l c) none ∧ true = true) ∧ Ob (AObj.rw (maV_s4 n l c xq) none = AObj.rw (vi (↑n : Int) :: T8 ((runA n (l ++ [(↑(yqqqqq - (1 : Nat)) : Int)])).tk) [Value.slice (some { block := (9 : Nat), off := (0 : Nat), spot := some (0 : Nat) }) (l.length + (1 : Nat)) (0 : Nat), vi (runA n (l ++ [(↑(yqqqqq - (1 : Nat)) : Int)])).slid, vi (runA n (l ++ [(↑(yqqqqq - (1 : Nat)) : Int)])).fell]) none ∧ true = true) ∧ Ob (AObj.rw [ptr0 2] none = AObj.rw [ptr0 2] none ∧ true = true) ∧ Ob (AObj.rw (lgC (↑n : Int) emp) none = AObj.rw (lgC (↑n : Int) emp) none ∧ true = true) ∧ Ob (AObj.rw (maV_s17 n l c xq) none = AObj.rw (List.map (nmap1 (nsub (6 : Nat) (9 : Nat))) (List.map (Value.int IntKind.i64) (whC (mayG n l) yqqqqq))) none ∧ AObj.sc (7 : Nat) (AObj.rw (List.map (Value.int IntKind.i64) (whC (mayG n l) yqqqqq)) none) = true) ∧ Ob (AObj.rw (List.map (Value.int IntKind.i64) (maV_s0 n l c xq).lies) (some (1 : Nat)) = AObj.rw (List.map (nmap1 (nsub (6 : Nat) (9 : Nat))) (List.map (Value.int IntKind.i64) (runA n (l ++ [(↑(yqqqqq - (1 : Nat)) : Int)])).lies)) (some (1 : Nat)) ∧ AObj.sc (7 : Nat) (AObj.rw (List.map (Value.int IntKind.i64) (runA n (l ++ [(↑(yqqqqq - (1 : Nat)) : Int)])).lies) (some (1 : Nat))) = true) ∧ True) ∧ Ob (Value.func (Fn.func (63 : Nat)) { toList := [] } { toList := [ptr0 3, ptr0 1] } = Value.func (Fn.func (63 : Nat)) { toList := [] } (maV_s9 n l c)) ∧ Ob (Value.slice (some (ad0 5)) (whL (mayG n l) xq).length n = Value.slice (some (ad0 5)) (whL (mayG n l) yqqqqq).length n) ∧ Ob ((↑n : Int) = (↑n : Int)) ∧ Ob (IntKind.i64.wrap ((↑xq : Int) + (1 : Int)) = (↑yqqqqq : Int)) ∧ True)) ∧ (decide ((↑xq : Int) < (↑n : Int)) = false → Ob ((0 : Int) ≤ IntKind.i64.wrap (↑(whL (mayG n l) xq).length : Int) ∧ IntKind.i64.wrap (↑(whL (mayG n l) xq).length : Int) ≤ IntKind.i64.wrap (↑(whL (mayG n l) xq).length : Int) ∧ (↑(8 : Nat) : Int) * IntKind.i64.wrap (↑(whL (mayG n l) xq).length : Int) ≤ (281474976710656 : Int)) ∧ Ob (andP (some ((0 : Nat) + (whL (mayG n l) xq).length.min (maV_s19 n l c xq).toNat * (1 : Nat) ≤ (maV_s17 n l c xq).length ∧ true = true)) ((0 : Nat) + (maV_s12 n l c xq).length ≤ (List.replicate (maV_s19 n l c xq).toNat (vi (0 : Int))).length ∧ (maV_s12 n l c xq).all (sc1 (8 : Nat)) = true)) ∧ (Ob (AObj.ro (maV_s5 n l c) = AObj.ro (List.map (nmap1 (nsub (1 : Nat) (7 : Nat))) (maV_s5 n l c)) ∧ AObj.sc (2 : Nat) (AObj.ro (maV_s5 n l c)) = true) ∧ Ob (AObj.rw (putL (List.replicate (maV_s19 n l c xq).toNat (vi (0 : Int))) (0 : Nat) (maV_s12 n l c xq)) none = AObj.rw (List.map (nmap1 (nsub (1 : Nat) (7 : Nat))) (List.map (Value.int IntKind.i64) (whL (mayG n l) n))) none ∧ AObj.sc (2 : Nat) (AObj.rw (List.map (Value.int IntKind.i64) (whL (mayG n l) n)) none) = true) ∧ True) ∧ Ob (Value.tuple { toList := [Value.slice (some (ad0 7)) (maV_s19 n l c xq).toNat (maV_s19 n l c xq).toNat, vi (0 : Int)] } = Value.tuple (maV_s16 n l c)) ∧ True))
theorem maV_eq : maV = fun (n : Nat) (l : List Int) (c : Nat) => vc Try.prog (maE n l 1) 1 22 true (fun _ => none) maB [] (argFr 0 [vi n, .slice (some ⟨0,0,none⟩) l.length c]) [ros l] (retR Try.prog Try.f30 1 (nsub 1 7) (.tuple #[madeS 1 (whL (mayG n l) n).length, vi 0]) [ros l, madeA (whL (mayG n l) n)]) := by kernel_rfl
noncomputable def maN_s0 (n : Nat) (xq : Nat) := (vi (↑n : Int) :: T8 ((runA n [(↑(xq - (1 : Nat)) : Int)]).tk) [Value.slice (some { block := (5 : Nat), off := (0 : Nat), spot := some (0 : Nat) }) (1 : Nat) (0 : Nat), vi (runA n [(↑(xq - (1 : Nat)) : Int)]).slid, vi (runA n [(↑(xq - (1 : Nat)) : Int)]).fell])
noncomputable def maN_s1 (n : Nat) := (vi (↑n : Int) :: T8 emp [Value.slice none (0 : Nat) (0 : Nat), vi (0 : Int), vi (0 : Int)])
noncomputable def maN_s2 (n : Nat) : List Value := [vi (0 : Int), vi (0 : Int), vi (0 : Int), vi (0 : Int), vi (0 : Int), vi (0 : Int), vi (0 : Int), vi (0 : Int)]
noncomputable def maN_s3 (n : Nat) (xq : Nat) := (vi (fN (maN_s0 n xq)) :: T8 ((runA (fN (maN_s0 n xq)).toNat [intOf (vi (↑xq : Int))]).tk) [Value.slice (some { block := (8 : Nat), off := (0 : Nat), spot := some (0 : Nat) }) (1 : Nat) (0 : Nat), vi (runA (fN (maN_s0 n xq)).toNat [intOf (vi (↑xq : Int))]).slid, vi (runA (fN (maN_s0 n xq)).toNat [intOf (vi (↑xq : Int))]).fell])
noncomputable def maN_s4 (n : Nat) := (vi (fN (maN_s1 n)) :: T8 ((runA (fN (maN_s1 n)).toNat [intOf (vi (0 : Int))]).tk) [Value.slice (some { block := (7 : Nat), off := (0 : Nat), spot := some (0 : Nat) }) (1 : Nat) (0 : Nat), vi (runA (fN (maN_s1 n)).toNat [intOf (vi (0 : Int))]).slid, vi (runA (fN (maN_s1 n)).toNat [intOf (vi (0 : Int))]).fell])
noncomputable def maN_s5 (n : Nat) : List Value := [Value.slice none (0 : Nat) (0 : Nat)]
noncomputable def maN_s6 (n : Nat) (xq : Nat) := (List.take ((whL (mayG n []) xq).length.min (IntKind.i64.wrap (↑(whL (mayG n []) xq).length : Int)).toNat * (1 : Nat)) (List.drop (0 : Nat) (List.map (Value.int IntKind.i64) (whC (mayG n []) xq))))
noncomputable def maN_s7 (n : Nat) : Array Value := { toList := [Value.pointer (some { block := nsub (5 : Nat) (7 : Nat) (2 : Nat), off := (0 : Nat), spot := none }), ptr0 0] }
noncomputable def maN_s8 (n : Nat) : Array Value := { toList := [Value.pointer (some { block := nsub (5 : Nat) (8 : Nat) (2 : Nat), off := (0 : Nat), spot := none }), ptr0 0] }
noncomputable def maN_s9 (n : Nat) (xq : Nat) := (List.map (Value.int IntKind.i64) (whC (mayG n []) xq))
noncomputable def maN_s10 (n : Nat) := (andP (some ((0 : Nat) + (1 : Nat) ≤ (1 : Nat) ∧ true = true)) ((1 : Nat) ≤ (1099511627776 : Nat) ∧ (2064 : Nat) ≤ (281474976710656 : Nat) ∧ (1 : Nat) = (1 : Nat) ∧ (0 : Nat) = (0 : Nat) ∧ (0 : Nat) < (1 : Nat)))
noncomputable def maN_s11 (n : Nat) : Array Value := { toList := [Value.slice (some (ad0 6)) (whL (mayG n []) n).length (whL (mayG n []) n).length, vi (0 : Int)] }
noncomputable def maN_s12 (n : Nat) (xq : Nat) := (↑(whL (mayG n []) xq).length : Int)
noncomputable def maN_s13 (n : Nat) (xq : Nat) := (runA (fN (maN_s0 n xq)).toNat [intOf (vi (↑xq : Int))])
noncomputable def maN :=
fun (n : Nat) ↦ Ob (errD (Arg.plain (vi (↑n : Int))).num [] = (0 : Int)) ∧ (false = true → False ∧ Ob (Value.tuple { toList := [Value.slice none (0 : Nat) (0 : Nat), vi (0 : Int)] } = Value.tuple (maN_s11 n)) ∧ True) ∧ (false = false → Ob ((0 : Nat) + (1 : Nat) ≤ (1 : Nat)) ∧ Ob (some (vi (↑n : Int)) = some (vi (↑n : Int))) ∧ Ob (((0 : Int) ≤ (↑n : Int) ∧ (↑n : Int) ≤ (↑(8 : Nat) : Int)) ∧ (0 : Int) ≤ (0 : Int) ∧ (0 : Int) ≤ (↑(↑n : Int).toNat : Int)) ∧ Ob (some (vi (↑n : Int)) = some (vi (↑n : Int))) ∧ ((∃ (y : Unit), Ob True ∧ (Ob (AObj.rw (maN_s5 n) none = AObj.rw (maN_s5 n) none ∧ true = true) ∧ Ob (AObj.rw (maN_s1 n) none = AObj.rw (maN_s1 n) none ∧ true = true) ∧ Ob (AObj.rw [ptr0 1] none = AObj.rw [ptr0 1] none ∧ true = true) ∧ Ob (AObj.rw (lgC (↑n : Int) emp) none = AObj.rw (lgC (↑n : Int) emp) none ∧ true = true) ∧ Ob (AObj.rw (maN_s2 n) none = AObj.rw (maN_s2 n) none ∧ true = true) ∧ True) ∧ Ob (Value.func (Fn.func (63 : Nat)) { toList := [] } { toList := [ptr0 2, ptr0 0] } = Value.func (Fn.func (63 : Nat)) { toList := [] } { toList := [ptr0 2, ptr0 0] }) ∧ Ob (Value.slice (some (ad0 4)) (0 : Nat) (↑n : Int).toNat = Value.slice (some (ad0 4)) (0 : Nat) n) ∧ Ob ((↑n : Int) = (↑n : Int)) ∧ Ob ((0 : Int) = (0 : Int)) ∧ True) ∨ ∃ (yq : Nat), Ob ((0 : Nat) < yq ∧ yq ≤ n) ∧ (Ob (AObj.rw (maN_s5 n) none = AObj.rw (maN_s5 n) none ∧ true = true) ∧ Ob (AObj.rw (maN_s1 n) none = AObj.rw (vi (↑n : Int) :: T8 ((runA n [(↑(yq - (1 : Nat)) : Int)]).tk) [Value.slice (some { block := (5 : Nat), off := (0 : Nat), spot := some (0 : Nat) }) (1 : Nat) (0 : Nat), vi (runA n [(↑(yq - (1 : Nat)) : Int)]).slid, vi (runA n [(↑(yq - (1 : Nat)) : Int)]).fell]) none ∧ true = true) ∧ Ob (AObj.rw [ptr0 1] none = AObj.rw [ptr0 1] none ∧ true = true) ∧ Ob (AObj.rw (lgC (↑n : Int) emp) none = AObj.rw (lgC (↑n : Int) emp) none ∧ true = true) ∧ Ob (AObj.rw (maN_s2 n) none = AObj.rw (List.map (nmap1 fun (b : Nat) ↦ b) (List.map (Value.int IntKind.i64) (whC (mayG n []) yq))) none ∧ AObj.sc (6 : Nat) (AObj.rw (List.map (Value.int IntKind.i64) (whC (mayG n []) yq)) none) = true) ∧ False) ∧ Ob (Value.func (Fn.func (63 : Nat)) { toList := [] } { toList := [ptr0 2, ptr0 0] } = Value.func (Fn.func (63 : Nat)) { toList := [] } { toList := [ptr0 2, ptr0 0] }) ∧ Ob (Value.slice (some (ad0 4)) (0 : Nat) (↑n : Int).toNat = Value.slice (some (ad0 4)) (whL (mayG n []) yq).length n) ∧ Ob ((↑n : Int) = (↑n : Int)) ∧ Ob ((0 : Int) = (↑yq : Int)) ∧ True) ∧ (∀ (x : Unit), Ob True → (decide ((0 : Int) < (↑n : Int)) = true → Ob (maN_s10 n) ∧ Ob (([vi (0 : Int)] = [vi (intOf (vi (0 : Int)))] ∧ (0 : Nat) + (1 : Nat) ≤ (1 : Nat) ∧ true = true) ∧ (maN_s1 n) = (vi (fN (maN_s1 n)) :: T8 emp [Value.slice none (0 : Nat) (0 : Nat), vi (fS (maN_s1 n)), vi (fF (maN_s1 n))]) ∧ errD (fN (maN_s1 n)) [intOf (vi (0 : Int))] = (0 : Int) ∧ (0 : Nat) < (1 : Nat) ∧ some (6 : Nat) ≠ some (1 : Nat)) ∧ (decide ((runA (fN (maN_s1 n)).toNat [intOf (vi (0 : Int))]).fell = (0 : Int)) = true → Ob (andP (some ((0 : Nat) + (1 : Nat) ≤ (1 : Nat) ∧ true = true)) ((1 : Nat) ≤ (1099511627776 : Nat) ∧ (2064 : Nat) ≤ (281474976710656 : Nat) ∧ (1 : Nat) = (1 : Nat) ∧ (1 : Nat) = (1 : Nat) ∧ (1 : Nat) ≤ n ∧ (0 : Nat) < (1 : Nat) ∧ (0 : Nat) + (1 : Nat) ≤ (8 : Nat) ∧ true = true)) ∧ ((∃ (y : Unit), Ob True ∧ Ob ((20 : Nat) < (20 : Nat)) ∧ (Ob (AObj.rw (maN_s5 n) none = AObj.rw (maN_s5 n) none ∧ true = true) ∧ Ob (AObj.rw (maN_s4 n) none = AObj.rw (maN_s1 n) none ∧ true = true) ∧ Ob (AObj.rw [ptr0 1] none = AObj.rw [ptr0 1] none ∧ true = true) ∧ Ob (AObj.rw (lgC (↑n : Int) emp) none = AObj.rw (lgC (↑n : Int) emp) none ∧ true = true) ∧ Ob (AObj.rw (maN_s2 n) none = AObj.rw (maN_s2 n) none ∧ true = true) ∧ True) ∧ Ob (Value.func (Fn.func (63 : Nat)) { toList := [] } { toList := [ptr0 2, ptr0 0] } = Value.func (Fn.func (63 : Nat)) { toList := [] } (maN_s7 n)) ∧ Ob (Value.slice (some (ad0 4)) (1 : Nat) n = Value.slice (some (ad0 4)) (0 : Nat) n) ∧ Ob ((↑n : Int) = (↑n : Int)) ∧ Ob (IntKind.i64.wrap ((0 : Int) + (1 : Int)) = (0 : Int)) ∧ True) ∨ ∃ (yqq : Nat), Ob ((0 : Nat) < yqq ∧ yqq ≤ n) ∧ Ob (n - yqq < (20 : Nat)) ∧ (Ob (AObj.rw (maN_s5 n) none = AObj.rw (maN_s5 n) none ∧ true = true) ∧ Ob (AObj.rw (maN_s4 n) none = AObj.rw (vi (↑n : Int) :: T8 ((runA n [(↑(yqq - (1 : Nat)) : Int)]).tk) [Value.slice (some { block := (7 : Nat), off := (0 : Nat), spot := some (0 : Nat) }) (1 : Nat) (0 : Nat), vi (runA n [(↑(yqq - (1 : Nat)) : Int)]).slid, vi (runA n [(↑(yqq - (1 : Nat)) : Int)]).fell]) none ∧ true = true) ∧ Ob (AObj.rw [ptr0 1] none = AObj.rw [ptr0 1] none ∧ true = true) ∧ Ob (AObj.rw (lgC (↑n : Int) emp) none = AObj.rw (lgC (↑n : Int) emp) none ∧ true = true) ∧ Ob (AObj.rw (maN_s2 n) none = AObj.rw (List.map (nmap1 (nsub (5 : Nat) (7 : Nat))) (List.map (Value.int IntKind.i64) (whC (mayG n []) yqq))) none ∧ AObj.sc (6 : Nat) (AObj.rw (List.map (Value.int IntKind.i64) (whC (mayG n []) yqq)) none) = true) ∧ Ob (AObj.rw (List.map (Value.int IntKind.i64) (runA (fN (maN_s1 n)).toNat [intOf (vi (0 : Int))]).lies) (some (1 : Nat)) = AObj.rw (List.map (nmap1 (nsub (5 : Nat) (7 : Nat))) (List.map (Value.int IntKind.i64) (runA n [(↑(yqq - (1 : Nat)) : Int)]).lies)) (some (1 : Nat)) ∧ AObj.sc (6 : Nat) (AObj.rw (List.map (Value.int IntKind.i64) (runA n [(↑(yqq - (1 : Nat)) : Int)]).lies) (some (1 : Nat))) = true) ∧ True) ∧ Ob (Value.func (Fn.func (63 : Nat)) { toList := [] } { toList := [ptr0 2, ptr0 0] } = Value.func (Fn.func (63 : Nat)) { toList := [] } (maN_s7 n)) ∧ Ob (Value.slice (some (ad0 4)) (1 : Nat) n = Value.slice (some (ad0 4)) (whL (mayG n []) yqq).length n) ∧ Ob ((↑n : Int) = (↑n : Int)) ∧ Ob (IntKind.i64.wrap ((0 : Int) + (1 : Int)) = (↑yqq : Int)) ∧ True)) ∧ (decide ((runA (fN (maN_s1 n)).toNat [intOf (vi (0 : Int))]).fell = (0 : Int)) = false → (∃ (y : Unit), Ob True ∧ Ob ((20 : Nat) < (20 : Nat)) ∧ (Ob (AObj.rw (maN_s5 n) none = AObj.rw (maN_s5 n) none ∧ true = true) ∧ Ob (AObj.rw (maN_s4 n) none = AObj.rw (maN_s1 n) none ∧ true = true) ∧ Ob (AObj.rw [ptr0 1] none = AObj.rw [ptr0 1] none ∧ true = true) ∧ Ob (AObj.rw (lgC (↑n : Int) emp) none = AObj.rw (lgC (↑n : Int) emp) none ∧ true = true) ∧ Ob (AObj.rw (maN_s2 n) none = AObj.rw (maN_s2 n) none ∧ true = true) ∧ True) ∧ Ob (Value.func (Fn.func (63 : Nat)) { toList := [] } { toList := [ptr0 2, ptr0 0] } = Value.func (Fn.func (63 : Nat)) { toList := [] } (maN_s7 n)) ∧ Ob (Value.slice (some (ad0 4)) (0 : Nat) n = Value.slice (some (ad0 4)) (0 : Nat) n) ∧ Ob ((↑n : Int) = (↑n : Int)) ∧ Ob (IntKind.i64.wrap ((0 : Int) + (1 : Int)) = (0 : Int)) ∧ True) ∨ ∃ (yqqq : Nat), Ob ((0 : Nat) < yqqq ∧ yqqq ≤ n) ∧ Ob (n - yqqq < (20 : Nat)) ∧ (Ob (AObj.rw (maN_s5 n) none = AObj.rw (maN_s5 n) none ∧ true = true) ∧ Ob (AObj.rw (maN_s4 n) none = AObj.rw (vi (↑n : Int) :: T8 ((runA n [(↑(yqqq - (1 : Nat)) : Int)]).tk) [Value.slice (some { block := (7 : Nat), off := (0 : Nat), spot := some (0 : Nat) }) (1 : Nat) (0 : Nat), vi (runA n [(↑(yqqq - (1 : Nat)) : Int)]).slid, vi (runA n [(↑(yqqq - (1 : Nat)) : Int)]).fell]) none ∧ true = true) ∧ Ob (AObj.rw [ptr0 1] none = AObj.rw [ptr0 1] none ∧ true = true) ∧ Ob (AObj.rw (lgC (↑n : Int) emp) none = AObj.rw (lgC (↑n : Int) emp) none ∧ true = true) ∧ Ob (AObj.rw (maN_s2 n) none = AObj.rw (List.map (nmap1 (nsub (5 : Nat) (7 : Nat))) (List.map (Value.int IntKind.i64) (whC (mayG n []) yqqq))) none ∧ AObj.sc (6 : Nat) (AObj.rw (List.map (Value.int IntKind.i64) (whC (mayG n []) yqqq)) none) = true) ∧ Ob (AObj.rw (List.map (Value.int IntKind.i64) (runA (fN (maN_s1 n)).toNat [intOf (vi (0 : Int))]).lies) (some (1 : Nat)) = AObj.rw (List.map (nmap1 (nsub (5 : Nat) (7 : Nat))) (List.map (Value.int IntKind.i64) (runA n [(↑(yqqq - (1 : Nat)) : Int)]).lies)) (some (1 : Nat)) ∧ AObj.sc (6 : Nat) (AObj.rw (List.map (Value.int IntKind.i64) (runA n [(↑(yqqq - (1 : Nat)) : Int)]).lies) (some (1 : Nat))) = true) ∧ True) ∧ Ob (Value.func (Fn.func (63 : Nat)) { toList := [] } { toList := [ptr0 2, ptr0 0] } = Value.func (Fn.func (63 : Nat)) { toList := [] } (maN_s7 n)) ∧ Ob (Value.slice (some (ad0 4)) (0 : Nat) n = Value.slice (some (ad0 4)) (whL (mayG n []) yqqq).length n) ∧ Ob ((↑n : Int) = (↑n : Int)) ∧ Ob (IntKind.i64.wrap ((0 : Int) + (1 : Int)) = (↑yqqq : Int)) ∧ True)) ∧ (decide ((0 : Int) < (↑n : Int)) = false → Ob ((0 : Int) ≤ IntKind.i64.wrap (↑(0 : Nat) : Int) ∧ IntKind.i64.wrap (↑(0 : Nat) : Int) ≤ IntKind.i64.wrap (↑(0 : Nat) : Int) ∧ (↑(8 : Nat) : Int) * IntKind.i64.wrap (↑(0 : Nat) : Int) ≤ (281474976710656 : Int)) ∧ Ob (andP (some ((0 : Nat) ≤ (8 : Nat) ∧ true = true)) ((0 : Nat) + (0 : Nat) ≤ (0 : Nat) ∧ true = true)) ∧ False ∧ Ob (Value.tuple { toList := [Value.slice (some (ad0 5)) (0 : Nat) (0 : Nat), vi (0 : Int)] } = Value.tuple (maN_s11 n)) ∧ True)) ∧ ∀ (xq : Nat), Ob ((0 : Nat) < xq ∧ xq ≤ n) → (decide ((↑xq : Int) < (↑n : Int)) = true → Ob (maN_s10 n) ∧ Ob (([vi (↑xq : Int)] = [vi (intOf (vi (↑xq : Int)))] ∧ (0 : Nat) + (1 : Nat) ≤ (1 : Nat) ∧ true = true) ∧ (maN_s0 n xq) = (vi (fN (maN_s0 n xq)) :: T8 (fT (maN_s0 n xq)) [Value.slice (some { block := (5 : Nat), off := (0 : Nat), spot := some (0 : Nat) }) (1 : Nat) (0 : Nat), vi (fS (maN_s0 n xq)), vi (fF (maN_s0 n xq))]) ∧ List.map (Value.int IntKind.i64) (runA n [(↑(xq - (1 : Nat)) : Int)]).lies = List.map (Value.int IntKind.i64) (intsOf (List.map (Value.int IntKind.i64) (runA n [(↑(xq - (1 : Nat)) : Int)]).lies)) ∧ errD (fN (maN_s0 n xq)) [intOf (vi (↑xq : Int))] = (0 : Int) ∧ (0 : Nat) < (1 : Nat) ∧ some (7 : Nat) ≠ some (1 : Nat) ∧ some (7 : Nat) ≠ some (5 : Nat) ∧ (1 : Nat) ≠ (5 : Nat)) ∧ (decide ((maN_s13 n xq).fell = (0 : Int)) = true → Ob (andP (some ((0 : Nat) + (1 : Nat) ≤ (1 : Nat) ∧ true = true)) ((whL (mayG n []) xq).length + (1 : Nat) ≤ (1099511627776 : Nat) ∧ ((2 : Nat) * ((whL (mayG n []) xq).length + (1 : Nat)) + (256 : Nat)) * (8 : Nat) ≤ (281474976710656 : Nat) ∧ (1 : Nat) = (1 : Nat) ∧ (1 : Nat) = (1 : Nat) ∧ (whL (mayG n []) xq).length + (1 : Nat) ≤ n ∧ (0 : Nat) < (1 : Nat) ∧ (0 : Nat) + (whL (mayG n []) xq).length * (1 : Nat) + (1 : Nat) ≤ (maN_s9 n xq).length ∧ true = true)) ∧ ((∃ (y : Unit), Ob True ∧ Ob ((20 : Nat) < n - xq) ∧ (Ob (AObj.rw (maN_s5 n) none = AObj.rw (maN_s5 n) none ∧ true = true) ∧ Ob (AObj.rw (maN_s3 n xq) none = AObj.rw (maN_s1 n) none ∧ true = true) ∧ Ob (AObj.rw [ptr0 1] none = AObj.rw [ptr0 1] none ∧ true = true) ∧ Ob (AObj.rw (lgC (↑n : Int) emp) none = AObj.rw (lgC (↑n : Int) emp) none ∧ true = true) ∧ Ob (AObj.rw (putL (maN_s9 n xq) ((0 : Nat) + (whL (mayG n []) xq).length * (1 : Nat)) [vi (↑xq : Int)]) none = AObj.rw (maN_s2 n) none ∧ true = true) ∧ True) ∧ Ob (Value.func (Fn.func (63 : Nat)) { toList := [] } { toList := [ptr0 2, ptr0 0] } = Value.func (Fn.func (63 : Nat)) { toList := [] } (maN_s8 n)) ∧ Ob (Value.slice (some (ad0 4)) ((whL (mayG n []) xq).length + (1 : Nat)) n = Value.slice (some (ad0 4)) (0 : Nat) n) ∧ Ob ((↑n : Int) = (↑n : Int)) ∧ Ob (IntKind.i64.wrap ((↑xq : Int) + (1 : Int)) = (0 : Int)) ∧ True) ∨ ∃ (yqqqq : Nat), Ob ((0 : Nat) < yqqqq ∧ yqqqq ≤ n) ∧ Ob (n - yqqqq < n - xq) ∧ (Ob (AObj.rw (maN_s5 n) none = AObj.rw (maN_s5 n) none ∧ true = true) ∧ Ob (AObj.rw (maN_s3 n xq) none = AObj.rw (vi (↑n : Int) :: T8 ((runA n [(↑(yqqqq - (1 : Nat)) : Int)]).tk) [Value.slice (some { block := (8 : Nat), off := (0 : Nat), spot := some (0 : Nat) }) (1 : Nat) (0 : Nat), vi (runA n [(↑(yqqqq - (1 : Nat)) : Int)]).slid, vi (runA n [(↑(yqqqq - (1 : Nat)) : Int)]).fell]) none ∧ true = true) ∧ Ob (AObj.rw [ptr0 1] none = AObj.rw [ptr0 1] none ∧ true = true) ∧ Ob (AObj.rw (lgC (↑n : Int) emp) none = AObj.rw (lgC (↑n : Int) emp) none ∧ true = true) ∧ Ob (AObj.rw (putL (maN_s9 n xq) ((0 : Nat) + (whL (mayG n []) xq).length * (1 : Nat)) [vi (↑xq : Int)]) none = AObj.rw (List.map (nmap1 (nsub (5 : Nat) (8 : Nat))) (List.map (Value.int IntKind.i64) (whC (mayG n []) yqqqq))) none ∧ AObj.sc (6 : Nat) (AObj.rw (List.map (Value.int IntKind.i64) (whC (mayG n []) yqqqq)) none) = true) ∧ Ob (AObj.rw (List.map (Value.int IntKind.i64) (maN_s13 n xq).lies) (some (1 : Nat)) = AObj.rw (List.map (nmap1 (nsub (5 : Nat) (8 : Nat))) (List.map (Value.int IntKind.i64) (runA n [(↑(yqqqq - (1 : Nat)) : Int)]).lies)) (some (1 : Nat)) ∧ AObj.sc (6 : Nat) (AObj.rw (List.map (Value.int IntKind.i64) (runA n [(↑(yqqqq - (1 : Nat)) : Int)]).lies) (some (1 : Nat))) = true) ∧ True) ∧ Ob (Value.func (Fn.func (63 : Nat)) { toList := [] } { toList := [ptr0 2, ptr0 0] } = Value.func (Fn.func (63 : Nat)) { toList := [] } (maN_s8 n)) ∧ Ob (Value.slice (some (ad0 4)) ((whL (mayG n []) xq).length + (1 : Nat)) n = Value.slice (some (ad0 4)) (whL (mayG n []) yqqqq).length n) ∧ Ob ((↑n : Int) = (↑n : Int)) ∧ Ob (IntKind.i64.wrap ((↑xq : Int) + (1 : Int)) = (↑yqqqq : Int)) ∧ True)) ∧ (decide ((maN_s13 n xq).fell = (0 : Int)) = false → (∃ (y : Unit), Ob True ∧ Ob ((20 : Nat) < n - xq) ∧ (Ob (AObj.rw (maN_s5 n) none = AObj.rw (maN_s5 n) none ∧ true = true) ∧ Ob (AObj.rw (maN_s3 n xq) none = AObj.rw (maN_s1 n) none ∧ true = true) ∧ Ob (AObj.rw [ptr0 1] none = AObj.rw [ptr0 1] none ∧ true = true) ∧ Ob (AObj.rw (lgC (↑n : Int) emp) none = AObj.rw (lgC (↑n : Int) emp) none ∧ true = true) ∧ Ob (AObj.rw (maN_s9 n xq) none = AObj.rw (maN_s2 n) none ∧ true = true) ∧ True) ∧ Ob (Value.func (Fn.func (63 : Nat)) { toList := [] } { toList := [ptr0 2, ptr0 0] } = Value.func (Fn.func (63 : Nat)) { toList := [] } (maN_s8 n)) ∧ Ob (Value.slice (some (ad0 4)) (whL (mayG n []) xq).length n = Value.slice (some (ad0 4)) (0 : Nat) n) ∧ Ob ((↑n : Int) = (↑n : Int)) ∧ Ob (IntKind.i64.wrap ((↑xq : Int) + (1 : Int)) = (0 : Int)) ∧ True) ∨ ∃ (yqqqqq : Nat), Ob ((0 : Nat) < yqqqqq ∧ yqqqqq ≤ n) ∧ Ob (n - yqqqqq < n - xq) ∧ (Ob (AObj.rw (maN_s5 n) none = AObj.rw (maN_s5 n) none ∧ true = true) ∧ Ob (AObj.rw (maN_s3 n xq) none = AObj.rw (vi (↑n : Int) :: T8 ((runA n [(↑(yqqqqq - (1 : Nat)) : Int)]).tk) [Value.slice (some { block := (8 : Nat), off := (0 : Nat), spot := some (0 : Nat) }) (1 : Nat) (0 : Nat), vi (runA n [(↑(yqqqqq - (1 : Nat)) : Int)]).slid, vi (runA n [(↑(yqqqqq - (1 : Nat)) : Int)]).fell]) none ∧ true = true) ∧ Ob (AObj.rw [ptr0 1] none = AObj.rw [ptr0 1] none ∧ true = true) ∧ Ob (AObj.rw (lgC (↑n : Int) emp) none = AObj.rw (lgC (↑n : Int) emp) none ∧ true = true) ∧ Ob (AObj.rw (maN_s9 n xq) none = AObj.rw (List.map (nmap1 (nsub (5 : Nat) (8 : Nat))) (List.map (Value.int IntKind.i64) (whC (mayG n []) yqqqqq))) none ∧ AObj.sc (6 : Nat) (AObj.rw (List.map (Value.int IntKind.i64) (whC (mayG n []) yqqqqq)) none) = true) ∧ Ob (AObj.rw (List.map (Value.int IntKind.i64) (maN_s13 n xq).lies) (some (1 : Nat)) = AObj.rw (List.map (nmap1 (nsub (5 : Nat) (8 : Nat))) (List.map (Value.int IntKind.i64) (runA n [(↑(yqqqqq - (1 : Nat)) : Int)]).lies)) (some (1 : Nat)) ∧ AObj.sc (6 : Nat) (AObj.rw (List.map (Value.int IntKind.i64) (runA n [(↑(yqqqqq - (1 : Nat)) : Int)]).lies) (some (1 : Nat))) = true) ∧ True) ∧ Ob (Value.func (Fn.func (63 : Nat)) { toList := [] } { toList := [ptr0 2, ptr0 0] } = Value.func (Fn.func (63 : Nat)) { toList := [] } (maN_s8 n)) ∧ Ob (Value.slice (some (ad0 4)) (whL (mayG n []) xq).length n = Value.slice (some (ad0 4)) (whL (mayG n []) yqqqqq).length n) ∧ Ob ((↑n : Int) = (↑n : Int)) ∧ Ob (IntKind.i64.wrap ((↑xq : Int) + (1 : Int)) = (↑yqqqqq : Int)) ∧ True)) ∧ (decide ((↑xq : Int) < (↑n : Int)) = false → Ob ((0 : Int) ≤ IntKind.i64.wrap (maN_s12 n xq) ∧ IntKind.i64.wrap (maN_s12 n xq) ≤ IntKind.i64.wrap (maN_s12 n xq) ∧ (↑(8 : Nat) : Int) * IntKind.i64.wrap (maN_s12 n xq) ≤ (281474976710656 : Int)) ∧ Ob (andP (some ((0 : Nat) + (whL (mayG n []) xq).length.min (IntKind.i64.wrap (maN_s12 n xq)).toNat * (1 : Nat) ≤ (maN_s9 n xq).length ∧ true = true)) ((0 : Nat) + (maN_s6 n xq).length ≤ (List.replicate (IntKind.i64.wrap (maN_s12 n xq)).toNat (vi (0 : Int))).length ∧ (maN_s6 n xq).all (sc1 (7 : Nat)) = true)) ∧ (Ob (AObj.rw (putL (List.replicate (IntKind.i64.wrap (maN_s12 n xq)).toNat (vi (0 : Int))) (0 : Nat) (maN_s6 n xq)) none = AObj.rw (List.map (nmap1 (nsub (0 : Nat) (6 : Nat))) (List.map (Value.int IntKind.i64) (whL (mayG n []) n))) none ∧ AObj.sc (1 : Nat) (AObj.rw (List.map (Value.int IntKind.i64) (whL (mayG n []) n)) none) = true) ∧ True) ∧ Ob (Value.tuple { toList := [Value.slice (some (ad0 6)) (IntKind.i64.wrap (maN_s12 n xq)).toNat (IntKind.i64.wrap (maN_s12 n xq)).toNat, vi (0 : Int)] } = Value.tuple (maN_s11 n)) ∧ True))
theorem maN_eq : maN = fun (n : Nat) => vc Try.prog (maE n [] 0) 0 22 true (fun _ => none) maB [] (argFr 0 [vi n, nilS]) [] (retR Try.prog Try.f30 0 (nsub 0 6) (.tuple #[madeS 0 (whL (mayG n []) n).length, vi 0]) [madeA (whL (mayG n []) n)]) := by kernel_rfl
noncomputable def maX_s0 (n : Nat) (l : List Int) (c : Nat) (xq : Nat) := (runA (fN (vi (↑n : Int) :: T8 ((runA n (l ++ [(↑(xq - (1 : Nat)) : Int)])).tk) [Value.slice (some { block := (6 : Nat), off := (0 : Nat), spot := some (0 : Nat) }) (l.length + (1 : Nat)) (0 : Nat), vi (runA n (l ++ [(↑(xq - (1 : Nat)) : Int)])).slid, vi (runA n (l ++ [(↑(xq - (1 : Nat)) : Int)])).fell])).toNat (List.take ((↑l.length : Int).toNat + (1 : Nat)) (List.drop (0 : Nat) (intsOf (List.take ((↑l.length : Int).toNat * (1 : Nat)) (List.drop (0 : Nat) (List.map (Value.int IntKind.i64) l)) ++ [vi (↑xq : Int)])))))
noncomputable def maX_s1 (n : Nat) (l : List Int) (c : Nat) := (runA (fN (vi (↑n : Int) :: T8 emp [Value.slice none (0 : Nat) (0 : Nat), vi (0 : Int), vi (0 : Int)])).toNat (List.take ((↑l.length : Int).toNat + (1 : Nat)) (List.drop (0 : Nat) (intsOf (List.take ((↑l.length : Int).toNat * (1 : Nat)) (List.drop (0 : Nat) (List.map (Value.int IntKind.i64) l)) ++ [vi (0 : Int)])))))
noncomputable def maX_s2 (n : Nat) (l : List Int) (c : Nat) (xq : Nat) := (vi (↑n : Int) :: T8 ((runA n (l ++ [(↑(xq - (1 : Nat)) : Int)])).tk) [Value.slice (some { block := (6 : Nat), off := (0 : Nat), spot := some (0 : Nat) }) (l.length + (1 : Nat)) (0 : Nat), vi (runA n (l ++ [(↑(xq - (1 : Nat)) : Int)])).slid, vi (runA n (l ++ [(↑(xq - (1 : Nat)) : Int)])).fell])
noncomputable def maX_s3 (n : Nat) (l : List Int) (c : Nat) := (vi (fN (vi (↑n : Int) :: T8 emp [Value.slice none (0 : Nat) (0 : Nat), vi (0 : Int), vi (0 : Int)])) :: T8 ((maX_s1 n l c).tk) [Value.slice (some { block := (8 : Nat), off := (0 : Nat), spot := some (0 : Nat) }) (List.take ((↑l.length : Int).toNat + (1 : Nat)) (List.drop (0 : Nat) (intsOf (List.take ((↑l.length : Int).toNat * (1 : Nat)) (List.drop (0 : Nat) (List.map (Value.int IntKind.i64) l)) ++ [vi (0 : Int)])))).length (0 : Nat), vi (maX_s1 n l c).slid, vi (maX_s1 n l c).fell])
noncomputable def maX_s4 (n : Nat) (l : List Int) (c : Nat) (xq : Nat) := (vi (fN (maX_s2 n l c xq)) :: T8 ((maX_s0 n l c xq).tk) [Value.slice (some { block := (9 : Nat), off := (0 : Nat), spot := some (0 : Nat) }) (List.take ((↑l.length : Int).toNat + (1 : Nat)) (List.drop (0 : Nat) (intsOf (List.take ((↑l.length : Int).toNat * (1 : Nat)) (List.drop (0 : Nat) (List.map (Value.int IntKind.i64) l)) ++ [vi (↑xq : Int)])))).length (0 : Nat), vi (maX_s0 n l c xq).slid, vi (maX_s0 n l c xq).fell])
noncomputable def maX_s5 (n : Nat) (l : List Int) (c : Nat) : List Value := [vi (0 : Int), vi (0 : Int), vi (0 : Int), vi (0 : Int), vi (0 : Int), vi (0 : Int), vi (0 : Int), vi (0 : Int)]
noncomputable def maX_s6 (n : Nat) (l : List Int) (c : Nat) := (List.map (Value.int IntKind.i64) l)
noncomputable def maX_s7 (n : Nat) (l : List Int) (c : Nat) := (vi (↑n : Int) :: T8 emp [Value.slice none (0 : Nat) (0 : Nat), vi (0 : Int), vi (0 : Int)])
noncomputable def maX_s8 (n : Nat) (l : List Int) (c : Nat) : Array Value := { toList := [Value.pointer (some { block := nsub (6 : Nat) (8 : Nat) (3 : Nat), off := (0 : Nat), spot := none }), Value.pointer (some { block := nsub (6 : Nat) (8 : Nat) (1 : Nat), off := (0 : Nat), spot := none })] }
noncomputable def maX_s9 (n : Nat) (l : List Int) (c : Nat) : Array Value := { toList := [Value.pointer (some { block := nsub (6 : Nat) (9 : Nat) (3 : Nat), off := (0 : Nat), spot := none }), Value.pointer (some { block := nsub (6 : Nat) (9 : Nat) (1 : Nat), off := (0 : Nat), spot := none })] }
noncomputable def maX_s10 (n : Nat) (l : List Int) (c : Nat) : List Value := [Value.slice (some (ad0 0)) l.length c]
noncomputable def maX_s11 (n : Nat) (l : List Int) (c : Nat) := (andP (some ((0 : Nat) + (1 : Nat) ≤ (1 : Nat) ∧ true = true)) ((↑l.length : Int).toNat + (1 : Nat) ≤ (1099511627776 : Nat) ∧ ((2 : Nat) * ((↑l.length : Int).toNat + (1 : Nat)) + (256 : Nat)) * (8 : Nat) ≤ (281474976710656 : Nat) ∧ (1 : Nat) = (1 : Nat) ∧ (↑l.length : Int).toNat < (↑l.length : Int).toNat + (1 : Nat) ∧ (0 : Nat) + (↑l.length : Int).toNat * (1 : Nat) ≤ (maX_s6 n l c).length))
noncomputable def maX_s12 (n : Nat) (l : List Int) (c : Nat) (xq : Nat) := (List.take ((↑l.length : Int).toNat * (1 : Nat)) (List.drop (0 : Nat) (maX_s6 n l c)) ++ [vi (↑xq : Int)])
noncomputable def maX_s13 (n : Nat) (l : List Int) (c : Nat) := (List.take ((↑l.length : Int).toNat * (1 : Nat)) (List.drop (0 : Nat) (maX_s6 n l c)) ++ [vi (0 : Int)])
noncomputable def maX_s14 (n : Nat) (l : List Int) (c : Nat) (xq : Nat) := (List.map (Value.int IntKind.i64) (whC (mayG n l) xq))
noncomputable def maX_s15 (n : Nat) (l : List Int) (c : Nat) := (List.take l.length (List.drop (0 : Nat) (intsOf (maX_s6 n l c))))
noncomputable def maX_s16 (n : Nat) (l : List Int) (c : Nat) (xq : Nat) := (IntKind.i64.wrap (↑(whL (mayG n l) xq).length : Int))
noncomputable def maX_s17 (n : Nat) (l : List Int) (c : Nat) := ((↑l.length : Int).toNat + (1 : Nat))
noncomputable def maX :=
fun (n : Nat) (l : List Int) (c : Nat) ↦ Ob ((List.take l.length (List.drop (0 : Nat) (maX_s6 n l c)) = List.map (Value.int IntKind.i64) (maX_s15 n l c) ∧ (0 : Nat) + l.length ≤ (maX_s6 n l c).length ∧ true = true) ∧ errD (Arg.plain (vi (↑n : Int))).num (maX_s15 n l c) = (0 : Int) ∧ (0 : Nat) < (maX_s15 n l c).length) ∧ ((ledC (Arg.plain (vi (↑n : Int))).num.toNat (maX_s15 n l c) != (0 : Int)) = true → True ∧ Ob (Value.tuple { toList := [Value.slice none (0 : Nat) (0 : Nat), vi (ledC (Arg.plain (vi (↑n : Int))).num.toNat (maX_s15 n l c))] } = Value.tuple { toList := [Value.slice none (0 : Nat) (0 : Nat), vi (20 : Int)] })) ∧ ((ledC (Arg.plain (vi (↑n : Int))).num.toNat (maX_s15 n l c) != (0 : Int)) = false → Ob ((0 : Nat) + (1 : Nat) ≤ (1 : Nat)) ∧ Ob (some (vi (↑n : Int)) = some (vi (↑n : Int))) ∧ Ob (((0 : Int) ≤ (↑n : Int) ∧ (↑n : Int) ≤ (↑(8 : Nat) : Int)) ∧ (0 : Int) ≤ (0 : Int) ∧ (0 : Int) ≤ (↑(↑n : Int).toNat : Int)) ∧ Ob (some (vi (↑n : Int)) = some (vi (↑n : Int))) ∧ ((∃ (y : Unit), Ob True ∧ (Ob (AObj.ro (maX_s6 n l c) = AObj.ro (List.map (nmap1 fun (b : Nat) ↦ b) (maX_s6 n l c)) ∧ AObj.sc (6 : Nat) (AObj.ro (maX_s6 n l c)) = true) ∧ Ob (AObj.rw (maX_s10 n l c) none = AObj.rw (maX_s10 n l c) none ∧ true = true) ∧ Ob (AObj.rw (maX_s7 n l c) none = AObj.rw (maX_s7 n l c) none ∧ true = true) ∧ Ob (AObj.rw [ptr0 2] none = AObj.rw [ptr0 2] none ∧ true = true) ∧ Ob (AObj.rw (lgC (↑n : Int) emp) none = AObj.rw (lgC (↑n : Int) emp) none ∧ true = true) ∧ Ob (AObj.rw (maX_s5 n l c) none = AObj.rw (maX_s5 n l c) none ∧ true = true) ∧ True) ∧ Ob (Value.func (Fn.func (63 : Nat)) { toList := [] } { toList := [ptr0 3, ptr0 1] } = Value.func (Fn.func (63 : Nat)) { toList := [] } { toList := [ptr0 3, ptr0 1] }) ∧ Ob (Value.slice (some (ad0 5)) (0 : Nat) (↑n : Int).toNat = Value.slice (some (ad0 5)) (0 : Nat) n) ∧ Ob ((↑n : Int) = (↑n : Int)) ∧ Ob ((0 : Int) = (0 : Int)) ∧ True) ∨ ∃ (yq : Nat), Ob ((0 : Nat) < yq ∧ yq ≤ n) ∧ (Ob (AObj.ro (maX_s6 n l c) = AObj.ro (List.map (nmap1 fun (b : Nat) ↦ b) (maX_s6 n l c)) ∧ AObj.sc (7 : Nat) (AObj.ro (maX_s6 n l c)) = true) ∧ Ob (AObj.rw (maX_s10 n l c) none = AObj.rw (maX_s10 n l c) none ∧ true = true) ∧ Ob (AObj.rw (maX_s7 n l c) none = AObj.rw (vi (↑n : Int) :: T8 ((runA n (l ++ [(↑(yq - (1 : Nat)) : Int)])).tk) [Value.slice (some { block := (6 : Nat), off := (0 : Nat), spot := some (0 : Nat) }) (l.length + (1 : Nat)) (0 : Nat), vi (runA n (l ++ [(↑(yq - (1 : Nat)) : Int)])).slid, vi (runA n (l ++ [(↑(yq - (1 : Nat)) : Int)])).fell]) none ∧ true = true) ∧ Ob (AObj.rw [ptr0 2] none = AObj.rw [ptr0 2] none ∧ true = true) ∧ Ob (AObj.rw (lgC (↑n : Int) emp) none = AObj.rw (lgC (↑n : Int) emp) none ∧ true = true) ∧ Ob (AObj.rw (maX_s5 n l c) none = AObj.rw (List.map (nmap1 fun (b : Nat) ↦ b) (List.map (Value.int IntKind.i64) (whC (mayG n l) yq))) none ∧ AObj.sc (7 : Nat) (AObj.rw (List.map (Value.int IntKind.i64) (whC (mayG n l) yq)) none) = true) ∧ False) ∧ Ob (Value.func (Fn.func (63 : Nat)) { toList := [] } { toList := [ptr0 3, ptr0 1] } = Value.func (Fn.func (63 : Nat)) { toList := [] } { toList := [ptr0 3, ptr0 1] }) ∧ Ob (Value.slice (some (ad0 5)) (0 : Nat) (↑n : Int).toNat = Value.slice (some (ad0 5)) (whL (mayG n l) yq).length n) ∧ Ob ((↑n : Int) = (↑n : Int)) ∧ Ob ((0 : Int) = (↑yq : Int)) ∧ True) ∧ (∀ (x : Unit), Ob True → (decide ((0 : Int) < (↑n : Int)) = true → Ob (l.length ≤ c ∧ ((0 : Int) ≤ (↑l.length : Int) ∧ (↑l.length : Int) ≤ (↑c : Int)) ∧ (0 : Int) ≤ (↑l.length : Int) ∧ (↑l.length : Int) ≤ (↑(↑l.length : Int).toNat : Int)) ∧ Ob (andP (some (maX_s11 n l c)) ¬(↑l.length : Int).toNat + (1 : Nat) ≤ (↑l.length : Int).toNat) ∧ Ob ((List.take (maX_s17 n l c) (List.drop (0 : Nat) (maX_s13 n l c)) = List.map (Value.int IntKind.i64) (List.take (maX_s17 n l c) (List.drop (0 : Nat) (intsOf (maX_s13 n l c)))) ∧ (0 : Nat) + (maX_s17 n l c) ≤ (maX_s13 n l c).length ∧ true = true) ∧ (maX_s7 n l c) = (vi (fN (maX_s7 n l c)) :: T8 emp [Value.slice none (0 : Nat) (0 : Nat), vi (fS (maX_s7 n l c)), vi (fF (maX_s7 n l c))]) ∧ errD (fN (maX_s7 n l c)) (List.take (maX_s17 n l c) (List.drop (0 : Nat) (intsOf (maX_s13 n l c)))) = (0 : Int) ∧ (0 : Nat) < (List.take (maX_s17 n l c) (List.drop (0 : Nat) (intsOf (maX_s13 n l c)))).length ∧ some (7 : Nat) ≠ some (2 : Nat)) ∧ (decide ((maX_s1 n l c).fell = (0 : Int)) = true → Ob (andP (some ((0 : Nat) + (1 : Nat) ≤ (1 : Nat) ∧ true = true)) ((1 : Nat) ≤ (1099511627776 : Nat) ∧ (2064 : Nat) ≤ (281474976710656 : Nat) ∧ (1 : Nat) = (1 : Nat) ∧ (1 : Nat) = (1 : Nat) ∧ (1 : Nat) ≤ n ∧ (0 : Nat) < (1 : Nat) ∧ (0 : Nat) + (1 : Nat) ≤ (8 : Nat) ∧ true = true)) ∧ ((∃ (y : Unit), Ob True ∧ Ob ((20 : Nat) < (20 : Nat)) ∧ (Ob (AObj.ro (maX_s6 n l c) = AObj.ro (List.map (nmap1 (nsub (6 : Nat) (8 : Nat))) (maX_s6 n l c)) ∧ AObj.sc (6 : Nat) (AObj.ro (maX_s6 n l c)) = true) ∧ Ob (AObj.rw (maX_s10 n l c) none = AObj.rw (maX_s10 n l c) none ∧ true = true) ∧ Ob (AObj.rw (maX_s3 n l c) none = AObj.rw (maX_s7 n l c) none ∧ true = true) ∧ Ob (AObj.rw [ptr0 2] none = AObj.rw [ptr0 2] none ∧ true = true) ∧ Ob (AObj.rw (lgC (↑n : Int) emp) none = AObj.rw (lgC (↑n : Int) emp) none ∧ true = true) ∧ Ob (AObj.rw (maX_s5 n l c) none = AObj.rw (maX_s5 n l c) none ∧ true = true) ∧ True) ∧ Ob (Value.func (Fn.func (63 : Nat)) { toList := [] } { toList := [ptr0 3, ptr0 1] } = Value.func (Fn.func (63 : Nat)) { toList := [] } (maX_s8 n l c)) ∧ Ob (Value.slice (some (ad0 5)) (1 : Nat) n = Value.slice (some (ad0 5)) (0 : Nat) n) ∧ Ob ((↑n : Int) = (↑n : Int)) ∧ Ob (IntKind.i64.wrap ((0 : Int) + (1 : Int)) = (0 : Int)) ∧ True) ∨ ∃ (yqq : Nat), Ob ((0 : Nat) < yqq ∧ yqq ≤ n) ∧ Ob (n - yqq < (20 : Nat)) ∧ (Ob (AObj.ro (maX_s6 n l c) = AObj.ro (List.map (nmap1 (nsub (6 : Nat) (8 : Nat))) (maX_s6 n l c)) ∧ AObj.sc (7 : Nat) (AObj.ro (maX_s6 n l c)) = true) ∧ Ob (AObj.rw (maX_s10 n l c) none = AObj.rw (maX_s10 n l c) none ∧ true = true) ∧ Ob (AObj.rw (maX_s3 n l c) none = AObj.rw (vi (↑n : Int) :: T8 ((runA n (l ++ [(↑(yqq - (1 : Nat)) : Int)])).tk) [Value.slice (some { block := (8 : Nat), off := (0 : Nat), spot := some (0 : Nat) }) (l.length + (1 : Nat)) (0 : Nat), vi (runA n (l ++ [(↑(yqq - (1 : Nat)) : Int)])).slid, vi (runA n (l ++ [(↑(yqq - (1 : Nat)) : Int)])).fell]) none ∧ true = true) ∧ Ob (AObj.rw [ptr0 2] none = AObj.rw [ptr0 2] none ∧ true = true) ∧ Ob (AObj.rw (lgC (↑n : Int) emp) none = AObj.rw (lgC (↑n : Int) emp) none ∧ true = true) ∧ Ob (AObj.rw (maX_s5 n l c) none = AObj.rw (List.map (nmap1 (nsub (6 : Nat) (8 : Nat))) (List.map (Value.int IntKind.i64) (whC (mayG n l) yqq))) none ∧ AObj.sc (7 : Nat) (AObj.rw (List.map (Value.int IntKind.i64) (whC (mayG n l) yqq)) none) = true) ∧ Ob (AObj.rw (List.map (Value.int IntKind.i64) (maX_s1 n l c).lies) (some (1 : Nat)) = AObj.rw (List.map (nmap1 (nsub (6 : Nat) (8 : Nat))) (List.map (Value.int IntKind.i64) (runA n (l ++ [(↑(yqq - (1 : Nat)) : Int)])).lies)) (some (1 : Nat)) ∧ AObj.sc (7 : Nat) (AObj.rw (List.map (Value.int IntKind.i64) (runA n (l ++ [(↑(yqq - (1 : Nat)) : Int)])).lies) (some (1 : Nat))) = true) ∧ True) ∧ Ob (Value.func (Fn.func (63 : Nat)) { toList := [] } { toList := [ptr0 3, ptr0 1] } = Value.func (Fn.func (63 : Nat)) { toList := [] } (maX_s8 n l c)) ∧ Ob (Value.slice (some (ad0 5)) (1 : Nat) n = Value.slice (some (ad0 5)) (whL (mayG n l) yqq).length n) ∧ Ob ((↑n : Int) = (↑n : Int)) ∧ Ob (IntKind.i64.wrap ((0 : Int) + (1 : Int)) = (↑yqq : Int)) ∧ True)) ∧ (decide ((maX_s1 n l c).fell = (0 : Int)) = false → (∃ (y : Unit), Ob True ∧ Ob ((20 : Nat) < (20 : Nat)) ∧ (Ob (AObj.ro (maX_s6 n l c) = AObj.ro (List.map (nmap1 (nsub (6 : Nat) (8 : Nat))) (maX_s6 n l c)) ∧ AObj.sc (6 : Nat) (AObj.ro (maX_s6 n l c)) = true) ∧ Ob (AObj.rw (maX_s10 n l c) none = AObj.rw (maX_s10 n l c) none ∧ true = true) ∧ Ob (AObj.rw (maX_s3 n l c) none = AObj.rw (maX_s7 n l c) none ∧ true = true) ∧ Ob (AObj.rw [ptr0 2] none = AObj.rw [ptr0 2] none ∧ true = true) ∧ Ob (AObj.rw (lgC (↑n : Int) emp) none = AObj.rw (lgC (↑n : Int) emp) none ∧ true = true) ∧ Ob (AObj.rw (maX_s5 n l c) none = AObj.rw (maX_s5 n l c) none ∧ true = true) ∧ True) ∧ Ob (Value.func (Fn.func (63 : Nat)) { toList := [] } { toList := [ptr0 3, ptr0 1] } = Value.func (Fn.func (63 : Nat)) { toList := [] } (maX_s8 n l c)) ∧ Ob (Value.slice (some (ad0 5)) (0 : Nat) n = Value.slice (some (ad0 5)) (0 : Nat) n) ∧ Ob ((↑n : Int) = (↑n : Int)) ∧ Ob (IntKind.i64.wrap ((0 : Int) + (1 : Int)) = (0 : Int)) ∧ True) ∨ ∃ (yqqq : Nat), Ob ((0 : Nat) < yqqq ∧ yqqq ≤ n) ∧ Ob (n - yqqq < (20 : Nat)) ∧ (Ob (AObj.ro (maX_s6 n l c) = AObj.ro (List.map (nmap1 (nsub (6 : Nat) (8 : Nat))) (maX_s6 n l c)) ∧ AObj.sc (7 : Nat) (AObj.ro (maX_s6 n l c)) = true) ∧ Ob (AObj.rw (maX_s10 n l c) none = AObj.rw (maX_s10 n l c) none ∧ true = true) ∧ Ob (AObj.rw (maX_s3 n l c) none = AObj.rw (vi (↑n : Int) :: T8 ((runA n (l ++ [(↑(yqqq - (1 : Nat)) : Int)])).tk) [Value.slice (some { block := (8 : Nat), off := (0 : Nat), spot := some (0 : Nat) }) (l.length + (1 : Nat)) (0 : Nat), vi (runA n (l ++ [(↑(yqqq - (1 : Nat)) : Int)])).slid, vi (runA n (l ++ [(↑(yqqq - (1 : Nat)) : Int)])).fell]) none ∧ true = true) ∧ Ob (AObj.rw [ptr0 2] none = AObj.rw [ptr0 2] none ∧ true = true) ∧ Ob (AObj.rw (lgC (↑n : Int) emp) none = AObj.rw (lgC (↑n : Int) emp) none ∧ true = true) ∧ Ob (AObj.rw (maX_s5 n l c) none = AObj.rw (List.map (nmap1 (nsub (6 : Nat) (8 : Nat))) (List.map (Value.int IntKind.i64) (whC (mayG n l) yqqq))) none ∧ AObj.sc (7 : Nat) (AObj.rw (List.map (Value.int IntKind.i64) (whC (mayG n l) yqqq)) none) = true) ∧ Ob (AObj.rw (List.map (Value.int IntKind.i64) (maX_s1 n l c).lies) (some (1 : Nat)) = AObj.rw (List.map (nmap1 (nsub (6 : Nat) (8 : Nat))) (List.map (Value.int IntKind.i64) (runA n (l ++ [(↑(yqqq - (1 : Nat)) : Int)])).lies)) (some (1 : Nat)) ∧ AObj.sc (7 : Nat) (AObj.rw (List.map (Value.int IntKind.i64) (runA n (l ++ [(↑(yqqq - (1 : Nat)) : Int)])).lies) (some (1 : Nat))) = true) ∧ True) ∧ Ob (Value.func (Fn.func (63 : Nat)) { toList := [] } { toList := [ptr0 3, ptr0 1] } = Value.func (Fn.func (63 : Nat)) { toList := [] } (maX_s8 n l c)) ∧ Ob (Value.slice (some (ad0 5)) (0 : Nat) n = Value.slice (some (ad0 5)) (whL (mayG n l) yqqq).length n) ∧ Ob ((↑n : Int) = (↑n : Int)) ∧ Ob (IntKind.i64.wrap ((0 : Int) + (1 : Int)) = (↑yqqq : Int)) ∧ True)) ∧ (decide ((0 : Int) < (↑n : Int)) = false → Ob ((0 : Int) ≤ IntKind.i64.wrap (↑(0 : Nat) : Int) ∧ IntKind.i64.wrap (↑(0 : Nat) : Int) ≤ IntKind.i64.wrap (↑(0 : Nat) : Int) ∧ (↑(8 : Nat) : Int) * IntKind.i64.wrap (↑(0 : Nat) : Int) ≤ (281474976710656 : Int)) ∧ Ob (andP (some ((0 : Nat) ≤ (8 : Nat) ∧ true = true)) ((0 : Nat) + (0 : Nat) ≤ (0 : Nat) ∧ true = true)) ∧ True ∧ Ob (Value.tuple { toList := [Value.slice (some (ad0 6)) (0 : Nat) (0 : Nat), vi (0 : Int)] } = Value.tuple { toList := [Value.slice none (0 : Nat) (0 : Nat), vi (20 : Int)] }))) ∧ ∀ (xq : Nat), Ob ((0 : Nat) < xq ∧ xq ≤ n) → (decide ((↑xq : Int) < (↑n : Int)) = true → Ob (l.length ≤ c ∧ ((0 : Int) ≤ (↑l.length : Int) ∧ (↑l.length : Int) ≤ (↑c : Int)) ∧ (0 : Int) ≤ (↑l.length : Int) ∧ (↑l.length : Int) ≤ (↑(↑l.length : Int).toNat : Int)) ∧ Ob (andP (some (maX_s11 n l c)) ¬(↑l.length : Int).toNat + (1 : Nat) ≤ (↑l.length : Int).toNat) ∧ Ob ((List.take (maX_s17 n l c) (List.drop (0 : Nat) (maX_s12 n l c xq)) = List.map (Value.int IntKind.i64) (List.take (maX_s17 n l c) (List.drop (0 : Nat) (intsOf (maX_s12 n l c xq)))) ∧ (0 : Nat) + (maX_s17 n l c) ≤ (maX_s12 n l c xq).length ∧ true = true) ∧ (maX_s2 n l c xq) = (vi (fN (maX_s2 n l c xq)) :: T8 (fT (maX_s2 n l c xq)) [Value.slice (some { block := (6 : Nat), off := (0 : Nat), spot := some (0 : Nat) }) (l.length + (1 : Nat)) (0 : Nat), vi (fS (maX_s2 n l c xq)), vi (fF (maX_s2 n l c xq))]) ∧ List.map (Value.int IntKind.i64) (runA n (l ++ [(↑(xq - (1 : Nat)) : Int)])).lies = List.map (Value.int IntKind.i64) (intsOf (List.map (Value.int IntKind.i64) (runA n (l ++ [(↑(xq - (1 : Nat)) : Int)])).lies)) ∧ errD (fN (maX_s2 n l c xq)) (List.take (maX_s17 n l c) (List.drop (0 : Nat) (intsOf (maX_s12 n l c xq)))) = (0 : Int) ∧ (0 : Nat) < (List.take (maX_s17 n l c) (List.drop (0 : Nat) (intsOf (maX_s12 n l c xq)))).length ∧ some (8 : Nat) ≠ some (2 : Nat) ∧ some (8 : Nat) ≠ some (6 : Nat) ∧ (2 : Nat) ≠ (6 : Nat)) ∧ (decide ((maX_s0 n l c xq).fell = (0 : Int)) = true → Ob (andP (some ((0 : Nat) + (1 : Nat) ≤ (1 : Nat) ∧ true = true)) ((whL (mayG n l) xq).length + (1 : Nat) ≤ (1099511627776 : Nat) ∧ ((2 : Nat) * ((whL (mayG n l) xq).length + (1 : Nat)) + (256 : Nat)) * (8 : Nat) ≤ (281474976710656 : Nat) ∧ (1 : Nat) = (1 : Nat) ∧ (1 : Nat) = (1 : Nat) ∧ (whL (mayG n l) xq).length + (1 : Nat) ≤ n ∧ (0 : Nat) < (1 : Nat) ∧ (0 : Nat) + (whL (mayG n l) xq).length * (1 : Nat) + (1 : Nat) ≤ (maX_s14 n l c xq).length ∧ true = true)) ∧ ((∃ (y : Unit), Ob True ∧ Ob ((20 : Nat) < n - xq) ∧ (Ob (AObj.ro (maX_s6 n l c) = AObj.ro (List.map (nmap1 (nsub (6 : Nat) (9 : Nat))) (maX_s6 n l c)) ∧ AObj.sc (6 : Nat) (AObj.ro (maX_s6 n l c)) = true) ∧ Ob (AObj.rw (maX_s10 n l c) none = AObj.rw (maX_s10 n l c) none ∧ true = true) ∧ Ob (AObj.rw (maX_s4 n l c xq) none = AObj.rw (maX_s7 n l c) none ∧ true = true) ∧ Ob (AObj.rw [ptr0 2] none = AObj.rw [ptr0 2] none ∧ true = true) ∧ Ob (AObj.rw (lgC (↑n : Int) emp) none = AObj.rw (lgC (↑n : Int) emp) none ∧ true = true) ∧ Ob (AObj.rw (putL (maX_s14 n l c xq) ((0 : Nat) + (whL (mayG n l) xq).length * (1 : Nat)) [vi (↑xq : Int)]) none = AObj.rw (maX_s5 n l c) none ∧ true = true) ∧ True) ∧ Ob (Value.func (Fn.func (63 : Nat)) { toList := [] } { toList := [ptr0 3, ptr0 1] } = Value.func (Fn.func (63 : Nat)) { toList := [] } (maX_s9 n l c)) ∧ Ob (Value.slice (some (ad0 5)) ((whL (mayG n l) xq).length + (1 : Nat)) n = Value.slice (some (ad0 5)) (0 : Nat) n) ∧ Ob ((↑n : Int) = (↑n : Int)) ∧ Ob (IntKind.i64.wrap ((↑xq : Int) + (1 : Int)) = (0 : Int)) ∧ True) ∨ ∃ (yqqqq : Nat), Ob ((0 : Nat) < yqqqq ∧ yqqqq ≤ n) ∧ Ob (n - yqqqq < n - xq) ∧ (Ob (AObj.ro (maX_s6 n l c) = AObj.ro (List.map (nmap1 (nsub (6 : Nat) (9 : Nat))) (maX_s6 n l c)) ∧ AObj.sc (7 : Nat) (AObj.ro (maX_s6 n l c)) = true) ∧ Ob (AObj.rw (maX_s10 n l c) none = AObj.rw (maX_s10 n l c) none ∧ true = true) ∧ Ob (AObj.rw (maX_s4 n l c xq) none = AObj.rw (vi (↑n : Int) :: T8 ((runA n (l ++ [(↑(yqqqq - (1 : Nat)) : Int)])).tk) [Value.slice (some { block := (9 : Nat), off := (0 : Nat), spot := some (0 : Nat) }) (l.length + (1 : Nat)) (0 : Nat), vi (runA n (l ++ [(↑(yqqqq - (1 : Nat)) : Int)])).slid, vi (runA n (l ++ [(↑(yqqqq - (1 : Nat)) : Int)])).fell]) none ∧ true = true) ∧ Ob (AObj.rw [ptr0 2] none = AObj.rw [ptr0 2] none ∧ true = true) ∧ Ob (AObj.rw (lgC (↑n : Int) emp) none = AObj.rw (lgC (↑n : Int) emp) none ∧ true = true) ∧ Ob (AObj.rw (putL (maX_s14 n l c xq) ((0 : Nat) + (whL (mayG n l) xq).length * (1 : Nat)) [vi (↑xq : Int)]) none = AObj.rw (List.map (nmap1 (nsub (6 : Nat) (9 : Nat))) (List.map (Value.int IntKind.i64) (whC (mayG n l) yqqqq))) none ∧ AObj.sc (7 : Nat) (AObj.rw (List.map (Value.int IntKind.i64) (whC (mayG n l) yqqqq)) none) = true) ∧ Ob (AObj.rw (List.map (Value.int IntKind.i64) (maX_s0 n l c xq).lies) (some (1 : Nat)) = AObj.rw (List.map (nmap1 (nsub (6 : Nat) (9 : Nat))) (List.map (Value.int IntKind.i64) (runA n (l ++ [(↑(yqqqq - (1 : Nat)) : Int)])).lies)) (some (1 : Nat)) ∧ AObj.sc (7 : Nat) (AObj.rw (List.map (Value.int IntKind.i64) (runA n (l ++ [(↑(yqqqq - (1 : Nat)) : Int)])).lies) (some (1 : Nat))) = true) ∧ True) ∧ Ob (Value.func (Fn.func (63 : Nat)) { toList := [] } { toList := [ptr0 3, ptr0 1] } = Value.func (Fn.func (63 : Nat)) { toList := [] } (maX_s9 n l c)) ∧ Ob (Value.slice (some (ad0 5)) ((whL (mayG n l) xq).length + (1 : Nat)) n = Value.slice (some (ad0 5)) (whL (mayG n l) yqqqq).length n) ∧ Ob ((↑n : Int) = (↑n : Int)) ∧ Ob (IntKind.i64.wrap ((↑xq : Int) + (1 : Int)) = (↑yqqqq : Int)) ∧ True)) ∧ (decide ((maX_s0 n l c xq).fell = (0 : Int)) = false → (∃ (y : Unit), Ob True ∧ Ob ((20 : Nat) < n - xq) ∧ (Ob (AObj.ro (maX_s6 n l c) = AObj.ro (List.map (nmap1 (nsub (6 : Nat) (9 : Nat))) (maX_s6 n l c)) ∧ AObj.sc (6 : Nat) (AObj.ro (maX_s6 n l c)) = true) ∧ Ob (AObj.rw (maX_s10 n l c) none = AObj.rw (maX_s10 n l c) none ∧ true = true) ∧ Ob (AObj.rw (maX_s4 n l c xq) none = AObj.rw (maX_s7 n l c) none ∧ true = true) ∧ Ob (AObj.rw [ptr0 2] none = AObj.rw [ptr0 2] none ∧ true = true) ∧ Ob (AObj.rw (lgC (↑n : Int) emp) none = AObj.rw (lgC (↑n : Int) emp) none ∧ true = true) ∧ Ob (AObj.rw (maX_s14 n l c xq) none = AObj.rw (maX_s5 n l c) none ∧ true = true) ∧ True) ∧ Ob (Value.func (Fn.func (63 : Nat)) { toList := [] } { toList := [ptr0 3, ptr0 1] } = Value.func (Fn.func (63 : Nat)) { toList := [] } (maX_s9 n l c)) ∧ Ob (Value.slice (some (ad0 5)) (whL (mayG n l) xq).length n = Value.slice (some (ad0 5)) (0 : Nat) n) ∧ Ob ((↑n : Int) = (↑n : Int)) ∧ Ob (IntKind.i64.wrap ((↑xq : Int) + (1 : Int)) = (0 : Int)) ∧ True) ∨ ∃ (yqqqqq : Nat), Ob ((0 : Nat) < yqqqqq ∧ yqqqqq ≤ n) ∧ Ob (n - yqqqqq < n - xq) ∧ (Ob (AObj.ro (maX_s6 n l c) = AObj.ro (List.map (nmap1 (nsub (6 : Nat) (9 : Nat))) (maX_s6 n l c)) ∧ AObj.sc (7 : Nat) (AObj.ro (maX_s6 n l c)) = true) ∧ Ob (AObj.rw (maX_s10 n l c) none = AObj.rw (maX_s10 n l c) none ∧ true = true) ∧ Ob (AObj.rw (maX_s4 n l c xq) none = AObj.rw (vi (↑n : Int) :: T8 ((runA n (l ++ [(↑(yqqqqq - (1 : Nat)) : Int)])).tk) [Value.slice (some { block := (9 : Nat), off := (0 : Nat), spot := some (0 : Nat) }) (l.length + (1 : Nat)) (0 : Nat), vi (runA n (l ++ [(↑(yqqqqq - (1 : Nat)) : Int)])).slid, vi (runA n (l ++ [(↑(yqqqqq - (1 : Nat)) : Int)])).fell]) none ∧ true = true) ∧ Ob (AObj.rw [ptr0 2] none = AObj.rw [ptr0 2] none ∧ true = true) ∧ Ob (AObj.rw (lgC (↑n : Int) emp) none = AObj.rw (lgC (↑n : Int) emp) none ∧ true = true) ∧ Ob (AObj.rw (maX_s14 n l c xq) none = AObj.rw (List.map (nmap1 (nsub (6 : Nat) (9 : Nat))) (List.map (Value.int IntKind.i64) (whC (mayG n l) yqqqqq))) none ∧ AObj.sc (7 : Nat) (AObj.rw (List.map (Value.int IntKind.i64) (whC (mayG n l) yqqqqq)) none) = true) ∧ Ob (AObj.rw (List.map (Value.int IntKind.i64) (maX_s0 n l c xq).lies) (some (1 : Nat)) = AObj.rw (List.map (nmap1 (nsub (6 : Nat) (9 : Nat))) (List.map (Value.int IntKind.i64) (runA n (l ++ [(↑(yqqqqq - (1 : Nat)) : Int)])).lies)) (some (1 : Nat)) ∧ AObj.sc (7 : Nat) (AObj.rw (List.map (Value.int IntKind.i64) (runA n (l ++ [(↑(yqqqqq - (1 : Nat)) : Int)])).lies) (some (1 : Nat))) = true) ∧ True) ∧ Ob (Value.func (Fn.func (63 : Nat)) { toList := [] } { toList := [ptr0 3, ptr0 1] } = Value.func (Fn.func (63 : Nat)) { toList := [] } (maX_s9 n l c)) ∧ Ob (Value.slice (some (ad0 5)) (whL (mayG n l) xq).length n = Value.slice (some (ad0 5)) (whL (mayG n l) yqqqqq).length n) ∧ Ob ((↑n : Int) = (↑n : Int)) ∧ Ob (IntKind.i64.wrap ((↑xq : Int) + (1 : Int)) = (↑yqqqqq : Int)) ∧ True)) ∧ (decide ((↑xq : Int) < (↑n : Int)) = false → Ob ((0 : Int) ≤ IntKind.i64.wrap (↑(whL (mayG n l) xq).length : Int) ∧ IntKind.i64.wrap (↑(whL (mayG n l) xq).length : Int) ≤ IntKind.i64.wrap (↑(whL (mayG n l) xq).length : Int) ∧ (↑(8 : Nat) : Int) * IntKind.i64.wrap (↑(whL (mayG n l) xq).length : Int) ≤ (281474976710656 : Int)) ∧ Ob (andP (some ((0 : Nat) + (whL (mayG n l) xq).length.min (maX_s16 n l c xq).toNat * (1 : Nat) ≤ (maX_s14 n l c xq).length ∧ true = true)) ((0 : Nat) + (List.take ((whL (mayG n l) xq).length.min (maX_s16 n l c xq).toNat * (1 : Nat)) (List.drop (0 : Nat) (maX_s14 n l c xq))).length ≤ (List.replicate (maX_s16 n l c xq).toNat (vi (0 : Int))).length ∧ (List.take ((whL (mayG n l) xq).length.min (maX_s16 n l c xq).toNat * (1 : Nat)) (List.drop (0 : Nat) (maX_s14 n l c xq))).all (sc1 (8 : Nat)) = true)) ∧ True ∧ Ob (Value.tuple { toList := [Value.slice (some (ad0 7)) (maX_s16 n l c xq).toNat (maX_s16 n l c xq).toNat, vi (0 : Int)] } = Value.tuple { toList := [Value.slice none (0 : Nat) (0 : Nat), vi (20 : Int)] })))
theorem maX_eq : maX = fun (n : Nat) (l : List Int) (c : Nat) => vc Try.prog (maE n l 1) 1 22 true (fun _ => none) maB [] (argFr 0 [vi n, .slice (some ⟨0,0,none⟩) l.length c]) [ros l] (retK Try.prog Try.f30 (fun v _ => v = .tuple #[nilS, vi 20])) := by kernel_rfl
theorem fell_len {n : Nat} {l : List Int} (hb : ∀ x ∈ l, 0 ≤ x ∧ x < (n : Int)) (hf : (runA n l).fell = 0) : l.length ≤ n := by
  have hc := run_core hb
  have c1 : (runA n l).tk = (foldC n l (emp, 0, 0)).1 := congrArg (·.1) hc
  have c2 : (runA n l).fell = (foldC n l (emp, 0, 0)).2.2 := congrArg (·.2.2) hc
  have k2 : (takGe n (foldC n l (emp, 0, 0)).1 0 : Int) + (foldC n l (emp, 0, 0)).2.2 = (takGe n emp 0 : Int) + 0 + l.length := foldC_all (s := (emp, 0, 0)) hb
  have k3 := takGe_le (tk := (foldC n l (emp, 0, 0)).1) (Nat.zero_le n)
  rw [takGe_emp, ← c2, hf] at k2
  omega
theorem maV_ok (n : Nat) (l : List Int) (c : Nat) (he : errD n l = 0) (h0 : 0 < l.length) (hf : (runA n l).fell = 0) (hc : l.length ≤ c) : maV n l c := by
  obtain ⟨hn, hb, hl⟩ := pre_ok he
  have hln := fell_len hb hf
  have hled : ledC n l = 0 := if_pos hf
  have n1 : 1 ≤ n := by omega
  have ee : ∀ x : Int, 0 ≤ x → x < n → errD n (l ++ [x]) = 0 := fun x h1 h2 => err0 ⟨n1, hn⟩ (by rw [List.length_append, List.length_singleton]; omega) fun y hy => by
    rcases List.mem_append.1 hy with hy | hy
    · exact hb y hy
    · rw [List.mem_singleton.1 hy]; omega
  have tkl : ∀ x : Int, List.take (l.length + 1) (l ++ [x]) = l ++ [x] := fun x => List.take_of_length_le (by rw [List.length_append, List.length_singleton]; exact Nat.le_refl _)
  have tkm : ∀ x : Int, List.take (l.length + 1) (List.map (Value.int .i64) (l ++ [x])) = List.map (Value.int .i64) (l ++ [x]) := fun x => List.take_of_length_le (by rw [List.length_map, List.length_append, List.length_singleton]; exact Nat.le_refl _)
  unfold maV maV_s19 maV_s18 maV_s17 maV_s16 maV_s15 maV_s14 maV_s13 maV_s12 maV_s11 maV_s10 maV_s9 maV_s8 maV_s7 maV_s6 maV_s5 maV_s4 maV_s3 maV_s2 maV_s1 maV_s0
  simp only [SS, reduceCtorEq, Arg.list, Arg.num, Arg.flag, intOf, andP, Nat.reduceLeDiff, Nat.reduceAdd, Nat.reduceMul, Nat.reduceLT, he, hled, T8_10, T8_11, T8_i10, T8_i11, fN_T8, fT_emp, T8_fT, fF_T8, fS_T8, Int.toNat_natCast, tkl, tkm]
  have yes : ∀ x : Nat, (runA n (l ++ [(x : Int)])).fell = 0 → mayG n l x = true := fun x h => decide_eq_true h
  have no : ∀ x : Nat, ¬ (runA n (l ++ [(x : Int)])).fell = 0 → mayG n l x = false := fun x h => decide_eq_false h
  generalize mayG n l = g at *
  refine ⟨h0, ⟨⟨by omega, by omega⟩, by omega, by omega⟩, ⟨fun _ => ⟨⟨hc, ⟨by omega, by omega⟩, by omega, by omega⟩, ⟨⟨by omega, by omega, by omega⟩, by omega⟩, ⟨ee 0 (by omega) (by omega), by omega, by decide⟩, fun h => ?_, fun h => ?_⟩, fun h => absurd (show (0 : Int) < n by omega) h⟩, fun x hx => ⟨fun h1 => ⟨⟨hc, ⟨by omega, by omega⟩, by omega, by omega⟩, ⟨⟨by omega, by omega, by omega⟩, by omega⟩, ⟨ee x (by omega) (by omega), by omega, by decide, by decide, by decide⟩, fun h => ?_, fun h => ?_⟩, fun h1 => ?_⟩⟩
  · have hg := yes 0 h
    exact ⟨by omega, 1, ⟨by omega, by omega⟩, by omega, ⟨rfl, whC_yes (g := g) (x := 0) (by omega) hg, rfl⟩, rfl, by rw [whL_succ, if_pos hg]; rfl, rfl⟩
  · have hg := no 0 h
    exact ⟨1, ⟨by omega, by omega⟩, by omega, ⟨rfl, by rw [whC_no hg]; rfl, rfl⟩, rfl, by rw [whL_succ, if_neg (by rw [hg]; exact Bool.false_ne_true)]; rfl, rfl⟩
  · have hg := yes x h
    have hll := whL_len (g := g) (i := x)
    exact ⟨⟨by omega, by omega, by omega, by rw [whC_len (by omega)]; omega⟩, x + 1, ⟨by omega, by omega⟩, by omega, ⟨rfl, whC_yes (by omega) hg, rfl⟩, rfl, by rw [whL_succ, if_pos hg]; simp, by rw [wrap_in (by omega) (by omega)]; push_cast; rfl⟩
  · have hg := no x h
    exact .inr ⟨x + 1, ⟨by omega, by omega⟩, by omega, ⟨rfl, by rw [whC_no hg], rfl⟩, rfl, by rw [whL_succ, if_neg (by rw [hg]; exact Bool.false_ne_true)], by rw [wrap_in (by omega) (by omega)]; push_cast; rfl⟩
  · obtain rfl : x = n := by omega
    have hll := whL_len (g := g) (i := x)
    have hcl := whC_len (g := g) (i := x) (by omega)
    have ht : List.take (whL g x).length (whC g x) = whL g x := by unfold whC; rw [List.take_append_of_le_length (Nat.le_refl _), List.take_length]
    have hw : IntKind.i64.wrap ((whL g x).length : Int) = ((whL g x).length : Int) := wrap_in (by omega) (by omega)
    have hm : (whL g x).length.min (whL g x).length = (whL g x).length := Nat.min_self _
    simp only [hw, Int.toNat_natCast, hm, ← List.map_take, ht, List.length_replicate, List.length_map, hcl]
    exact ⟨⟨by omega, by omega, by omega⟩, ⟨by omega, by omega, all_sc_int⟩, by simpa using putL_full ((whL g x).map (Value.int .i64)) (vi 0) [], trivial⟩
theorem maN_ok (n : Nat) (he : errD n [] = 0) : maN n := by
  obtain ⟨hn, hb, hl⟩ := pre_ok he
  have n1 : 1 ≤ n := by
    unfold errD at he
    split at he
    · cases he
    · omega
  have ee : ∀ x : Int, 0 ≤ x → x < n → errD n [x] = 0 := fun x h1 h2 => err0 ⟨n1, hn⟩ (by simp) fun y hy => by
    rw [List.mem_singleton.1 hy]; omega
  unfold maN maN_s13 maN_s12 maN_s11 maN_s10 maN_s9 maN_s8 maN_s7 maN_s6 maN_s5 maN_s4 maN_s3 maN_s2 maN_s1 maN_s0
  simp only [SS, reduceCtorEq, Arg.list, Arg.num, Arg.flag, intOf, andP, Nat.reduceLeDiff, Nat.reduceAdd, Nat.reduceMul, Nat.reduceLT, he, T8_10, T8_11, T8_i10, T8_i11, fN_T8, fT_emp, T8_fT, fF_T8, fS_T8, Int.toNat_natCast]
  have yes : ∀ x : Nat, (runA n [(x : Int)]).fell = 0 → mayG n [] x = true := fun x h => decide_eq_true h
  have no : ∀ x : Nat, ¬ (runA n [(x : Int)]).fell = 0 → mayG n [] x = false := fun x h => decide_eq_false h
  generalize mayG n [] = g at *
  refine ⟨⟨⟨by omega, by omega⟩, by omega, by omega⟩, ⟨fun _ => ⟨⟨ee 0 (by omega) (by omega), by decide⟩, fun h => ?_, fun h => ?_⟩, fun h => absurd (show (0 : Int) < n by omega) h⟩, fun x hx => ⟨fun h1 => ⟨⟨ee x (by omega) (by omega), by decide, by decide, by decide⟩, fun h => ?_, fun h => ?_⟩, fun h1 => ?_⟩⟩
  · have hg := yes 0 h
    exact ⟨by omega, 1, ⟨by omega, by omega⟩, by omega, ⟨rfl, whC_yes (g := g) (x := 0) (by omega) hg, rfl⟩, rfl, by rw [whL_succ, if_pos hg]; rfl, rfl⟩
  · have hg := no 0 h
    exact ⟨1, ⟨by omega, by omega⟩, by omega, ⟨rfl, by rw [whC_no hg]; rfl, rfl⟩, rfl, by rw [whL_succ, if_neg (by rw [hg]; exact Bool.false_ne_true)]; rfl, rfl⟩
  · have hg := yes x h
    have hll := whL_len (g := g) (i := x)
    exact ⟨⟨by omega, by omega, by omega, by rw [whC_len (by omega)]; omega⟩, x + 1, ⟨by omega, by omega⟩, by omega, ⟨rfl, whC_yes (by omega) hg, rfl⟩, rfl, by rw [whL_succ, if_pos hg]; simp, by rw [wrap_in (by omega) (by omega)]; push_cast; rfl⟩
  · have hg := no x h
    exact .inr ⟨x + 1, ⟨by omega, by omega⟩, by omega, ⟨rfl, by rw [whC_no hg], rfl⟩, rfl, by rw [whL_succ, if_neg (by rw [hg]; exact Bool.false_ne_true)], by rw [wrap_in (by omega) (by omega)]; push_cast; rfl⟩
  · obtain rfl : x = n := by omega
    have hll := whL_len (g := g) (i := x)
    have hcl := whC_len (g := g) (i := x) (by omega)
    have ht : List.take (whL g x).length (whC g x) = whL g x := by unfold whC; rw [List.take_append_of_le_length (Nat.le_refl _), List.take_length]
    have hw : IntKind.i64.wrap ((whL g x).length : Int) = ((whL g x).length : Int) := wrap_in (by omega) (by omega)
    have hm : (whL g x).length.min (whL g x).length = (whL g x).length := Nat.min_self _
    simp only [hw, Int.toNat_natCast, hm, ← List.map_take, ht, List.length_replicate, List.length_map, hcl]
    exact ⟨⟨by omega, by omega, by omega⟩, ⟨by omega, by omega, all_sc_int⟩, by simpa using putL_full ((whL g x).map (Value.int .i64)) (vi 0) [], trivial⟩
theorem maX_ok (n : Nat) (l : List Int) (c : Nat) (he : errD n l = 0) (h0 : 0 < l.length) (hf : (runA n l).fell ≠ 0) : maX n l c := by
  have hled : ledC n l = 20 := if_neg hf
  unfold maX maX_s17 maX_s16 maX_s15 maX_s14 maX_s13 maX_s12 maX_s11 maX_s10 maX_s9 maX_s8 maX_s7 maX_s6 maX_s5 maX_s4 maX_s3 maX_s2 maX_s1 maX_s0
  simp only [SS, reduceCtorEq, Arg.list, Arg.num, Arg.flag, intOf, andP, Nat.reduceLeDiff, Nat.reduceAdd, Nat.reduceMul, Nat.reduceLT, he, hled, nilS]
  exact ⟨h0, fun h => absurd h (by decide)⟩
end Go.Pier.Lg
namespace Go.Pier
open Go
variable {P : Program} {H : Heap} {f : FuncId}
def roomy (H : Heap) : Value → Option (Option Prop)
  | .slice (some a) m c => match a.spot with
    | none => some (some (m ≤ c))
    | some k => match c with
      | 0 => match H[a.block]? with
        | some (.rw cs (some 1)) => some (some (k + m ≤ cs.length))
        | _ => none
      | _ + 1 => some none
  | _ => some none
def rooms (H : Heap) : List Value → Option (Option Prop)
  | [] => some none
  | v :: vs => match roomy H v with
    | some φ => match rooms H vs with
      | some ψ => some (andO φ ψ)
      | none => none
    | none => none
def capsOk (caps : Nat → Nat) : Nat → List Arg2 → Prop
  | _, [] => True
  | i, .val _ :: r => capsOk caps i r
  | i, .ints _ l :: r => l.length ≤ caps i ∧ capsOk caps (i + 1) r
  | i, .hole _ :: r => capsOk caps (i + 1) r
theorem roomy_ok {ρ ρ1 : Ren} {w : World} (R : Rel ρ H w) {k : IntKind} {v : Value} {ψ : Option Prop} {l : List Int} {i c : Nat} {p : Prop} (hs : sliceInts k H v = some (p, l)) (hp : p)
    (hr : roomy H v = some ψ) (hψ : Asks ψ) (he : ren ρ1 (.slice (some ⟨i, 0, none⟩) l.length c) = ren ρ v) : l.length ≤ c := by
  unfold sliceInts at hs
  split at hs <;> try (cases hs; done)
  rename_i a n c'
  split at hs <;> simp only [Option.some.injEq, Prod.mk.injEq, reduceCtorEq] at hs
  rename_i cs hc
  obtain ⟨rfl, rfl⟩ := hs
  obtain ⟨h1, h2, h3⟩ := hp
  have hlen : (((intsOf cs).drop a.off).take n).length = n := by
    rw [List.length_take, List.length_drop, intsOf, List.length_map]; omega
  have he2 : c = ρ.cap a c' := by
    have h0 : Value.slice (some (Ren.adr ρ1 ⟨i, 0, none⟩ c)) (((intsOf cs).drop a.off).take n).length (Ren.cap ρ1 ⟨i, 0, none⟩ c) = Value.slice (some (Ren.adr ρ a c')) n (Ren.cap ρ a c') := he
    exact (Value.slice.inj h0).2.2
  rw [hlen, he2]
  unfold roomy at hr
  unfold Ren.cap
  cases ha : a.spot with
  | none =>
    simp only [ha, Option.some.injEq] at hr
    subst hr
    exact hψ
  | some k' =>
    cases c' with
    | succ c' => unfold std at h3; rw [ha] at h3; cases h3
    | zero =>
      simp only [ha] at hr
      split at hr <;> simp only [Option.some.injEq, reduceCtorEq] at hr
      rename_i cs2 hb
      subst hr
      obtain ⟨_, cs', t, _, _, h5, h6⟩ := R.obj _ _ hb
      have h7 : k' + n ≤ cs2.length := hψ
      simp only
      omega
theorem rooms_ok {ρ ρ1 : Ren} {w : World} (R : Rel ρ H w) {σ : Nat → Nat} {B : List Nat} {m : Nat} {caps : Nat → Nat} : ∀ {ags : List Arg2} {vs : List Value} {i : Nat} {φ : Option Prop}, ReadA2 H σ B m ags vs → rooms H vs = some φ → Asks φ →
    (canonA2 caps i ags).map (ren ρ1) = vs.map (ren ρ) → capsOk caps i ags
  | [], _, _, _, _, _, _, _ => trivial
  | .val _ :: _, [], _, _, h, _, _, _ => h.elim
  | .ints _ _ :: _, [], _, _, h, _, _, _ => h.elim
  | .hole _ :: _, [], _, _, h, _, _, _ => h.elim
  | a :: r, v :: vs, i, φ, h, hr, hφ, he => by
    unfold rooms at hr
    split at hr <;> try (cases hr; done)
    rename_i φ1 h1
    split at hr <;> cases hr
    rename_i φ2 h2
    obtain ⟨k1, k2⟩ := andO_iff.1 hφ
    cases a with
    | val u =>
      simp only [canonA2, List.map_cons, List.cons.injEq] at he
      exact rooms_ok (ags := r) R (show ReadA2 H σ B m r vs from h.2.2) h2 k2 he.2
    | ints k l =>
      simp only [canonA2, List.map_cons, List.cons.injEq] at he
      obtain ⟨⟨p, hs, hp⟩, _, h3⟩ := h
      exact ⟨roomy_ok R hs hp h1 k1 he.1, rooms_ok (ags := r) R h3 h2 k2 he.2⟩
    | hole s =>
      simp only [canonA2, List.map_cons, List.cons.injEq] at he
      exact rooms_ok (ags := r) R (show ReadA2 H σ B m r vs from h.2) h2 k2 he.2
theorem Fresh.callC {s : Fresh} (g : s.Good) {r : List Arg} {args : List Value} {φ : Option Prop} (h4 : ∀ caps, capsOk caps 0 (r.map Arg.two) → Call P f (canonA caps 0 r) (canonH r) fun v H' => v = s.val (canonH r).length ∧ H' = canonH r ++ s.new (canonH r).length) (hR : ReadA H r args)
    (hr : rooms H args = some φ) (hφ : Asks φ) :
    Call P f args H (fun v' H2 => v' = s.val H.length ∧ H2 = H ++ s.new H.length) ∧ Kept H (H ++ s.new H.length) [] := by
  refine ⟨?_, Kept.append _ _ _⟩
  have h5 : ∀ caps, capsOk caps 0 (r.map Arg.two) → Call P f (canonA2 caps 0 (r.map Arg.two)) ([] ++ canonH2 (r.map Arg.two)) fun v' F' => v' = s.val (canonH r).length ∧ F' = [] ++ canonH2 (r.map Arg.two) ++ s.new (canonH r).length := fun caps hc => by
    rw [canonA_two, canonH_two, List.nil_append]; exact h4 caps hc
  have hR2 : ReadA2 H (fun c => [].getD c 0) [] 0 (r.map Arg.two) args := read_two rfl hR
  have := Call.frameC (P := P) (f := f) (H := H) (Et := []) (Ft := []) (N := s.new (canonH r).length) (L := []) (ags := r.map Arg.two) (vs := args) (v := s.val (canonH r).length)
    (fun caps => capsOk caps 0 (r.map Arg.two)) (fun ρ w ρ1 caps R he => rooms_ok R hR2 hr hφ he) rfl rfl (by simp) (fun _ h => by cases h) (fun c o h => by simp at h) (fun _ h => by cases h)
    hR2 h5
    (by rw [List.nil_append, List.nil_append, canonH_two]; simp only [List.length_nil, nm_weak]; exact g.nmn _)
    (g.ro _)
    (by rw [List.nil_append, canonH_two]; simp only [List.length_nil, nm_weak]; exact g.nmv _)
    (by
      rw [List.nil_append, List.nil_append, canonH_two, nameL_nil]
      intro o ho
      have hm := List.mem_map_of_mem (f := omap fun c => H.length + (c - (canonH r).length)) ho
      rw [g.new] at hm
      have := g.scn H.length _ hm
      rw [show (s.new (canonH r).length).length = (s.new H.length).length by rw [← g.new (canonH r).length H.length, List.length_map]]
      exact this)
    (by
      rw [List.nil_append, canonH_two, nameL_nil, g.val]
      have := g.scv H.length
      rw [show (s.new (canonH r).length).length = (s.new H.length).length by rw [← g.new (canonH r).length H.length, List.length_map]]
      exact this)
  rw [List.nil_append, canonH_two, nameL_nil, g.val, g.new] at this
  exact this.1
def freshC (ps : List PK) (spec : List Arg → Option Fresh) : List Value → Heap → Option (Option Prop × Value × Heap × List Nat) := fun args H => match toArgs H ps args with
  | some (φ, r) => match rooms H args with
    | some ψ => match spec r with
      | some s => some (andO φ (andO ψ (some s.ask)), s.val H.length, H ++ s.new H.length, [])
      | none => none
    | none => none
  | none => none
theorem freshC_ok {ps : List PK} {spec : List Arg → Option Fresh} (h : ∀ r s, kinds ps r → spec r = some s → s.ask → s.Good ∧ ∀ caps, capsOk caps 0 (r.map Arg.two) → Call P f (canonA caps 0 r) (canonH r) fun v H' => v = s.val (canonH r).length ∧ H' = canonH r ++ s.new (canonH r).length) :
    ∀ args H φ v H' l, freshC ps spec args H = some (φ, v, H', l) → Asks φ → Call P f args H (fun v' H2 => v' = v ∧ H2 = H') ∧ Kept H H' l := by
  intro args H φ v H' l hg hφ
  unfold freshC at hg
  split at hg <;> try (cases hg; done)
  rename_i φ1 r hr
  split at hg <;> try (cases hg; done)
  rename_i ψ hr2
  split at hg <;> cases hg
  rename_i s hb
  obtain ⟨h1, h2⟩ := andO_iff.1 hφ
  obtain ⟨h3, h5⟩ := andO_iff.1 h2
  obtain ⟨g, h4⟩ := h r s (toArgs_kinds hr) hb h5
  exact Fresh.callC g h4 (toArgs_ok hr h1) hr2 h3
def orcSp (P : Program) : Orc := fun env H o => match o.op with
  | .slice t x lo hi mx => match env x, envs env lo.toList, envs env hi.toList, envs env mx.toList with
    | some (.slice (some ⟨b, 0, some 0⟩) m 0), some [], some [.int k u], some [] => match P.underlying t, H[b]? with
      | some (.slice elem), some (.rw cs (some 1)) => match sizeT P elem with
        | some 1 => some (m ≤ cs.length ∧ 0 ≤ u ∧ u ≤ m, some (.slice (some ⟨b, 0, some 0⟩) u.toNat 0), H)
        | _ => none
      | _, _ => none
    | _, _, _, _ => none
  | _ => none
theorem orcSp_ok : OrcOk P (orcSp P) := fun env H o φ v H' h hφ => by
  unfold orcSp at h
  split at h <;> try (cases h; done)
  rename_i t x lo hi mx hop
  split at h <;> try (cases h; done)
  rename_i b m k u h1 h2 h3 h4
  split at h <;> try (cases h; done)
  rename_i elem cs hu hb
  split at h <;> cases h
  rename_i hs
  obtain ⟨k1, k2, k3⟩ := hφ
  unfold evOp
  rw [hop]
  simp only [h1, h2, h3, h4, Option.bind_some]
  have : aSlice P H t (.slice (some ⟨b, 0, some 0⟩) m 0) ([] : List Value).head? [Value.int k u].head? ([] : List Value).head? = some (.slice (some ⟨b, 0, some 0⟩) u.toNat 0) := by
    have ho : openAt H ⟨b, 0, some 0⟩ 1 0 m = true := by
      unfold openAt
      simp only [hb]
      simp
      omega
    unfold aSlice
    rw [hu]
    simp only [List.head?_cons, List.head?_nil, hs, Option.bind_some, ho, and_self, if_true, aBounds, bnd, k2, k3]
    simp [withSpot, Addr.add, base]
  rw [this]; rfl
end Go.Pier
set_option maxRecDepth 100000
set_option linter.unusedVariables false
set_option linter.unusedSimpArgs false
namespace Go.Pier.Lg
open Go Go.Pier Go.Proofs
def mayS (r : List Arg) : Option Fresh := match r with
  | [p, .ints _ l] => some ⟨errD p.num l = 0 ∧ 0 < l.length ∧ (runA p.num.toNat l).fell = 0, fun b => .tuple #[madeS b (whL (mayG p.num.toNat l) p.num.toNat).length, vi 0], fun _ => [madeA (whL (mayG p.num.toNat l) p.num.toNat)]⟩
  | [p, .plain _] => some ⟨errD p.num [] = 0, fun b => .tuple #[madeS b (whL (mayG p.num.toNat []) p.num.toNat).length, vi 0], fun _ => [madeA (whL (mayG p.num.toNat []) p.num.toNat)]⟩
  | _ => none
def mayXS (r : List Arg) : Prop × Value := match r with
  | [p, .ints _ l] => (errD p.num l = 0 ∧ 0 < l.length ∧ (runA p.num.toNat l).fell ≠ 0, .tuple #[nilS, vi 20])
  | _ => (False, undef)
theorem good_list2 {p : Prop} {s : Option Nat} {k c : Nat} {u : Int} {l : List Int} {r : Option Nat} : Fresh.Good ⟨p, fun b => .tuple #[.slice (some ⟨b, 0, s⟩) k c, vi u], fun _ => [.rw (l.map (.int .i64)) r]⟩ where
  val e n := by simp [nmap, nmap2, nmap1, nmap0, am]
  new e n := omap_one
  ro n := mem_one rfl
  nmv n := by simp [nm, nm2, nm1, nm0]
  nmn n := mem_one nm_ints
  scv n := by simp [sc, sc2, sc1, sc0]
  scn n := mem_one sc_ints
theorem maE2_ok : VOk Try.prog maE2 := VOk.ofCt (CtOk.none.add holdsG_ok)
theorem maE3_ok : VOk Try.prog maE3 := ⟨E0_ok.ct, ccIn_ok maE2_ok mixed (inl_one Try.func63), E0_ok.yc, orcOr_ok orcSl_ok (orcOr_ok orcAp_ok orcCp_ok)⟩
theorem maE_ok (n : Nat) (l : List Int) (k : Nat) : VOk Try.prog (maE n l k) := ⟨CtOk.none.add arowG_ok, ccOr_ok (ccIn_ok E0_ok mixed (inl_one Try.func62)) (ccIn_ok maE3_ok mixed (inl_one Try.func51)), E0_ok.yc, E0_ok.orc⟩
theorem mayC_ok : ∀ args H φ v H' l, freshC psA mayS args H = some (φ, v, H', l) → Asks φ → Call Try.prog 30 args H (fun v' H2 => v' = v ∧ H2 = H') ∧ Kept H H' l :=
  freshC_ok fun r s hk hs hψ => match r, hk with
    | [_, _], ⟨⟨p, rfl⟩, ha, _⟩ => by
      rcases ha with rfl | ⟨s, rfl⟩ | ⟨l, rfl⟩ <;> cases hs
      · obtain ⟨n, rfl⟩ : ∃ n : Nat, p = n := errD_pos hψ
        exact ⟨good_list2, fun caps _ => Call.ofVcR (maE_ok n [] 0) mixed (c := maB) Try.func30 (by kernel_rfl) (cast (congrFun maN_eq n) (maN_ok n hψ))⟩
      · obtain ⟨n, rfl⟩ : ∃ n : Nat, p = n := errD_pos hψ.1
        exact ⟨good_list2, fun caps hc => Call.ofVcR (maE_ok n l 1) mixed (c := maB) Try.func30 (by kernel_rfl) (cast (congrFun (congrFun (congrFun maV_eq n) l) _) (maV_ok n l _ hψ.1 hψ.2.1 hψ.2.2 hc.1))⟩
theorem mayX_ok : ∀ args H φ v H' l, pureG psA mayXS args H = some (φ, v, H', l) → Asks φ → Call Try.prog 30 args H (fun v' H2 => v' = v ∧ H2 = H') ∧ Kept H H' l :=
  pureG_ok fun r hk hs => match r, hk with
    | [_, _], ⟨⟨p, rfl⟩, ha, _⟩ => by
      rcases ha with rfl | ⟨s, rfl⟩ | ⟨l, rfl⟩
      · exact hs.elim
      · exact hs.elim
      · obtain ⟨n, rfl⟩ : ∃ n : Nat, p = n := errD_pos hs.1
        exact ⟨by simp [mayXS, nilS, sc, sc2, sc1, sc0], fun caps => Call.ofVc (maE_ok n l 1) mixed (c := maB) Try.func30 (by kernel_rfl) (cast (congrFun (congrFun (congrFun maX_eq n) l) _) (maX_ok n l _ hs.1 hs.2.1 hs.2.2))⟩
end Go.Pier.Lg
set_option maxRecDepth 100000
set_option linter.unusedVariables false
set_option linter.unusedSimpArgs false
namespace Go.Pier.Lg
open Go Go.Pier Go.Proofs
theorem whL_takGe {n : Nat} {tk : Nat → Bool} : (whL tk n).length = takGe n tk 0 := by
  unfold whL takGe
  rw [List.length_map]
  congr 2
  funext i; simp
end Go.Pier.Lg
set_option maxRecDepth 100000
set_option linter.unusedVariables false
set_option linter.unusedSimpArgs false
namespace Go.Pier.Lg
open Go Go.Pier Go.Proofs
theorem runA_snoc {n : Nat} {d : List Int} {k : Int} : runA n (d ++ [k]) = stepP false n (runA n d) k := by
  unfold runA runP; rw [List.foldl_append]; rfl
def freeB (tk : Nat → Bool) (k : Nat) : Nat → Bool
  | 0 => false
  | p + 1 => freeB tk k p || (decide (k ≤ p) && !tk p)
theorem freeB_iff {tk : Nat → Bool} {k : Nat} : ∀ {p : Nat}, freeB tk k p = true ↔ ∃ i, k ≤ i ∧ i < p ∧ tk i = false
  | 0 => ⟨fun h => (by cases h), fun ⟨i, _, h, _⟩ => absurd h (Nat.not_lt_zero _)⟩
  | p + 1 => by
    simp only [freeB, Bool.or_eq_true, Bool.and_eq_true, decide_eq_true_eq, Bool.not_eq_true', freeB_iff (p := p)]
    constructor
    · rintro (⟨i, h1, h2, h3⟩ | ⟨h1, h2⟩)
      · exact ⟨i, h1, by omega, h3⟩
      · exact ⟨p, h1, by omega, h2⟩
    · rintro ⟨i, h1, h2, h3⟩
      rcases Nat.eq_or_lt_of_le (show i ≤ p by omega) with e | e
      · subst e; exact .inr ⟨h1, h3⟩
      · exact .inl ⟨i, h1, e, h3⟩
theorem freeB_at {tk : Nat → Bool} {k : Nat} : freeB tk k k = false := by
  cases h : freeB tk k k with
  | false => rfl
  | true => obtain ⟨i, h1, h2, _⟩ := freeB_iff.1 h; omega
theorem freeB_succ {tk : Nat → Bool} {k p : Nat} (h : k ≤ p) : freeB tk k (p + 1) = (freeB tk k p || !tk p) := by
  simp only [freeB, h, decide_true, Bool.true_and]
theorem whL_memZ {g : Nat → Bool} {n i : Nat} (h : i < n) : (decide ((i : Int) ∈ whL g n)) = g i := by
  rw [Bool.eq_iff_iff, decide_eq_true_eq]
  unfold whL
  constructor
  · intro hm
    obtain ⟨j, hj, e⟩ := List.mem_map.1 hm
    have : j = i := Int.ofNat.inj e
    subst this
    exact (List.mem_filter.1 hj).2
  · intro hg
    exact List.mem_map.2 ⟨i, List.mem_filter.2 ⟨List.mem_range.2 h, hg⟩, rfl⟩
structure NxFacts (n : Nat) (d : List Int) (k : Nat) : Prop where
  la : (runA n (d ++ [(k : Int)])).lies.length = d.length + 1
  lt : (runA n (d ++ [(k : Int)])).lies.take d.length = (runA n d).lies
  f1 : ((whL (runA n d).tk n).length : Int) + (runA n d).fell = d.length
  f2 : ((whL (runA n (d ++ [(k : Int)])).tk n).length : Int) + (runA n (d ++ [(k : Int)])).fell = d.length + 1
  fm : (runA n d).fell ≤ (runA n (d ++ [(k : Int)])).fell
  wm : (whL (runA n d).tk n).length ≤ (whL (runA n (d ++ [(k : Int)])).tk n).length
  f0 : 0 ≤ (runA n d).fell
  free : (runA n d).fell = 0 → (decide ((runA n (d ++ [(k : Int)])).fell = 0)) = freeB (runA n d).tk k n
theorem wh_fell {n : Nat} {d : List Int} (hb : ∀ x ∈ d, 0 ≤ x ∧ x < (n : Int)) : ((whL (runA n d).tk n).length : Int) + (runA n d).fell = d.length := by
  have hc := run_core hb
  have c1 : (runA n d).tk = (foldC n d (emp, 0, 0)).1 := congrArg (·.1) hc
  have c2 : (runA n d).fell = (foldC n d (emp, 0, 0)).2.2 := congrArg (·.2.2) hc
  have k2 : (takGe n (foldC n d (emp, 0, 0)).1 0 : Int) + (foldC n d (emp, 0, 0)).2.2 = (takGe n emp 0 : Int) + 0 + d.length := foldC_all (s := (emp, 0, 0)) hb
  rw [takGe_emp, ← c2, ← c1, ← whL_takGe] at k2
  omega
theorem nx_facts {n : Nat} {d : List Int} {k : Nat} (hk : k < n) (hb : ∀ x ∈ d, 0 ≤ x ∧ x < (n : Int)) : NxFacts n d k := by
  have hbd := stI_bd (ar := false) (tk := emp) hb (Nat.le_refl d.length)
  rw [stI_end (Nat.le_refl _)] at hbd
  obtain ⟨l1, _, _, l4, _⟩ := hbd
  have l1' : (runA n d).lies.length = d.length := l1
  have l4' : 0 ≤ (runA n d).fell := l4
  have hbx : ∀ x ∈ d ++ [(k : Int)], 0 ≤ x ∧ x < (n : Int) := fun x hx => by
    rcases List.mem_append.1 hx with h | h
    · exact hb x h
    · rw [List.mem_singleton.1 h]; omega
  have g1 := wh_fell hb
  have g2 := wh_fell hbx
  have sb := step_bd (ar := false) (s := runA n d) (d := (k : Int)) (n := n) ⟨by omega, by omega⟩
  obtain ⟨s1, _, _, s4, s5⟩ := sb
  rw [← runA_snoc] at s1 s4 s5
  rw [List.length_append, List.length_singleton] at g2
  have hcs := core_step (n := n) (s := runA n d) (d := (k : Int)) ⟨by omega, by omega⟩
  rw [← runA_snoc, Int.toNat_natCast] at hcs
  have hfe : (runA n (d ++ [(k : Int)])).fell = (stepC n (core (runA n d)) k).2.2 := congrArg (·.2.2) hcs
  obtain ⟨a1, a2, a3, a4⟩ := endAt_spec (tk := (runA n d).tk) (show k ≤ n by omega)
  refine ⟨by omega, ?_, g1, by push_cast at g2; exact g2, s4, by push_cast at g2; omega, l4', fun h0 => ?_⟩
  · rw [runA_snoc]
    unfold stepP
    split
    · rw [List.take_append_of_le_length (by omega), List.take_of_length_le (by omega)]
    · rw [List.take_append_of_le_length (by omega), List.take_of_length_le (by omega)]
  · rw [Bool.eq_iff_iff, decide_eq_true_eq, freeB_iff, hfe]
    unfold stepC
    by_cases e : endAt n (core (runA n d)).1 k < n
    · rw [if_pos e]
      exact ⟨fun _ => ⟨_, a1, e, a4 e⟩, fun _ => h0⟩
    · rw [if_neg e]
      refine ⟨fun h => ?_, fun ⟨i, h1, h2, h3⟩ => ?_⟩
      · have h' : (runA n d).fell + 1 = 0 := h
        omega
      · have e' : ¬ endAt n (runA n d).tk k < n := e
        have := a3 i h1 (by omega)
        rw [h3] at this; cases this
end Go.Pier.Lg
