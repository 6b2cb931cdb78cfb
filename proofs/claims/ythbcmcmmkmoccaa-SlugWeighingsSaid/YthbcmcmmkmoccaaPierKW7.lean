import Derived.Test.YthbcmcmmkmoccaaPierKW3
import Derived.Test.YthbcmcmmkmoccaaPierSlgB
import Derived.KernelRfl
import Derived.Test.YthbcmcmmkmoccaaPierKW2
set_option linter.unusedSimpArgs false
set_option linter.unusedVariables false
set_option maxRecDepth 100000
set_option linter.unusedVariables false
set_option linter.unusedSimpArgs false
namespace Go.Pier.Sk
open Go Go.Pier Go.Proofs
noncomputable def leO : Orc := orcOr (orcLd Try.prog) (orcEq2 34)
noncomputable def leE : VEnv := { orc := leO }
def worksS (r : List Arg) : Prop × Value := match r with | [] => (True, .bool true) | _ => (False, undef)
theorem errK_cases {m : List Int} {z : Bool} (h : errK m z = 0) : (1 ≤ m.length ∧ m.length ≤ 12) ∧ ¬ allL m z = [] := by
  unfold errK at h
  split at h
  · cases h
  split at h
  · cases h
  split at h
  · cases h
  rename_i h1 _ h3
  rw [Bool.not_eq_true] at h3
  exact ⟨by omega, of_dBf h3⟩
noncomputable def fs34 : Array Field := match Try.prog.underlying 34 with | some (.struct f) => f | _ => #[]
noncomputable def fd0 : Field := fs34.toList.getD 0 default
noncomputable def fd1 : Field := fs34.toList.getD 1 default
theorem two34 : TwoNums Try.prog 34 fd0 fd1 where
  ud := ⟨fs34, by kernel_rfl, by kernel_rfl⟩
  st := by kernel_rfl
  n0 := of_decide_eq_true (by kernel_rfl)
  n1 := of_decide_eq_true (by kernel_rfl)
  o0 := by kernel_rfl
  o1 := by kernel_rfl
  t0 := by kernel_rfl
  t1 := by kernel_rfl
  p0 a b := by kernel_rfl
  p1 a b := by kernel_rfl
  gd := by kernel_rfl
theorem leE_ok : VOk Try.prog leE := ⟨CtOk.none, E0_ok.cc, E0_ok.yc, orcOr_ok orcLd_ok (orcEq2_ok two34)⟩
theorem worksG_ok : ∀ args H φ v H' l, pureG [] worksS args H = some (φ, v, H', l) → Asks φ → Call Try.prog 6 args H (fun v' H2 => v' = v ∧ H2 = H') ∧ Kept H H' l :=
  closedG_ok (SlgK.works_ok.call.mono fun v H h => h.1) rfl
end Go.Pier.Sk
namespace Go.Pier.Sk
open Go Go.Pier Go.Proofs
def ca (L : List Int) (i : Nat) : Int := L.getD (i * 2) 0
def ck (L : List Int) (i : Nat) : Int := L.getD (i * 2 + 1) 0
def sumP (w : List Int) : Nat → Int
  | 0 => 0
  | x + 1 => sumP w x + w.getD x 0
theorem sum_bd {w : List Int} (h : ∀ j, j < w.length → -1 ≤ w.getD j 0 ∧ w.getD j 0 ≤ 1) : ∀ x, x ≤ w.length → -(x : Int) ≤ sumP w x ∧ sumP w x ≤ x
  | 0, _ => ⟨by simp [sumP], by simp [sumP]⟩
  | x + 1, hx => by
    have := sum_bd h x (by omega)
    have := h x (by omega)
    simp only [sumP]
    push_cast
    omega
noncomputable def errV (n : Nat) (w : List Int) : Int := if w.length ≠ n then 15 else if dB (∀ x ∈ w, -1 ≤ x ∧ x ≤ 1) = false then 3 else if sumP w w.length ≠ 0 then 14 else 0
theorem errV_15 {n : Nat} {w : List Int} (h : ¬ w.length = n) : errV n w = 15 := by rw [errV, if_pos h]
theorem errV_3 {n : Nat} {w : List Int} (h : w.length = n) (h2 : ¬ ∀ x ∈ w, -1 ≤ x ∧ x ≤ 1) : errV n w = 3 := by rw [errV, if_neg (not_not_intro h), if_pos (dB_false h2).symm]
theorem errV_14 {n : Nat} {w : List Int} (h : w.length = n) (h2 : ∀ x ∈ w, -1 ≤ x ∧ x ≤ 1) (h3 : ¬ sumP w w.length = 0) : errV n w = 14 := by
  rw [errV, if_neg (not_not_intro h), if_neg (by rw [← dB_true h2]; exact Bool.noConfusion), if_pos h3]
theorem errV_0 {n : Nat} {w : List Int} (h : w.length = n) (h2 : ∀ x ∈ w, -1 ≤ x ∧ x ≤ 1) (h3 : sumP w w.length = 0) : errV n w = 0 := by
  rw [errV, if_neg (not_not_intro h), if_neg (by rw [← dB_true h2]; exact Bool.noConfusion), if_neg (not_not_intro h3)]
theorem errV_cases {n : Nat} {w : List Int} (h : errV n w = 0) : w.length = n ∧ ∀ x ∈ w, -1 ≤ x ∧ x ≤ 1 := by
  unfold errV at h
  split at h
  · cases h
  split at h
  · cases h
  rename_i h1 h2
  rw [Bool.not_eq_false] at h2
  exact ⟨by omega, of_dB h2⟩
noncomputable def errW (m : List Int) (z : Bool) (w : List Int) : Int := if errK m z ≠ 0 then errK m z else errV m.length w
theorem errW_k {m : List Int} {z : Bool} {w : List Int} (h : ¬ errK m z = 0) : errW m z w = errK m z := by rw [errW, if_pos h]
theorem errW_v {m : List Int} {z : Bool} {w : List Int} (h : errK m z = 0) : errW m z w = errV m.length w := by rw [errW, if_neg (not_not_intro h)]
theorem errW_cases {m : List Int} {z : Bool} {w : List Int} (h : errW m z w = 0) : errK m z = 0 ∧ errV m.length w = 0 := by
  unfold errW at h
  split at h
  · rename_i h1; exact absurd h h1
  · rename_i h1; exact ⟨Decidable.not_not.1 h1, h⟩
def hasC (L : List Int) (n : Nat) (a k : Int) : Prop := ∃ i, i < n ∧ ca L i = a ∧ ck L i = k
def resV (w : List Int) (a k : Int) : Int := if k = 1 then - w.getD a.toNat 0 else if k = 2 then w.getD a.toNat 0 else 0
def okC (n : Nat) (a k : Int) : Prop := (a = -1 ∧ k = 0) ∨ ((0 ≤ a ∧ a < n) ∧ 1 ≤ k ∧ k ≤ 2)
def okL (n : Nat) (L : List Int) : Prop := ∀ i, i < L.length / 2 → okC n (ca L i) (ck L i)
theorem ok_app {n : Nat} {L : List Int} {a k : Int} (he : L.length % 2 = 0) (h : okL n L) (hc : okC n a k) : okL n (L ++ [a, k]) := fun i hi => by
  rw [List.length_append] at hi
  simp only [List.length_cons, List.length_nil] at hi
  by_cases hl : i < L.length / 2
  · have e1 : ca (L ++ [a, k]) i = ca L i := by unfold ca; rw [List.getD_eq_getElem?_getD, List.getD_eq_getElem?_getD, List.getElem?_append_left (by omega)]
    have e2 : ck (L ++ [a, k]) i = ck L i := by unfold ck; rw [List.getD_eq_getElem?_getD, List.getD_eq_getElem?_getD, List.getElem?_append_left (by omega)]
    rw [e1, e2]; exact h i hl
  · have e1 : ca (L ++ [a, k]) i = a := by unfold ca; rw [List.getD_eq_getElem?_getD, List.getElem?_append_right (by omega), show i * 2 - L.length = 0 by omega]; rfl
    have e2 : ck (L ++ [a, k]) i = k := by unfold ck; rw [List.getD_eq_getElem?_getD, List.getElem?_append_right (by omega), show i * 2 + 1 - L.length = 1 by omega]; rfl
    rw [e1, e2]; exact hc
theorem ok_kd {n : Nat} {m L : List Int} {x k : Nat} (he : L.length % 2 = 0) (h : okL n L) (hx : x < n) (hk : 1 ≤ k ∧ k ≤ 2) : okL n (L ++ kd m x k) := by
  unfold kd
  split
  · exact ok_app he h (.inr ⟨⟨by omega, by omega⟩, by omega, by omega⟩)
  · rw [List.append_nil]; exact h
theorem ok_ca {n : Nat} {m : List Int} : ∀ x, x ≤ n → okL n (caL m x)
  | 0, _ => fun i hi => by simp [caL] at hi
  | x + 1, hx => by
    have h := ok_ca (n := n) (m := m) x (by omega)
    have l0 := (ca_len (m := m) x).1
    have l1 := (kd_len (m := m) (x := x) (k := 1)).1
    exact ok_kd (x := x) (k := 2) (by rw [List.length_append]; omega) (ok_kd (x := x) (k := 1) l0 h (by omega) (by omega)) (by omega) (by omega)
theorem ok_all {m : List Int} {z : Bool} : okL m.length (allL m z) := by
  have h := ok_ca (n := m.length) (m := m) m.length (Nat.le_refl _)
  cases z
  · rw [all_no]; exact h
  · rw [all_yes]; exact ok_app (ca_len m.length).1 h (.inl ⟨rfl, rfl⟩)
theorem all_max {m : List Int} {z : Bool} : (allL m z).length ≤ 4 * m.length + 2 := by
  have h2 := (ca_len (m := m) m.length).2
  unfold allL
  cases z <;> simp <;> omega
def filL (L w : List Int) (r : Int) : Nat → List Int
  | 0 => []
  | x + 1 => if resV w (ca L x) (ck L x) = r then filL L w r x ++ [ca L x, ck L x] else filL L w r x
theorem fil_len {L w : List Int} {r : Int} : ∀ x, (filL L w r x).length % 2 = 0 ∧ (filL L w r x).length ≤ 2 * x
  | 0 => ⟨rfl, Nat.le_refl _⟩
  | x + 1 => by
    have := fil_len (L := L) (w := w) (r := r) x
    simp only [filL]
    split
    · rw [List.length_append]; simp only [List.length_cons, List.length_nil]; omega
    · omega
theorem ok_fil {n : Nat} {L w : List Int} {r : Int} (h : okL n L) : ∀ x, x ≤ L.length / 2 → okL n (filL L w r x)
  | 0, _ => fun i hi => by simp [filL] at hi
  | x + 1, hx => by
    have ih := ok_fil (w := w) (r := r) h x (by omega)
    simp only [filL]
    split
    · exact ok_app (fil_len x).1 ih (h x (by omega))
    · exact ih
def lkL (n : Nat) (F : List Int) : Nat → List Int
  | 0 => List.replicate n 0
  | x + 1 => if ca F x < 0 then lkL n F x else (lkL n F x).set (ca F x).toNat ((lkL n F x).getD (ca F x).toNat 0 + ck F x)
def lkZ (F : List Int) : Nat → Bool
  | 0 => false
  | x + 1 => if ca F x < 0 then true else lkZ F x
theorem lk_len {n : Nat} {F : List Int} : ∀ x, (lkL n F x).length = n
  | 0 => List.length_replicate
  | x + 1 => by
    have := lk_len (n := n) (F := F) x
    simp only [lkL]
    split
    · exact this
    · rw [List.length_set, this]
theorem lk_bd {n : Nat} {F : List Int} (h : okL n F) : ∀ x, x ≤ F.length / 2 → ∀ i, 0 ≤ (lkL n F x).getD i 0 ∧ (lkL n F x).getD i 0 ≤ 2 * x
  | 0, _, i => by
    rw [lkL, List.getD_eq_getElem?_getD, List.getElem?_replicate]
    split <;> simp
  | x + 1, hx, i => by
    have ih := lk_bd h x (by omega)
    have hc := h x (by omega)
    simp only [lkL]
    split
    · have := ih i; omega
    · rw [List.getD_eq_getElem?_getD, List.getElem?_set]
      have h1 := ih i
      have h2 := ih (ca F x).toNat
      rw [List.getD_eq_getElem?_getD] at h1
      split
      · split
        · rcases hc with hc | hc <;> simp only [Option.getD_some] <;> omega
        · simp; omega
      · omega
end Go.Pier.Sk
set_option maxRecDepth 100000
set_option linter.unusedVariables false
set_option linter.unusedSimpArgs false
namespace Go.Pier.Sk
open Go Go.Pier Go.Proofs
noncomputable def cpaB : Code := Try.f48.body.getD .skip
noncomputable def wgB : Code := Try.f49.body.getD .skip
noncomputable def cwB : Code := Try.f16.body.getD .skip
noncomputable def rwB : Code := Try.f17.body.getD .skip
abbrev psKW : List K3 := [.agg [.rows [.i .i64] false, .bool], .one (.rows [.i .i64] false)]
def nj (n d : Nat) : Value := .slice (some ⟨1,0,none⟩) n d
noncomputable def cpaE : VEnv := { ct := Ct.none.add 37 (pureG [.int .i64, .int .i64, .ints .i64] wiS) }
def cpaI (w : List Int) (d : Nat) : Nat → Option LInv := invOf 0 (LInv.one Nat (fun x => x ≤ w.length) (fun x => [(5, vi (sumP w x)), (15, .slice (some ⟨0,0,none⟩) w.length d), (16, vi w.length), (17, vi x)]) (fun _ => [ros w]) (fun x => w.length - x))
noncomputable def cpaV_s0 (n : Int) (w : List Int) (d : Nat) := (List.map (Value.int IntKind.i64) w)
noncomputable def cpaV_s1 (n : Int) (w : List Int) (d : Nat) := (!wiF (Arg.plain (vi (-1 : Int))).num (Arg.plain (vi (1 : Int))).num (Arg.ints IntKind.i64 (List.take w.length (List.drop (0 : Nat) (intsOf (cpaV_s0 n w d))))).list)
noncomputable def cpaV :=
fun (n : Int) (w : List Int) (d : Nat) ↦ (((↑w.length : Int) != n) = true → True ∧ Ob (vi (15 : Int) = vi (errV n.toNat w))) ∧ (((↑w.length : Int) != n) = false → Ob ((List.take w.length (List.drop (0 : Nat) (cpaV_s0 n w d)) = List.map (Value.int IntKind.i64) (List.take w.length (List.drop (0 : Nat) (intsOf (cpaV_s0 n w d)))) ∧ (0 : Nat) + w.length ≤ (cpaV_s0 n w d).length ∧ true = true) ∧ (Arg.ints IntKind.i64 (List.take w.length (List.drop (0 : Nat) (intsOf (cpaV_s0 n w d))))).list.length ≤ (1000000 : Nat)) ∧ ((cpaV_s1 n w d) = true → True ∧ Ob (vi (3 : Int) = vi (errV n.toNat w))) ∧ ((cpaV_s1 n w d) = false → (∃ (y : Nat), Ob (y ≤ w.length) ∧ (Ob (AObj.ro (cpaV_s0 n w d) = AObj.ro (List.map (nmap1 fun (b : Nat) ↦ b) (cpaV_s0 n w d)) ∧ AObj.sc (1 : Nat) (AObj.ro (cpaV_s0 n w d)) = true) ∧ True) ∧ Ob ((0 : Int) = sumP w y) ∧ Ob (Value.slice (some (ad0 0)) w.length d = Value.slice (some (ad0 0)) w.length d) ∧ Ob ((↑w.length : Int) = (↑w.length : Int)) ∧ Ob ((0 : Int) = (↑y : Int)) ∧ True) ∧ ∀ (x : Nat), Ob (x ≤ w.length) → (decide ((↑x : Int) < (↑w.length : Int)) = true → Ob ((0 : Int) ≤ (↑x : Int) ∧ (↑x : Int) < (↑w.length : Int) ∧ true = true) ∧ Ob (IntAt IntKind.i64 (cpaV_s0 n w d) ((0 : Nat) + (↑x : Int).toNat * (1 : Nat))) ∧ ∃ (y : Nat), Ob (y ≤ w.length) ∧ Ob (w.length - y < w.length - x) ∧ (Ob (AObj.ro (cpaV_s0 n w d) = AObj.ro (List.map (nmap1 fun (b : Nat) ↦ b) (cpaV_s0 n w d)) ∧ AObj.sc (1 : Nat) (AObj.ro (cpaV_s0 n w d)) = true) ∧ True) ∧ Ob (IntKind.i64.wrap (sumP w x + getI (cpaV_s0 n w d) ((0 : Nat) + (↑x : Int).toNat * (1 : Nat))) = sumP w y) ∧ Ob (Value.slice (some (ad0 0)) w.length d = Value.slice (some (ad0 0)) w.length d) ∧ Ob ((↑w.length : Int) = (↑w.length : Int)) ∧ Ob (IntKind.i64.wrap ((↑x : Int) + (1 : Int)) = (↑y : Int)) ∧ True) ∧ (decide ((↑x : Int) < (↑w.length : Int)) = false → ((sumP w x != (0 : Int)) = true → True ∧ Ob (vi (14 : Int) = vi (errV n.toNat w))) ∧ ((sumP w x != (0 : Int)) = false → True ∧ Ob (vi (0 : Int) = vi (errV n.toNat w))))))
theorem cpaV_eq : cpaV = fun (n : Int) (w : List Int) (d : Nat) => vc Try.prog cpaE 1 27 true (cpaI w d) cpaB [] (argFr 0 [vi n, .slice (some ⟨0,0,none⟩) w.length d]) [ros w] (retK Try.prog Try.f48 (fun v _ => v = vi (errV n.toNat w))) := by kernel_rfl
noncomputable def cpaN :=
fun (n : Int) ↦ (((↑(0 : Nat) : Int) != n + (1 : Int)) = true → True ∧ Ob (vi (15 : Int) = vi (15 : Int))) ∧ (((↑(0 : Nat) : Int) != n + (1 : Int)) = false → Ob ((0 : Nat) ≤ (1000000 : Nat)) ∧ (false = true → True ∧ Ob (vi (3 : Int) = vi (15 : Int))) ∧ (false = false → False))
theorem cpaN_eq : cpaN = fun (n : Int) => vc Try.prog cpaE 0 27 true (fun _ => none) cpaB [] (argFr 0 [vi (n + 1), nilS]) [] (retK Try.prog Try.f48 (fun v _ => v = vi 15)) := by kernel_rfl
noncomputable def cpaH :=
fun (n : Int) (s : Option Nat) (d : Nat) ↦ (((↑(0 : Nat) : Int) != n + (1 : Int)) = true → True ∧ Ob (vi (15 : Int) = vi (15 : Int))) ∧ (((↑(0 : Nat) : Int) != n + (1 : Int)) = false → Ob ((0 : Nat) ≤ (1000000 : Nat)) ∧ ((!true) = true → True ∧ Ob (vi (3 : Int) = vi (15 : Int))) ∧ ((!true) = false → False))
theorem cpaH_eq : cpaH = fun (n : Int) (s : Option Nat) (d : Nat) => vc Try.prog cpaE 1 27 true (fun _ => none) cpaB [] (argFr 0 [vi (n + 1), .slice (some ⟨0,0,s⟩) 0 d]) [.gone] (retK Try.prog Try.f48 (fun v _ => v = vi 15)) := by kernel_rfl
def wgI (m w : List Int) (c d : Nat) (z : Bool) : Nat → Option LInv := invOf 0 (LInv.one Nat (fun x => x ≤ w.length ∧ ∀ j, j < x → -1 ≤ w.getD j 0 ∧ w.getD j 0 ≤ 1) (fun x => [(1, nj w.length d), (5, vi (sumP w x)), (6, vi x)]) (fun _ => [ros m, ros w, boxK m.length c z]) (fun x => w.length - x))
noncomputable def wgV_s0 (m w : List Int) (c d : Nat) (z : Bool) := (List.map (Value.int IntKind.i64) w)
noncomputable def wgV :=
fun (m w : List Int) (c d : Nat) (z : Bool) ↦ (((↑w.length : Int) != (↑m.length : Int)) = true → True ∧ Ob (vi (15 : Int) = vi (errV m.length w))) ∧ (((↑w.length : Int) != (↑m.length : Int)) = false → (∃ (y : Nat), Ob (y ≤ w.length ∧ ∀ (j : Nat), j < y → (-1 : Int) ≤ w.getD j (0 : Int) ∧ w.getD j (0 : Int) ≤ (1 : Int)) ∧ (Ob (AObj.ro (List.map (Value.int IntKind.i64) m) = AObj.ro (List.map (nmap1 fun (b : Nat) ↦ b) (List.map (Value.int IntKind.i64) m)) ∧ AObj.sc (3 : Nat) (AObj.ro (List.map (Value.int IntKind.i64) m)) = true) ∧ Ob (AObj.ro (wgV_s0 m w c d z) = AObj.ro (List.map (nmap1 fun (b : Nat) ↦ b) (wgV_s0 m w c d z)) ∧ AObj.sc (3 : Nat) (AObj.ro (wgV_s0 m w c d z)) = true) ∧ Ob (AObj.rw [Value.slice (some (ad0 0)) m.length c, Value.bool z] none = AObj.rw [Value.slice (some (ad0 0)) m.length c, Value.bool z] none ∧ true = true) ∧ True) ∧ Ob (Value.slice (some (ad0 1)) w.length d = Value.slice (some (ad0 1)) w.length d) ∧ Ob ((0 : Int) = sumP w y) ∧ Ob ((0 : Int) = (↑y : Int)) ∧ True) ∧ ∀ (x : Nat), Ob (x ≤ w.length ∧ ∀ (j : Nat), j < x → (-1 : Int) ≤ w.getD j (0 : Int) ∧ w.getD j (0 : Int) ≤ (1 : Int)) → (decide ((↑x : Int) < (↑w.length : Int)) = true → Ob ((0 : Int) ≤ (↑x : Int) ∧ (↑x : Int) < (↑w.length : Int) ∧ true = true) ∧ Ob (IntAt IntKind.i64 (wgV_s0 m w c d z) ((0 : Nat) + (↑x : Int).toNat * (1 : Nat))) ∧ (decide (getI (wgV_s0 m w c d z) ((0 : Nat) + (↑x : Int).toNat * (1 : Nat)) < (-1 : Int)) = false → Ob ((0 : Int) ≤ (↑x : Int) ∧ (↑x : Int) < (↑w.length : Int) ∧ true = true) ∧ Ob (IntAt IntKind.i64 (wgV_s0 m w c d z) ((0 : Nat) + (↑x : Int).toNat * (1 : Nat))) ∧ (decide ((1 : Int) < getI (wgV_s0 m w c d z) ((0 : Nat) + (↑x : Int).toNat * (1 : Nat))) = true → True ∧ Ob (vi (3 : Int) = vi (errV m.length w))) ∧ (decide ((1 : Int) < getI (wgV_s0 m w c d z) ((0 : Nat) + (↑x : Int).toNat * (1 : Nat))) = false → Ob ((0 : Int) ≤ (↑x : Int) ∧ (↑x : Int) < (↑w.length : Int) ∧ true = true) ∧ Ob (IntAt IntKind.i64 (wgV_s0 m w c d z) ((0 : Nat) + (↑x : Int).toNat * (1 : Nat))) ∧ ∃ (y : Nat), Ob (y ≤ w.length ∧ ∀ (j : Nat), j < y → (-1 : Int) ≤ w.getD j (0 : Int) ∧ w.getD j (0 : Int) ≤ (1 : Int)) ∧ Ob (w.length - y < w.length - x) ∧ (Ob (AObj.ro (List.map (Value.int IntKind.i64) m) = AObj.ro (List.map (nmap1 fun (b : Nat) ↦ b) (List.map (Value.int IntKind.i64) m)) ∧ AObj.sc (3 : Nat) (AObj.ro (List.map (Value.int IntKind.i64) m)) = true) ∧ Ob (AObj.ro (wgV_s0 m w c d z) = AObj.ro (List.map (nmap1 fun (b : Nat) ↦ b) (wgV_s0 m w c d z)) ∧ AObj.sc (3 : Nat) (AObj.ro (wgV_s0 m w c d z)) = true) ∧ Ob (AObj.rw [Value.slice (some (ad0 0)) m.length c, Value.bool z] none = AObj.rw [Value.slice (some (ad0 0)) m.length c, Value.bool z] none ∧ true = true) ∧ True) ∧ Ob (Value.slice (some (ad0 1)) w.length d = Value.slice (some (ad0 1)) w.length d) ∧ Ob (IntKind.i64.wrap (sumP w x + getI (wgV_s0 m w c d z) ((0 : Nat) + (↑x : Int).toNat * (1 : Nat))) = sumP w y) ∧ Ob (IntKind.i64.wrap ((↑x : Int) + (1 : Int)) = (↑y : Int)) ∧ True)) ∧ (decide (getI (wgV_s0 m w c d z) ((0 : Nat) + (↑x : Int).toNat * (1 : Nat)) < (-1 : Int)) = true → True ∧ Ob (vi (3 : Int) = vi (errV m.length w)))) ∧ (decide ((↑x : Int) < (↑w.length : Int)) = false → ((sumP w x != (0 : Int)) = true → True ∧ Ob (vi (14 : Int) = vi (errV m.length w))) ∧ ((sumP w x != (0 : Int)) = false → True ∧ Ob (vi (0 : Int) = vi (errV m.length w)))))
theorem wgV_eq : wgV = fun (m w : List Int) (c d : Nat) (z : Bool) => vc Try.prog {} 2 39 true (wgI m w c d z) wgB [] (argFr 0 [knV (some ⟨0,0,none⟩) m.length c z, nj w.length d]) [ros m, ros w] (retK Try.prog Try.f49 (fun v _ => v = vi (errV m.length w))) := by kernel_rfl
noncomputable def wgN :=
fun (m : List Int) (c : Nat) (z : Bool) ↦ (((↑(0 : Nat) : Int) != (↑m.length : Int)) = true → True ∧ Ob (vi (15 : Int) = vi (15 : Int))) ∧ (((↑(0 : Nat) : Int) != (↑m.length : Int)) = false → False)
theorem wgN_eq : wgN = fun (m : List Int) (c : Nat) (z : Bool) => vc Try.prog {} 1 39 true (fun _ => none) wgB [] (argFr 0 [knV (some ⟨0,0,none⟩) m.length c z, nilS]) [ros m] (retK Try.prog Try.f49 (fun v _ => v = vi 15)) := by kernel_rfl
noncomputable def wgH :=
fun (m : List Int) (c d : Nat) (s : Option Nat) (z : Bool) ↦ (((↑(0 : Nat) : Int) != (↑m.length : Int)) = true → True ∧ Ob (vi (15 : Int) = vi (15 : Int))) ∧ (((↑(0 : Nat) : Int) != (↑m.length : Int)) = false → False)
theorem wgH_eq : wgH = fun (m : List Int) (c d : Nat) (s : Option Nat) (z : Bool) => vc Try.prog {} 2 39 true (fun _ => none) wgB [] (argFr 0 [knV (some ⟨0,0,none⟩) m.length c z, .slice (some ⟨1,0,s⟩) 0 d]) [ros m, .gone] (retK Try.prog Try.f49 (fun v _ => v = vi 15)) := by kernel_rfl
noncomputable def cpaS (r : List Arg) : Prop × Value := match r with
  | [n, .ints _ w] => (w.length ≤ 1000 ∧ 0 ≤ n.num, vi (errV n.num.toNat w))
  | [n, _] => (1 ≤ n.num ∧ n.num ≤ 1000, vi 15)
  | _ => (False, undef)
noncomputable def wgS : List Arg3 → Option (Prop × Value)
  | [.agg [.view cs n r, .plain (.bool z)], .one (.view ds k q)] => some (okM (.view cs n r) ∧ okM (.view ds k q), vi (errV n (intsOf ds)))
  | [.agg [.view cs n r, .plain (.bool z)], .one _] => some (okM (.view cs n r) ∧ 1 ≤ n, vi 15)
  | _ => none
noncomputable def cwE : VEnv := { ct := (Ct.none.add 9 (pure3 psK knS)).add 48 (pureG [.int .i64, .ints .i64] cpaS) }
noncomputable def rwE : VEnv := { ct := (Ct.none.add 10 (pure3 psK knS)).add 49 (pure3 psKW wgS) }
noncomputable def errX (m : List Int) (z : Bool) : Int := if errK m z ≠ 0 then errK m z else 15
noncomputable def cwVV :=
fun (m : List Int) (c : Nat) (w : List Int) (d : Nat) (z : Bool) ↦ Ob ((true = true ∧ Flat (List.map (Value.int IntKind.i64) m)) ∧ okM (Leaf.view (List.map (Value.int IntKind.i64) m) m.length false)) ∧ ((errK (intsOf (List.map (Value.int IntKind.i64) m)) z != (0 : Int)) = true → True ∧ Ob (vi (errK (intsOf (List.map (Value.int IntKind.i64) m)) z) = vi (errW m z w))) ∧ ((errK (intsOf (List.map (Value.int IntKind.i64) m)) z != (0 : Int)) = false → Ob ((List.take w.length (List.drop (0 : Nat) (List.map (Value.int IntKind.i64) w)) = List.map (Value.int IntKind.i64) (List.take w.length (List.drop (0 : Nat) (intsOf (List.map (Value.int IntKind.i64) w)))) ∧ (0 : Nat) + w.length ≤ (List.map (Value.int IntKind.i64) w).length ∧ true = true) ∧ (List.take w.length (List.drop (0 : Nat) (intsOf (List.map (Value.int IntKind.i64) w)))).length ≤ (1000 : Nat) ∧ (0 : Int) ≤ (Arg.plain (vi (↑m.length : Int))).num) ∧ True ∧ Ob (vi (errV (Arg.plain (vi (↑m.length : Int))).num.toNat (List.take w.length (List.drop (0 : Nat) (intsOf (List.map (Value.int IntKind.i64) w))))) = vi (errW m z w)))
theorem cwVV_eq : cwVV = fun (m : List Int) (c : Nat) (w : List Int) (d : Nat) (z : Bool) => vc Try.prog cwE 2 16 true (fun _ => none) cwB [] (argFr 0 [knV (some ⟨0,0,none⟩) m.length c z, .slice (some ⟨1,0,none⟩) w.length d]) [ros m, ros w] (retK Try.prog Try.f16 (fun v _ => v = vi (errW m z w))) := by kernel_rfl
noncomputable def cwVN :=
fun (m : List Int) (c : Nat) (z : Bool) ↦ Ob ((true = true ∧ Flat (List.map (Value.int IntKind.i64) m)) ∧ okM (Leaf.view (List.map (Value.int IntKind.i64) m) m.length false)) ∧ ((errK (intsOf (List.map (Value.int IntKind.i64) m)) z != (0 : Int)) = true → True ∧ Ob (vi (errK (intsOf (List.map (Value.int IntKind.i64) m)) z) = vi (errX m z))) ∧ ((errK (intsOf (List.map (Value.int IntKind.i64) m)) z != (0 : Int)) = false → Ob ((1 : Int) ≤ (Arg.plain (vi (↑m.length : Int))).num ∧ (Arg.plain (vi (↑m.length : Int))).num ≤ (1000 : Int)) ∧ True ∧ Ob (vi (15 : Int) = vi (errX m z)))
theorem cwVN_eq : cwVN = fun (m : List Int) (c : Nat) (z : Bool) => vc Try.prog cwE 1 16 true (fun _ => none) cwB [] (argFr 0 [knV (some ⟨0,0,none⟩) m.length c z, nilS]) [ros m] (retK Try.prog Try.f16 (fun v _ => v = vi (errX m z))) := by kernel_rfl
noncomputable def cwVH :=
fun (m : List Int) (c d : Nat) (t : Option Nat) (z : Bool) ↦ Ob ((true = true ∧ Flat (List.map (Value.int IntKind.i64) m)) ∧ okM (Leaf.view (List.map (Value.int IntKind.i64) m) m.length false)) ∧ ((errK (intsOf (List.map (Value.int IntKind.i64) m)) z != (0 : Int)) = true → True ∧ Ob (vi (errK (intsOf (List.map (Value.int IntKind.i64) m)) z) = vi (errX m z))) ∧ ((errK (intsOf (List.map (Value.int IntKind.i64) m)) z != (0 : Int)) = false → Ob ((1 : Int) ≤ (Arg.plain (vi (↑m.length : Int))).num ∧ (Arg.plain (vi (↑m.length : Int))).num ≤ (1000 : Int)) ∧ True ∧ Ob (vi (15 : Int) = vi (errX m z)))
theorem cwVH_eq : cwVH = fun (m : List Int) (c : Nat) (d : Nat) (t : Option Nat) (z : Bool) => vc Try.prog cwE 2 16 true (fun _ => none) cwB [] (argFr 0 [knV (some ⟨0,0,none⟩) m.length c z, .slice (some ⟨1,0,t⟩) 0 d]) [ros m, .gone] (retK Try.prog Try.f16 (fun v _ => v = vi (errX m z))) := by kernel_rfl
noncomputable def cwNV_s0 (w : List Int) (d : Nat) (z : Bool) := (List.take w.length (List.drop (0 : Nat) (intsOf (List.map (Value.int IntKind.i64) w))))
noncomputable def cwNV :=
fun (w : List Int) (d : Nat) (z : Bool) ↦ Ob True ∧ (true = true → True ∧ Ob (vi (6 : Int) = vi (6 : Int))) ∧ (true = false → Ob ((List.take w.length (List.drop (0 : Nat) (List.map (Value.int IntKind.i64) w)) = List.map (Value.int IntKind.i64) (cwNV_s0 w d z) ∧ (0 : Nat) + w.length ≤ (List.map (Value.int IntKind.i64) w).length ∧ true = true) ∧ (cwNV_s0 w d z).length ≤ (1000 : Nat) ∧ (0 : Int) ≤ (Arg.plain (vi (↑(0 : Nat) : Int))).num) ∧ True ∧ Ob (vi (errV (0 : Nat) (cwNV_s0 w d z)) = vi (6 : Int)))
theorem cwNV_eq : cwNV = fun (w : List Int) (d : Nat) (z : Bool) => vc Try.prog cwE 1 16 true (fun _ => none) cwB [] (argFr 0 [knV none 0 0 z, .slice (some ⟨0,0,none⟩) w.length d]) [ros w] (retK Try.prog Try.f16 (fun v _ => v = vi (6))) := by kernel_rfl
noncomputable def cwNN :=
fun (z : Bool) ↦ Ob True ∧ (true = true → True ∧ Ob (vi (6 : Int) = vi (6 : Int))) ∧ (true = false → Ob ((1 : Int) ≤ (Arg.plain (vi (↑(0 : Nat) : Int))).num ∧ (Arg.plain (vi (↑(0 : Nat) : Int))).num ≤ (1000 : Int)) ∧ True ∧ Ob (vi (15 : Int) = vi (6 : Int)))
theorem cwNN_eq : cwNN = fun (z : Bool) => vc Try.prog cwE 0 16 true (fun _ => none) cwB [] (argFr 0 [knV none 0 0 z, nilS]) [] (retK Try.prog Try.f16 (fun v _ => v = vi (6))) := by kernel_rfl
noncomputable def cwNH :=
fun (d : Nat) (t : Option Nat) (z : Bool) ↦ Ob True ∧ (true = true → True ∧ Ob (vi (6 : Int) = vi (6 : Int))) ∧ (true = false → Ob ((1 : Int) ≤ (Arg.plain (vi (↑(0 : Nat) : Int))).num ∧ (Arg.plain (vi (↑(0 : Nat) : Int))).num ≤ (1000 : Int)) ∧ True ∧ Ob (vi (15 : Int) = vi (6 : Int)))
theorem cwNH_eq : cwNH = fun (d : Nat) (t : Option Nat) (z : Bool) => vc Try.prog cwE 1 16 true (fun _ => none) cwB [] (argFr 0 [knV none 0 0 z, .slice (some ⟨0,0,t⟩) 0 d]) [.gone] (retK Try.prog Try.f16 (fun v _ => v = vi (6))) := by kernel_rfl
noncomputable def cwHV :=
fun (c : Nat) (s : Option Nat) (w : List Int) (d : Nat) (z : Bool) ↦ Ob True ∧ (true = true → True ∧ Ob (vi (6 : Int) = vi (6 : Int))) ∧ (true = false → Ob ((List.take w.length (List.drop (0 : Nat) (List.map (Value.int IntKind.i64) w)) = List.map (Value.int IntKind.i64) (List.take w.length (List.drop (0 : Nat) (intsOf (List.map (Value.int IntKind.i64) w)))) ∧ (0 : Nat) + w.length ≤ (List.map (Value.int IntKind.i64) w).length ∧ true = true) ∧ (List.take w.length (List.drop (0 : Nat) (intsOf (List.map (Value.int IntKind.i64) w)))).length ≤ (1000 : Nat) ∧ (0 : Int) ≤ (Arg.plain (vi (↑(0 : Nat) : Int))).num) ∧ True ∧ Ob (vi (errV (0 : Nat) (List.take w.length (List.drop (0 : Nat) (intsOf (List.map (Value.int IntKind.i64) w))))) = vi (6 : Int)))
theorem cwHV_eq : cwHV = fun (c : Nat) (s : Option Nat) (w : List Int) (d : Nat) (z : Bool) => vc Try.prog cwE 2 16 true (fun _ => none) cwB [] (argFr 0 [knV (some ⟨0,0,s⟩) 0 c z, .slice (some ⟨1,0,none⟩) w.length d]) [.gone, ros w] (retK Try.prog Try.f16 (fun v _ => v = vi (6))) := by kernel_rfl
noncomputable def cwHN :=
fun (c : Nat) (s : Option Nat) (z : Bool) ↦ Ob True ∧ (true = true → True ∧ Ob (vi (6 : Int) = vi (6 : Int))) ∧ (true = false → Ob ((1 : Int) ≤ (Arg.plain (vi (↑(0 : Nat) : Int))).num ∧ (Arg.plain (vi (↑(0 : Nat) : Int))).num ≤ (1000 : Int)) ∧ True ∧ Ob (vi (15 : Int) = vi (6 : Int)))
theorem cwHN_eq : cwHN = fun (c : Nat) (s : Option Nat) (z : Bool) => vc Try.prog cwE 1 16 true (fun _ => none) cwB [] (argFr 0 [knV (some ⟨0,0,s⟩) 0 c z, nilS]) [.gone] (retK Try.prog Try.f16 (fun v _ => v = vi (6))) := by kernel_rfl
noncomputable def cwHH :=
fun (c : Nat) (s : Option Nat) (d : Nat) (t : Option Nat) (z : Bool) ↦ Ob True ∧ (true = true → True ∧ Ob (vi (6 : Int) = vi (6 : Int))) ∧ (true = false → Ob ((1 : Int) ≤ (Arg.plain (vi (↑(0 : Nat) : Int))).num ∧ (Arg.plain (vi (↑(0 : Nat) : Int))).num ≤ (1000 : Int)) ∧ True ∧ Ob (vi (15 : Int) = vi (6 : Int)))
theorem cwHH_eq : cwHH = fun (c : Nat) (s : Option Nat) (d : Nat) (t : Option Nat) (z : Bool) => vc Try.prog cwE 2 16 true (fun _ => none) cwB [] (argFr 0 [knV (some ⟨0,0,s⟩) 0 c z, .slice (some ⟨1,0,t⟩) 0 d]) [.gone, .gone] (retK Try.prog Try.f16 (fun v _ => v = vi (6))) := by kernel_rfl
noncomputable def rwVV :=
fun (m : List Int) (c : Nat) (w : List Int) (d : Nat) (z : Bool) ↦ Ob ((true = true ∧ Flat (List.map (Value.int IntKind.i64) m)) ∧ okM (Leaf.view (List.map (Value.int IntKind.i64) m) m.length false)) ∧ ((errK (intsOf (List.map (Value.int IntKind.i64) m)) z != (0 : Int)) = true → Ob ((true = true ∧ Flat (List.map (Value.int IntKind.i64) m)) ∧ okM (Leaf.view (List.map (Value.int IntKind.i64) m) m.length false)) ∧ True ∧ Ob (vi (errK (intsOf (List.map (Value.int IntKind.i64) m)) z) = vi (errW m z w))) ∧ ((errK (intsOf (List.map (Value.int IntKind.i64) m)) z != (0 : Int)) = false → Ob (((true = true ∧ Flat (List.map (Value.int IntKind.i64) m)) ∧ true = true ∧ Flat (List.map (Value.int IntKind.i64) w)) ∧ okM (Leaf.view (List.map (Value.int IntKind.i64) m) m.length false) ∧ okM (Leaf.view (List.map (Value.int IntKind.i64) w) w.length false)) ∧ True ∧ Ob (vi (errV m.length (intsOf (List.map (Value.int IntKind.i64) w))) = vi (errW m z w)))
theorem rwVV_eq : rwVV = fun (m : List Int) (c : Nat) (w : List Int) (d : Nat) (z : Bool) => vc Try.prog rwE 2 13 true (fun _ => none) rwB [] (argFr 0 [knV (some ⟨0,0,none⟩) m.length c z, .slice (some ⟨1,0,none⟩) w.length d]) [ros m, ros w] (retK Try.prog Try.f17 (fun v _ => v = vi (errW m z w))) := by kernel_rfl
noncomputable def rwVN_s0 (m : List Int) (c : Nat) (z : Bool) := (List.map (Value.int IntKind.i64) m)
noncomputable def rwVN :=
fun (m : List Int) (c : Nat) (z : Bool) ↦ Ob ((true = true ∧ Flat (rwVN_s0 m c z)) ∧ okM (Leaf.view (rwVN_s0 m c z) m.length false)) ∧ ((errK (intsOf (rwVN_s0 m c z)) z != (0 : Int)) = true → Ob ((true = true ∧ Flat (rwVN_s0 m c z)) ∧ okM (Leaf.view (rwVN_s0 m c z) m.length false)) ∧ True ∧ Ob (vi (errK (intsOf (rwVN_s0 m c z)) z) = vi (errX m z))) ∧ ((errK (intsOf (rwVN_s0 m c z)) z != (0 : Int)) = false → Ob ((true = true ∧ Flat (rwVN_s0 m c z)) ∧ okM (Leaf.view (rwVN_s0 m c z) m.length false) ∧ (1 : Nat) ≤ m.length) ∧ True ∧ Ob (vi (15 : Int) = vi (errX m z)))
theorem rwVN_eq : rwVN = fun (m : List Int) (c : Nat) (z : Bool) => vc Try.prog rwE 1 13 true (fun _ => none) rwB [] (argFr 0 [knV (some ⟨0,0,none⟩) m.length c z, nilS]) [ros m] (retK Try.prog Try.f17 (fun v _ => v = vi (errX m z))) := by kernel_rfl
noncomputable def rwVH :=
fun (m : List Int) (c d : Nat) (t : Option Nat) (z : Bool) ↦ Ob ((true = true ∧ Flat (List.map (Value.int IntKind.i64) m)) ∧ okM (Leaf.view (List.map (Value.int IntKind.i64) m) m.length false)) ∧ ((errK (intsOf (List.map (Value.int IntKind.i64) m)) z != (0 : Int)) = true → Ob ((true = true ∧ Flat (List.map (Value.int IntKind.i64) m)) ∧ okM (Leaf.view (List.map (Value.int IntKind.i64) m) m.length false)) ∧ True ∧ Ob (vi (errK (intsOf (List.map (Value.int IntKind.i64) m)) z) = vi (errX m z))) ∧ ((errK (intsOf (List.map (Value.int IntKind.i64) m)) z != (0 : Int)) = false → Ob ((true = true ∧ Flat (List.map (Value.int IntKind.i64) m)) ∧ okM (Leaf.view (List.map (Value.int IntKind.i64) m) m.length false) ∧ (1 : Nat) ≤ m.length) ∧ True ∧ Ob (vi (15 : Int) = vi (errX m z)))
theorem rwVH_eq : rwVH = fun (m : List Int) (c : Nat) (d : Nat) (t : Option Nat) (z : Bool) => vc Try.prog rwE 2 13 true (fun _ => none) rwB [] (argFr 0 [knV (some ⟨0,0,none⟩) m.length c z, .slice (some ⟨1,0,t⟩) 0 d]) [ros m, .gone] (retK Try.prog Try.f17 (fun v _ => v = vi (errX m z))) := by kernel_rfl
noncomputable def rwNV :=
fun (w : List Int) (d : Nat) (z : Bool) ↦ Ob True ∧ (true = true → Ob True ∧ True ∧ Ob (vi (6 : Int) = vi (6 : Int))) ∧ (true = false → False)
theorem rwNV_eq : rwNV = fun (w : List Int) (d : Nat) (z : Bool) => vc Try.prog rwE 1 13 true (fun _ => none) rwB [] (argFr 0 [knV none 0 0 z, .slice (some ⟨0,0,none⟩) w.length d]) [ros w] (retK Try.prog Try.f17 (fun v _ => v = vi (6))) := by kernel_rfl
noncomputable def rwNN :=
fun (z : Bool) ↦ Ob True ∧ (true = true → Ob True ∧ True ∧ Ob (vi (6 : Int) = vi (6 : Int))) ∧ (true = false → False)
theorem rwNN_eq : rwNN = fun (z : Bool) => vc Try.prog rwE 0 13 true (fun _ => none) rwB [] (argFr 0 [knV none 0 0 z, nilS]) [] (retK Try.prog Try.f17 (fun v _ => v = vi (6))) := by kernel_rfl
noncomputable def rwNH :=
fun (d : Nat) (t : Option Nat) (z : Bool) ↦ Ob True ∧ (true = true → Ob True ∧ True ∧ Ob (vi (6 : Int) = vi (6 : Int))) ∧ (true = false → False)
theorem rwNH_eq : rwNH = fun (d : Nat) (t : Option Nat) (z : Bool) => vc Try.prog rwE 1 13 true (fun _ => none) rwB [] (argFr 0 [knV none 0 0 z, .slice (some ⟨0,0,t⟩) 0 d]) [.gone] (retK Try.prog Try.f17 (fun v _ => v = vi (6))) := by kernel_rfl
noncomputable def rwHV :=
fun (c : Nat) (s : Option Nat) (w : List Int) (d : Nat) (z : Bool) ↦ Ob True ∧ (true = true → Ob True ∧ True ∧ Ob (vi (6 : Int) = vi (6 : Int))) ∧ (true = false → False)
theorem rwHV_eq : rwHV = fun (c : Nat) (s : Option Nat) (w : List Int) (d : Nat) (z : Bool) => vc Try.prog rwE 2 13 true (fun _ => none) rwB [] (argFr 0 [knV (some ⟨0,0,s⟩) 0 c z, .slice (some ⟨1,0,none⟩) w.length d]) [.gone, ros w] (retK Try.prog Try.f17 (fun v _ => v = vi (6))) := by kernel_rfl
noncomputable def rwHN :=
fun (c : Nat) (s : Option Nat) (z : Bool) ↦ Ob True ∧ (true = true → Ob True ∧ True ∧ Ob (vi (6 : Int) = vi (6 : Int))) ∧ (true = false → False)
theorem rwHN_eq : rwHN = fun (c : Nat) (s : Option Nat) (z : Bool) => vc Try.prog rwE 1 13 true (fun _ => none) rwB [] (argFr 0 [knV (some ⟨0,0,s⟩) 0 c z, nilS]) [.gone] (retK Try.prog Try.f17 (fun v _ => v = vi (6))) := by kernel_rfl
noncomputable def rwHH :=
fun (c : Nat) (s : Option Nat) (d : Nat) (t : Option Nat) (z : Bool) ↦ Ob True ∧ (true = true → Ob True ∧ True ∧ Ob (vi (6 : Int) = vi (6 : Int))) ∧ (true = false → False)
theorem rwHH_eq : rwHH = fun (c : Nat) (s : Option Nat) (d : Nat) (t : Option Nat) (z : Bool) => vc Try.prog rwE 2 13 true (fun _ => none) rwB [] (argFr 0 [knV (some ⟨0,0,s⟩) 0 c z, .slice (some ⟨1,0,t⟩) 0 d]) [.gone, .gone] (retK Try.prog Try.f17 (fun v _ => v = vi (6))) := by kernel_rfl
theorem sum_bd' {w : List Int} {x : Nat} (h : ∀ j, j < x → -1 ≤ w.getD j 0 ∧ w.getD j 0 ≤ 1) : ∀ y, y ≤ x → -(y : Int) ≤ sumP w y ∧ sumP w y ≤ y
  | 0, _ => ⟨by simp [sumP], by simp [sumP]⟩
  | y + 1, hy => by
    have := sum_bd' h y (by omega)
    have := h y (by omega)
    simp only [sumP]
    push_cast
    omega
theorem wi_nth {w : List Int} {a b : Int} (h : ∀ x ∈ w, a ≤ x ∧ x ≤ b) : ∀ j, j < w.length → a ≤ w.getD j 0 ∧ w.getD j 0 ≤ b := fun _ hj => h _ (ints_mem hj)
theorem cpaV_ok (n : Int) (w : List Int) (d : Nat) (hw : w.length ≤ 1000) (hn : 0 ≤ n) : cpaV n w d := by
  unfold cpaV cpaV_s1 cpaV_s0
  simp only [SS, reduceCtorEq, Arg.list, Arg.num, Arg.flag, intOf, andP, Nat.reduceLeDiff, Nat.reduceAdd, Nat.reduceMul, Nat.reduceLT]
  have hk : ∀ h : (w.length : Int) = n, w.length = n.toNat := fun h => by omega
  refine ⟨fun h => (errV_15 (by omega)).symm, fun h => ⟨by omega, fun h1 => (errV_3 (hk h) (wiF_false h1)).symm, fun h1 => ⟨⟨0, by omega, rfl, rfl⟩, fun x hx => ⟨fun h2 => ⟨⟨by omega, by omega⟩, by omega, x + 1, by omega, by omega, ?_, wrap_succ (n := w.length) (by omega) (by omega)⟩, fun h2 => ?_⟩⟩⟩⟩
  · have hb := wi_nth (wiF_true h1)
    have := sum_bd hb x hx
    have := hb x (by omega)
    rw [wrap_in (by omega) (by omega)]; rfl
  · obtain rfl : x = w.length := by omega
    exact ⟨fun h3 => (errV_14 (hk h) (wiF_true h1) h3).symm, fun h3 => (errV_0 (hk h) (wiF_true h1) h3).symm⟩
theorem wgV_ok (m w : List Int) (c d : Nat) (z : Bool) (hw : w.length ≤ 1000) : wgV m w c d z := by
  unfold wgV wgV_s0
  simp only [SS, reduceCtorEq, Arg.list, Arg.num, Arg.flag, intOf, andP, Nat.reduceLeDiff, Nat.reduceAdd, Nat.reduceMul, Nat.reduceLT]
  have hk : ∀ h : (w.length : Int) = m.length, w.length = m.length := fun h => by omega
  refine ⟨fun h => (errV_15 (by omega)).symm, fun h => ⟨⟨0, ⟨by omega, all_none⟩, rfl, rfl⟩, fun x hx => ⟨fun h2 => ⟨⟨by omega, by omega⟩, by omega, fun h3 => ⟨⟨by omega, by omega⟩, by omega, fun h4 => ?_, fun h4 => ⟨⟨by omega, by omega⟩, by omega, x + 1, ⟨by omega, all_snoc hx.2 ⟨by omega, by omega⟩⟩, by omega, ?_, wrap_succ (n := w.length) (by omega) (by omega)⟩⟩, fun h3 => ?_⟩, fun h2 => ?_⟩⟩⟩
  · refine (errV_3 (hk h) fun h5 => ?_).symm
    have := h5 _ (ints_mem (l := w) (i := x) (by omega)); omega
  · have : ∀ y, y ≤ x → -(y : Int) ≤ sumP w y ∧ sumP w y ≤ y := sum_bd' hx.2
    have := this x (Nat.le_refl _)
    rw [wrap_in (by omega) (by omega)]; rfl
  · refine (errV_3 (hk h) fun h5 => ?_).symm
    have := h5 _ (ints_mem (l := w) (i := x) (by omega)); omega
  · have hx1 := hx.1
    obtain rfl : x = w.length := by omega
    have h5 : ∀ y ∈ w, -1 ≤ y ∧ y ≤ 1 := ints_all (Nat.le_refl _) hx.2
    exact ⟨fun h3 => (errV_14 (hk h) h5 h3).symm, fun h3 => (errV_0 (hk h) h5 h3).symm⟩
theorem wgN_ok (m : List Int) (c : Nat) (z : Bool) (h1 : 1 ≤ m.length) : wgN m c z := by
  unfold wgN
  simp only [SS, reduceCtorEq, Arg.list, Arg.num, Arg.flag, intOf, andP, Nat.reduceLeDiff, Nat.reduceAdd, Nat.reduceMul, Nat.reduceLT]
  intro h; simp only [Int.natCast_zero] at h; omega
theorem wgH_ok (m : List Int) (c d : Nat) (s : Option Nat) (z : Bool) (h1 : 1 ≤ m.length) : wgH m c d s z := by
  unfold wgH
  simp only [SS, reduceCtorEq, Arg.list, Arg.num, Arg.flag, intOf, andP, Nat.reduceLeDiff, Nat.reduceAdd, Nat.reduceMul, Nat.reduceLT]
  intro h; simp only [Int.natCast_zero] at h; omega
theorem cpaN_ok (n : Int) (hn : 0 ≤ n) : cpaN n := by
  unfold cpaN
  simp only [SS, reduceCtorEq, Arg.list, Arg.num, Arg.flag, intOf, andP, Nat.reduceLeDiff, Nat.reduceAdd, Nat.reduceMul, Nat.reduceLT]
  intro h; simp only [Int.natCast_zero] at h; omega
theorem cpaH_ok (n : Int) (s : Option Nat) (d : Nat) (hn : 0 ≤ n) : cpaH n s d := by
  unfold cpaH
  simp only [SS, reduceCtorEq, Arg.list, Arg.num, Arg.flag, intOf, andP, Nat.reduceLeDiff, Nat.reduceAdd, Nat.reduceMul, Nat.reduceLT]
  intro h; simp only [Int.natCast_zero] at h; omega
theorem cwVV_ok (m : List Int) (c : Nat) (w : List Int) (d : Nat) (z : Bool) (hm : m.length ≤ 1000) (hw : w.length ≤ 1000) : cwVV m c w d z := by
  unfold cwVV
  simp only [SS, reduceCtorEq, Arg.list, Arg.num, Arg.flag, intOf, andP, Nat.reduceLeDiff, Nat.reduceAdd, Nat.reduceMul, Nat.reduceLT, Asks]
  exact ⟨⟨flat_ints, okM_ints hm⟩, fun h => (errW_k h).symm, fun h => ⟨⟨hw, by omega⟩, (errW_v h).symm⟩⟩
theorem cwVN_ok (m : List Int) (c : Nat) (z : Bool) (hm : m.length ≤ 1000) : cwVN m c  z := by
  unfold cwVN
  simp only [SS, reduceCtorEq, Arg.list, Arg.num, Arg.flag, intOf, andP, Nat.reduceLeDiff, Nat.reduceAdd, Nat.reduceMul, Nat.reduceLT, Asks]
  refine ⟨⟨flat_ints, okM_ints hm⟩, fun h => by rw [errX, if_pos h], fun h => ⟨?_, by rw [errX, if_neg (not_not_intro h)]⟩⟩
  have := (errK_cases h).1; omega
theorem cwVH_ok (m : List Int) (c : Nat) (d : Nat) (t : Option Nat) (z : Bool) (hm : m.length ≤ 1000) : cwVH m c d t z := by
  unfold cwVH
  simp only [SS, reduceCtorEq, Arg.list, Arg.num, Arg.flag, intOf, andP, Nat.reduceLeDiff, Nat.reduceAdd, Nat.reduceMul, Nat.reduceLT, Asks]
  refine ⟨⟨flat_ints, okM_ints hm⟩, fun h => by rw [errX, if_pos h], fun h => ⟨?_, by rw [errX, if_neg (not_not_intro h)]⟩⟩
  have := (errK_cases h).1; omega
theorem cwNV_ok (w : List Int) (d : Nat) (z : Bool) : cwNV  w d z := by
  unfold cwNV cwNV_s0
  simp only [SS, reduceCtorEq, Arg.list, Arg.num, Arg.flag, intOf, andP, Nat.reduceLeDiff, Nat.reduceAdd, Nat.reduceMul, Nat.reduceLT, Asks]
theorem cwNN_ok (z : Bool) : cwNN   z := by
  unfold cwNN
  simp only [SS, reduceCtorEq, Arg.list, Arg.num, Arg.flag, intOf, andP, Nat.reduceLeDiff, Nat.reduceAdd, Nat.reduceMul, Nat.reduceLT, Asks]
theorem cwNH_ok (d : Nat) (t : Option Nat) (z : Bool) : cwNH  d t z := by
  unfold cwNH
  simp only [SS, reduceCtorEq, Arg.list, Arg.num, Arg.flag, intOf, andP, Nat.reduceLeDiff, Nat.reduceAdd, Nat.reduceMul, Nat.reduceLT, Asks]
theorem cwHV_ok (c : Nat) (s : Option Nat) (w : List Int) (d : Nat) (z : Bool) : cwHV c s w d z := by
  unfold cwHV
  simp only [SS, reduceCtorEq, Arg.list, Arg.num, Arg.flag, intOf, andP, Nat.reduceLeDiff, Nat.reduceAdd, Nat.reduceMul, Nat.reduceLT, Asks]
theorem cwHN_ok (c : Nat) (s : Option Nat) (z : Bool) : cwHN c s  z := by
  unfold cwHN
  simp only [SS, reduceCtorEq, Arg.list, Arg.num, Arg.flag, intOf, andP, Nat.reduceLeDiff, Nat.reduceAdd, Nat.reduceMul, Nat.reduceLT, Asks]
theorem cwHH_ok (c : Nat) (s : Option Nat) (d : Nat) (t : Option Nat) (z : Bool) : cwHH c s d t z := by
  unfold cwHH
  simp only [SS, reduceCtorEq, Arg.list, Arg.num, Arg.flag, intOf, andP, Nat.reduceLeDiff, Nat.reduceAdd, Nat.reduceMul, Nat.reduceLT, Asks]
theorem rwVV_ok (m : List Int) (c : Nat) (w : List Int) (d : Nat) (z : Bool) (hm : m.length ≤ 1000) (hw : w.length ≤ 1000) : rwVV m c w d z := by
  unfold rwVV
  simp only [SS, reduceCtorEq, Arg.list, Arg.num, Arg.flag, intOf, andP, Nat.reduceLeDiff, Nat.reduceAdd, Nat.reduceMul, Nat.reduceLT, Asks]
  exact ⟨⟨flat_ints, okM_ints hm⟩, fun h => ⟨⟨flat_ints, okM_ints hm⟩, (errW_k h).symm⟩, fun h => ⟨⟨⟨flat_ints, flat_ints⟩, okM_ints hm, okM_ints hw⟩, (errW_v h).symm⟩⟩
theorem rwVN_ok (m : List Int) (c : Nat) (z : Bool) (hm : m.length ≤ 1000) : rwVN m c  z := by
  unfold rwVN rwVN_s0
  simp only [SS, reduceCtorEq, Arg.list, Arg.num, Arg.flag, intOf, andP, Nat.reduceLeDiff, Nat.reduceAdd, Nat.reduceMul, Nat.reduceLT, Asks]
  refine ⟨⟨flat_ints, okM_ints hm⟩, fun h => ⟨⟨flat_ints, okM_ints hm⟩, by rw [errX, if_pos h]⟩, fun h => ⟨⟨flat_ints, okM_ints hm, ?_⟩, by rw [errX, if_neg (not_not_intro h)]⟩⟩
  have := (errK_cases h).1; omega
theorem rwVH_ok (m : List Int) (c : Nat) (d : Nat) (t : Option Nat) (z : Bool) (hm : m.length ≤ 1000) : rwVH m c d t z := by
  unfold rwVH
  simp only [SS, reduceCtorEq, Arg.list, Arg.num, Arg.flag, intOf, andP, Nat.reduceLeDiff, Nat.reduceAdd, Nat.reduceMul, Nat.reduceLT, Asks]
  refine ⟨⟨flat_ints, okM_ints hm⟩, fun h => ⟨⟨flat_ints, okM_ints hm⟩, by rw [errX, if_pos h]⟩, fun h => ⟨⟨flat_ints, okM_ints hm, ?_⟩, by rw [errX, if_neg (not_not_intro h)]⟩⟩
  have := (errK_cases h).1; omega
theorem rwNV_ok (w : List Int) (d : Nat) (z : Bool) : rwNV  w d z := by
  unfold rwNV
  simp only [SS, reduceCtorEq, Arg.list, Arg.num, Arg.flag, intOf, andP, Nat.reduceLeDiff, Nat.reduceAdd, Nat.reduceMul, Nat.reduceLT, Asks]
theorem rwNN_ok (z : Bool) : rwNN   z := by
  unfold rwNN
  simp only [SS, reduceCtorEq, Arg.list, Arg.num, Arg.flag, intOf, andP, Nat.reduceLeDiff, Nat.reduceAdd, Nat.reduceMul, Nat.reduceLT, Asks]
theorem rwNH_ok (d : Nat) (t : Option Nat) (z : Bool) : rwNH  d t z := by
  unfold rwNH
  simp only [SS, reduceCtorEq, Arg.list, Arg.num, Arg.flag, intOf, andP, Nat.reduceLeDiff, Nat.reduceAdd, Nat.reduceMul, Nat.reduceLT, Asks]
theorem rwHV_ok (c : Nat) (s : Option Nat) (w : List Int) (d : Nat) (z : Bool) : rwHV c s w d z := by
  unfold rwHV
  simp only [SS, reduceCtorEq, Arg.list, Arg.num, Arg.flag, intOf, andP, Nat.reduceLeDiff, Nat.reduceAdd, Nat.reduceMul, Nat.reduceLT, Asks]
theorem rwHN_ok (c : Nat) (s : Option Nat) (z : Bool) : rwHN c s  z := by
  unfold rwHN
  simp only [SS, reduceCtorEq, Arg.list, Arg.num, Arg.flag, intOf, andP, Nat.reduceLeDiff, Nat.reduceAdd, Nat.reduceMul, Nat.reduceLT, Asks]
theorem rwHH_ok (c : Nat) (s : Option Nat) (d : Nat) (t : Option Nat) (z : Bool) : rwHH c s d t z := by
  unfold rwHH
  simp only [SS, reduceCtorEq, Arg.list, Arg.num, Arg.flag, intOf, andP, Nat.reduceLeDiff, Nat.reduceAdd, Nat.reduceMul, Nat.reduceLT, Asks]
theorem okM_of {cs : List Value} {n : Nat} {q : Bool} (h : okM (.view cs n q)) : ∃ m : List Int, cs = m.map (.int .i64) ∧ n = m.length ∧ m.length ≤ 1000 := ⟨intsOf cs, h.1, by rw [intsOf, List.length_map, h.2.1], by rw [intsOf, List.length_map, h.2.1]; exact h.2.2⟩
theorem kinds_kw {ps : List K3} {q q' : Bool} (hp : ps = [.agg [.rows [.i .i64] q, .bool], .one (.rows [.i .i64] q')]) {r : List Arg3} (h : kinds3 ps r) : ∃ lf z lw, r = [.agg [lf, .plain (.bool z)], .one lw] ∧ (lf = .plain (.slice none 0 0) ∨ (∃ s, lf = .hole s) ∨ ∃ cs n, lf = .view cs n q) ∧ (lw = .plain (.slice none 0 0) ∨ (∃ s, lw = .hole s) ∨ ∃ cs n, lw = .view cs n q') := by
  subst hp
  match r, h with
  | [.agg [x, y], .one w], ⟨⟨h1, h2, _⟩, h3, _⟩ =>
    obtain ⟨z, rfl⟩ := h2
    exact ⟨x, z, w, rfl, h1, h3⟩
theorem cpaE_ok : VOk Try.prog cpaE := VOk.ofCt (CtOk.none.add wiG_ok)
theorem cpaG_ok : ∀ args H φ v H' l, pureG [.int .i64, .ints .i64] cpaS args H = some (φ, v, H', l) → Asks φ → Call Try.prog 48 args H (fun v' H2 => v' = v ∧ H2 = H') ∧ Kept H H' l :=
  pureG_ok fun r hk hs => by
    match r, hk with
    | [_, _], ⟨⟨n, rfl⟩, hl, _⟩ =>
      rcases hl with rfl | ⟨s, rfl⟩ | ⟨w, rfl⟩ <;> refine ⟨rfl, fun caps => ?_⟩
      · have h1 : 1 ≤ n := hs.1
        obtain ⟨k, rfl⟩ : ∃ k, n = k + 1 := ⟨n - 1, by omega⟩
        exact Call.ofVc cpaE_ok mixed (c := cpaB) Try.func48 (by kernel_rfl) (cast (congrFun cpaN_eq k) (cpaN_ok k (by omega)))
      · have h1 : 1 ≤ n := hs.1
        obtain ⟨k, rfl⟩ : ∃ k, n = k + 1 := ⟨n - 1, by omega⟩
        exact Call.ofVc cpaE_ok mixed (c := cpaB) Try.func48 (by kernel_rfl) (cast (congrFun (congrFun (congrFun cpaH_eq k) s) _) (cpaH_ok k s _ (by omega)))
      · have h := cpaV_ok n w (caps 0) hs.1 hs.2
        rw [cpaV_eq] at h
        exact Call.ofVc cpaE_ok mixed (c := cpaB) (inv := cpaI w (caps 0)) Try.func48 (by kernel_rfl) h
theorem wgG_ok : ∀ args H φ v H' l, pure3 psKW wgS args H = some (φ, v, H', l) → Asks φ → Call Try.prog 49 args H (fun v' H2 => v' = v ∧ H2 = H') ∧ Kept H H' l :=
  pure3_ok fun r ψ v hk hs hψ => by
    obtain ⟨lf, z, lw, rfl, hl, hw⟩ := kinds_kw rfl hk
    rcases hl with rfl | ⟨s, rfl⟩ | ⟨cs, n, rfl⟩ <;> rcases hw with rfl | ⟨t, rfl⟩ | ⟨ds, k, rfl⟩ <;> cases hs <;> refine ⟨rfl, fun caps _ => ?_⟩
    · obtain ⟨m, rfl, rfl, h1⟩ := okM_of hψ.1
      exact Call.ofVc E0_ok mixed (c := wgB) Try.func49 (by kernel_rfl) (cast (congrFun (congrFun (congrFun wgN_eq m) (caps 0)) z) (wgN_ok m (caps 0) z hψ.2))
    · obtain ⟨m, rfl, rfl, h1⟩ := okM_of hψ.1
      exact Call.ofVc E0_ok mixed (c := wgB) Try.func49 (by kernel_rfl) (cast (congrFun (congrFun (congrFun (congrFun (congrFun wgH_eq m) (caps 0)) (caps 1)) t) z) (wgH_ok m (caps 0) (caps 1) t z hψ.2))
    · obtain ⟨m, rfl, rfl, h1⟩ := okM_of hψ.1
      obtain ⟨w, rfl, rfl, h2⟩ := okM_of hψ.2
      rw [intsOf_map]
      have h := wgV_ok m w (caps 0) (caps 1) z h2
      rw [wgV_eq] at h
      exact Call.ofVc E0_ok mixed (c := wgB) (inv := wgI m w (caps 0) (caps 1) z) Try.func49 (by kernel_rfl) h
theorem cwE_ok : VOk Try.prog cwE := VOk.ofCt ((CtOk.none.add ckG_ok).add cpaG_ok)
theorem rwE_ok : VOk Try.prog rwE := VOk.ofCt ((CtOk.none.add rkG_ok).add wgG_ok)
noncomputable def cwS : List Arg3 → Option (Prop × Value)
  | [.agg [.view cs n r, .plain (.bool z)], .one (.view ds k q)] => some (okM (.view cs n r) ∧ okM (.view ds k q), vi (errW (intsOf cs) z (intsOf ds)))
  | [.agg [.view cs n r, .plain (.bool z)], .one _] => some (okM (.view cs n r), vi (errX (intsOf cs) z))
  | [.agg [_, .plain (.bool _)], .one (.view ds k q)] => some (okM (.view ds k q), vi 6)
  | [.agg [_, .plain (.bool _)], .one _] => some (True, vi 6)
  | _ => none
theorem cwG_ok : ∀ args H φ v H' l, pure3 psKW cwS args H = some (φ, v, H', l) → Asks φ → Call Try.prog 16 args H (fun v' H2 => v' = v ∧ H2 = H') ∧ Kept H H' l :=
  pure3_ok fun r ψ v hk hs hψ => by
    obtain ⟨lf, z, lw, rfl, hl, hw⟩ := kinds_kw rfl hk
    rcases hl with rfl | ⟨s, rfl⟩ | ⟨cs, n, rfl⟩ <;> rcases hw with rfl | ⟨t, rfl⟩ | ⟨ds, k, rfl⟩ <;> cases hs <;> refine ⟨rfl, fun caps _ => ?_⟩
    · exact Call.ofVc cwE_ok mixed (c := cwB) Try.func16 (by kernel_rfl) (cast (congrFun cwNN_eq z) (cwNN_ok z))
    · exact Call.ofVc cwE_ok mixed (c := cwB) Try.func16 (by kernel_rfl) (cast (congrFun (congrFun (congrFun cwNH_eq (caps 0)) t) z) (cwNH_ok (caps 0) t z))
    · obtain ⟨w, rfl, rfl, _⟩ := okM_of hψ
      exact Call.ofVc cwE_ok mixed (c := cwB) Try.func16 (by kernel_rfl) (cast (congrFun (congrFun (congrFun cwNV_eq w) (caps 0)) z) (cwNV_ok w (caps 0) z))
    · exact Call.ofVc cwE_ok mixed (c := cwB) Try.func16 (by kernel_rfl) (cast (congrFun (congrFun (congrFun cwHN_eq (caps 0)) s) z) (cwHN_ok (caps 0) s z))
    · exact Call.ofVc cwE_ok mixed (c := cwB) Try.func16 (by kernel_rfl) (cast (congrFun (congrFun (congrFun (congrFun (congrFun cwHH_eq (caps 0)) s) (caps 1)) t) z) (cwHH_ok (caps 0) s (caps 1) t z))
    · obtain ⟨w, rfl, rfl, _⟩ := okM_of hψ
      exact Call.ofVc cwE_ok mixed (c := cwB) Try.func16 (by kernel_rfl) (cast (congrFun (congrFun (congrFun (congrFun (congrFun cwHV_eq (caps 0)) s) w) (caps 1)) z) (cwHV_ok (caps 0) s w (caps 1) z))
    · obtain ⟨m, rfl, rfl, h1⟩ := okM_of hψ
      rw [intsOf_map]
      exact Call.ofVc cwE_ok mixed (c := cwB) Try.func16 (by kernel_rfl) (cast (congrFun (congrFun (congrFun cwVN_eq m) (caps 0)) z) (cwVN_ok m (caps 0) z h1))
    · obtain ⟨m, rfl, rfl, h1⟩ := okM_of hψ
      rw [intsOf_map]
      exact Call.ofVc cwE_ok mixed (c := cwB) Try.func16 (by kernel_rfl) (cast (congrFun (congrFun (congrFun (congrFun (congrFun cwVH_eq m) (caps 0)) (caps 1)) t) z) (cwVH_ok m (caps 0) (caps 1) t z h1))
    · obtain ⟨m, rfl, rfl, h1⟩ := okM_of hψ.1
      obtain ⟨w, rfl, rfl, h2⟩ := okM_of hψ.2
      rw [intsOf_map, intsOf_map]
      exact Call.ofVc cwE_ok mixed (c := cwB) Try.func16 (by kernel_rfl) (cast (congrFun (congrFun (congrFun (congrFun (congrFun cwVV_eq m) (caps 0)) w) (caps 1)) z) (cwVV_ok m (caps 0) w (caps 1) z h1 h2))
theorem rwG_ok : ∀ args H φ v H' l, pure3 psKW cwS args H = some (φ, v, H', l) → Asks φ → Call Try.prog 17 args H (fun v' H2 => v' = v ∧ H2 = H') ∧ Kept H H' l :=
  pure3_ok fun r ψ v hk hs hψ => by
    obtain ⟨lf, z, lw, rfl, hl, hw⟩ := kinds_kw rfl hk
    rcases hl with rfl | ⟨s, rfl⟩ | ⟨cs, n, rfl⟩ <;> rcases hw with rfl | ⟨t, rfl⟩ | ⟨ds, k, rfl⟩ <;> cases hs <;> refine ⟨rfl, fun caps _ => ?_⟩
    · exact Call.ofVc rwE_ok mixed (c := rwB) Try.func17 (by kernel_rfl) (cast (congrFun rwNN_eq z) (rwNN_ok z))
    · exact Call.ofVc rwE_ok mixed (c := rwB) Try.func17 (by kernel_rfl) (cast (congrFun (congrFun (congrFun rwNH_eq (caps 0)) t) z) (rwNH_ok (caps 0) t z))
    · obtain ⟨w, rfl, rfl, _⟩ := okM_of hψ
      exact Call.ofVc rwE_ok mixed (c := rwB) Try.func17 (by kernel_rfl) (cast (congrFun (congrFun (congrFun rwNV_eq w) (caps 0)) z) (rwNV_ok w (caps 0) z))
    · exact Call.ofVc rwE_ok mixed (c := rwB) Try.func17 (by kernel_rfl) (cast (congrFun (congrFun (congrFun rwHN_eq (caps 0)) s) z) (rwHN_ok (caps 0) s z))
    · exact Call.ofVc rwE_ok mixed (c := rwB) Try.func17 (by kernel_rfl) (cast (congrFun (congrFun (congrFun (congrFun (congrFun rwHH_eq (caps 0)) s) (caps 1)) t) z) (rwHH_ok (caps 0) s (caps 1) t z))
    · obtain ⟨w, rfl, rfl, _⟩ := okM_of hψ
      exact Call.ofVc rwE_ok mixed (c := rwB) Try.func17 (by kernel_rfl) (cast (congrFun (congrFun (congrFun (congrFun (congrFun rwHV_eq (caps 0)) s) w) (caps 1)) z) (rwHV_ok (caps 0) s w (caps 1) z))
    · obtain ⟨m, rfl, rfl, h1⟩ := okM_of hψ
      rw [intsOf_map]
      exact Call.ofVc rwE_ok mixed (c := rwB) Try.func17 (by kernel_rfl) (cast (congrFun (congrFun (congrFun rwVN_eq m) (caps 0)) z) (rwVN_ok m (caps 0) z h1))
    · obtain ⟨m, rfl, rfl, h1⟩ := okM_of hψ
      rw [intsOf_map]
      exact Call.ofVc rwE_ok mixed (c := rwB) Try.func17 (by kernel_rfl) (cast (congrFun (congrFun (congrFun (congrFun (congrFun rwVH_eq m) (caps 0)) (caps 1)) t) z) (rwVH_ok m (caps 0) (caps 1) t z h1))
    · obtain ⟨m, rfl, rfl, h1⟩ := okM_of hψ.1
      obtain ⟨w, rfl, rfl, h2⟩ := okM_of hψ.2
      rw [intsOf_map, intsOf_map]
      exact Call.ofVc rwE_ok mixed (c := rwB) Try.func17 (by kernel_rfl) (cast (congrFun (congrFun (congrFun (congrFun (congrFun rwVV_eq m) (caps 0)) w) (caps 1)) z) (rwVV_ok m (caps 0) w (caps 1) z h1 h2))
end Go.Pier.Sk
set_option maxRecDepth 100000
set_option linter.unusedVariables false
set_option linter.unusedSimpArgs false
namespace Go.Pier.Sk
open Go Go.Pier Go.Proofs
def plc (L : List Int) (a k : Int) : Nat → Int
  | 0 => -1
  | x + 1 => if 0 ≤ plc L a k x then plc L a k x else if ca L x = a ∧ ck L x = k then (x : Int) else -1
noncomputable def plB : Code := Try.f41.body.getD .skip
noncomputable def ixB : Code := Try.f63.body.getD .skip
noncomputable def roB : Code := Try.f42.body.getD .skip
noncomputable def prB : Code := Try.f40.body.getD .skip
noncomputable def saB : Code := Try.f18.body.getD .skip
def noC (L : List Int) (a k : Int) (x : Nat) : Prop := ∀ j, j < x → ¬ (ca L j = a ∧ ck L j = k)
def plI (L : List Int) (n d : Nat) (a k : Int) : Nat → Option LInv := invOf 0 (LInv.one Nat (fun x => x ≤ n ∧ noC L a k x) (fun x => [(0, .slice (some ⟨0,0,none⟩) n d), (3, ptr0 1), (5, vi x)]) (fun _ => [ros L, .rw [vi a, vi k] none]) (fun x => n - x))
def ixI (L : List Int) (n d : Nat) (a k : Int) : Nat → Option LInv := invOf 0 (LInv.one Nat (fun x => x ≤ n ∧ noC L a k x) (fun x => [(0, .slice (some ⟨0,0,none⟩) n d), (3, ptr0 1), (7, vi n), (8, vi x)]) (fun _ => [ros L, .rw [vi a, vi k] none]) (fun x => n - x))
noncomputable def plV :=
fun (L : List Int) (n d : Nat) (a k : Int) ↦ (∃ (y : Nat), Ob (y ≤ n ∧ noC L a k y) ∧ (Ob (AObj.ro (List.map (Value.int IntKind.i64) L) = AObj.ro (List.map (nmap1 fun (b : Nat) ↦ b) (List.map (Value.int IntKind.i64) L)) ∧ AObj.sc (2 : Nat) (AObj.ro (List.map (Value.int IntKind.i64) L)) = true) ∧ Ob (AObj.rw [vi a, vi k] none = AObj.rw [vi a, vi k] none ∧ true = true) ∧ True) ∧ Ob (Value.slice (some (ad0 0)) n d = Value.slice (some (ad0 0)) n d) ∧ Ob (ptr0 1 = ptr0 1) ∧ Ob ((0 : Int) = (↑y : Int)) ∧ True) ∧ ∀ (x : Nat), Ob (x ≤ n ∧ noC L a k x) → (decide ((↑x : Int) < (↑n : Int)) = true → Ob ((0 : Int) ≤ (↑x : Int) ∧ (↑x : Int) < (↑n : Int) ∧ true = true) ∧ Ob (ckAsk [CK.i IntKind.i64, CK.i IntKind.i64] (List.map (Value.int IntKind.i64) L) ((0 : Nat) + (↑x : Int).toNat * (2 : Nat))) ∧ Ob True ∧ ((getI (List.map (Value.int IntKind.i64) L) ((0 : Nat) + (↑x : Int).toNat * (2 : Nat)) == a && getI (List.map (Value.int IntKind.i64) L) ((0 : Nat) + (↑x : Int).toNat * (2 : Nat) + (1 : Nat)) == k) = true → True ∧ Ob (vi (↑x : Int) = vi (plc L a k n))) ∧ ((getI (List.map (Value.int IntKind.i64) L) ((0 : Nat) + (↑x : Int).toNat * (2 : Nat)) == a && getI (List.map (Value.int IntKind.i64) L) ((0 : Nat) + (↑x : Int).toNat * (2 : Nat) + (1 : Nat)) == k) = false → ∃ (y : Nat), Ob (y ≤ n ∧ noC L a k y) ∧ Ob (n - y < n - x) ∧ (Ob (AObj.ro (List.map (Value.int IntKind.i64) L) = AObj.ro (List.map (nmap1 fun (b : Nat) ↦ b) (List.map (Value.int IntKind.i64) L)) ∧ AObj.sc (2 : Nat) (AObj.ro (List.map (Value.int IntKind.i64) L)) = true) ∧ Ob (AObj.rw [vi a, vi k] none = AObj.rw [vi a, vi k] none ∧ true = true) ∧ True) ∧ Ob (Value.slice (some (ad0 0)) n d = Value.slice (some (ad0 0)) n d) ∧ Ob (ptr0 1 = ptr0 1) ∧ Ob (IntKind.i64.wrap ((↑x : Int) + (1 : Int)) = (↑y : Int)) ∧ True)) ∧ (decide ((↑x : Int) < (↑n : Int)) = false → True ∧ Ob (vi (-1 : Int) = vi (plc L a k n)))
theorem plV_eq : plV = fun (L : List Int) (n d : Nat) (a k : Int) => vc Try.prog leE 1 19 true (plI L n d a k) plB [] (argFr 0 [.slice (some ⟨0,0,none⟩) n d, .agg #[vi a, vi k]]) [ros L] (retK Try.prog Try.f41 (fun v _ => v = vi (plc L a k n))) := by kernel_rfl
noncomputable def ixV :=
fun (L : List Int) (n d : Nat) (a k : Int) ↦ (∃ (y : Nat), Ob (y ≤ n ∧ noC L a k y) ∧ (Ob (AObj.ro (List.map (Value.int IntKind.i64) L) = AObj.ro (List.map (nmap1 fun (b : Nat) ↦ b) (List.map (Value.int IntKind.i64) L)) ∧ AObj.sc (2 : Nat) (AObj.ro (List.map (Value.int IntKind.i64) L)) = true) ∧ Ob (AObj.rw [vi a, vi k] none = AObj.rw [vi a, vi k] none ∧ true = true) ∧ True) ∧ Ob (Value.slice (some (ad0 0)) n d = Value.slice (some (ad0 0)) n d) ∧ Ob (ptr0 1 = ptr0 1) ∧ Ob ((↑n : Int) = (↑n : Int)) ∧ Ob ((0 : Int) = (↑y : Int)) ∧ True) ∧ ∀ (x : Nat), Ob (x ≤ n ∧ noC L a k x) → (decide ((↑x : Int) < (↑n : Int)) = true → Ob ((0 : Int) ≤ (↑x : Int) ∧ (↑x : Int) < (↑n : Int) ∧ true = true) ∧ Ob (ckAsk [CK.i IntKind.i64, CK.i IntKind.i64] (List.map (Value.int IntKind.i64) L) ((0 : Nat) + (↑x : Int).toNat * (2 : Nat))) ∧ Ob True ∧ ((a == getI (List.map (Value.int IntKind.i64) L) ((0 : Nat) + (↑x : Int).toNat * (2 : Nat)) && k == getI (List.map (Value.int IntKind.i64) L) ((0 : Nat) + (↑x : Int).toNat * (2 : Nat) + (1 : Nat))) = true → True ∧ Ob (vi (↑x : Int) = vi (plc L a k n))) ∧ ((a == getI (List.map (Value.int IntKind.i64) L) ((0 : Nat) + (↑x : Int).toNat * (2 : Nat)) && k == getI (List.map (Value.int IntKind.i64) L) ((0 : Nat) + (↑x : Int).toNat * (2 : Nat) + (1 : Nat))) = false → ∃ (y : Nat), Ob (y ≤ n ∧ noC L a k y) ∧ Ob (n - y < n - x) ∧ (Ob (AObj.ro (List.map (Value.int IntKind.i64) L) = AObj.ro (List.map (nmap1 fun (b : Nat) ↦ b) (List.map (Value.int IntKind.i64) L)) ∧ AObj.sc (2 : Nat) (AObj.ro (List.map (Value.int IntKind.i64) L)) = true) ∧ Ob (AObj.rw [vi a, vi k] none = AObj.rw [vi a, vi k] none ∧ true = true) ∧ True) ∧ Ob (Value.slice (some (ad0 0)) n d = Value.slice (some (ad0 0)) n d) ∧ Ob (ptr0 1 = ptr0 1) ∧ Ob ((↑n : Int) = (↑n : Int)) ∧ Ob (IntKind.i64.wrap ((↑x : Int) + (1 : Int)) = (↑y : Int)) ∧ True)) ∧ (decide ((↑x : Int) < (↑n : Int)) = false → True ∧ Ob (vi (-1 : Int) = vi (plc L a k n)))
theorem ixV_eq : ixV = fun (L : List Int) (n d : Nat) (a k : Int) => vc Try.prog leE 1 19 true (ixI L n d a k) ixB [] (argFr 0 [.slice (some ⟨0,0,none⟩) n d, .agg #[vi a, vi k]]) [ros L] (retK Try.prog Try.f63 (fun v _ => v = vi (plc L a k n))) := by kernel_rfl
noncomputable def roV :=
fun (w : List Int) (d : Nat) (a k : Int) ↦ Ob (some (vi a) = some (vi a)) ∧ (decide (a < (0 : Int)) = true → True ∧ Ob (vi (0 : Int) = vi (resV w a k))) ∧ (decide (a < (0 : Int)) = false → Ob (IntAt IntKind.i64 [vi a, vi k] ((0 : Nat) + (1 : Nat))) ∧ ((getI [vi a, vi k] ((0 : Nat) + (1 : Nat)) == (2 : Int)) = true → Ob (some (vi a) = some (vi a)) ∧ Ob ((0 : Int) ≤ a ∧ a < (↑w.length : Int) ∧ true = true) ∧ Ob (IntAt IntKind.i64 (List.map (Value.int IntKind.i64) w) ((0 : Nat) + a.toNat * (1 : Nat))) ∧ True ∧ Ob (vi (getI (List.map (Value.int IntKind.i64) w) ((0 : Nat) + a.toNat * (1 : Nat))) = vi (resV w a k))) ∧ ((getI [vi a, vi k] ((0 : Nat) + (1 : Nat)) == (2 : Int)) = false → Ob (some (vi a) = some (vi a)) ∧ Ob ((0 : Int) ≤ a ∧ a < (↑w.length : Int) ∧ true = true) ∧ Ob (IntAt IntKind.i64 (List.map (Value.int IntKind.i64) w) ((0 : Nat) + a.toNat * (1 : Nat))) ∧ True ∧ Ob (vi (IntKind.i64.wrap ((0 : Int) - getI (List.map (Value.int IntKind.i64) w) ((0 : Nat) + a.toNat * (1 : Nat)))) = vi (resV w a k))))
theorem roV_eq : roV = fun (w : List Int) (d : Nat) (a k : Int) => vc Try.prog leE 1 22 true (fun _ => none) roB [] (argFr 0 [.slice (some ⟨0,0,none⟩) w.length d, .agg #[vi a, vi k]]) [ros w] (retK Try.prog Try.f42 (fun v _ => v = vi (resV w a k))) := by kernel_rfl
noncomputable def prV :=
fun (x0 x1 x2 x3 x4 x5 x6 x7 x8 x9 x10 x11 a k : Int) ↦ Ob (IntAt IntKind.i64 [vi a, vi k] ((0 : Nat) + (1 : Nat))) ∧ ((getI [vi a, vi k] ((0 : Nat) + (1 : Nat)) == (1 : Int)) = true → Ob (some (vi a) = some (vi a)) ∧ Ob ((0 : Int) ≤ a ∧ a < (↑(12 : Nat) : Int)) ∧ Ob (IntAt IntKind.i64 [vi x0, vi x1, vi x2, vi x3, vi x4, vi x5, vi x6, vi x7, vi x8, vi x9, vi x10, vi x11] ((0 : Nat) + a.toNat * (1 : Nat))) ∧ True ∧ Ob (vi (IntKind.i64.wrap ((0 : Int) - getI [vi x0, vi x1, vi x2, vi x3, vi x4, vi x5, vi x6, vi x7, vi x8, vi x9, vi x10, vi x11] ((0 : Nat) + a.toNat * (1 : Nat)))) = vi (resV [x0, x1, x2, x3, x4, x5, x6, x7, x8, x9, x10, x11] a k))) ∧ ((getI [vi a, vi k] ((0 : Nat) + (1 : Nat)) == (1 : Int)) = false → ((getI [vi a, vi k] ((0 : Nat) + (1 : Nat)) == (2 : Int)) = true → Ob (some (vi a) = some (vi a)) ∧ Ob ((0 : Int) ≤ a ∧ a < (↑(12 : Nat) : Int)) ∧ Ob (IntAt IntKind.i64 [vi x0, vi x1, vi x2, vi x3, vi x4, vi x5, vi x6, vi x7, vi x8, vi x9, vi x10, vi x11] ((0 : Nat) + a.toNat * (1 : Nat))) ∧ True ∧ Ob (vi (getI [vi x0, vi x1, vi x2, vi x3, vi x4, vi x5, vi x6, vi x7, vi x8, vi x9, vi x10, vi x11] ((0 : Nat) + a.toNat * (1 : Nat))) = vi (resV [x0, x1, x2, x3, x4, x5, x6, x7, x8, x9, x10, x11] a k))) ∧ ((getI [vi a, vi k] ((0 : Nat) + (1 : Nat)) == (2 : Int)) = false → True ∧ Ob (vi (0 : Int) = vi (resV [x0, x1, x2, x3, x4, x5, x6, x7, x8, x9, x10, x11] a k))))
theorem prV_eq : prV = fun (x0 x1 x2 x3 x4 x5 x6 x7 x8 x9 x10 x11 a k : Int) => vc Try.prog leE 0 20 true (fun _ => none) prB [] (argFr 0 [.agg #[vi x0, vi x1, vi x2, vi x3, vi x4, vi x5, vi x6, vi x7, vi x8, vi x9, vi x10, vi x11], .agg #[vi a, vi k]]) [] (retK Try.prog Try.f40 (fun v _ => v = vi (resV [x0, x1, x2, x3, x4, x5, x6, x7, x8, x9, x10, x11] a k))) := by kernel_rfl
def saI (m : List Int) (c d : Nat) (z : Bool) : Nat → Option LInv := invOf 0 (LInv.one Nat (fun x => x ≤ m.length) (fun x => [(2, ptr0 2), (3, ptr0 3), (4, .bool false), (5, vi x)]) (fun _ => [ros m, ros m, .rw (knC (some ⟨0,0,none⟩) m.length c z) none, .rw (knC (some ⟨1,0,none⟩) m.length d z) none]) (fun x => m.length - x))
noncomputable def saV_s0 (m : List Int) (c d : Nat) (z : Bool) := (List.map (Value.int IntKind.i64) m)
noncomputable def saV_s1 (m : List Int) (c d : Nat) (z : Bool) : List Value := [Value.slice (some (ad0 0)) m.length c, Value.bool z]
noncomputable def saV_s2 (m : List Int) (c d : Nat) (z : Bool) : List Value := [Value.slice (some (ad0 1)) m.length d, Value.bool z]
noncomputable def saV :=
fun (m : List Int) (c d : Nat) (z : Bool) ↦ Ob (BoolAt (saV_s1 m c d z) ((0 : Nat) + (1 : Nat))) ∧ Ob (BoolAt (saV_s2 m c d z) ((0 : Nat) + (1 : Nat))) ∧ ((!getB (saV_s1 m c d z) ((0 : Nat) + (1 : Nat)) == getB (saV_s2 m c d z) ((0 : Nat) + (1 : Nat))) = false → (((↑m.length : Int) != (↑m.length : Int)) = true → True ∧ Ob (Value.bool false = Value.bool true)) ∧ (((↑m.length : Int) != (↑m.length : Int)) = false → (∃ (y : Nat), Ob (y ≤ m.length) ∧ (Ob (AObj.ro (saV_s0 m c d z) = AObj.ro (List.map (nmap1 fun (b : Nat) ↦ b) (saV_s0 m c d z)) ∧ AObj.sc (4 : Nat) (AObj.ro (saV_s0 m c d z)) = true) ∧ Ob (AObj.ro (saV_s0 m c d z) = AObj.ro (List.map (nmap1 fun (b : Nat) ↦ b) (saV_s0 m c d z)) ∧ AObj.sc (4 : Nat) (AObj.ro (saV_s0 m c d z)) = true) ∧ Ob (AObj.rw (saV_s1 m c d z) none = AObj.rw (saV_s1 m c d z) none ∧ true = true) ∧ Ob (AObj.rw (saV_s2 m c d z) none = AObj.rw (saV_s2 m c d z) none ∧ true = true) ∧ True) ∧ Ob (ptr0 2 = ptr0 2) ∧ Ob (ptr0 3 = ptr0 3) ∧ Ob (false = false) ∧ Ob ((0 : Int) = (↑y : Int)) ∧ True) ∧ ∀ (x : Nat), Ob (x ≤ m.length) → (decide ((↑x : Int) < (↑m.length : Int)) = true → Ob ((0 : Int) ≤ (↑x : Int) ∧ (↑x : Int) < (↑m.length : Int) ∧ true = true) ∧ Ob (IntAt IntKind.i64 (saV_s0 m c d z) ((0 : Nat) + (↑x : Int).toNat * (1 : Nat))) ∧ Ob ((0 : Int) ≤ (↑x : Int) ∧ (↑x : Int) < (↑m.length : Int) ∧ true = true) ∧ Ob (IntAt IntKind.i64 (saV_s0 m c d z) ((0 : Nat) + (↑x : Int).toNat * (1 : Nat))) ∧ ((getI (saV_s0 m c d z) ((0 : Nat) + (↑x : Int).toNat * (1 : Nat)) != getI (saV_s0 m c d z) ((0 : Nat) + (↑x : Int).toNat * (1 : Nat))) = true → True ∧ Ob (Value.bool false = Value.bool true)) ∧ ((getI (saV_s0 m c d z) ((0 : Nat) + (↑x : Int).toNat * (1 : Nat)) != getI (saV_s0 m c d z) ((0 : Nat) + (↑x : Int).toNat * (1 : Nat))) = false → ∃ (y : Nat), Ob (y ≤ m.length) ∧ Ob (m.length - y < m.length - x) ∧ (Ob (AObj.ro (saV_s0 m c d z) = AObj.ro (List.map (nmap1 fun (b : Nat) ↦ b) (saV_s0 m c d z)) ∧ AObj.sc (4 : Nat) (AObj.ro (saV_s0 m c d z)) = true) ∧ Ob (AObj.ro (saV_s0 m c d z) = AObj.ro (List.map (nmap1 fun (b : Nat) ↦ b) (saV_s0 m c d z)) ∧ AObj.sc (4 : Nat) (AObj.ro (saV_s0 m c d z)) = true) ∧ Ob (AObj.rw (saV_s1 m c d z) none = AObj.rw (saV_s1 m c d z) none ∧ true = true) ∧ Ob (AObj.rw (saV_s2 m c d z) none = AObj.rw (saV_s2 m c d z) none ∧ true = true) ∧ True) ∧ Ob (ptr0 2 = ptr0 2) ∧ Ob (ptr0 3 = ptr0 3) ∧ Ob (false = false) ∧ Ob (IntKind.i64.wrap ((↑x : Int) + (1 : Int)) = (↑y : Int)) ∧ True)) ∧ (decide ((↑x : Int) < (↑m.length : Int)) = false → True ∧ Ob (Value.bool true = Value.bool true)))) ∧ ((!getB (saV_s1 m c d z) ((0 : Nat) + (1 : Nat)) == getB (saV_s2 m c d z) ((0 : Nat) + (1 : Nat))) = true → True ∧ Ob (Value.bool false = Value.bool true))
theorem saV_eq : saV = fun (m : List Int) (c d : Nat) (z : Bool) => vc Try.prog leE 2 38 true (saI m c d z) saB [] (argFr 0 [knV (some ⟨0,0,none⟩) m.length c z, knV (some ⟨1,0,none⟩) m.length d z]) [ros m, ros m] (retK Try.prog Try.f18 (fun v _ => v = .bool true)) := by kernel_rfl
noncomputable def saN_s0 (z : Bool) : List Value := [Value.slice none (0 : Nat) (0 : Nat), Value.bool z]
noncomputable def saN :=
fun (z : Bool) ↦ Ob (some (Value.bool z) = some (Value.bool z)) ∧ Ob (BoolAt (saN_s0 z) ((0 : Nat) + (1 : Nat))) ∧ ((!z == getB (saN_s0 z) ((0 : Nat) + (1 : Nat))) = false → (false = true → True ∧ Ob (Value.bool false = Value.bool true)) ∧ (false = false → (∃ (y : Unit), Ob True ∧ (Ob (AObj.rw (saN_s0 z) none = AObj.rw (saN_s0 z) none ∧ true = true) ∧ Ob (AObj.rw (saN_s0 z) none = AObj.rw (saN_s0 z) none ∧ true = true) ∧ True) ∧ Ob (ptr0 0 = ptr0 0) ∧ Ob (ptr0 1 = ptr0 1) ∧ Ob (false = false) ∧ Ob ((0 : Int) = (0 : Int)) ∧ True) ∧ ∀ (x : Unit), Ob True → (false = true → False) ∧ (false = false → True ∧ Ob (Value.bool true = Value.bool true)))) ∧ ((!z == getB (saN_s0 z) ((0 : Nat) + (1 : Nat))) = true → True ∧ Ob (Value.bool false = Value.bool true))
theorem saN_eq : saN = fun (z : Bool) => vc Try.prog leE 0 38 true (invOf 0 (LInv.one Unit (fun _ => True) (fun _ => [(2, ptr0 0), (3, ptr0 1), (4, .bool false), (5, vi 0)]) (fun _ => [.rw (knC none 0 0 z) none, .rw (knC none 0 0 z) none]) (fun _ => 0))) saB [] (argFr 0 [knV none 0 0 z, knV none 0 0 z]) [] (retK Try.prog Try.f18 (fun v _ => v = .bool true)) := by kernel_rfl
theorem plc_no {L : List Int} {a k : Int} : ∀ x, noC L a k x → plc L a k x = -1
  | 0, _ => rfl
  | x + 1, h => by
    have ih := plc_no x fun j hj => h j (by omega)
    simp only [plc, ih]
    rw [if_neg (by omega), if_neg (h x (by omega))]
theorem plc_at {L : List Int} {a k : Int} {x : Nat} (h : noC L a k x) (hx : ca L x = a ∧ ck L x = k) : ∀ n, x < n → plc L a k n = x
  | 0, hn => by omega
  | n + 1, hn => by
    by_cases e : x = n
    · subst e
      simp only [plc, plc_no x h]
      rw [if_neg (by omega), if_pos hx]
    · have ih := plc_at h hx n (by omega)
      simp only [plc, ih]
      rw [if_pos (by omega)]
theorem two_and {p q a k : Int} (h : (p == a && q == k) = true) : p = a ∧ q = k := by simpa using h
theorem two_no {p q a k : Int} (h : (p == a && q == k) = false) : ¬ (p = a ∧ q = k) := fun h2 => by simp [h2.1, h2.2] at h
theorem two_and' {p q a k : Int} (h : (a == p && k == q) = true) : p = a ∧ q = k := by
  have := two_and h; exact ⟨this.1.symm, this.2.symm⟩
theorem two_no' {p q a k : Int} (h : (a == p && k == q) = false) : ¬ (p = a ∧ q = k) := fun h2 => two_no h ⟨h2.1.symm, h2.2.symm⟩
theorem plV_ok (L : List Int) (n d : Nat) (a k : Int) (hl : L.length = n * 2) (hn : n ≤ 100000) : plV L n d a k := by
  unfold plV
  simp only [SS, reduceCtorEq, Arg.list, Arg.num, Arg.flag, intOf, andP, Nat.reduceLeDiff, Nat.reduceAdd, Nat.reduceMul, Nat.reduceLT, ckAsk, CK.ask]
  refine ⟨⟨0, ⟨by omega, all_none⟩, rfl⟩, fun x hx => ⟨fun h1 => ⟨⟨by omega, by omega⟩, ⟨by omega, by omega⟩, fun h2 => (plc_at hx.2 (two_and h2) n (by omega)).symm, fun h2 => ⟨x + 1, ⟨by omega, all_snoc hx.2 (two_no h2)⟩, by omega, wrap_succ (n := n) (by omega) (by omega)⟩⟩, fun h1 => ?_⟩⟩
  have hx1 := hx.1
  obtain rfl : x = n := by omega
  exact (plc_no x hx.2).symm
theorem ixV_ok (L : List Int) (n d : Nat) (a k : Int) (hl : L.length = n * 2) (hn : n ≤ 100000) : ixV L n d a k := by
  unfold ixV
  simp only [SS, reduceCtorEq, Arg.list, Arg.num, Arg.flag, intOf, andP, Nat.reduceLeDiff, Nat.reduceAdd, Nat.reduceMul, Nat.reduceLT, ckAsk, CK.ask]
  refine ⟨⟨0, ⟨by omega, all_none⟩, rfl⟩, fun x hx => ⟨fun h1 => ⟨⟨by omega, by omega⟩, ⟨by omega, by omega⟩, fun h2 => (plc_at hx.2 (two_and' h2) n (by omega)).symm, fun h2 => ⟨x + 1, ⟨by omega, all_snoc hx.2 (two_no' h2)⟩, by omega, wrap_succ (n := n) (by omega) (by omega)⟩⟩, fun h1 => ?_⟩⟩
  have hx1 := hx.1
  obtain rfl : x = n := by omega
  exact (plc_no x hx.2).symm
theorem roV_ok (w : List Int) (d : Nat) (a k : Int) (hw : w.length ≤ 1000) (hb : ∀ x ∈ w, -1 ≤ x ∧ x ≤ 1) (hc : okC w.length a k) : roV w d a k := by
  unfold roV
  simp only [SS, reduceCtorEq, Arg.list, Arg.num, Arg.flag, intOf, andP, Nat.reduceLeDiff, Nat.reduceAdd, Nat.reduceMul, Nat.reduceLT, ckAsk, CK.ask]
  have hv : ∀ i, i < w.length → -1 ≤ w.getD i 0 ∧ w.getD i 0 ≤ 1 := fun i hi => hb _ (ints_mem hi)
  rw [show getI [vi a, vi k] 1 = k from rfl]
  rcases hc with hc | hc
  · exact ⟨fun _ => by rw [resV, if_neg (by omega), if_neg (by omega)], fun h => by omega⟩
  · refine ⟨fun h => by omega, fun h => ⟨rfl, fun h2 => ⟨by omega, by omega, by rw [resV, if_neg (by omega), if_pos h2]⟩, fun h2 => ⟨by omega, by omega, ?_⟩⟩⟩
    have := hv a.toNat (by omega)
    rw [wrap_in (by omega) (by omega), resV, if_pos (by omega)]; omega
theorem prV_ok (x0 x1 x2 x3 x4 x5 x6 x7 x8 x9 x10 x11 a k : Int) (hb : ∀ x ∈ [x0, x1, x2, x3, x4, x5, x6, x7, x8, x9, x10, x11], -1 ≤ x ∧ x ≤ 1) (hc : okC 12 a k) : prV x0 x1 x2 x3 x4 x5 x6 x7 x8 x9 x10 x11 a k := by
  unfold prV
  simp only [SS, reduceCtorEq, Arg.list, Arg.num, Arg.flag, intOf, andP, Nat.reduceLeDiff, Nat.reduceAdd, Nat.reduceMul, Nat.reduceLT, ckAsk, CK.ask]
  have hg : ∀ i, getI [vi x0, vi x1, vi x2, vi x3, vi x4, vi x5, vi x6, vi x7, vi x8, vi x9, vi x10, vi x11] i = [x0, x1, x2, x3, x4, x5, x6, x7, x8, x9, x10, x11].getD i 0 := fun i => getI_map (k := .i64) (l := [x0, x1, x2, x3, x4, x5, x6, x7, x8, x9, x10, x11])
  have hi : ∀ i, i < 12 → IntAt .i64 [vi x0, vi x1, vi x2, vi x3, vi x4, vi x5, vi x6, vi x7, vi x8, vi x9, vi x10, vi x11] i := fun i h => (intAt_map (k := .i64) (l := [x0, x1, x2, x3, x4, x5, x6, x7, x8, x9, x10, x11])).2 h
  have hv : ∀ i, i < 12 → -1 ≤ [x0, x1, x2, x3, x4, x5, x6, x7, x8, x9, x10, x11].getD i 0 ∧ [x0, x1, x2, x3, x4, x5, x6, x7, x8, x9, x10, x11].getD i 0 ≤ 1 := fun i h => hb _ (ints_mem h)
  rw [show getI [vi a, vi k] 1 = k from rfl]
  refine ⟨rfl, fun h => ?_, fun h => ⟨fun h2 => ?_, fun h2 => ?_⟩⟩
  · have ha : 0 ≤ a ∧ a < 12 := by rcases hc with hc | hc <;> omega
    have := hv a.toNat (by omega)
    refine ⟨by omega, hi _ (by omega), ?_⟩
    rw [hg, wrap_in (by omega) (by omega), resV, if_pos h]; omega
  · have ha : 0 ≤ a ∧ a < 12 := by rcases hc with hc | hc <;> omega
    refine ⟨by omega, hi _ (by omega), ?_⟩
    rw [hg, resV, if_neg h, if_pos h2]
  · rw [resV, if_neg h, if_neg h2]
theorem saV_ok (m : List Int) (c d : Nat) (z : Bool) (hm : m.length ≤ 1000) : saV m c d z := by
  unfold saV saV_s2 saV_s1 saV_s0
  simp only [SS, reduceCtorEq, Arg.list, Arg.num, Arg.flag, intOf, andP, Nat.reduceLeDiff, Nat.reduceAdd, Nat.reduceMul, Nat.reduceLT, ckAsk, CK.ask]
  exact ⟨rfl, rfl, fun _ => ⟨⟨0, by omega, rfl⟩, fun x hx h => ⟨by omega, by omega, by omega, by omega, x + 1, by omega, by omega, wrap_succ (n := m.length) (by omega) (by omega)⟩⟩, fun h => h rfl⟩
theorem saN_ok (z : Bool) : saN z := by
  unfold saN saN_s0
  simp only [SS, reduceCtorEq, Arg.list, Arg.num, Arg.flag, intOf, andP, Nat.reduceLeDiff, Nat.reduceAdd, Nat.reduceMul, Nat.reduceLT, ckAsk, CK.ask]
  exact ⟨rfl, fun h => h rfl⟩
abbrev kC : K3 := .agg [.int .i64, .int .i64]
abbrev psP : List K3 := [.one (.rows [.i .i64, .i .i64] false), kC]
abbrev psRo : List K3 := [.one (.rows [.i .i64] false), kC]
abbrev psPr : List K3 := [.agg [.int .i64, .int .i64, .int .i64, .int .i64, .int .i64, .int .i64, .int .i64, .int .i64, .int .i64, .int .i64, .int .i64, .int .i64], kC]
abbrev psSa : List K3 := [.agg [.rows [.i .i64] false, .bool], .agg [.rows [.i .i64] false, .bool]]
def plS : List Arg3 → Option (Prop × Value)
  | [.one (.view cs n _), .agg [.plain (.int .i64 a), .plain (.int .i64 k)]] => some (cs = (intsOf cs).map (.int .i64) ∧ cs.length = n * 2 ∧ n ≤ 100000, vi (plc (intsOf cs) a k n))
  | [.one _, .agg [.plain (.int .i64 _), .plain (.int .i64 _)]] => some (False, vi 0)
  | _ => none
theorem plS_ok {f : FuncId} (hV : ∀ L n d a k, L.length = n * 2 → n ≤ 100000 → Call Try.prog f [.slice (some ⟨0,0,none⟩) n d, .agg #[vi a, vi k]] [ros L] fun v _ => v = vi (plc L a k n)) :
    ∀ args H φ v H' l, pure3 psP plS args H = some (φ, v, H', l) → Asks φ → Call Try.prog f args H (fun v' H2 => v' = v ∧ H2 = H') ∧ Kept H H' l :=
  pure3_ok fun r ψ v hk hs hψ => by
    match r, hk with
    | [.one x, .agg [_, _]], ⟨hl, ⟨⟨a, rfl⟩, ⟨k, rfl⟩, _⟩, _⟩ =>
      rcases hl with rfl | ⟨s, rfl⟩ | ⟨cs, n, rfl⟩ <;> cases hs <;> refine ⟨rfl, fun caps _ => ?_⟩
      · exact hψ.elim
      · exact hψ.elim
      · have h := hV (intsOf cs) n (caps 0) a k (by rw [intsOf, List.length_map]; exact hψ.2.1) hψ.2.2
        show Call Try.prog f _ [AObj.ro cs] _
        rw [show AObj.ro cs = ros (intsOf cs) by show AObj.ro cs = .ro _; rw [← hψ.1]]
        exact h
theorem plG_ok : ∀ args H φ v H' l, pure3 psP plS args H = some (φ, v, H', l) → Asks φ → Call Try.prog 41 args H (fun v' H2 => v' = v ∧ H2 = H') ∧ Kept H H' l :=
  plS_ok fun L n d a k h1 h2 => by
    have h := plV_ok L n d a k h1 h2
    rw [plV_eq] at h
    exact Call.ofVc leE_ok mixed (c := plB) (inv := plI L n d a k) Try.func41 (by kernel_rfl) h
theorem ixG_ok : ∀ args H φ v H' l, pure3 psP plS args H = some (φ, v, H', l) → Asks φ → Call Try.prog 63 args H (fun v' H2 => v' = v ∧ H2 = H') ∧ Kept H H' l :=
  plS_ok fun L n d a k h1 h2 => by
    have h := ixV_ok L n d a k h1 h2
    rw [ixV_eq] at h
    exact Call.ofVc leE_ok mixed (c := ixB) (inv := ixI L n d a k) Try.func63 (by kernel_rfl) h
def roS : List Arg3 → Option (Prop × Value)
  | [.one (.view cs n q), .agg [.plain (.int .i64 a), .plain (.int .i64 k)]] => some (okM (.view cs n q) ∧ (∀ x ∈ intsOf cs, -1 ≤ x ∧ x ≤ 1) ∧ okC n a k, vi (resV (intsOf cs) a k))
  | [.one _, .agg [.plain (.int .i64 _), .plain (.int .i64 _)]] => some (False, vi 0)
  | _ => none
theorem roG_ok : ∀ args H φ v H' l, pure3 psRo roS args H = some (φ, v, H', l) → Asks φ → Call Try.prog 42 args H (fun v' H2 => v' = v ∧ H2 = H') ∧ Kept H H' l :=
  pure3_ok fun r ψ v hk hs hψ => by
    match r, hk with
    | [.one x, .agg [_, _]], ⟨hl, ⟨⟨a, rfl⟩, ⟨k, rfl⟩, _⟩, _⟩ =>
      rcases hl with rfl | ⟨s, rfl⟩ | ⟨cs, n, rfl⟩ <;> cases hs <;> refine ⟨rfl, fun caps _ => ?_⟩
      · exact hψ.elim
      · exact hψ.elim
      · obtain ⟨w, rfl, rfl, h1⟩ := okM_of hψ.1
        have h2 := hψ.2
        rw [intsOf_map] at h2 ⊢
        exact Call.ofVc leE_ok mixed (c := roB) Try.func42 (by kernel_rfl) (cast (congrFun (congrFun (congrFun (congrFun roV_eq w) (caps 0)) a) k) (roV_ok w (caps 0) a k h1 h2.1 h2.2))
def prS : List Arg3 → Option (Prop × Value)
  | [.agg [.plain (.int .i64 x0), .plain (.int .i64 x1), .plain (.int .i64 x2), .plain (.int .i64 x3), .plain (.int .i64 x4), .plain (.int .i64 x5), .plain (.int .i64 x6), .plain (.int .i64 x7), .plain (.int .i64 x8), .plain (.int .i64 x9), .plain (.int .i64 x10), .plain (.int .i64 x11)], .agg [.plain (.int .i64 a), .plain (.int .i64 k)]] =>
      some ((∀ x ∈ [x0, x1, x2, x3, x4, x5, x6, x7, x8, x9, x10, x11], -1 ≤ x ∧ x ≤ 1) ∧ okC 12 a k, vi (resV [x0, x1, x2, x3, x4, x5, x6, x7, x8, x9, x10, x11] a k))
  | _ => none
theorem kinds_ints : ∀ {n : Nat} {ls : List Leaf}, kindsL (List.replicate n (.int .i64)) ls → ∃ xs : List Int, ls = xs.map (fun x => .plain (.int .i64 x)) ∧ xs.length = n
  | 0, [], _ => ⟨[], rfl, rfl⟩
  | 0, _ :: _, h => h.elim
  | n + 1, [], h => h.elim
  | n + 1, l :: ls, h => by
    obtain ⟨⟨x, rfl⟩, h2⟩ := h
    obtain ⟨xs, rfl, e⟩ := kinds_ints h2
    exact ⟨x :: xs, rfl, by rw [List.length_cons, e]⟩
theorem twelve : ∀ {l : List Int}, l.length = 12 → ∃ x0 x1 x2 x3 x4 x5 x6 x7 x8 x9 x10 x11, l = [x0, x1, x2, x3, x4, x5, x6, x7, x8, x9, x10, x11] := fun {l} h => by
  rcases l with _ | ⟨x0, _ | ⟨x1, _ | ⟨x2, _ | ⟨x3, _ | ⟨x4, _ | ⟨x5, _ | ⟨x6, _ | ⟨x7, _ | ⟨x8, _ | ⟨x9, _ | ⟨x10, _ | ⟨x11, _ | ⟨x12, l⟩⟩⟩⟩⟩⟩⟩⟩⟩⟩⟩⟩⟩
  all_goals first | exact ⟨_, _, _, _, _, _, _, _, _, _, _, _, rfl⟩ | (simp only [List.length_cons, List.length_nil] at h; omega)
theorem pr_call (x0 x1 x2 x3 x4 x5 x6 x7 x8 x9 x10 x11 a k : Int) (hb : ∀ x ∈ [x0, x1, x2, x3, x4, x5, x6, x7, x8, x9, x10, x11], -1 ≤ x ∧ x ≤ 1) (hc : okC 12 a k) :
    Call Try.prog 40 [.agg #[vi x0, vi x1, vi x2, vi x3, vi x4, vi x5, vi x6, vi x7, vi x8, vi x9, vi x10, vi x11], .agg #[vi a, vi k]] [] fun v _ => v = vi (resV [x0, x1, x2, x3, x4, x5, x6, x7, x8, x9, x10, x11] a k) := by
  have h := prV_ok x0 x1 x2 x3 x4 x5 x6 x7 x8 x9 x10 x11 a k hb hc
  rw [prV_eq] at h
  exact Call.ofVc leE_ok mixed (c := prB) Try.func40 (by kernel_rfl) h
theorem pr_fin {ls : List Leaf} {a k : Int} {ψ : Prop} {v : Value} (hk : kindsL (List.replicate 12 (.int .i64)) ls) (hs : prS [.agg ls, .agg [.plain (.int .i64 a), .plain (.int .i64 k)]] = some (ψ, v)) (hψ : ψ) : sc 0 v = true ∧ ∀ caps, caps3 caps 0 [.agg ls, .agg [.plain (.int .i64 a), .plain (.int .i64 k)]] → Call Try.prog 40 (canon3 caps 0 [.agg ls, .agg [.plain (.int .i64 a), .plain (.int .i64 k)]]) (canonH3 [.agg ls, .agg [.plain (.int .i64 a), .plain (.int .i64 k)]]) fun v' _ => v' = v := by
  obtain ⟨xs, rfl, e⟩ := kinds_ints hk
  obtain ⟨x0, x1, x2, x3, x4, x5, x6, x7, x8, x9, x10, x11, rfl⟩ := twelve e
  cases hs
  exact ⟨rfl, fun caps _ => pr_call x0 x1 x2 x3 x4 x5 x6 x7 x8 x9 x10 x11 a k hψ.1 hψ.2⟩
theorem kinds_pr {r : List Arg3} (h : kinds3 psPr r) : ∃ ls a k, r = [.agg ls, .agg [.plain (.int .i64 a), .plain (.int .i64 k)]] ∧ kindsL (List.replicate 12 (.int .i64)) ls := by
  rcases r with _ | ⟨x, _ | ⟨y, _ | ⟨z, r⟩⟩⟩
  · exact h.elim
  · cases x
    · exact h.elim
    · exact h.2.elim
  · cases x with
    | one l => exact h.elim
    | agg ls =>
      obtain ⟨h1, h2⟩ := h
      cases y with
      | one l => exact h2.elim
      | agg ks =>
        match ks, h2 with
        | [_, _], ⟨⟨⟨a, rfl⟩, ⟨k, rfl⟩, _⟩, _⟩ => exact ⟨ls, a, k, rfl, h1⟩
  · cases x with
    | one l => exact h.elim
    | agg ls =>
      cases y with
      | one l => exact h.2.elim
      | agg ks => exact h.2.2.elim
theorem prG_ok : ∀ args H φ v H' l, pure3 psPr prS args H = some (φ, v, H', l) → Asks φ → Call Try.prog 40 args H (fun v' H2 => v' = v ∧ H2 = H') ∧ Kept H H' l :=
  pure3_ok fun r ψ v hk hs hψ => by
    obtain ⟨ls, a, k, rfl, hl⟩ := kinds_pr hk
    exact pr_fin hl hs hψ
def saS : List Arg3 → Option (Prop × Value)
  | [.agg [.view cs n q, .plain (.bool z)], .agg [.view ds k _, .plain (.bool y)]] => some (okM (.view cs n q) ∧ cs = ds ∧ n = k ∧ z = y, .bool true)
  | [.agg [.plain _, .plain (.bool z)], .agg [.plain _, .plain (.bool y)]] => some (z = y, .bool true)
  | [.agg [_, .plain (.bool _)], .agg [_, .plain (.bool _)]] => some (False, .bool true)
  | _ => none
theorem saG_ok : ∀ args H φ v H' l, pure3 psSa saS args H = some (φ, v, H', l) → Asks φ → Call Try.prog 18 args H (fun v' H2 => v' = v ∧ H2 = H') ∧ Kept H H' l :=
  pure3_ok fun r ψ v hk hs hψ => by
    match r, hk with
    | [.agg [_, _], .agg [_, _]], ⟨⟨hl, ⟨z, rfl⟩, _⟩, ⟨hw, ⟨y, rfl⟩, _⟩, _⟩ =>
      rcases hl with rfl | ⟨s, rfl⟩ | ⟨cs, n, rfl⟩ <;> rcases hw with rfl | ⟨t, rfl⟩ | ⟨ds, k, rfl⟩ <;> cases hs <;> refine ⟨rfl, fun caps _ => ?_⟩
      · obtain rfl := hψ
        exact Call.ofVc leE_ok mixed (c := saB) Try.func18 (by kernel_rfl) (cast (congrFun saN_eq z) (saN_ok z))
      all_goals try exact hψ.elim
      · obtain ⟨h1, rfl, rfl, rfl⟩ := hψ
        obtain ⟨m, rfl, rfl, h2⟩ := okM_of h1
        have h := saV_ok m (caps 0) (caps 1) z h2
        rw [saV_eq] at h
        exact Call.ofVc leE_ok mixed (c := saB) (inv := saI m (caps 0) (caps 1) z) Try.func18 (by kernel_rfl) h
theorem plc_neg {L : List Int} {a k : Int} {n : Nat} : (plc L a k n < 0 ↔ ¬ hasC L n a k) ∧ (plc L a k n ≥ 0 ↔ hasC L n a k) := by
  have h : ∀ n, (plc L a k n = -1 ∧ ¬ hasC L n a k) ∨ (0 ≤ plc L a k n ∧ hasC L n a k) := fun n => by
    induction n with
    | zero => exact .inl ⟨rfl, fun ⟨i, hi, _⟩ => by omega⟩
    | succ x ih =>
      rcases ih with ⟨h1, h2⟩ | ⟨h1, i, hi, h3⟩
      · by_cases hx : ca L x = a ∧ ck L x = k
        · refine .inr ⟨?_, x, by omega, hx⟩
          simp only [plc, h1]
          rw [if_neg (by omega), if_pos hx]; omega
        · refine .inl ⟨?_, fun ⟨i, hi, h3⟩ => ?_⟩
          · simp only [plc, h1]
            rw [if_neg (by omega), if_neg hx]
          · by_cases e : i = x
            · subst e; exact hx h3
            · exact h2 ⟨i, by omega, h3⟩
      · refine .inr ⟨?_, i, by omega, h3⟩
        simp only [plc]
        rw [if_pos h1]; exact h1
  rcases h n with ⟨h1, h2⟩ | ⟨h1, h2⟩
  · exact ⟨⟨fun _ => h2, fun _ => by omega⟩, ⟨fun _ => by omega, fun h => absurd h h2⟩⟩
  · exact ⟨⟨fun _ => by omega, fun h => absurd h2 h⟩, ⟨fun _ => h2, fun _ => h1⟩⟩
end Go.Pier.Sk
namespace Go.Pier.Sk
open Go Go.Pier
variable {P : Program}
theorem putL_get (new : List Value) : ∀ (cs : List Value) (k j : Nat), k + new.length ≤ cs.length → (putL cs k new)[j]? = if k ≤ j ∧ j < k + new.length then new[j - k]? else cs[j]? := by
  induction new with
  | nil => intro cs k j h; simp only [putL, List.length_nil]; rw [if_neg (by omega)]
  | cons v vs ih =>
    intro cs k j h
    simp only [List.length_cons] at h ⊢
    rw [putL, ih (cs.set k v) (k + 1) j (by rw [List.length_set]; omega), List.getElem?_set]
    by_cases e : k = j
    · subst e
      rw [if_neg (by omega), if_pos rfl, if_pos (by omega), if_pos (by omega)]
      simp
    · rw [if_neg e]
      by_cases h2 : k + 1 ≤ j ∧ j < k + 1 + vs.length
      · rw [if_pos h2, if_pos (by omega), show j - k = (j - (k + 1)) + 1 by omega, List.getElem?_cons_succ]
      · rw [if_neg h2, if_neg (by omega)]
def mkI (ds : List Value) (n : Nat) : List Value := (List.range n).map fun j => .int .i64 (getI ds j)
theorem put_mk {cs : List Value} {w : List Int} {off n : Nat} (h1 : (cs.drop off).take n = List.replicate n (.int .i64 0)) (h2 : w.length ≤ n) (h3 : off + n ≤ cs.length) :
    putL cs off (w.map (.int .i64)) = cs.take off ++ mkI (w.map (.int .i64)) n ++ cs.drop (off + n) := by
  apply List.ext_getElem?
  intro j
  rw [putL_get _ _ _ _ (by rw [List.length_map]; omega), List.length_map]
  have hm : (mkI (w.map (.int .i64)) n).length = n := by simp [mkI]
  have ht : (cs.take off).length = off := by rw [List.length_take]; omega
  by_cases a : j < off
  · rw [if_neg (by omega), List.append_assoc, List.getElem?_append_left (by omega), List.getElem?_take_of_lt a]
  by_cases b : j < off + n
  · rw [List.append_assoc, List.getElem?_append_right (by omega), ht, List.getElem?_append_left (by omega)]
    have e : (mkI (w.map (.int .i64)) n)[j - off]? = some (.int .i64 (w.getD (j - off) 0)) := by
      rw [mkI, List.getElem?_map, List.getElem?_range (by omega)]
      simp only [Option.map_some, getI_map]
    rw [e]
    by_cases c : j < off + w.length
    · rw [if_pos (by omega), List.getElem?_map, List.getD_eq_getElem?_getD, List.getElem?_eq_getElem (by omega)]
      rfl
    · rw [if_neg (by omega)]
      have k : ((cs.drop off).take n)[j - off]? = cs[j]? := by
        rw [List.getElem?_take_of_lt (by omega), List.getElem?_drop, show off + (j - off) = j by omega]
      rw [← k, h1, List.getElem?_replicate, if_pos (by omega), List.getD_eq_getElem?_getD, List.getElem?_eq_none (by omega)]
      rfl
  · rw [if_neg (by omega), List.append_assoc, List.getElem?_append_right (by omega), ht, List.getElem?_append_right (by omega), hm, List.getElem?_drop, show off + n + (j - off - n) = j by omega]
def empI (_ : Nat) : Int := 0
def orcCp0 (P : Program) : Orc := fun env H o => match o.op with
  | .call c => match c.callee with
    | .builtin .copy => match envs env c.args.toList with
      | some [.slice (some ⟨b, off, none⟩) n dc, .slice (some sa) m _] => match H[b]?, H[sa.block]?, c.argTypes[0]? with
        | some (.rw cs r), some (.ro ds), some t0 => match P.underlying t0 with
          | some (.slice elem) => match sizeT P elem with
            | some 1 => some (((cs.drop off).take n = List.replicate n (.int .i64 0) ∧ off + n ≤ cs.length ∧ std ⟨b, off, none⟩ dc = true) ∧ sa = ⟨sa.block, 0, none⟩ ∧ ds = (intsOf ds).map (.int .i64) ∧ ds.length = m ∧ m ≤ n, some (goInt m), H.set b (.rw (cs.take off ++ mkI ds n ++ cs.drop (off + n)) r))
            | _ => none
          | _ => none
        | _, some .gone, _ => some (False, some (goInt 0), H)
        | _, _, _ => none
      | _ => none
    | _ => none
  | _ => none
theorem orcCp0_ok : OrcOk P (orcCp0 P) := fun env H o φ v H' h hφ => by
  unfold orcCp0 at h
  split at h <;> try (cases h; done)
  rename_i c hop
  split at h <;> try (cases h; done)
  rename_i hcal
  split at h <;> try (cases h; done)
  rename_i b off n dc sa m scp hargs
  split at h <;> try (cases h; done)
  rotate_left
  · cases h
    exact hφ.elim
  rename_i cs r ds t0 hb hsb h0
  split at h <;> try (cases h; done)
  rename_i elem hu
  split at h <;> cases h
  rename_i hsz
  obtain ⟨⟨k1, k2, k3⟩, k0, k4, k5, k6⟩ := hφ
  obtain ⟨sb, so, sp⟩ := sa
  cases k0
  have hmin : Nat.min m n = m := Nat.min_eq_left k6
  have hc : aCopies P H c.argTypes (.slice (some ⟨b, off, none⟩) n dc) (.slice (some ⟨sb, 0, none⟩) m scp) = some (andP (some (0 + Nat.min m n * 1 ≤ ds.length ∧ std ⟨sb, 0, none⟩ scp = true)) (off + ((ds.drop 0).take (Nat.min m n * 1)).length ≤ cs.length ∧ ((ds.drop 0).take (Nat.min m n * 1)).all (sc1 H.length) = true), goInt (Nat.min m n), H.set b (.rw (putL cs off ((ds.drop 0).take (Nat.min m n * 1))) r)) := by
    unfold aCopies
    simp only [h0, hu, hsz, hb, symFirst, cellsAt, hsb]
  have e : (ds.drop 0).take (Nat.min m n * 1) = (intsOf ds).map (.int .i64) := by rw [List.drop_zero, hmin, Nat.mul_one, ← k5, List.take_length]; exact k4
  have he : aCopy P H c.argTypes (.slice (some ⟨b, off, none⟩) n dc) (.slice (some ⟨sb, 0, none⟩) m scp) = some (goInt m, H.set b (.rw (cs.take off ++ mkI ds n ++ cs.drop (off + n)) r)) := by
    rw [aCopies_ok hc (andP_iff.2 ⟨⟨by rw [hmin, k5]; omega, std_none rfl⟩, by rw [e, List.length_map, intsOf, List.length_map, k5]; omega, by rw [e]; exact all_sc_int⟩), hmin]
    rw [show (ds.drop 0).take (m * 1) = (intsOf ds).map (.int .i64) by rw [← hmin]; exact e]
    rw [put_mk k1 (by rw [intsOf, List.length_map, k5]; exact k6) k2, ← k4]
  unfold evOp
  rw [hop]
  simp only [evCall, hargs, Option.bind_some, hcal, evBuiltin, he, Option.map_some, outOf]
end Go.Pier.Sk
set_option maxRecDepth 100000
set_option linter.unusedVariables false
set_option linter.unusedSimpArgs false
namespace Go.Pier.Sk
open Go Go.Pier Go.Proofs
noncomputable def raB : Code := Try.f12.body.getD .skip
noncomputable def rbB : Code := Try.f13.body.getD .skip
noncomputable def slO : Orc := orcOr (orcLd Try.prog) (orcOr (orcEq2 34) (orcCp0 Try.prog))
noncomputable def caOS : List Arg3 → Option Born
  | [.agg [.view cs n r, .plain (.bool z)]] => some ⟨okM (.view cs n r) ∧ allL (intsOf cs) z ≠ [], fun b => newS b ((allL (intsOf cs) z).length / 2), [rowP (allL (intsOf cs) z)]⟩
  | [.agg [_, .plain (.bool _)]] => some ⟨False, fun _ => nilS, []⟩
  | _ => none
noncomputable def ctB : Code := Try.f39.body.getD .skip
noncomputable def ctE : VEnv := { ct := Ct.none.add 63 (pure3 psP plS), orc := slO }
def ctS : List Arg3 → Option (Prop × Value)
  | [.one (.view cs n _), .agg [.plain (.int .i64 a), .plain (.int .i64 k)]] => some (cs = (intsOf cs).map (.int .i64) ∧ cs.length = n * 2 ∧ n ≤ 100000, .bool (decide (0 ≤ plc (intsOf cs) a k n)))
  | [.one _, .agg [.plain (.int .i64 _), .plain (.int .i64 _)]] => some (False, .bool false)
  | _ => none
noncomputable def slT : Ct := ((((Ct.none.add 16 (pure3 psKW cwS)).add 39 (pure3 psP ctS)).add 40 (pure3 psPr prS)).add 37 (pureG [.int .i64, .int .i64, .ints .i64] wiS)).add 35 (born3 psK caOS)
noncomputable def slE1 : VEnv := { ct := slT, orc := slO }
noncomputable def slCc : Cc := ccIn Try.prog slE1 [⟨38, Try.f38, fun _ _ _ => none⟩, ⟨43, Try.f43, fun _ _ _ => none⟩]
noncomputable def raE : VEnv := { ct := slT, cc := slCc, orc := slO }
noncomputable def rbT : Ct := (((Ct.none.add 17 (pure3 psKW cwS)).add 41 (pure3 psP plS)).add 42 (pure3 psRo roS)).add 36 (born3 psK caOS)
noncomputable def rbE : VEnv := { ct := rbT, orc := slO }
noncomputable def rsP (m : List Int) (z : Bool) (w : List Int) (a k : Int) : Value := if errW m z w ≠ 0 then .tuple #[vi 0, vi (errW m z w)] else if dB (hasC (allL m z) ((allL m z).length / 2) a k) = false then .tuple #[vi 0, vi 2] else .tuple #[vi (resV w a k), vi 0]
noncomputable def ctV :=
fun (L : List Int) (n d : Nat) (a k : Int) ↦ Ob ((true = true ∧ Flat (List.map (Value.int IntKind.i64) L)) ∧ List.map (Value.int IntKind.i64) L = List.map (Value.int IntKind.i64) (intsOf (List.map (Value.int IntKind.i64) L)) ∧ (List.map (Value.int IntKind.i64) L).length = n * (2 : Nat) ∧ n ≤ (100000 : Nat)) ∧ True ∧ Ob (Value.bool (decide ((0 : Int) ≤ plc (intsOf (List.map (Value.int IntKind.i64) L)) a k n)) = Value.bool (decide ((0 : Int) ≤ plc L a k n)))
theorem ctV_eq : ctV = fun (L : List Int) (n d : Nat) (a k : Int) => vc Try.prog ctE 1 9 true (fun _ => none) ctB [] (argFr 0 [.slice (some ⟨0,0,none⟩) n d, .agg #[vi a, vi k]]) [ros L] (retK Try.prog Try.f39 (fun v _ => v = .bool (decide (0 ≤ plc L a k n)))) := by kernel_rfl
noncomputable def raVV_s0 (m : List Int) (c : Nat) (w : List Int) (d : Nat) (z : Bool) (a k : Int) := (List.map (Value.int IntKind.i64) (allL (intsOf (List.map (Value.int IntKind.i64) m)) z))
noncomputable def raVV_s1 (m : List Int) (c : Nat) (w : List Int) (d : Nat) (z : Bool) (a k : Int) := (!decide ((0 : Int) ≤ plc (intsOf (raVV_s0 m c w d z a k)) a k ((allL (intsOf (List.map (Value.int IntKind.i64) m)) z).length / (2 : Nat))))
noncomputable def raVV_s2 (m : List Int) (c : Nat) (w : List Int) (d : Nat) (z : Bool) (a k : Int) := (List.map (Value.int IntKind.i64) w)
noncomputable def raVV_s3 (m : List Int) (c : Nat) (w : List Int) (d : Nat) (z : Bool) (a k : Int) := (intsOf (List.map (Value.int IntKind.i64) m))
noncomputable def raVV :=
fun (m : List Int) (c : Nat) (w : List Int) (d : Nat) (z : Bool) (a k : Int) ↦ Ob (((true = true ∧ Flat (List.map (Value.int IntKind.i64) m)) ∧ true = true ∧ Flat (raVV_s2 m c w d z a k)) ∧ okM (Leaf.view (List.map (Value.int IntKind.i64) m) m.length false) ∧ okM (Leaf.view (raVV_s2 m c w d z a k) w.length false)) ∧ ((errW (raVV_s3 m c w d z a k) z (intsOf (raVV_s2 m c w d z a k)) != (0 : Int)) = true → ((errW (raVV_s3 m c w d z a k) z (intsOf (raVV_s2 m c w d z a k)) != (0 : Int)) = true → True ∧ Ob (Value.tuple { toList := [vi (0 : Int), vi (errW (raVV_s3 m c w d z a k) z (intsOf (raVV_s2 m c w d z a k)))] } = rsP m z w a k)) ∧ ((errW (raVV_s3 m c w d z a k) z (intsOf (raVV_s2 m c w d z a k)) != (0 : Int)) = false → Ob ((true = true ∧ Flat (List.map (Value.int IntKind.i64) m)) ∧ okM (Leaf.view (List.map (Value.int IntKind.i64) m) m.length false) ∧ allL (raVV_s3 m c w d z a k) z ≠ []) ∧ Ob ((true = true ∧ Flat (raVV_s0 m c w d z a k)) ∧ List.map (Value.int IntKind.i64) (allL (raVV_s3 m c w d z a k) z) = List.map (Value.int IntKind.i64) (intsOf (raVV_s0 m c w d z a k)) ∧ (raVV_s0 m c w d z a k).length = (allL (raVV_s3 m c w d z a k) z).length / (2 : Nat) * (2 : Nat) ∧ (allL (raVV_s3 m c w d z a k) z).length / (2 : Nat) ≤ (100000 : Nat)) ∧ ((raVV_s1 m c w d z a k) = true → True ∧ Ob (Value.tuple { toList := [vi (0 : Int), vi (2 : Int)] } = rsP m z w a k)) ∧ ((raVV_s1 m c w d z a k) = false → False))) ∧ ((errW (raVV_s3 m c w d z a k) z (intsOf (raVV_s2 m c w d z a k)) != (0 : Int)) = false → Ob ((List.take (12 : Nat) (List.drop ((0 : Nat) + (2 : Nat)) (Value.slice (some (ad0 0)) m.length c :: Value.bool z :: I10 empI [vi (0 : Int), vi (0 : Int)])) = List.replicate (12 : Nat) (vi (0 : Int)) ∧ (0 : Nat) + (2 : Nat) + (12 : Nat) ≤ (14 : Nat) ∧ true = true) ∧ (ad0 1) = (ad0 1) ∧ List.map (Value.int IntKind.i64) w = List.map (Value.int IntKind.i64) (intsOf (raVV_s2 m c w d z a k)) ∧ (raVV_s2 m c w d z a k).length = w.length ∧ w.length ≤ (12 : Nat)) ∧ (false = true → True ∧ Ob (Value.tuple { toList := [vi (0 : Int), vi (0 : Int)] } = rsP m z w a k)) ∧ (false = false → Ob ((true = true ∧ Flat (List.map (Value.int IntKind.i64) m)) ∧ okM (Leaf.view (List.map (Value.int IntKind.i64) m) m.length false) ∧ allL (raVV_s3 m c w d z a k) z ≠ []) ∧ Ob ((true = true ∧ Flat (raVV_s0 m c w d z a k)) ∧ List.map (Value.int IntKind.i64) (allL (raVV_s3 m c w d z a k) z) = List.map (Value.int IntKind.i64) (intsOf (raVV_s0 m c w d z a k)) ∧ (raVV_s0 m c w d z a k).length = (allL (raVV_s3 m c w d z a k) z).length / (2 : Nat) * (2 : Nat) ∧ (allL (raVV_s3 m c w d z a k) z).length / (2 : Nat) ≤ (100000 : Nat)) ∧ ((raVV_s1 m c w d z a k) = true → True ∧ Ob (Value.tuple { toList := [vi (0 : Int), vi (2 : Int)] } = rsP m z w a k)) ∧ ((raVV_s1 m c w d z a k) = false → Ob ((∀ (x : Int), x ∈ [getI (raVV_s2 m c w d z a k) (0 : Nat), getI (raVV_s2 m c w d z a k) (1 : Nat), getI (raVV_s2 m c w d z a k) (2 : Nat), getI (raVV_s2 m c w d z a k) (3 : Nat), getI (raVV_s2 m c w d z a k) (4 : Nat), getI (raVV_s2 m c w d z a k) (5 : Nat), getI (raVV_s2 m c w d z a k) (6 : Nat), getI (raVV_s2 m c w d z a k) (7 : Nat), getI (raVV_s2 m c w d z a k) (8 : Nat), getI (raVV_s2 m c w d z a k) (9 : Nat), getI (raVV_s2 m c w d z a k) (10 : Nat), getI (raVV_s2 m c w d z a k) (11 : Nat)] → (-1 : Int) ≤ x ∧ x ≤ (1 : Int)) ∧ okC (12 : Nat) a k) ∧ True ∧ Ob (Value.tuple { toList := [vi (resV [getI (raVV_s2 m c w d z a k) (0 : Nat), getI (raVV_s2 m c w d z a k) (1 : Nat), getI (raVV_s2 m c w d z a k) (2 : Nat), getI (raVV_s2 m c w d z a k) (3 : Nat), getI (raVV_s2 m c w d z a k) (4 : Nat), getI (raVV_s2 m c w d z a k) (5 : Nat), getI (raVV_s2 m c w d z a k) (6 : Nat), getI (raVV_s2 m c w d z a k) (7 : Nat), getI (raVV_s2 m c w d z a k) (8 : Nat), getI (raVV_s2 m c w d z a k) (9 : Nat), getI (raVV_s2 m c w d z a k) (10 : Nat), getI (raVV_s2 m c w d z a k) (11 : Nat)] a k), vi (0 : Int)] } = rsP m z w a k))))
theorem raVV_eq : raVV = fun (m : List Int) (c : Nat) (w : List Int) (d : Nat) (z : Bool) (a k : Int) => vc Try.prog raE 2 30 true (fun _ => none) raB [] (argFr 0 [knV (some ⟨0,0,none⟩) m.length c z, .slice (some ⟨1,0,none⟩) w.length d, .agg #[vi a, vi k]]) [ros m, ros w] (retK Try.prog Try.f12 (fun v H => v = rsP m z w a k)) := by kernel_rfl
noncomputable def raVN_s0 (m : List Int) (c : Nat) (z : Bool) (a k : Int) := (List.map (Value.int IntKind.i64) (allL (intsOf (List.map (Value.int IntKind.i64) m)) z))
noncomputable def raVN_s1 (m : List Int) (c : Nat) (z : Bool) (a k : Int) := (intsOf (List.map (Value.int IntKind.i64) m))
noncomputable def raVN_s2 (m : List Int) (c : Nat) (z : Bool) (a k : Int) := (!decide ((0 : Int) ≤ plc (intsOf (raVN_s0 m c z a k)) a k ((allL (raVN_s1 m c z a k) z).length / (2 : Nat))))
noncomputable def raVN :=
fun (m : List Int) (c : Nat) (z : Bool) (a k : Int) ↦ Ob ((true = true ∧ Flat (List.map (Value.int IntKind.i64) m)) ∧ okM (Leaf.view (List.map (Value.int IntKind.i64) m) m.length false)) ∧ ((errX (raVN_s1 m c z a k) z != (0 : Int)) = true → ((errX (raVN_s1 m c z a k) z != (0 : Int)) = true → True ∧ Ob (Value.tuple { toList := [vi (0 : Int), vi (errX (raVN_s1 m c z a k) z)] } = Value.tuple { toList := [vi (0 : Int), vi (errX m z)] })) ∧ ((errX (raVN_s1 m c z a k) z != (0 : Int)) = false → Ob ((true = true ∧ Flat (List.map (Value.int IntKind.i64) m)) ∧ okM (Leaf.view (List.map (Value.int IntKind.i64) m) m.length false) ∧ allL (raVN_s1 m c z a k) z ≠ []) ∧ Ob ((true = true ∧ Flat (raVN_s0 m c z a k)) ∧ List.map (Value.int IntKind.i64) (allL (raVN_s1 m c z a k) z) = List.map (Value.int IntKind.i64) (intsOf (raVN_s0 m c z a k)) ∧ (raVN_s0 m c z a k).length = (allL (raVN_s1 m c z a k) z).length / (2 : Nat) * (2 : Nat) ∧ (allL (raVN_s1 m c z a k) z).length / (2 : Nat) ≤ (100000 : Nat)) ∧ ((raVN_s2 m c z a k) = true → True ∧ Ob (Value.tuple { toList := [vi (0 : Int), vi (2 : Int)] } = Value.tuple { toList := [vi (0 : Int), vi (errX m z)] })) ∧ ((raVN_s2 m c z a k) = false → False))) ∧ ((errX (raVN_s1 m c z a k) z != (0 : Int)) = false → (false = true → True ∧ Ob (Value.tuple { toList := [vi (0 : Int), vi (0 : Int)] } = Value.tuple { toList := [vi (0 : Int), vi (errX m z)] })) ∧ (false = false → Ob ((true = true ∧ Flat (List.map (Value.int IntKind.i64) m)) ∧ okM (Leaf.view (List.map (Value.int IntKind.i64) m) m.length false) ∧ allL (raVN_s1 m c z a k) z ≠ []) ∧ Ob ((true = true ∧ Flat (raVN_s0 m c z a k)) ∧ List.map (Value.int IntKind.i64) (allL (raVN_s1 m c z a k) z) = List.map (Value.int IntKind.i64) (intsOf (raVN_s0 m c z a k)) ∧ (raVN_s0 m c z a k).length = (allL (raVN_s1 m c z a k) z).length / (2 : Nat) * (2 : Nat) ∧ (allL (raVN_s1 m c z a k) z).length / (2 : Nat) ≤ (100000 : Nat)) ∧ ((raVN_s2 m c z a k) = true → True ∧ Ob (Value.tuple { toList := [vi (0 : Int), vi (2 : Int)] } = Value.tuple { toList := [vi (0 : Int), vi (errX m z)] })) ∧ ((raVN_s2 m c z a k) = false → Ob ((∀ (x : Int), x ∈ [(0 : Int), (0 : Int), (0 : Int), (0 : Int), (0 : Int), (0 : Int), (0 : Int), (0 : Int), (0 : Int), (0 : Int), (0 : Int), (0 : Int)] → (-1 : Int) ≤ x ∧ x ≤ (1 : Int)) ∧ okC (12 : Nat) a k) ∧ True ∧ Ob (Value.tuple { toList := [vi (resV [(0 : Int), (0 : Int), (0 : Int), (0 : Int), (0 : Int), (0 : Int), (0 : Int), (0 : Int), (0 : Int), (0 : Int), (0 : Int), (0 : Int)] a k), vi (0 : Int)] } = Value.tuple { toList := [vi (0 : Int), vi (errX m z)] }))))
theorem raVN_eq : raVN = fun (m : List Int) (c : Nat)  (z : Bool) (a k : Int) => vc Try.prog raE 1 30 true (fun _ => none) raB [] (argFr 0 [knV (some ⟨0,0,none⟩) m.length c z, nilS, .agg #[vi a, vi k]]) [ros m] (retK Try.prog Try.f12 (fun v H => v = .tuple #[vi 0, vi (errX m z)])) := by kernel_rfl
noncomputable def raVH_s0 (m : List Int) (c d : Nat) (t : Option Nat) (z : Bool) (a k : Int) := (List.map (Value.int IntKind.i64) (allL (intsOf (List.map (Value.int IntKind.i64) m)) z))
noncomputable def raVH_s1 (m : List Int) (c d : Nat) (t : Option Nat) (z : Bool) (a k : Int) := (!decide ((0 : Int) ≤ plc (intsOf (raVH_s0 m c d t z a k)) a k ((allL (intsOf (List.map (Value.int IntKind.i64) m)) z).length / (2 : Nat))))
noncomputable def raVH_s2 (m : List Int) (c d : Nat) (t : Option Nat) (z : Bool) (a k : Int) := (intsOf (List.map (Value.int IntKind.i64) m))
noncomputable def raVH :=
fun (m : List Int) (c d : Nat) (t : Option Nat) (z : Bool) (a k : Int) ↦ Ob ((true = true ∧ Flat (List.map (Value.int IntKind.i64) m)) ∧ okM (Leaf.view (List.map (Value.int IntKind.i64) m) m.length false)) ∧ ((errX (raVH_s2 m c d t z a k) z != (0 : Int)) = true → ((errX (raVH_s2 m c d t z a k) z != (0 : Int)) = true → True ∧ Ob (Value.tuple { toList := [vi (0 : Int), vi (errX (raVH_s2 m c d t z a k) z)] } = Value.tuple { toList := [vi (0 : Int), vi (errX m z)] })) ∧ ((errX (raVH_s2 m c d t z a k) z != (0 : Int)) = false → Ob ((true = true ∧ Flat (List.map (Value.int IntKind.i64) m)) ∧ okM (Leaf.view (List.map (Value.int IntKind.i64) m) m.length false) ∧ allL (raVH_s2 m c d t z a k) z ≠ []) ∧ Ob ((true = true ∧ Flat (raVH_s0 m c d t z a k)) ∧ List.map (Value.int IntKind.i64) (allL (raVH_s2 m c d t z a k) z) = List.map (Value.int IntKind.i64) (intsOf (raVH_s0 m c d t z a k)) ∧ (raVH_s0 m c d t z a k).length = (allL (raVH_s2 m c d t z a k) z).length / (2 : Nat) * (2 : Nat) ∧ (allL (raVH_s2 m c d t z a k) z).length / (2 : Nat) ≤ (100000 : Nat)) ∧ ((raVH_s1 m c d t z a k) = true → True ∧ Ob (Value.tuple { toList := [vi (0 : Int), vi (2 : Int)] } = Value.tuple { toList := [vi (0 : Int), vi (errX m z)] })) ∧ ((raVH_s1 m c d t z a k) = false → False))) ∧ ((errX (raVH_s2 m c d t z a k) z != (0 : Int)) = false → Ob False ∧ (false = true → True ∧ Ob (Value.tuple { toList := [vi (0 : Int), vi (0 : Int)] } = Value.tuple { toList := [vi (0 : Int), vi (errX m z)] })) ∧ (false = false → Ob ((true = true ∧ Flat (List.map (Value.int IntKind.i64) m)) ∧ okM (Leaf.view (List.map (Value.int IntKind.i64) m) m.length false) ∧ allL (raVH_s2 m c d t z a k) z ≠ []) ∧ Ob ((true = true ∧ Flat (raVH_s0 m c d t z a k)) ∧ List.map (Value.int IntKind.i64) (allL (raVH_s2 m c d t z a k) z) = List.map (Value.int IntKind.i64) (intsOf (raVH_s0 m c d t z a k)) ∧ (raVH_s0 m c d t z a k).length = (allL (raVH_s2 m c d t z a k) z).length / (2 : Nat) * (2 : Nat) ∧ (allL (raVH_s2 m c d t z a k) z).length / (2 : Nat) ≤ (100000 : Nat)) ∧ ((raVH_s1 m c d t z a k) = true → True ∧ Ob (Value.tuple { toList := [vi (0 : Int), vi (2 : Int)] } = Value.tuple { toList := [vi (0 : Int), vi (errX m z)] })) ∧ ((raVH_s1 m c d t z a k) = false → Ob ((∀ (x : Int), x ∈ [(0 : Int), (0 : Int), (0 : Int), (0 : Int), (0 : Int), (0 : Int), (0 : Int), (0 : Int), (0 : Int), (0 : Int), (0 : Int), (0 : Int)] → (-1 : Int) ≤ x ∧ x ≤ (1 : Int)) ∧ okC (12 : Nat) a k) ∧ True ∧ Ob (Value.tuple { toList := [vi (resV [(0 : Int), (0 : Int), (0 : Int), (0 : Int), (0 : Int), (0 : Int), (0 : Int), (0 : Int), (0 : Int), (0 : Int), (0 : Int), (0 : Int)] a k), vi (0 : Int)] } = Value.tuple { toList := [vi (0 : Int), vi (errX m z)] }))))
theorem raVH_eq : raVH = fun (m : List Int) (c : Nat) (d : Nat) (t : Option Nat) (z : Bool) (a k : Int) => vc Try.prog raE 2 30 true (fun _ => none) raB [] (argFr 0 [knV (some ⟨0,0,none⟩) m.length c z, .slice (some ⟨1,0,t⟩) 0 d, .agg #[vi a, vi k]]) [ros m, .gone] (retK Try.prog Try.f12 (fun v H => v = .tuple #[vi 0, vi (errX m z)])) := by kernel_rfl
noncomputable def raNV_s0 (w : List Int) (d : Nat) (z : Bool) (a k : Int) := (List.map (Value.int IntKind.i64) w)
noncomputable def raNV :=
fun (w : List Int) (d : Nat) (z : Bool) (a k : Int) ↦ Ob ((true = true ∧ Flat (raNV_s0 w d z a k)) ∧ okM (Leaf.view (raNV_s0 w d z a k) w.length false)) ∧ (true = true → (true = true → True ∧ Ob (Value.tuple { toList := [vi (0 : Int), vi (6 : Int)] } = Value.tuple { toList := [vi (0 : Int), vi (6 : Int)] })) ∧ (true = false → Ob False ∧ Ob False ∧ (true = true → True ∧ Ob (Value.tuple { toList := [vi (0 : Int), vi (2 : Int)] } = Value.tuple { toList := [vi (0 : Int), vi (6 : Int)] })) ∧ (true = false → False))) ∧ (true = false → Ob ((List.take (12 : Nat) (List.drop ((0 : Nat) + (2 : Nat)) (Value.slice none (0 : Nat) (0 : Nat) :: Value.bool z :: I10 empI [vi (0 : Int), vi (0 : Int)])) = List.replicate (12 : Nat) (vi (0 : Int)) ∧ (0 : Nat) + (2 : Nat) + (12 : Nat) ≤ (14 : Nat) ∧ true = true) ∧ (ad0 0) = (ad0 0) ∧ List.map (Value.int IntKind.i64) w = List.map (Value.int IntKind.i64) (intsOf (raNV_s0 w d z a k)) ∧ (raNV_s0 w d z a k).length = w.length ∧ w.length ≤ (12 : Nat)) ∧ (false = true → True ∧ Ob (Value.tuple { toList := [vi (0 : Int), vi (0 : Int)] } = Value.tuple { toList := [vi (0 : Int), vi (6 : Int)] })) ∧ (false = false → Ob False ∧ Ob False ∧ (true = true → True ∧ Ob (Value.tuple { toList := [vi (0 : Int), vi (2 : Int)] } = Value.tuple { toList := [vi (0 : Int), vi (6 : Int)] })) ∧ (true = false → Ob ((∀ (x : Int), x ∈ [getI (raNV_s0 w d z a k) (0 : Nat), getI (raNV_s0 w d z a k) (1 : Nat), getI (raNV_s0 w d z a k) (2 : Nat), getI (raNV_s0 w d z a k) (3 : Nat), getI (raNV_s0 w d z a k) (4 : Nat), getI (raNV_s0 w d z a k) (5 : Nat), getI (raNV_s0 w d z a k) (6 : Nat), getI (raNV_s0 w d z a k) (7 : Nat), getI (raNV_s0 w d z a k) (8 : Nat), getI (raNV_s0 w d z a k) (9 : Nat), getI (raNV_s0 w d z a k) (10 : Nat), getI (raNV_s0 w d z a k) (11 : Nat)] → (-1 : Int) ≤ x ∧ x ≤ (1 : Int)) ∧ okC (12 : Nat) a k) ∧ True ∧ Ob (Value.tuple { toList := [vi (resV [getI (raNV_s0 w d z a k) (0 : Nat), getI (raNV_s0 w d z a k) (1 : Nat), getI (raNV_s0 w d z a k) (2 : Nat), getI (raNV_s0 w d z a k) (3 : Nat), getI (raNV_s0 w d z a k) (4 : Nat), getI (raNV_s0 w d z a k) (5 : Nat), getI (raNV_s0 w d z a k) (6 : Nat), getI (raNV_s0 w d z a k) (7 : Nat), getI (raNV_s0 w d z a k) (8 : Nat), getI (raNV_s0 w d z a k) (9 : Nat), getI (raNV_s0 w d z a k) (10 : Nat), getI (raNV_s0 w d z a k) (11 : Nat)] a k), vi (0 : Int)] } = Value.tuple { toList := [vi (0 : Int), vi (6 : Int)] }))))
theorem raNV_eq : raNV = fun  (w : List Int) (d : Nat) (z : Bool) (a k : Int) => vc Try.prog raE 1 30 true (fun _ => none) raB [] (argFr 0 [knV none 0 0 z, .slice (some ⟨0,0,none⟩) w.length d, .agg #[vi a, vi k]]) [ros w] (retK Try.prog Try.f12 (fun v H => v = .tuple #[vi 0, vi 6])) := by kernel_rfl
noncomputable def raNN :=
fun (z : Bool) (a k : Int) ↦ Ob True ∧ (true = true → (true = true → True ∧ Ob (Value.tuple { toList := [vi (0 : Int), vi (6 : Int)] } = Value.tuple { toList := [vi (0 : Int), vi (6 : Int)] })) ∧ (true = false → Ob False ∧ Ob False ∧ (true = true → True ∧ Ob (Value.tuple { toList := [vi (0 : Int), vi (2 : Int)] } = Value.tuple { toList := [vi (0 : Int), vi (6 : Int)] })) ∧ (true = false → False))) ∧ (true = false → (false = true → True ∧ Ob (Value.tuple { toList := [vi (0 : Int), vi (0 : Int)] } = Value.tuple { toList := [vi (0 : Int), vi (6 : Int)] })) ∧ (false = false → Ob False ∧ Ob False ∧ (true = true → True ∧ Ob (Value.tuple { toList := [vi (0 : Int), vi (2 : Int)] } = Value.tuple { toList := [vi (0 : Int), vi (6 : Int)] })) ∧ (true = false → Ob ((∀ (x : Int), x ∈ [(0 : Int), (0 : Int), (0 : Int), (0 : Int), (0 : Int), (0 : Int), (0 : Int), (0 : Int), (0 : Int), (0 : Int), (0 : Int), (0 : Int)] → (-1 : Int) ≤ x ∧ x ≤ (1 : Int)) ∧ okC (12 : Nat) a k) ∧ True ∧ Ob (Value.tuple { toList := [vi (resV [(0 : Int), (0 : Int), (0 : Int), (0 : Int), (0 : Int), (0 : Int), (0 : Int), (0 : Int), (0 : Int), (0 : Int), (0 : Int), (0 : Int)] a k), vi (0 : Int)] } = Value.tuple { toList := [vi (0 : Int), vi (6 : Int)] }))))
theorem raNN_eq : raNN = fun   (z : Bool) (a k : Int) => vc Try.prog raE 0 30 true (fun _ => none) raB [] (argFr 0 [knV none 0 0 z, nilS, .agg #[vi a, vi k]]) [] (retK Try.prog Try.f12 (fun v H => v = .tuple #[vi 0, vi 6])) := by kernel_rfl
noncomputable def raNH :=
fun (d : Nat) (t : Option Nat) (z : Bool) (a k : Int) ↦ Ob True ∧ (true = true → (true = true → True ∧ Ob (Value.tuple { toList := [vi (0 : Int), vi (6 : Int)] } = Value.tuple { toList := [vi (0 : Int), vi (6 : Int)] })) ∧ (true = false → Ob False ∧ Ob False ∧ (true = true → True ∧ Ob (Value.tuple { toList := [vi (0 : Int), vi (2 : Int)] } = Value.tuple { toList := [vi (0 : Int), vi (6 : Int)] })) ∧ (true = false → False))) ∧ (true = false → Ob False ∧ (false = true → True ∧ Ob (Value.tuple { toList := [vi (0 : Int), vi (0 : Int)] } = Value.tuple { toList := [vi (0 : Int), vi (6 : Int)] })) ∧ (false = false → Ob False ∧ Ob False ∧ (true = true → True ∧ Ob (Value.tuple { toList := [vi (0 : Int), vi (2 : Int)] } = Value.tuple { toList := [vi (0 : Int), vi (6 : Int)] })) ∧ (true = false → Ob ((∀ (x : Int), x ∈ [(0 : Int), (0 : Int), (0 : Int), (0 : Int), (0 : Int), (0 : Int), (0 : Int), (0 : Int), (0 : Int), (0 : Int), (0 : Int), (0 : Int)] → (-1 : Int) ≤ x ∧ x ≤ (1 : Int)) ∧ okC (12 : Nat) a k) ∧ True ∧ Ob (Value.tuple { toList := [vi (resV [(0 : Int), (0 : Int), (0 : Int), (0 : Int), (0 : Int), (0 : Int), (0 : Int), (0 : Int), (0 : Int), (0 : Int), (0 : Int), (0 : Int)] a k), vi (0 : Int)] } = Value.tuple { toList := [vi (0 : Int), vi (6 : Int)] }))))
theorem raNH_eq : raNH = fun  (d : Nat) (t : Option Nat) (z : Bool) (a k : Int) => vc Try.prog raE 1 30 true (fun _ => none) raB [] (argFr 0 [knV none 0 0 z, .slice (some ⟨0,0,t⟩) 0 d, .agg #[vi a, vi k]]) [.gone] (retK Try.prog Try.f12 (fun v H => v = .tuple #[vi 0, vi 6])) := by kernel_rfl
noncomputable def raHV_s0 (c : Nat) (s : Option Nat) (w : List Int) (d : Nat) (z : Bool) (a k : Int) := (List.map (Value.int IntKind.i64) w)
noncomputable def raHV :=
fun (c : Nat) (s : Option Nat) (w : List Int) (d : Nat) (z : Bool) (a k : Int) ↦ Ob ((true = true ∧ Flat (raHV_s0 c s w d z a k)) ∧ okM (Leaf.view (raHV_s0 c s w d z a k) w.length false)) ∧ (true = true → (true = true → True ∧ Ob (Value.tuple { toList := [vi (0 : Int), vi (6 : Int)] } = Value.tuple { toList := [vi (0 : Int), vi (6 : Int)] })) ∧ (true = false → Ob False ∧ Ob False ∧ (true = true → True ∧ Ob (Value.tuple { toList := [vi (0 : Int), vi (2 : Int)] } = Value.tuple { toList := [vi (0 : Int), vi (6 : Int)] })) ∧ (true = false → False))) ∧ (true = false → Ob ((List.take (12 : Nat) (List.drop ((0 : Nat) + (2 : Nat)) (Value.slice (some { block := (0 : Nat), off := (0 : Nat), spot := s }) (0 : Nat) c :: Value.bool z :: I10 empI [vi (0 : Int), vi (0 : Int)])) = List.replicate (12 : Nat) (vi (0 : Int)) ∧ (0 : Nat) + (2 : Nat) + (12 : Nat) ≤ (14 : Nat) ∧ true = true) ∧ (ad0 1) = (ad0 1) ∧ List.map (Value.int IntKind.i64) w = List.map (Value.int IntKind.i64) (intsOf (raHV_s0 c s w d z a k)) ∧ (raHV_s0 c s w d z a k).length = w.length ∧ w.length ≤ (12 : Nat)) ∧ (false = true → True ∧ Ob (Value.tuple { toList := [vi (0 : Int), vi (0 : Int)] } = Value.tuple { toList := [vi (0 : Int), vi (6 : Int)] })) ∧ (false = false → Ob False ∧ Ob False ∧ (true = true → True ∧ Ob (Value.tuple { toList := [vi (0 : Int), vi (2 : Int)] } = Value.tuple { toList := [vi (0 : Int), vi (6 : Int)] })) ∧ (true = false → Ob ((∀ (x : Int), x ∈ [getI (raHV_s0 c s w d z a k) (0 : Nat), getI (raHV_s0 c s w d z a k) (1 : Nat), getI (raHV_s0 c s w d z a k) (2 : Nat), getI (raHV_s0 c s w d z a k) (3 : Nat), getI (raHV_s0 c s w d z a k) (4 : Nat), getI (raHV_s0 c s w d z a k) (5 : Nat), getI (raHV_s0 c s w d z a k) (6 : Nat), getI (raHV_s0 c s w d z a k) (7 : Nat), getI (raHV_s0 c s w d z a k) (8 : Nat), getI (raHV_s0 c s w d z a k) (9 : Nat), getI (raHV_s0 c s w d z a k) (10 : Nat), getI (raHV_s0 c s w d z a k) (11 : Nat)] → (-1 : Int) ≤ x ∧ x ≤ (1 : Int)) ∧ okC (12 : Nat) a k) ∧ True ∧ Ob (Value.tuple { toList := [vi (resV [getI (raHV_s0 c s w d z a k) (0 : Nat), getI (raHV_s0 c s w d z a k) (1 : Nat), getI (raHV_s0 c s w d z a k) (2 : Nat), getI (raHV_s0 c s w d z a k) (3 : Nat), getI (raHV_s0 c s w d z a k) (4 : Nat), getI (raHV_s0 c s w d z a k) (5 : Nat), getI (raHV_s0 c s w d z a k) (6 : Nat), getI (raHV_s0 c s w d z a k) (7 : Nat), getI (raHV_s0 c s w d z a k) (8 : Nat), getI (raHV_s0 c s w d z a k) (9 : Nat), getI (raHV_s0 c s w d z a k) (10 : Nat), getI (raHV_s0 c s w d z a k) (11 : Nat)] a k), vi (0 : Int)] } = Value.tuple { toList := [vi (0 : Int), vi (6 : Int)] }))))
theorem raHV_eq : raHV = fun (c : Nat) (s : Option Nat) (w : List Int) (d : Nat) (z : Bool) (a k : Int) => vc Try.prog raE 2 30 true (fun _ => none) raB [] (argFr 0 [knV (some ⟨0,0,s⟩) 0 c z, .slice (some ⟨1,0,none⟩) w.length d, .agg #[vi a, vi k]]) [.gone, ros w] (retK Try.prog Try.f12 (fun v H => v = .tuple #[vi 0, vi 6])) := by kernel_rfl
noncomputable def raHN :=
fun (c : Nat) (s : Option Nat) (z : Bool) (a k : Int) ↦ Ob True ∧ (true = true → (true = true → True ∧ Ob (Value.tuple { toList := [vi (0 : Int), vi (6 : Int)] } = Value.tuple { toList := [vi (0 : Int), vi (6 : Int)] })) ∧ (true = false → Ob False ∧ Ob False ∧ (true = true → True ∧ Ob (Value.tuple { toList := [vi (0 : Int), vi (2 : Int)] } = Value.tuple { toList := [vi (0 : Int), vi (6 : Int)] })) ∧ (true = false → False))) ∧ (true = false → (false = true → True ∧ Ob (Value.tuple { toList := [vi (0 : Int), vi (0 : Int)] } = Value.tuple { toList := [vi (0 : Int), vi (6 : Int)] })) ∧ (false = false → Ob False ∧ Ob False ∧ (true = true → True ∧ Ob (Value.tuple { toList := [vi (0 : Int), vi (2 : Int)] } = Value.tuple { toList := [vi (0 : Int), vi (6 : Int)] })) ∧ (true = false → Ob ((∀ (x : Int), x ∈ [(0 : Int), (0 : Int), (0 : Int), (0 : Int), (0 : Int), (0 : Int), (0 : Int), (0 : Int), (0 : Int), (0 : Int), (0 : Int), (0 : Int)] → (-1 : Int) ≤ x ∧ x ≤ (1 : Int)) ∧ okC (12 : Nat) a k) ∧ True ∧ Ob (Value.tuple { toList := [vi (resV [(0 : Int), (0 : Int), (0 : Int), (0 : Int), (0 : Int), (0 : Int), (0 : Int), (0 : Int), (0 : Int), (0 : Int), (0 : Int), (0 : Int)] a k), vi (0 : Int)] } = Value.tuple { toList := [vi (0 : Int), vi (6 : Int)] }))))
theorem raHN_eq : raHN = fun (c : Nat) (s : Option Nat)  (z : Bool) (a k : Int) => vc Try.prog raE 1 30 true (fun _ => none) raB [] (argFr 0 [knV (some ⟨0,0,s⟩) 0 c z, nilS, .agg #[vi a, vi k]]) [.gone] (retK Try.prog Try.f12 (fun v H => v = .tuple #[vi 0, vi 6])) := by kernel_rfl
noncomputable def raHH :=
fun (c : Nat) (s : Option Nat) (d : Nat) (t : Option Nat) (z : Bool) (a k : Int) ↦ Ob True ∧ (true = true → (true = true → True ∧ Ob (Value.tuple { toList := [vi (0 : Int), vi (6 : Int)] } = Value.tuple { toList := [vi (0 : Int), vi (6 : Int)] })) ∧ (true = false → Ob False ∧ Ob False ∧ (true = true → True ∧ Ob (Value.tuple { toList := [vi (0 : Int), vi (2 : Int)] } = Value.tuple { toList := [vi (0 : Int), vi (6 : Int)] })) ∧ (true = false → False))) ∧ (true = false → Ob False ∧ (false = true → True ∧ Ob (Value.tuple { toList := [vi (0 : Int), vi (0 : Int)] } = Value.tuple { toList := [vi (0 : Int), vi (6 : Int)] })) ∧ (false = false → Ob False ∧ Ob False ∧ (true = true → True ∧ Ob (Value.tuple { toList := [vi (0 : Int), vi (2 : Int)] } = Value.tuple { toList := [vi (0 : Int), vi (6 : Int)] })) ∧ (true = false → Ob ((∀ (x : Int), x ∈ [(0 : Int), (0 : Int), (0 : Int), (0 : Int), (0 : Int), (0 : Int), (0 : Int), (0 : Int), (0 : Int), (0 : Int), (0 : Int), (0 : Int)] → (-1 : Int) ≤ x ∧ x ≤ (1 : Int)) ∧ okC (12 : Nat) a k) ∧ True ∧ Ob (Value.tuple { toList := [vi (resV [(0 : Int), (0 : Int), (0 : Int), (0 : Int), (0 : Int), (0 : Int), (0 : Int), (0 : Int), (0 : Int), (0 : Int), (0 : Int), (0 : Int)] a k), vi (0 : Int)] } = Value.tuple { toList := [vi (0 : Int), vi (6 : Int)] }))))
theorem raHH_eq : raHH = fun (c : Nat) (s : Option Nat) (d : Nat) (t : Option Nat) (z : Bool) (a k : Int) => vc Try.prog raE 2 30 true (fun _ => none) raB [] (argFr 0 [knV (some ⟨0,0,s⟩) 0 c z, .slice (some ⟨1,0,t⟩) 0 d, .agg #[vi a, vi k]]) [.gone, .gone] (retK Try.prog Try.f12 (fun v H => v = .tuple #[vi 0, vi 6])) := by kernel_rfl
noncomputable def rbVV_s0 (m : List Int) (c : Nat) (w : List Int) (d : Nat) (z : Bool) (a k : Int) := (List.map (Value.int IntKind.i64) (allL (intsOf (List.map (Value.int IntKind.i64) m)) z))
noncomputable def rbVV :=
fun (m : List Int) (c : Nat) (w : List Int) (d : Nat) (z : Bool) (a k : Int) ↦ Ob (((true = true ∧ Flat (List.map (Value.int IntKind.i64) m)) ∧ true = true ∧ Flat (List.map (Value.int IntKind.i64) w)) ∧ okM (Leaf.view (List.map (Value.int IntKind.i64) m) m.length false) ∧ okM (Leaf.view (List.map (Value.int IntKind.i64) w) w.length false)) ∧ ((errW (intsOf (List.map (Value.int IntKind.i64) m)) z (intsOf (List.map (Value.int IntKind.i64) w)) != (0 : Int)) = true → Ob (((true = true ∧ Flat (List.map (Value.int IntKind.i64) m)) ∧ true = true ∧ Flat (List.map (Value.int IntKind.i64) w)) ∧ okM (Leaf.view (List.map (Value.int IntKind.i64) m) m.length false) ∧ okM (Leaf.view (List.map (Value.int IntKind.i64) w) w.length false)) ∧ True ∧ Ob (Value.tuple { toList := [vi (0 : Int), vi (errW (intsOf (List.map (Value.int IntKind.i64) m)) z (intsOf (List.map (Value.int IntKind.i64) w)))] } = rsP m z w a k)) ∧ ((errW (intsOf (List.map (Value.int IntKind.i64) m)) z (intsOf (List.map (Value.int IntKind.i64) w)) != (0 : Int)) = false → Ob ((true = true ∧ Flat (List.map (Value.int IntKind.i64) m)) ∧ okM (Leaf.view (List.map (Value.int IntKind.i64) m) m.length false) ∧ allL (intsOf (List.map (Value.int IntKind.i64) m)) z ≠ []) ∧ Ob ((true = true ∧ Flat (rbVV_s0 m c w d z a k)) ∧ List.map (Value.int IntKind.i64) (allL (intsOf (List.map (Value.int IntKind.i64) m)) z) = List.map (Value.int IntKind.i64) (intsOf (rbVV_s0 m c w d z a k)) ∧ (rbVV_s0 m c w d z a k).length = (allL (intsOf (List.map (Value.int IntKind.i64) m)) z).length / (2 : Nat) * (2 : Nat) ∧ (allL (intsOf (List.map (Value.int IntKind.i64) m)) z).length / (2 : Nat) ≤ (100000 : Nat)) ∧ (decide (plc (intsOf (rbVV_s0 m c w d z a k)) a k ((allL (intsOf (List.map (Value.int IntKind.i64) m)) z).length / (2 : Nat)) < (0 : Int)) = true → True ∧ Ob (Value.tuple { toList := [vi (0 : Int), vi (2 : Int)] } = rsP m z w a k)) ∧ (decide (plc (intsOf (rbVV_s0 m c w d z a k)) a k ((allL (intsOf (List.map (Value.int IntKind.i64) m)) z).length / (2 : Nat)) < (0 : Int)) = false → Ob ((true = true ∧ Flat (List.map (Value.int IntKind.i64) w)) ∧ okM (Leaf.view (List.map (Value.int IntKind.i64) w) w.length false) ∧ (∀ (x : Int), x ∈ intsOf (List.map (Value.int IntKind.i64) w) → (-1 : Int) ≤ x ∧ x ≤ (1 : Int)) ∧ okC w.length a k) ∧ True ∧ Ob (Value.tuple { toList := [vi (resV (intsOf (List.map (Value.int IntKind.i64) w)) a k), vi (0 : Int)] } = rsP m z w a k)))
theorem rbVV_eq : rbVV = fun (m : List Int) (c : Nat) (w : List Int) (d : Nat) (z : Bool) (a k : Int) => vc Try.prog rbE 2 23 true (fun _ => none) rbB [] (argFr 0 [knV (some ⟨0,0,none⟩) m.length c z, .slice (some ⟨1,0,none⟩) w.length d, .agg #[vi a, vi k]]) [ros m, ros w] (retK Try.prog Try.f13 (fun v H => v = rsP m z w a k)) := by kernel_rfl
noncomputable def rbVN_s0 (m : List Int) (c : Nat) (z : Bool) (a k : Int) := (intsOf (List.map (Value.int IntKind.i64) m))
noncomputable def rbVN_s1 (m : List Int) (c : Nat) (z : Bool) (a k : Int) := (List.map (Value.int IntKind.i64) (allL (rbVN_s0 m c z a k) z))
noncomputable def rbVN :=
fun (m : List Int) (c : Nat) (z : Bool) (a k : Int) ↦ Ob ((true = true ∧ Flat (List.map (Value.int IntKind.i64) m)) ∧ okM (Leaf.view (List.map (Value.int IntKind.i64) m) m.length false)) ∧ ((errX (rbVN_s0 m c z a k) z != (0 : Int)) = true → Ob ((true = true ∧ Flat (List.map (Value.int IntKind.i64) m)) ∧ okM (Leaf.view (List.map (Value.int IntKind.i64) m) m.length false)) ∧ True ∧ Ob (Value.tuple { toList := [vi (0 : Int), vi (errX (rbVN_s0 m c z a k) z)] } = Value.tuple { toList := [vi (0 : Int), vi (errX m z)] })) ∧ ((errX (rbVN_s0 m c z a k) z != (0 : Int)) = false → Ob ((true = true ∧ Flat (List.map (Value.int IntKind.i64) m)) ∧ okM (Leaf.view (List.map (Value.int IntKind.i64) m) m.length false) ∧ allL (rbVN_s0 m c z a k) z ≠ []) ∧ Ob ((true = true ∧ Flat (rbVN_s1 m c z a k)) ∧ List.map (Value.int IntKind.i64) (allL (rbVN_s0 m c z a k) z) = List.map (Value.int IntKind.i64) (intsOf (rbVN_s1 m c z a k)) ∧ (rbVN_s1 m c z a k).length = (allL (rbVN_s0 m c z a k) z).length / (2 : Nat) * (2 : Nat) ∧ (allL (rbVN_s0 m c z a k) z).length / (2 : Nat) ≤ (100000 : Nat)) ∧ (decide (plc (intsOf (rbVN_s1 m c z a k)) a k ((allL (rbVN_s0 m c z a k) z).length / (2 : Nat)) < (0 : Int)) = true → True ∧ Ob (Value.tuple { toList := [vi (0 : Int), vi (2 : Int)] } = Value.tuple { toList := [vi (0 : Int), vi (errX m z)] })) ∧ (decide (plc (intsOf (rbVN_s1 m c z a k)) a k ((allL (rbVN_s0 m c z a k) z).length / (2 : Nat)) < (0 : Int)) = false → Ob False ∧ True ∧ Ob (Value.tuple { toList := [vi (0 : Int), vi (0 : Int)] } = Value.tuple { toList := [vi (0 : Int), vi (errX m z)] })))
theorem rbVN_eq : rbVN = fun (m : List Int) (c : Nat)  (z : Bool) (a k : Int) => vc Try.prog rbE 1 23 true (fun _ => none) rbB [] (argFr 0 [knV (some ⟨0,0,none⟩) m.length c z, nilS, .agg #[vi a, vi k]]) [ros m] (retK Try.prog Try.f13 (fun v H => v = .tuple #[vi 0, vi (errX m z)])) := by kernel_rfl
noncomputable def rbVH_s0 (m : List Int) (c d : Nat) (t : Option Nat) (z : Bool) (a k : Int) := (List.map (Value.int IntKind.i64) (allL (intsOf (List.map (Value.int IntKind.i64) m)) z))
noncomputable def rbVH :=
fun (m : List Int) (c d : Nat) (t : Option Nat) (z : Bool) (a k : Int) ↦ Ob ((true = true ∧ Flat (List.map (Value.int IntKind.i64) m)) ∧ okM (Leaf.view (List.map (Value.int IntKind.i64) m) m.length false)) ∧ ((errX (intsOf (List.map (Value.int IntKind.i64) m)) z != (0 : Int)) = true → Ob ((true = true ∧ Flat (List.map (Value.int IntKind.i64) m)) ∧ okM (Leaf.view (List.map (Value.int IntKind.i64) m) m.length false)) ∧ True ∧ Ob (Value.tuple { toList := [vi (0 : Int), vi (errX (intsOf (List.map (Value.int IntKind.i64) m)) z)] } = Value.tuple { toList := [vi (0 : Int), vi (errX m z)] })) ∧ ((errX (intsOf (List.map (Value.int IntKind.i64) m)) z != (0 : Int)) = false → Ob ((true = true ∧ Flat (List.map (Value.int IntKind.i64) m)) ∧ okM (Leaf.view (List.map (Value.int IntKind.i64) m) m.length false) ∧ allL (intsOf (List.map (Value.int IntKind.i64) m)) z ≠ []) ∧ Ob ((true = true ∧ Flat (rbVH_s0 m c d t z a k)) ∧ List.map (Value.int IntKind.i64) (allL (intsOf (List.map (Value.int IntKind.i64) m)) z) = List.map (Value.int IntKind.i64) (intsOf (rbVH_s0 m c d t z a k)) ∧ (rbVH_s0 m c d t z a k).length = (allL (intsOf (List.map (Value.int IntKind.i64) m)) z).length / (2 : Nat) * (2 : Nat) ∧ (allL (intsOf (List.map (Value.int IntKind.i64) m)) z).length / (2 : Nat) ≤ (100000 : Nat)) ∧ (decide (plc (intsOf (rbVH_s0 m c d t z a k)) a k ((allL (intsOf (List.map (Value.int IntKind.i64) m)) z).length / (2 : Nat)) < (0 : Int)) = true → True ∧ Ob (Value.tuple { toList := [vi (0 : Int), vi (2 : Int)] } = Value.tuple { toList := [vi (0 : Int), vi (errX m z)] })) ∧ (decide (plc (intsOf (rbVH_s0 m c d t z a k)) a k ((allL (intsOf (List.map (Value.int IntKind.i64) m)) z).length / (2 : Nat)) < (0 : Int)) = false → Ob False ∧ True ∧ Ob (Value.tuple { toList := [vi (0 : Int), vi (0 : Int)] } = Value.tuple { toList := [vi (0 : Int), vi (errX m z)] })))
theorem rbVH_eq : rbVH = fun (m : List Int) (c : Nat) (d : Nat) (t : Option Nat) (z : Bool) (a k : Int) => vc Try.prog rbE 2 23 true (fun _ => none) rbB [] (argFr 0 [knV (some ⟨0,0,none⟩) m.length c z, .slice (some ⟨1,0,t⟩) 0 d, .agg #[vi a, vi k]]) [ros m, .gone] (retK Try.prog Try.f13 (fun v H => v = .tuple #[vi 0, vi (errX m z)])) := by kernel_rfl
noncomputable def rbNV :=
fun (w : List Int) (d : Nat) (z : Bool) (a k : Int) ↦ Ob ((true = true ∧ Flat (List.map (Value.int IntKind.i64) w)) ∧ okM (Leaf.view (List.map (Value.int IntKind.i64) w) w.length false)) ∧ (true = true → Ob ((true = true ∧ Flat (List.map (Value.int IntKind.i64) w)) ∧ okM (Leaf.view (List.map (Value.int IntKind.i64) w) w.length false)) ∧ True ∧ Ob (Value.tuple { toList := [vi (0 : Int), vi (6 : Int)] } = Value.tuple { toList := [vi (0 : Int), vi (6 : Int)] })) ∧ (true = false → Ob False ∧ Ob False ∧ (false = true → True ∧ Ob (Value.tuple { toList := [vi (0 : Int), vi (2 : Int)] } = Value.tuple { toList := [vi (0 : Int), vi (6 : Int)] })) ∧ (false = false → Ob ((true = true ∧ Flat (List.map (Value.int IntKind.i64) w)) ∧ okM (Leaf.view (List.map (Value.int IntKind.i64) w) w.length false) ∧ (∀ (x : Int), x ∈ intsOf (List.map (Value.int IntKind.i64) w) → (-1 : Int) ≤ x ∧ x ≤ (1 : Int)) ∧ okC w.length a k) ∧ True ∧ Ob (Value.tuple { toList := [vi (resV (intsOf (List.map (Value.int IntKind.i64) w)) a k), vi (0 : Int)] } = Value.tuple { toList := [vi (0 : Int), vi (6 : Int)] })))
theorem rbNV_eq : rbNV = fun  (w : List Int) (d : Nat) (z : Bool) (a k : Int) => vc Try.prog rbE 1 23 true (fun _ => none) rbB [] (argFr 0 [knV none 0 0 z, .slice (some ⟨0,0,none⟩) w.length d, .agg #[vi a, vi k]]) [ros w] (retK Try.prog Try.f13 (fun v H => v = .tuple #[vi 0, vi 6])) := by kernel_rfl
noncomputable def rbNN :=
fun (z : Bool) (a k : Int) ↦ Ob True ∧ (true = true → Ob True ∧ True ∧ Ob (Value.tuple { toList := [vi (0 : Int), vi (6 : Int)] } = Value.tuple { toList := [vi (0 : Int), vi (6 : Int)] })) ∧ (true = false → Ob False ∧ Ob False ∧ (false = true → True ∧ Ob (Value.tuple { toList := [vi (0 : Int), vi (2 : Int)] } = Value.tuple { toList := [vi (0 : Int), vi (6 : Int)] })) ∧ (false = false → Ob False ∧ True ∧ Ob (Value.tuple { toList := [vi (0 : Int), vi (0 : Int)] } = Value.tuple { toList := [vi (0 : Int), vi (6 : Int)] })))
theorem rbNN_eq : rbNN = fun   (z : Bool) (a k : Int) => vc Try.prog rbE 0 23 true (fun _ => none) rbB [] (argFr 0 [knV none 0 0 z, nilS, .agg #[vi a, vi k]]) [] (retK Try.prog Try.f13 (fun v H => v = .tuple #[vi 0, vi 6])) := by kernel_rfl
noncomputable def rbNH :=
fun (d : Nat) (t : Option Nat) (z : Bool) (a k : Int) ↦ Ob True ∧ (true = true → Ob True ∧ True ∧ Ob (Value.tuple { toList := [vi (0 : Int), vi (6 : Int)] } = Value.tuple { toList := [vi (0 : Int), vi (6 : Int)] })) ∧ (true = false → Ob False ∧ Ob False ∧ (false = true → True ∧ Ob (Value.tuple { toList := [vi (0 : Int), vi (2 : Int)] } = Value.tuple { toList := [vi (0 : Int), vi (6 : Int)] })) ∧ (false = false → Ob False ∧ True ∧ Ob (Value.tuple { toList := [vi (0 : Int), vi (0 : Int)] } = Value.tuple { toList := [vi (0 : Int), vi (6 : Int)] })))
theorem rbNH_eq : rbNH = fun  (d : Nat) (t : Option Nat) (z : Bool) (a k : Int) => vc Try.prog rbE 1 23 true (fun _ => none) rbB [] (argFr 0 [knV none 0 0 z, .slice (some ⟨0,0,t⟩) 0 d, .agg #[vi a, vi k]]) [.gone] (retK Try.prog Try.f13 (fun v H => v = .tuple #[vi 0, vi 6])) := by kernel_rfl
noncomputable def rbHV :=
fun (c : Nat) (s : Option Nat) (w : List Int) (d : Nat) (z : Bool) (a k : Int) ↦ Ob ((true = true ∧ Flat (List.map (Value.int IntKind.i64) w)) ∧ okM (Leaf.view (List.map (Value.int IntKind.i64) w) w.length false)) ∧ (true = true → Ob ((true = true ∧ Flat (List.map (Value.int IntKind.i64) w)) ∧ okM (Leaf.view (List.map (Value.int IntKind.i64) w) w.length false)) ∧ True ∧ Ob (Value.tuple { toList := [vi (0 : Int), vi (6 : Int)] } = Value.tuple { toList := [vi (0 : Int), vi (6 : Int)] })) ∧ (true = false → Ob False ∧ Ob False ∧ (false = true → True ∧ Ob (Value.tuple { toList := [vi (0 : Int), vi (2 : Int)] } = Value.tuple { toList := [vi (0 : Int), vi (6 : Int)] })) ∧ (false = false → Ob ((true = true ∧ Flat (List.map (Value.int IntKind.i64) w)) ∧ okM (Leaf.view (List.map (Value.int IntKind.i64) w) w.length false) ∧ (∀ (x : Int), x ∈ intsOf (List.map (Value.int IntKind.i64) w) → (-1 : Int) ≤ x ∧ x ≤ (1 : Int)) ∧ okC w.length a k) ∧ True ∧ Ob (Value.tuple { toList := [vi (resV (intsOf (List.map (Value.int IntKind.i64) w)) a k), vi (0 : Int)] } = Value.tuple { toList := [vi (0 : Int), vi (6 : Int)] })))
theorem rbHV_eq : rbHV = fun (c : Nat) (s : Option Nat) (w : List Int) (d : Nat) (z : Bool) (a k : Int) => vc Try.prog rbE 2 23 true (fun _ => none) rbB [] (argFr 0 [knV (some ⟨0,0,s⟩) 0 c z, .slice (some ⟨1,0,none⟩) w.length d, .agg #[vi a, vi k]]) [.gone, ros w] (retK Try.prog Try.f13 (fun v H => v = .tuple #[vi 0, vi 6])) := by kernel_rfl
noncomputable def rbHN :=
fun (c : Nat) (s : Option Nat) (z : Bool) (a k : Int) ↦ Ob True ∧ (true = true → Ob True ∧ True ∧ Ob (Value.tuple { toList := [vi (0 : Int), vi (6 : Int)] } = Value.tuple { toList := [vi (0 : Int), vi (6 : Int)] })) ∧ (true = false → Ob False ∧ Ob False ∧ (false = true → True ∧ Ob (Value.tuple { toList := [vi (0 : Int), vi (2 : Int)] } = Value.tuple { toList := [vi (0 : Int), vi (6 : Int)] })) ∧ (false = false → Ob False ∧ True ∧ Ob (Value.tuple { toList := [vi (0 : Int), vi (0 : Int)] } = Value.tuple { toList := [vi (0 : Int), vi (6 : Int)] })))
theorem rbHN_eq : rbHN = fun (c : Nat) (s : Option Nat)  (z : Bool) (a k : Int) => vc Try.prog rbE 1 23 true (fun _ => none) rbB [] (argFr 0 [knV (some ⟨0,0,s⟩) 0 c z, nilS, .agg #[vi a, vi k]]) [.gone] (retK Try.prog Try.f13 (fun v H => v = .tuple #[vi 0, vi 6])) := by kernel_rfl
noncomputable def rbHH :=
fun (c : Nat) (s : Option Nat) (d : Nat) (t : Option Nat) (z : Bool) (a k : Int) ↦ Ob True ∧ (true = true → Ob True ∧ True ∧ Ob (Value.tuple { toList := [vi (0 : Int), vi (6 : Int)] } = Value.tuple { toList := [vi (0 : Int), vi (6 : Int)] })) ∧ (true = false → Ob False ∧ Ob False ∧ (false = true → True ∧ Ob (Value.tuple { toList := [vi (0 : Int), vi (2 : Int)] } = Value.tuple { toList := [vi (0 : Int), vi (6 : Int)] })) ∧ (false = false → Ob False ∧ True ∧ Ob (Value.tuple { toList := [vi (0 : Int), vi (0 : Int)] } = Value.tuple { toList := [vi (0 : Int), vi (6 : Int)] })))
theorem rbHH_eq : rbHH = fun (c : Nat) (s : Option Nat) (d : Nat) (t : Option Nat) (z : Bool) (a k : Int) => vc Try.prog rbE 2 23 true (fun _ => none) rbB [] (argFr 0 [knV (some ⟨0,0,s⟩) 0 c z, .slice (some ⟨1,0,t⟩) 0 d, .agg #[vi a, vi k]]) [.gone, .gone] (retK Try.prog Try.f13 (fun v H => v = .tuple #[vi 0, vi 6])) := by kernel_rfl
theorem errX_ne {m : List Int} {z : Bool} : ¬ errX m z = 0 := by
  unfold errX
  split
  · rename_i h; exact h
  · decide
theorem rsP_e {m : List Int} {z : Bool} {w : List Int} {a k : Int} (h : ¬ errW m z w = 0) : rsP m z w a k = .tuple #[vi 0, vi (errW m z w)] := by rw [rsP, if_pos h]
theorem rsP_2 {m : List Int} {z : Bool} {w : List Int} {a k : Int} (h : errW m z w = 0) (h2 : ¬ hasC (allL m z) ((allL m z).length / 2) a k) : rsP m z w a k = .tuple #[vi 0, vi 2] := by
  rw [rsP, if_neg (not_not_intro h), if_pos (dB_false h2).symm]
theorem rsP_r {m : List Int} {z : Bool} {w : List Int} {a k : Int} (h : errW m z w = 0) (h2 : hasC (allL m z) ((allL m z).length / 2) a k) : rsP m z w a k = .tuple #[vi (resV w a k), vi 0] := by
  rw [rsP, if_neg (not_not_intro h), if_neg (by rw [← dB_true h2]; exact Bool.noConfusion)]
theorem getD_bd {w : List Int} (h : ∀ x ∈ w, -1 ≤ x ∧ x ≤ 1) (i : Nat) : -1 ≤ w.getD i 0 ∧ w.getD i 0 ≤ 1 := by
  by_cases hi : i < w.length
  · exact h _ (ints_mem hi)
  · rw [List.getD_eq_getElem?_getD, List.getElem?_eq_none (by omega)]; exact ⟨by decide, by decide⟩
theorem has_ok {m : List Int} {z : Bool} {a k : Int} (h : hasC (allL m z) ((allL m z).length / 2) a k) : okC m.length a k := by
  obtain ⟨i, hi, rfl, rfl⟩ := h
  exact ok_all i hi
theorem ok_12 {n : Nat} {a k : Int} (h : okC n a k) (hn : n ≤ 12) : okC 12 a k := by
  rcases h with h | h
  · exact .inl h
  · exact .inr ⟨by omega, h.2⟩
def p12 (w : List Int) : List Int := [w.getD 0 0, w.getD 1 0, w.getD 2 0, w.getD 3 0, w.getD 4 0, w.getD 5 0, w.getD 6 0, w.getD 7 0, w.getD 8 0, w.getD 9 0, w.getD 10 0, w.getD 11 0]
theorem p12_at {w : List Int} : ∀ {i : Nat}, i < 12 → (p12 w).getD i 0 = w.getD i 0
  | 0, _ => rfl
  | 1, _ => rfl
  | 2, _ => rfl
  | 3, _ => rfl
  | 4, _ => rfl
  | 5, _ => rfl
  | 6, _ => rfl
  | 7, _ => rfl
  | 8, _ => rfl
  | 9, _ => rfl
  | 10, _ => rfl
  | 11, _ => rfl
  | _ + 12, h => by omega
theorem p12_bd {w : List Int} (h : ∀ x ∈ w, -1 ≤ x ∧ x ≤ 1) : ∀ x ∈ p12 w, -1 ≤ x ∧ x ≤ 1 := by
  have g := getD_bd h
  simp only [p12, List.forall_mem_cons]
  exact ⟨g 0, g 1, g 2, g 3, g 4, g 5, g 6, g 7, g 8, g 9, g 10, g 11, fun _ hx => by cases hx⟩
theorem p12_res {w : List Int} {a k : Int} (h : okC 12 a k) : resV (p12 w) a k = resV w a k := by
  rcases h with h | h
  · rw [resV, resV, if_neg (by omega), if_neg (by omega), if_neg (by omega), if_neg (by omega)]
  · rw [resV, resV, p12_at (by omega)]
theorem ctV_ok (L : List Int) (n d : Nat) (a k : Int) (hl : L.length = n * 2) (hn : n ≤ 100000) : ctV L n d a k := by
  unfold ctV
  simp only [SS, reduceCtorEq, Arg.list, Arg.num, Arg.flag, intOf, andP, Nat.reduceLeDiff, Nat.reduceAdd, Nat.reduceMul, Nat.reduceLT, Asks]
  exact ⟨flat_ints, hl, hn⟩
theorem raVV_ok (m : List Int) (c : Nat) (w : List Int) (d : Nat) (z : Bool) (a k : Int) (hm : m.length ≤ 1000) (hw : w.length ≤ 1000) : raVV m c w d z a k := by
  unfold raVV raVV_s3 raVV_s2 raVV_s1 raVV_s0
  simp only [SS, reduceCtorEq, Arg.list, Arg.num, Arg.flag, intOf, andP, Nat.reduceLeDiff, Nat.reduceAdd, Nat.reduceMul, Nat.reduceLT, Asks]
  refine ⟨⟨⟨flat_ints, flat_ints⟩, okM_ints hm, okM_ints hw⟩, fun h => ⟨fun _ => (rsP_e h).symm, fun h2 => absurd h2 h⟩, fun h => ?_⟩
  obtain ⟨h1, h2⟩ := errW_cases h
  obtain ⟨h3, h4⟩ := errV_cases h2
  obtain ⟨h5, h6⟩ := errK_cases h1
  have hL := all_len (m := m) (z := z)
  have hM := all_max (m := m) (z := z)
  refine ⟨⟨rfl, by omega⟩, ⟨flat_ints, okM_ints hm, h6⟩, ⟨flat_ints, by omega, by omega⟩, fun h7 => (rsP_2 h (plc_neg.1.1 (by omega))).symm, fun h7 => ?_⟩
  have h8 := plc_neg.2.1 h7
  have h9 := ok_12 (has_ok h8) (by omega)
  refine ⟨⟨p12_bd h4, h9⟩, ?_⟩
  rw [rsP_r h h8]; show Value.tuple #[vi (resV (p12 w) a k), vi 0] = _; rw [p12_res h9]
theorem raVN_ok (m : List Int) (c : Nat)  (z : Bool) (a k : Int) (hm : m.length ≤ 1000) : raVN m c  z a k := by
  unfold raVN raVN_s2 raVN_s1 raVN_s0
  simp only [SS, reduceCtorEq, Arg.list, Arg.num, Arg.flag, intOf, andP, Nat.reduceLeDiff, Nat.reduceAdd, Nat.reduceMul, Nat.reduceLT, Asks]
  exact ⟨⟨flat_ints, okM_ints hm⟩, fun h h2 => absurd h2 h, fun h => absurd h errX_ne⟩
theorem raVH_ok (m : List Int) (c : Nat) (d : Nat) (t : Option Nat) (z : Bool) (a k : Int) (hm : m.length ≤ 1000) : raVH m c d t z a k := by
  unfold raVH raVH_s2 raVH_s1 raVH_s0
  simp only [SS, reduceCtorEq, Arg.list, Arg.num, Arg.flag, intOf, andP, Nat.reduceLeDiff, Nat.reduceAdd, Nat.reduceMul, Nat.reduceLT, Asks]
  exact ⟨⟨flat_ints, okM_ints hm⟩, fun h h2 => absurd h2 h, fun h => absurd h errX_ne⟩
theorem raNV_ok  (w : List Int) (d : Nat) (z : Bool) (a k : Int) (hw : w.length ≤ 1000) : raNV  w d z a k := by
  unfold raNV raNV_s0
  simp only [SS, reduceCtorEq, Arg.list, Arg.num, Arg.flag, intOf, andP, Nat.reduceLeDiff, Nat.reduceAdd, Nat.reduceMul, Nat.reduceLT, Asks]
  exact ⟨flat_ints, okM_ints hw⟩
theorem raNN_ok   (z : Bool) (a k : Int) : raNN   z a k := by
  unfold raNN
  simp only [SS, reduceCtorEq, Arg.list, Arg.num, Arg.flag, intOf, andP, Nat.reduceLeDiff, Nat.reduceAdd, Nat.reduceMul, Nat.reduceLT, Asks]
theorem raNH_ok  (d : Nat) (t : Option Nat) (z : Bool) (a k : Int) : raNH  d t z a k := by
  unfold raNH
  simp only [SS, reduceCtorEq, Arg.list, Arg.num, Arg.flag, intOf, andP, Nat.reduceLeDiff, Nat.reduceAdd, Nat.reduceMul, Nat.reduceLT, Asks]
theorem raHV_ok (c : Nat) (s : Option Nat) (w : List Int) (d : Nat) (z : Bool) (a k : Int) (hw : w.length ≤ 1000) : raHV c s w d z a k := by
  unfold raHV raHV_s0
  simp only [SS, reduceCtorEq, Arg.list, Arg.num, Arg.flag, intOf, andP, Nat.reduceLeDiff, Nat.reduceAdd, Nat.reduceMul, Nat.reduceLT, Asks]
  exact ⟨flat_ints, okM_ints hw⟩
theorem raHN_ok (c : Nat) (s : Option Nat)  (z : Bool) (a k : Int) : raHN c s  z a k := by
  unfold raHN
  simp only [SS, reduceCtorEq, Arg.list, Arg.num, Arg.flag, intOf, andP, Nat.reduceLeDiff, Nat.reduceAdd, Nat.reduceMul, Nat.reduceLT, Asks]
theorem raHH_ok (c : Nat) (s : Option Nat) (d : Nat) (t : Option Nat) (z : Bool) (a k : Int) : raHH c s d t z a k := by
  unfold raHH
  simp only [SS, reduceCtorEq, Arg.list, Arg.num, Arg.flag, intOf, andP, Nat.reduceLeDiff, Nat.reduceAdd, Nat.reduceMul, Nat.reduceLT, Asks]
theorem rbVV_ok (m : List Int) (c : Nat) (w : List Int) (d : Nat) (z : Bool) (a k : Int) (hm : m.length ≤ 1000) (hw : w.length ≤ 1000) : rbVV m c w d z a k := by
  unfold rbVV rbVV_s0
  simp only [SS, reduceCtorEq, Arg.list, Arg.num, Arg.flag, intOf, andP, Nat.reduceLeDiff, Nat.reduceAdd, Nat.reduceMul, Nat.reduceLT, Asks]
  refine ⟨⟨⟨flat_ints, flat_ints⟩, okM_ints hm, okM_ints hw⟩, fun h => ⟨⟨⟨flat_ints, flat_ints⟩, okM_ints hm, okM_ints hw⟩, (rsP_e h).symm⟩, fun h => ?_⟩
  obtain ⟨h1, h2⟩ := errW_cases h
  obtain ⟨h3, h4⟩ := errV_cases h2
  obtain ⟨h5, h6⟩ := errK_cases h1
  have hL := all_len (m := m) (z := z)
  have hM := all_max (m := m) (z := z)
  refine ⟨⟨flat_ints, okM_ints hm, h6⟩, ⟨flat_ints, by omega, by omega⟩, fun h7 => (rsP_2 h (plc_neg.1.1 h7)).symm, fun h7 => ?_⟩
  have h8 := plc_neg.2.1 (show plc (allL m z) a k ((allL m z).length / 2) ≥ 0 by omega)
  exact ⟨⟨flat_ints, okM_ints hw, h4, by rw [h3]; exact has_ok h8⟩, (rsP_r h h8).symm⟩
theorem rbVN_ok (m : List Int) (c : Nat)  (z : Bool) (a k : Int) (hm : m.length ≤ 1000) : rbVN m c  z a k := by
  unfold rbVN rbVN_s1 rbVN_s0
  simp only [SS, reduceCtorEq, Arg.list, Arg.num, Arg.flag, intOf, andP, Nat.reduceLeDiff, Nat.reduceAdd, Nat.reduceMul, Nat.reduceLT, Asks]
  exact ⟨⟨flat_ints, okM_ints hm⟩, fun _ => ⟨flat_ints, okM_ints hm⟩, fun h => absurd h errX_ne⟩
theorem rbVH_ok (m : List Int) (c : Nat) (d : Nat) (t : Option Nat) (z : Bool) (a k : Int) (hm : m.length ≤ 1000) : rbVH m c d t z a k := by
  unfold rbVH rbVH_s0
  simp only [SS, reduceCtorEq, Arg.list, Arg.num, Arg.flag, intOf, andP, Nat.reduceLeDiff, Nat.reduceAdd, Nat.reduceMul, Nat.reduceLT, Asks]
  exact ⟨⟨flat_ints, okM_ints hm⟩, fun _ => ⟨flat_ints, okM_ints hm⟩, fun h => absurd h errX_ne⟩
theorem rbNV_ok  (w : List Int) (d : Nat) (z : Bool) (a k : Int) (hw : w.length ≤ 1000) : rbNV  w d z a k := by
  unfold rbNV
  simp only [SS, reduceCtorEq, Arg.list, Arg.num, Arg.flag, intOf, andP, Nat.reduceLeDiff, Nat.reduceAdd, Nat.reduceMul, Nat.reduceLT, Asks]
  exact ⟨⟨flat_ints, okM_ints hw⟩, flat_ints, okM_ints hw⟩
theorem rbNN_ok   (z : Bool) (a k : Int) : rbNN   z a k := by
  unfold rbNN
  simp only [SS, reduceCtorEq, Arg.list, Arg.num, Arg.flag, intOf, andP, Nat.reduceLeDiff, Nat.reduceAdd, Nat.reduceMul, Nat.reduceLT, Asks]
theorem rbNH_ok  (d : Nat) (t : Option Nat) (z : Bool) (a k : Int) : rbNH  d t z a k := by
  unfold rbNH
  simp only [SS, reduceCtorEq, Arg.list, Arg.num, Arg.flag, intOf, andP, Nat.reduceLeDiff, Nat.reduceAdd, Nat.reduceMul, Nat.reduceLT, Asks]
theorem rbHV_ok (c : Nat) (s : Option Nat) (w : List Int) (d : Nat) (z : Bool) (a k : Int) (hw : w.length ≤ 1000) : rbHV c s w d z a k := by
  unfold rbHV
  simp only [SS, reduceCtorEq, Arg.list, Arg.num, Arg.flag, intOf, andP, Nat.reduceLeDiff, Nat.reduceAdd, Nat.reduceMul, Nat.reduceLT, Asks]
  exact ⟨⟨flat_ints, okM_ints hw⟩, flat_ints, okM_ints hw⟩
theorem rbHN_ok (c : Nat) (s : Option Nat)  (z : Bool) (a k : Int) : rbHN c s  z a k := by
  unfold rbHN
  simp only [SS, reduceCtorEq, Arg.list, Arg.num, Arg.flag, intOf, andP, Nat.reduceLeDiff, Nat.reduceAdd, Nat.reduceMul, Nat.reduceLT, Asks]
theorem rbHH_ok (c : Nat) (s : Option Nat) (d : Nat) (t : Option Nat) (z : Bool) (a k : Int) : rbHH c s d t z a k := by
  unfold rbHH
  simp only [SS, reduceCtorEq, Arg.list, Arg.num, Arg.flag, intOf, andP, Nat.reduceLeDiff, Nat.reduceAdd, Nat.reduceMul, Nat.reduceLT, Asks]
theorem caO_ok {f : FuncId} (C : CaCalls f) : ∀ args H φ v H' l, born3 psK caOS args H = some (φ, v, H', l) → Asks φ → Call Try.prog f args H (fun v' H2 => v' = v ∧ H2 = H') ∧ Kept H H' l :=
  born3_ok fun r s hk hs hψ => by
    obtain ⟨lf, z, rfl, hl⟩ := kinds_kn rfl hk
    rcases hl with rfl | ⟨t, rfl⟩ | ⟨cs, n, rfl⟩ <;> cases hs
    · exact hψ.elim
    · exact hψ.elim
    · obtain ⟨h2, he⟩ := hψ
      obtain ⟨e1, e2⟩ := view_ros h2
      refine ⟨⟨row_plain, fun ρ b ρ' c ha => new_alike ha, fun n => by simp [sc, sc2, sc1, sc0, newS]⟩, fun caps _ => ?_⟩
      have hH : canonH3 [.agg [.view cs n false, .plain (.bool z)]] = [ros (intsOf cs)] := by show [AObj.ro cs] = _; rw [e2]
      rw [hH]
      have k := C (intsOf cs) (caps 0) z (by rw [e1]; exact h2.2.2)
      rw [e1] at k
      refine Call.anew (k.mono fun v H' hk => ?_)
      obtain ⟨b, hb, rfl, g0, g1⟩ := hk.2 he
      refine ⟨nsub 1 b, newS 1 _, [ros (intsOf cs), rowP (allL (intsOf cs) z)], ⟨by simp, fun b' hb' => ?_, fun b' o ho => ?_, fun b1 b2 o h1 h2 _ _ _ he => ?_, fun b' o ho => ?_⟩, ?_, ?_, rfl, rfl⟩
      · have : b' = 0 := by simp at hb'; omega
        subst this; rfl
      · right
        rcases b' with _ | _ | b'
        · cases ho
          rw [show nsub 1 b 0 = 0 from rfl, g0]
          simp only [omap, ros, map_nmap_int]
        · cases ho
          rw [show nsub 1 b (0 + 1) = b from rfl, g1]
          simp only [omap, rowP, map_nmap_int]
        · simp at ho
      · simp at h1 h2
        rcases b1 with _ | _ | b1 <;> rcases b2 with _ | _ | b2 <;> first | rfl | omega | (simp [nsub, Nat.beq] at he; omega)
      · rcases b' with _ | _ | b'
        · cases ho; exact sc_ro_int
        · cases ho; exact sc_rw_int
        · simp at ho
      · simp [nmap, nmap2, nmap1, nmap0, newS, am, nsub, Nat.beq]
      · simp [sc, sc2, sc1, sc0, newS]
theorem slO_ok : OrcOk Try.prog slO := orcOr_ok orcLd_ok (orcOr_ok (orcEq2_ok two34) orcCp0_ok)
theorem ctE_ok : VOk Try.prog ctE := ⟨CtOk.none.add ixG_ok, E0_ok.cc, E0_ok.yc, slO_ok⟩
theorem ctG_ok : ∀ args H φ v H' l, pure3 psP ctS args H = some (φ, v, H', l) → Asks φ → Call Try.prog 39 args H (fun v' H2 => v' = v ∧ H2 = H') ∧ Kept H H' l :=
  pure3_ok fun r ψ v hk hs hψ => by
    match r, hk with
    | [.one x, .agg [_, _]], ⟨hl, ⟨⟨a, rfl⟩, ⟨k, rfl⟩, _⟩, _⟩ =>
      rcases hl with rfl | ⟨s, rfl⟩ | ⟨cs, n, rfl⟩ <;> cases hs <;> refine ⟨rfl, fun caps _ => ?_⟩
      · exact hψ.elim
      · exact hψ.elim
      · have h := ctV_ok (intsOf cs) n (caps 0) a k (by rw [intsOf, List.length_map]; exact hψ.2.1) hψ.2.2
        rw [ctV_eq] at h
        show Call Try.prog 39 _ [AObj.ro cs] _
        rw [show AObj.ro cs = ros (intsOf cs) by show AObj.ro cs = .ro _; rw [← hψ.1]]
        exact Call.ofVc ctE_ok mixed (c := ctB) Try.func39 (by kernel_rfl) h
theorem slT_ok : CtOk Try.prog slT := ((((CtOk.none.add cwG_ok).add ctG_ok).add prG_ok).add wiG_ok).add (caO_ok pack_cases)
theorem slE1_ok : VOk Try.prog slE1 := ⟨slT_ok, E0_ok.cc, E0_ok.yc, slO_ok⟩
theorem inl_two {a b : InlE} (h1 : Try.prog.funcs[a.f]? = some a.fn) (h2 : Try.prog.funcs[b.f]? = some b.fn) : ∀ e ∈ [a, b], Try.prog.funcs[e.f]? = some e.fn := by
  intro e he
  simp only [List.mem_cons, List.not_mem_nil, or_false] at he
  rcases he with rfl | rfl <;> assumption
theorem slCc_ok : CcOk Try.prog slCc := ccIn_ok slE1_ok mixed (inl_two Try.func38 Try.func43)
theorem raE_ok : VOk Try.prog raE := ⟨slT_ok, slCc_ok, E0_ok.yc, slO_ok⟩
theorem rbE_ok : VOk Try.prog rbE := ⟨(((CtOk.none.add rwG_ok).add plG_ok).add roG_ok).add (caO_ok ref_cases), E0_ok.cc, E0_ok.yc, slO_ok⟩
abbrev psR : List K3 := [.agg [.rows [.i .i64] false, .bool], .one (.rows [.i .i64] false), kC]
noncomputable def resS : List Arg3 → Option (Prop × Value)
  | [.agg [.view cs n r, .plain (.bool z)], .one (.view ds k q), .agg [.plain (.int .i64 a), .plain (.int .i64 t)]] => some (okM (.view cs n r) ∧ okM (.view ds k q), rsP (intsOf cs) z (intsOf ds) a t)
  | [.agg [.view cs n r, .plain (.bool z)], .one _, .agg [.plain (.int .i64 _), .plain (.int .i64 _)]] => some (okM (.view cs n r), .tuple #[vi 0, vi (errX (intsOf cs) z)])
  | [.agg [_, .plain (.bool _)], .one (.view ds k q), .agg [.plain (.int .i64 _), .plain (.int .i64 _)]] => some (okM (.view ds k q), .tuple #[vi 0, vi 6])
  | [.agg [_, .plain (.bool _)], .one _, .agg [.plain (.int .i64 _), .plain (.int .i64 _)]] => some (True, .tuple #[vi 0, vi 6])
  | _ => none
theorem tup_sc {x y : Int} : sc 0 (.tuple #[vi x, vi y]) = true := by simp [sc, sc2, sc1, sc0]
theorem rsP_sc {m : List Int} {z : Bool} {w : List Int} {a k : Int} : sc 0 (rsP m z w a k) = true := by
  unfold rsP
  split
  · exact tup_sc
  split
  · exact tup_sc
  · exact tup_sc
theorem kinds_r {r : List Arg3} (h : kinds3 psR r) : ∃ lf z lw a k, r = [.agg [lf, .plain (.bool z)], .one lw, .agg [.plain (.int .i64 a), .plain (.int .i64 k)]] ∧ (lf = .plain (.slice none 0 0) ∨ (∃ s, lf = .hole s) ∨ ∃ cs n, lf = .view cs n false) ∧ (lw = .plain (.slice none 0 0) ∨ (∃ s, lw = .hole s) ∨ ∃ cs n, lw = .view cs n false) := by
  match r, h with
  | [.agg [x, y], .one w, .agg [_, _]], ⟨⟨h1, h2, _⟩, h3, ⟨⟨a, rfl⟩, ⟨k, rfl⟩, _⟩, _⟩ =>
    obtain ⟨z, rfl⟩ := h2
    exact ⟨x, z, w, a, k, rfl, h1, h3⟩
theorem raG_ok : ∀ args H φ v H' l, pure3 psR resS args H = some (φ, v, H', l) → Asks φ → Call Try.prog 12 args H (fun v' H2 => v' = v ∧ H2 = H') ∧ Kept H H' l :=
  pure3_ok fun r ψ v hk hs hψ => by
    obtain ⟨lf, z, lw, a, k, rfl, hl, hw⟩ := kinds_r hk
    rcases hl with rfl | ⟨s, rfl⟩ | ⟨cs, n, rfl⟩ <;> rcases hw with rfl | ⟨t, rfl⟩ | ⟨ds, j, rfl⟩ <;> cases hs <;> refine ⟨by first | exact tup_sc | exact rsP_sc, fun caps _ => ?_⟩
    · exact Call.ofVc raE_ok mixed (c := raB) Try.func12 (by kernel_rfl) (cast (congrFun (congrFun (congrFun raNN_eq z) a) k) (raNN_ok z a k))
    · exact Call.ofVc raE_ok mixed (c := raB) Try.func12 (by kernel_rfl) (cast (congrFun (congrFun (congrFun (congrFun (congrFun raNH_eq (caps 0)) t) z) a) k) (raNH_ok (caps 0) t z a k))
    · obtain ⟨w, rfl, rfl, h2⟩ := okM_of hψ
      exact Call.ofVc raE_ok mixed (c := raB) Try.func12 (by kernel_rfl) (cast (congrFun (congrFun (congrFun (congrFun (congrFun raNV_eq w) (caps 0)) z) a) k) (raNV_ok w (caps 0) z a k h2))
    · exact Call.ofVc raE_ok mixed (c := raB) Try.func12 (by kernel_rfl) (cast (congrFun (congrFun (congrFun (congrFun (congrFun raHN_eq (caps 0)) s) z) a) k) (raHN_ok (caps 0) s z a k))
    · exact Call.ofVc raE_ok mixed (c := raB) Try.func12 (by kernel_rfl) (cast (congrFun (congrFun (congrFun (congrFun (congrFun (congrFun (congrFun raHH_eq (caps 0)) s) (caps 1)) t) z) a) k) (raHH_ok (caps 0) s (caps 1) t z a k))
    · obtain ⟨w, rfl, rfl, h2⟩ := okM_of hψ
      exact Call.ofVc raE_ok mixed (c := raB) Try.func12 (by kernel_rfl) (cast (congrFun (congrFun (congrFun (congrFun (congrFun (congrFun (congrFun raHV_eq (caps 0)) s) w) (caps 1)) z) a) k) (raHV_ok (caps 0) s w (caps 1) z a k h2))
    · obtain ⟨m, rfl, rfl, h1⟩ := okM_of hψ
      rw [intsOf_map]
      exact Call.ofVc raE_ok mixed (c := raB) Try.func12 (by kernel_rfl) (cast (congrFun (congrFun (congrFun (congrFun (congrFun raVN_eq m) (caps 0)) z) a) k) (raVN_ok m (caps 0) z a k h1))
    · obtain ⟨m, rfl, rfl, h1⟩ := okM_of hψ
      rw [intsOf_map]
      exact Call.ofVc raE_ok mixed (c := raB) Try.func12 (by kernel_rfl) (cast (congrFun (congrFun (congrFun (congrFun (congrFun (congrFun (congrFun raVH_eq m) (caps 0)) (caps 1)) t) z) a) k) (raVH_ok m (caps 0) (caps 1) t z a k h1))
    · obtain ⟨m, rfl, rfl, h1⟩ := okM_of hψ.1
      obtain ⟨w, rfl, rfl, h2⟩ := okM_of hψ.2
      rw [intsOf_map, intsOf_map]
      exact Call.ofVc raE_ok mixed (c := raB) Try.func12 (by kernel_rfl) (cast (congrFun (congrFun (congrFun (congrFun (congrFun (congrFun (congrFun raVV_eq m) (caps 0)) w) (caps 1)) z) a) k) (raVV_ok m (caps 0) w (caps 1) z a k h1 h2))
theorem rbG_ok : ∀ args H φ v H' l, pure3 psR resS args H = some (φ, v, H', l) → Asks φ → Call Try.prog 13 args H (fun v' H2 => v' = v ∧ H2 = H') ∧ Kept H H' l :=
  pure3_ok fun r ψ v hk hs hψ => by
    obtain ⟨lf, z, lw, a, k, rfl, hl, hw⟩ := kinds_r hk
    rcases hl with rfl | ⟨s, rfl⟩ | ⟨cs, n, rfl⟩ <;> rcases hw with rfl | ⟨t, rfl⟩ | ⟨ds, j, rfl⟩ <;> cases hs <;> refine ⟨by first | exact tup_sc | exact rsP_sc, fun caps _ => ?_⟩
    · exact Call.ofVc rbE_ok mixed (c := rbB) Try.func13 (by kernel_rfl) (cast (congrFun (congrFun (congrFun rbNN_eq z) a) k) (rbNN_ok z a k))
    · exact Call.ofVc rbE_ok mixed (c := rbB) Try.func13 (by kernel_rfl) (cast (congrFun (congrFun (congrFun (congrFun (congrFun rbNH_eq (caps 0)) t) z) a) k) (rbNH_ok (caps 0) t z a k))
    · obtain ⟨w, rfl, rfl, h2⟩ := okM_of hψ
      exact Call.ofVc rbE_ok mixed (c := rbB) Try.func13 (by kernel_rfl) (cast (congrFun (congrFun (congrFun (congrFun (congrFun rbNV_eq w) (caps 0)) z) a) k) (rbNV_ok w (caps 0) z a k h2))
    · exact Call.ofVc rbE_ok mixed (c := rbB) Try.func13 (by kernel_rfl) (cast (congrFun (congrFun (congrFun (congrFun (congrFun rbHN_eq (caps 0)) s) z) a) k) (rbHN_ok (caps 0) s z a k))
    · exact Call.ofVc rbE_ok mixed (c := rbB) Try.func13 (by kernel_rfl) (cast (congrFun (congrFun (congrFun (congrFun (congrFun (congrFun (congrFun rbHH_eq (caps 0)) s) (caps 1)) t) z) a) k) (rbHH_ok (caps 0) s (caps 1) t z a k))
    · obtain ⟨w, rfl, rfl, h2⟩ := okM_of hψ
      exact Call.ofVc rbE_ok mixed (c := rbB) Try.func13 (by kernel_rfl) (cast (congrFun (congrFun (congrFun (congrFun (congrFun (congrFun (congrFun rbHV_eq (caps 0)) s) w) (caps 1)) z) a) k) (rbHV_ok (caps 0) s w (caps 1) z a k h2))
    · obtain ⟨m, rfl, rfl, h1⟩ := okM_of hψ
      rw [intsOf_map]
      exact Call.ofVc rbE_ok mixed (c := rbB) Try.func13 (by kernel_rfl) (cast (congrFun (congrFun (congrFun (congrFun (congrFun rbVN_eq m) (caps 0)) z) a) k) (rbVN_ok m (caps 0) z a k h1))
    · obtain ⟨m, rfl, rfl, h1⟩ := okM_of hψ
      rw [intsOf_map]
      exact Call.ofVc rbE_ok mixed (c := rbB) Try.func13 (by kernel_rfl) (cast (congrFun (congrFun (congrFun (congrFun (congrFun (congrFun (congrFun rbVH_eq m) (caps 0)) (caps 1)) t) z) a) k) (rbVH_ok m (caps 0) (caps 1) t z a k h1))
    · obtain ⟨m, rfl, rfl, h1⟩ := okM_of hψ.1
      obtain ⟨w, rfl, rfl, h2⟩ := okM_of hψ.2
      rw [intsOf_map, intsOf_map]
      exact Call.ofVc rbE_ok mixed (c := rbB) Try.func13 (by kernel_rfl) (cast (congrFun (congrFun (congrFun (congrFun (congrFun (congrFun (congrFun rbVV_eq m) (caps 0)) w) (caps 1)) z) a) k) (rbVV_ok m (caps 0) w (caps 1) z a k h1 h2))
end Go.Pier.Sk
set_option maxRecDepth 100000
set_option linter.unusedVariables false
set_option linter.unusedSimpArgs false
namespace Go.Pier.Sk
open Go Go.Pier Go.Proofs
def madeA (l : List Int) : AObj := .rw (l.map (.int .i64)) none
noncomputable def nsB : Code := Try.f62.body.getD .skip
noncomputable def kbB : Code := Try.f45.body.getD .skip
noncomputable def lfB : Code := Try.f47.body.getD .skip
def nsS (r : List Arg) : Prop × Value := match r with | [] => (True, .agg #[vi (-1), vi 0]) | _ => (False, undef)
noncomputable def kbE : VEnv := { ct := Ct.none.add 62 (pureG [] nsS), orc := slO }
noncomputable def lfE : VEnv := { orc := slO }
def lfI (n : Nat) (F : List Int) (q d : Nat) : Nat → Option LInv := invOf 0 (LInv.one Nat (fun x => x ≤ q) (fun x => [(1, .slice (some ⟨0,0,none⟩) q d), (4, ptr0 1), (5, ptr0 3), (6, vi x)]) (fun x => [ros F, .rw [nilS, .bool false] none, madeA (lkL n F x), .rw [.slice (some ⟨2,0,none⟩) n n, .bool (lkZ F x)] none]) (fun x => q - x))
def kbI (n : Nat) (F : List Int) (q d : Nat) : Nat → Option LInv := invOf 0 (LInv.one Nat (fun x => x ≤ q) (fun x => [(4, ptr0 1), (5, ptr0 3), (11, .slice (some ⟨0,0,none⟩) q d), (12, vi q), (13, vi x)]) (fun x => [ros F, .rw [nilS, .bool false] none, madeA (lkL n F x), .rw [.slice (some ⟨2,0,none⟩) n n, .bool (lkZ F x)] none]) (fun x => q - x))
def finB (n : Nat) (F : List Int) (q : Nat) (v : Value) (H : Heap) : Prop := ∃ b, 1 ≤ b ∧ v = .agg #[.slice (some ⟨b, 0, none⟩) n n, .bool (lkZ F q)] ∧ H[0]? = some (ros F) ∧ H[b]? = some (madeA (lkL n F q))
noncomputable def nsV :=
fun (x : Unit) ↦ Ob ((2 : Nat) ≤ (2 : Nat)) ∧ True ∧ Ob (Value.agg { toList := [vi (-1 : Int), vi (0 : Int)] } = Value.agg { toList := [vi (-1 : Int), vi (0 : Int)] })
theorem nsV_eq : nsV = fun (_ : Unit) => vc Try.prog {} 0 2 true (fun _ => none) nsB [] (argFr 0 []) [] (retK Try.prog Try.f62 (fun v _ => v = .agg #[vi (-1), vi 0])) := by kernel_rfl
noncomputable def lfV_s0 (n : Nat) (F : List Int) (q d : Nat) := (List.map (Value.int IntKind.i64) F)
noncomputable def lfV_s1 (n : Nat) (F : List Int) (q d : Nat) (x : Nat) := ((0 : Nat) + (↑x : Int).toNat * (2 : Nat))
noncomputable def lfV_s2 (n : Nat) (F : List Int) (q d : Nat) : List Value := [Value.slice none (0 : Nat) (0 : Nat), Value.bool false]
noncomputable def lfV :=
fun (n : Nat) (F : List Int) (q d : Nat) ↦ Ob ((0 : Int) ≤ IntKind.i64.wrap (↑n : Int) ∧ IntKind.i64.wrap (↑n : Int) ≤ IntKind.i64.wrap (↑n : Int) ∧ (↑(8 : Nat) : Int) * IntKind.i64.wrap (↑n : Int) ≤ (281474976710656 : Int)) ∧ Ob ((0 : Nat) + (2 : Nat) ≤ (2 : Nat)) ∧ (∃ (y : Nat), Ob (y ≤ q) ∧ (Ob (AObj.ro (lfV_s0 n F q d) = AObj.ro (List.map (nmap1 fun (b : Nat) ↦ b) (lfV_s0 n F q d)) ∧ AObj.sc (4 : Nat) (AObj.ro (lfV_s0 n F q d)) = true) ∧ Ob (AObj.rw (lfV_s2 n F q d) none = AObj.rw (lfV_s2 n F q d) none ∧ true = true) ∧ Ob (AObj.rw (List.replicate (IntKind.i64.wrap (↑n : Int)).toNat (vi (0 : Int))) none = AObj.rw (List.map (nmap1 fun (b : Nat) ↦ b) (List.map (Value.int IntKind.i64) (lkL n F y))) none ∧ AObj.sc (4 : Nat) (AObj.rw (List.map (Value.int IntKind.i64) (lkL n F y)) none) = true) ∧ Ob (AObj.rw [Value.slice (some (ad0 2)) (IntKind.i64.wrap (↑n : Int)).toNat (IntKind.i64.wrap (↑n : Int)).toNat, Value.bool false] none = AObj.rw [Value.slice (some (ad0 2)) n n, Value.bool (lkZ F y)] none ∧ true = true) ∧ True) ∧ Ob (Value.slice (some (ad0 0)) q d = Value.slice (some (ad0 0)) q d) ∧ Ob (ptr0 1 = ptr0 1) ∧ Ob (ptr0 3 = ptr0 3) ∧ Ob ((0 : Int) = (↑y : Int)) ∧ True) ∧ ∀ (x : Nat), Ob (x ≤ q) → (decide ((↑x : Int) < (↑q : Int)) = true → Ob ((0 : Int) ≤ (↑x : Int) ∧ (↑x : Int) < (↑q : Int) ∧ true = true) ∧ Ob (IntAt IntKind.i64 (lfV_s0 n F q d) (lfV_s1 n F q d x)) ∧ (decide (getI (lfV_s0 n F q d) (lfV_s1 n F q d x) < (0 : Int)) = true → Ob ((2 : Nat) ≤ (2 : Nat)) ∧ ∃ (y : Nat), Ob (y ≤ q) ∧ Ob (q - y < q - x) ∧ (Ob (AObj.ro (lfV_s0 n F q d) = AObj.ro (List.map (nmap1 fun (b : Nat) ↦ b) (lfV_s0 n F q d)) ∧ AObj.sc (4 : Nat) (AObj.ro (lfV_s0 n F q d)) = true) ∧ Ob (AObj.rw (lfV_s2 n F q d) none = AObj.rw (lfV_s2 n F q d) none ∧ true = true) ∧ Ob (AObj.rw (List.map (Value.int IntKind.i64) (lkL n F x)) none = AObj.rw (List.map (nmap1 fun (b : Nat) ↦ b) (List.map (Value.int IntKind.i64) (lkL n F y))) none ∧ AObj.sc (4 : Nat) (AObj.rw (List.map (Value.int IntKind.i64) (lkL n F y)) none) = true) ∧ Ob (AObj.rw [Value.slice (some (ad0 2)) n n, Value.bool true] none = AObj.rw [Value.slice (some (ad0 2)) n n, Value.bool (lkZ F y)] none ∧ true = true) ∧ True) ∧ Ob (Value.slice (some (ad0 0)) q d = Value.slice (some (ad0 0)) q d) ∧ Ob (ptr0 1 = ptr0 1) ∧ Ob (ptr0 3 = ptr0 3) ∧ Ob (IntKind.i64.wrap ((↑x : Int) + (1 : Int)) = (↑y : Int)) ∧ True) ∧ (decide (getI (lfV_s0 n F q d) (lfV_s1 n F q d x) < (0 : Int)) = false → Ob ((0 : Int) ≤ (↑x : Int) ∧ (↑x : Int) < (↑q : Int) ∧ true = true) ∧ Ob (IntAt IntKind.i64 (lfV_s0 n F q d) (lfV_s1 n F q d x)) ∧ Ob ((0 : Int) ≤ getI (lfV_s0 n F q d) (lfV_s1 n F q d x) ∧ getI (lfV_s0 n F q d) (lfV_s1 n F q d x) < (↑n : Int) ∧ true = true) ∧ Ob (IntAt IntKind.i64 (List.map (Value.int IntKind.i64) (lkL n F x)) ((0 : Nat) + (getI (lfV_s0 n F q d) (lfV_s1 n F q d x)).toNat * (1 : Nat))) ∧ Ob ((0 : Int) ≤ (↑x : Int) ∧ (↑x : Int) < (↑q : Int) ∧ true = true) ∧ Ob (IntAt IntKind.i64 (lfV_s0 n F q d) ((0 : Nat) + (↑x : Int).toNat * (2 : Nat) + (1 : Nat))) ∧ Ob ((0 : Int) ≤ getI (lfV_s0 n F q d) (lfV_s1 n F q d x) ∧ getI (lfV_s0 n F q d) (lfV_s1 n F q d x) < (↑n : Int) ∧ true = true) ∧ Ob ((0 : Nat) + (getI (lfV_s0 n F q d) (lfV_s1 n F q d x)).toNat * (1 : Nat) + (1 : Nat) ≤ (List.map (Value.int IntKind.i64) (lkL n F x)).length) ∧ ∃ (y : Nat), Ob (y ≤ q) ∧ Ob (q - y < q - x) ∧ (Ob (AObj.ro (lfV_s0 n F q d) = AObj.ro (List.map (nmap1 fun (b : Nat) ↦ b) (lfV_s0 n F q d)) ∧ AObj.sc (4 : Nat) (AObj.ro (lfV_s0 n F q d)) = true) ∧ Ob (AObj.rw (lfV_s2 n F q d) none = AObj.rw (lfV_s2 n F q d) none ∧ true = true) ∧ Ob (AObj.rw (putL (List.map (Value.int IntKind.i64) (lkL n F x)) ((0 : Nat) + (getI (lfV_s0 n F q d) (lfV_s1 n F q d x)).toNat * (1 : Nat)) [vi (IntKind.i64.wrap (getI (List.map (Value.int IntKind.i64) (lkL n F x)) ((0 : Nat) + (getI (lfV_s0 n F q d) (lfV_s1 n F q d x)).toNat * (1 : Nat)) + getI (lfV_s0 n F q d) ((0 : Nat) + (↑x : Int).toNat * (2 : Nat) + (1 : Nat))))]) none = AObj.rw (List.map (nmap1 fun (b : Nat) ↦ b) (List.map (Value.int IntKind.i64) (lkL n F y))) none ∧ AObj.sc (4 : Nat) (AObj.rw (List.map (Value.int IntKind.i64) (lkL n F y)) none) = true) ∧ Ob (AObj.rw [Value.slice (some (ad0 2)) n n, Value.bool (lkZ F x)] none = AObj.rw [Value.slice (some (ad0 2)) n n, Value.bool (lkZ F y)] none ∧ true = true) ∧ True) ∧ Ob (Value.slice (some (ad0 0)) q d = Value.slice (some (ad0 0)) q d) ∧ Ob (ptr0 1 = ptr0 1) ∧ Ob (ptr0 3 = ptr0 3) ∧ Ob (IntKind.i64.wrap ((↑x : Int) + (1 : Int)) = (↑y : Int)) ∧ True)) ∧ (decide ((↑x : Int) < (↑q : Int)) = false → Ob ((2 : Nat) ≤ (2 : Nat)) ∧ True ∧ Ob (finB n F q (Value.agg { toList := [Value.slice (some (ad0 2)) n n, Value.bool (lkZ F x)] }) [AObj.ro (lfV_s0 n F q d), AObj.rw [Value.slice (some (ad0 2)) n n, Value.bool (lkZ F x)] none, AObj.rw (List.map (Value.int IntKind.i64) (lkL n F x)) none, AObj.rw [Value.slice (some (ad0 2)) n n, Value.bool (lkZ F x)] none]))
theorem lfV_eq : lfV = fun (n : Nat) (F : List Int) (q d : Nat) => vc Try.prog lfE 1 40 true (lfI n F q d) lfB [] (argFr 0 [vi n, .slice (some ⟨0,0,none⟩) q d]) [ros F] (retK Try.prog Try.f47 (finB n F q)) := by kernel_rfl
noncomputable def kbV_s0 (n : Nat) (F : List Int) (q d : Nat) (x : Nat) := (getI (List.map (Value.int IntKind.i64) F) ((0 : Nat) + (↑x : Int).toNat * (2 : Nat)))
noncomputable def kbV_s1 (n : Nat) (F : List Int) (q d : Nat) := (List.map (Value.int IntKind.i64) F)
noncomputable def kbV_s2 (n : Nat) (F : List Int) (q d : Nat) : List Value := [Value.slice none (0 : Nat) (0 : Nat), Value.bool false]
noncomputable def kbV :=
fun (n : Nat) (F : List Int) (q d : Nat) ↦ Ob ((0 : Int) ≤ IntKind.i64.wrap (↑n : Int) ∧ IntKind.i64.wrap (↑n : Int) ≤ IntKind.i64.wrap (↑n : Int) ∧ (↑(8 : Nat) : Int) * IntKind.i64.wrap (↑n : Int) ≤ (281474976710656 : Int)) ∧ Ob ((0 : Nat) + (2 : Nat) ≤ (2 : Nat)) ∧ (∃ (y : Nat), Ob (y ≤ q) ∧ (Ob (AObj.ro (kbV_s1 n F q d) = AObj.ro (List.map (nmap1 fun (b : Nat) ↦ b) (kbV_s1 n F q d)) ∧ AObj.sc (4 : Nat) (AObj.ro (kbV_s1 n F q d)) = true) ∧ Ob (AObj.rw (kbV_s2 n F q d) none = AObj.rw (kbV_s2 n F q d) none ∧ true = true) ∧ Ob (AObj.rw (List.replicate (IntKind.i64.wrap (↑n : Int)).toNat (vi (0 : Int))) none = AObj.rw (List.map (nmap1 fun (b : Nat) ↦ b) (List.map (Value.int IntKind.i64) (lkL n F y))) none ∧ AObj.sc (4 : Nat) (AObj.rw (List.map (Value.int IntKind.i64) (lkL n F y)) none) = true) ∧ Ob (AObj.rw [Value.slice (some (ad0 2)) (IntKind.i64.wrap (↑n : Int)).toNat (IntKind.i64.wrap (↑n : Int)).toNat, Value.bool false] none = AObj.rw [Value.slice (some (ad0 2)) n n, Value.bool (lkZ F y)] none ∧ true = true) ∧ True) ∧ Ob (ptr0 1 = ptr0 1) ∧ Ob (ptr0 3 = ptr0 3) ∧ Ob (Value.slice (some (ad0 0)) q d = Value.slice (some (ad0 0)) q d) ∧ Ob ((↑q : Int) = (↑q : Int)) ∧ Ob ((0 : Int) = (↑y : Int)) ∧ True) ∧ ∀ (x : Nat), Ob (x ≤ q) → (decide ((↑x : Int) < (↑q : Int)) = true → Ob ((0 : Int) ≤ (↑x : Int) ∧ (↑x : Int) < (↑q : Int) ∧ true = true) ∧ Ob (ckAsk [CK.i IntKind.i64, CK.i IntKind.i64] (kbV_s1 n F q d) ((0 : Nat) + (↑x : Int).toNat * (2 : Nat))) ∧ Ob ((0 : Nat) + (2 : Nat) ≤ (2 : Nat)) ∧ Ob True ∧ Ob True ∧ ((getI (kbV_s1 n F q d) ((0 : Nat) + (↑x : Int).toNat * (2 : Nat)) == (-1 : Int) && getI (kbV_s1 n F q d) ((0 : Nat) + (↑x : Int).toNat * (2 : Nat) + (1 : Nat)) == (0 : Int)) = true → Ob ((2 : Nat) ≤ (2 : Nat)) ∧ ∃ (y : Nat), Ob (y ≤ q) ∧ Ob (q - y < q - x) ∧ (Ob (AObj.ro (kbV_s1 n F q d) = AObj.ro (List.map (nmap1 fun (b : Nat) ↦ b) (kbV_s1 n F q d)) ∧ AObj.sc (4 : Nat) (AObj.ro (kbV_s1 n F q d)) = true) ∧ Ob (AObj.rw (kbV_s2 n F q d) none = AObj.rw (kbV_s2 n F q d) none ∧ true = true) ∧ Ob (AObj.rw (List.map (Value.int IntKind.i64) (lkL n F x)) none = AObj.rw (List.map (nmap1 fun (b : Nat) ↦ b) (List.map (Value.int IntKind.i64) (lkL n F y))) none ∧ AObj.sc (4 : Nat) (AObj.rw (List.map (Value.int IntKind.i64) (lkL n F y)) none) = true) ∧ Ob (AObj.rw [Value.slice (some (ad0 2)) n n, Value.bool true] none = AObj.rw [Value.slice (some (ad0 2)) n n, Value.bool (lkZ F y)] none ∧ true = true) ∧ True) ∧ Ob (ptr0 1 = ptr0 1) ∧ Ob (ptr0 3 = ptr0 3) ∧ Ob (Value.slice (some (ad0 0)) q d = Value.slice (some (ad0 0)) q d) ∧ Ob ((↑q : Int) = (↑q : Int)) ∧ Ob (IntKind.i64.wrap ((↑x : Int) + (1 : Int)) = (↑y : Int)) ∧ True) ∧ ((getI (kbV_s1 n F q d) ((0 : Nat) + (↑x : Int).toNat * (2 : Nat)) == (-1 : Int) && getI (kbV_s1 n F q d) ((0 : Nat) + (↑x : Int).toNat * (2 : Nat) + (1 : Nat)) == (0 : Int)) = false → Ob (some (vi (kbV_s0 n F q d x)) = some (vi (kbV_s0 n F q d x))) ∧ Ob ((0 : Int) ≤ getI (kbV_s1 n F q d) ((0 : Nat) + (↑x : Int).toNat * (2 : Nat)) ∧ getI (kbV_s1 n F q d) ((0 : Nat) + (↑x : Int).toNat * (2 : Nat)) < (↑n : Int) ∧ true = true) ∧ Ob (IntAt IntKind.i64 (List.map (Value.int IntKind.i64) (lkL n F x)) ((0 : Nat) + (kbV_s0 n F q d x).toNat * (1 : Nat))) ∧ Ob (IntAt IntKind.i64 [vi (kbV_s0 n F q d x), vi (getI (kbV_s1 n F q d) ((0 : Nat) + (↑x : Int).toNat * (2 : Nat) + (1 : Nat)))] ((0 : Nat) + (1 : Nat))) ∧ Ob ((0 : Int) ≤ getI (kbV_s1 n F q d) ((0 : Nat) + (↑x : Int).toNat * (2 : Nat)) ∧ getI (kbV_s1 n F q d) ((0 : Nat) + (↑x : Int).toNat * (2 : Nat)) < (↑n : Int) ∧ true = true) ∧ Ob ((0 : Nat) + (kbV_s0 n F q d x).toNat * (1 : Nat) + (1 : Nat) ≤ (List.map (Value.int IntKind.i64) (lkL n F x)).length) ∧ ∃ (y : Nat), Ob (y ≤ q) ∧ Ob (q - y < q - x) ∧ (Ob (AObj.ro (kbV_s1 n F q d) = AObj.ro (List.map (nmap1 fun (b : Nat) ↦ b) (kbV_s1 n F q d)) ∧ AObj.sc (4 : Nat) (AObj.ro (kbV_s1 n F q d)) = true) ∧ Ob (AObj.rw (kbV_s2 n F q d) none = AObj.rw (kbV_s2 n F q d) none ∧ true = true) ∧ Ob (AObj.rw (putL (List.map (Value.int IntKind.i64) (lkL n F x)) ((0 : Nat) + (kbV_s0 n F q d x).toNat * (1 : Nat)) [vi (IntKind.i64.wrap (getI (List.map (Value.int IntKind.i64) (lkL n F x)) ((0 : Nat) + (kbV_s0 n F q d x).toNat * (1 : Nat)) + getI [vi (kbV_s0 n F q d x), vi (getI (kbV_s1 n F q d) ((0 : Nat) + (↑x : Int).toNat * (2 : Nat) + (1 : Nat)))] ((0 : Nat) + (1 : Nat))))]) none = AObj.rw (List.map (nmap1 fun (b : Nat) ↦ b) (List.map (Value.int IntKind.i64) (lkL n F y))) none ∧ AObj.sc (4 : Nat) (AObj.rw (List.map (Value.int IntKind.i64) (lkL n F y)) none) = true) ∧ Ob (AObj.rw [Value.slice (some (ad0 2)) n n, Value.bool (lkZ F x)] none = AObj.rw [Value.slice (some (ad0 2)) n n, Value.bool (lkZ F y)] none ∧ true = true) ∧ True) ∧ Ob (ptr0 1 = ptr0 1) ∧ Ob (ptr0 3 = ptr0 3) ∧ Ob (Value.slice (some (ad0 0)) q d = Value.slice (some (ad0 0)) q d) ∧ Ob ((↑q : Int) = (↑q : Int)) ∧ Ob (IntKind.i64.wrap ((↑x : Int) + (1 : Int)) = (↑y : Int)) ∧ True)) ∧ (decide ((↑x : Int) < (↑q : Int)) = false → Ob ((2 : Nat) ≤ (2 : Nat)) ∧ True ∧ Ob (finB n F q (Value.agg { toList := [Value.slice (some (ad0 2)) n n, Value.bool (lkZ F x)] }) [AObj.ro (kbV_s1 n F q d), AObj.rw [Value.slice (some (ad0 2)) n n, Value.bool (lkZ F x)] none, AObj.rw (List.map (Value.int IntKind.i64) (lkL n F x)) none, AObj.rw [Value.slice (some (ad0 2)) n n, Value.bool (lkZ F x)] none]))
theorem kbV_eq : kbV = fun (n : Nat) (F : List Int) (q d : Nat) => vc Try.prog kbE 1 33 true (kbI n F q d) kbB [] (argFr 0 [vi n, .slice (some ⟨0,0,none⟩) q d]) [ros F] (retK Try.prog Try.f45 (finB n F q)) := by kernel_rfl
theorem lk_neg {n : Nat} {F : List Int} {x : Nat} (h : F.getD (x * 2) 0 < 0) : lkL n F (x + 1) = lkL n F x ∧ lkZ F (x + 1) = true := by
  constructor
  · simp only [lkL]; rw [if_pos (show ca F x < 0 from h)]
  · simp only [lkZ]; rw [if_pos (show ca F x < 0 from h)]
theorem lk_pos {n : Nat} {F : List Int} {x : Nat} (h : ¬ F.getD (x * 2) 0 < 0) : lkL n F (x + 1) = (lkL n F x).set (F.getD (x * 2) 0).toNat ((lkL n F x).getD (F.getD (x * 2) 0).toNat 0 + F.getD (x * 2 + 1) 0) ∧ lkZ F (x + 1) = lkZ F x := by
  constructor
  · simp only [lkL]; rw [if_neg (show ¬ ca F x < 0 from h)]; rfl
  · simp only [lkZ]; rw [if_neg (show ¬ ca F x < 0 from h)]
theorem putL_one {l : List Int} {i : Nat} {v : Int} : putL (l.map (.int .i64)) i [vi v] = List.map (.int .i64) (l.set i v) := by
  rw [List.map_set]; rfl
theorem nsV_ok (u : Unit) : nsV u := by
  unfold nsV
  simp only [SS, reduceCtorEq, Arg.list, Arg.num, Arg.flag, intOf, andP, Nat.reduceLeDiff, Nat.reduceAdd, Nat.reduceMul, Nat.reduceLT]
theorem lfV_ok (n : Nat) (F : List Int) (q d : Nat) (hn : n ≤ 12) (hq : F.length = q * 2) (hm : q ≤ 100000) (hF : okL n F) : lfV n F q d := by
  unfold lfV lfV_s2 lfV_s1 lfV_s0
  simp only [SS, reduceCtorEq, Arg.list, Arg.num, Arg.flag, intOf, andP, Nat.reduceLeDiff, Nat.reduceAdd, Nat.reduceMul, Nat.reduceLT, ckAsk, CK.ask, madeA]
  have hw : IntKind.i64.wrap (n : Int) = n := wrap_in (by omega) (by omega)
  simp only [hw, Int.toNat_natCast, eq_self, and_self, true_and]
  refine ⟨by omega, ⟨0, by omega, ⟨by rw [lkL, List.map_replicate], rfl⟩, rfl⟩, fun x hx => ⟨fun h1 => ?_, fun h1 => ?_⟩⟩
  rotate_left
  · obtain rfl : x = q := by omega
    exact ⟨2, by omega, rfl, rfl, rfl⟩
  have hc := hF x (by omega)
  have hl := lk_len (n := n) (F := F) x
  have hb := lk_bd hF x (by omega)
  unfold okC ca ck at hc
  refine ⟨by omega, by omega, fun h2 => ⟨x + 1, by omega, by omega, ⟨by rw [(lk_neg h2).1], (lk_neg (n := n) h2).2.symm⟩, wrap_succ (n := q) (by omega) (by omega)⟩, fun h2 => ?_⟩
  have hb2 := hb (F.getD (x * 2) 0).toNat
  refine ⟨by omega, by omega, by omega, by omega, by omega, by omega, by omega, by omega, x + 1, by omega, by omega, ⟨?_, (lk_pos (n := n) h2).2.symm⟩, wrap_succ (n := q) (by omega) (by omega)⟩
  rw [putL_one, wrap_in (by omega) (by omega), (lk_pos h2).1]
theorem kbV_ok (n : Nat) (F : List Int) (q d : Nat) (hn : n ≤ 12) (hq : F.length = q * 2) (hm : q ≤ 100000) (hF : okL n F) : kbV n F q d := by
  unfold kbV kbV_s2 kbV_s1 kbV_s0
  simp only [SS, reduceCtorEq, Arg.list, Arg.num, Arg.flag, intOf, andP, Nat.reduceLeDiff, Nat.reduceAdd, Nat.reduceMul, Nat.reduceLT, ckAsk, CK.ask, madeA]
  have hw : IntKind.i64.wrap (n : Int) = n := wrap_in (by omega) (by omega)
  simp only [hw, Int.toNat_natCast, eq_self, and_self, true_and]
  refine ⟨by omega, ⟨0, by omega, ⟨by rw [lkL, List.map_replicate], rfl⟩, rfl⟩, fun x hx => ⟨fun h1 => ?_, fun h1 => ?_⟩⟩
  rotate_left
  · obtain rfl : x = q := by omega
    exact ⟨2, by omega, rfl, rfl, rfl⟩
  have hc := hF x (by omega)
  have hl := lk_len (n := n) (F := F) x
  have hb := lk_bd hF x (by omega)
  unfold okC ca ck at hc
  refine ⟨by omega, by omega, fun h2 => ?_, fun h2 => ?_⟩
  · have h3 := two_and h2
    have h4 : F.getD (x * 2) 0 < 0 := by omega
    exact ⟨x + 1, by omega, by omega, ⟨by rw [(lk_neg h4).1], (lk_neg (n := n) h4).2.symm⟩, wrap_succ (n := q) (by omega) (by omega)⟩
  have h3 := two_no h2
  have h4 : ¬ F.getD (x * 2) 0 < 0 := by omega
  have hb2 := hb (F.getD (x * 2) 0).toNat
  refine ⟨by omega, by omega, rfl, by omega, by omega, x + 1, by omega, by omega, ⟨?_, (lk_pos (n := n) h4).2.symm⟩, wrap_succ (n := q) (by omega) (by omega)⟩
  rw [putL_one, show getI [vi (F.getD (x * 2) 0), vi (F.getD (x * 2 + 1) 0)] 1 = F.getD (x * 2 + 1) 0 from rfl, wrap_in (by omega) (by omega), (lk_pos h4).1]
end Go.Pier.Sk
set_option maxRecDepth 100000
set_option linter.unusedVariables false
set_option linter.unusedSimpArgs false
namespace Go.Pier.Sk
open Go Go.Pier Go.Proofs
noncomputable def wtB : Code := Try.f46.body.getD .skip
noncomputable def wtE : VEnv := { ct := (Ct.none.add 36 (born3 psK caOS)).add 42 (pure3 psRo roS), orc := slO }
def fl (m : List Int) (z : Bool) (w : List Int) (r : Int) (x : Nat) : List Int := filL (allL m z) w r x
def nA (m : List Int) (z : Bool) : Nat := (allL m z).length / 2
def wtI (m : List Int) (c : Nat) (w : List Int) (d : Nat) (z : Bool) (r : Int) : Nat → Option LInv := inv2 0 (.mk
  [⟨Nat, fun x => x ≤ nA m z ∧ fl m z w r x = [], fun x => [(1, .slice (some ⟨1,0,none⟩) w.length d), (2, vi r), (7, nilS), (8, newS 3 ((allL m z).length / 2)), (9, vi x)], fun _ => [ros m, ros w, .rw (knC (some ⟨0,0,none⟩) m.length c z) none, rowP (allL m z)], fun x => nA m z - x, fun _ _ => none⟩,
   ⟨Nat, fun x => x ≤ nA m z ∧ fl m z w r x ≠ [], fun x => [(1, .slice (some ⟨1,0,none⟩) w.length d), (2, vi r), (7, newS 4 ((fl m z w r x).length / 2)), (8, newS 3 ((allL m z).length / 2)), (9, vi x)], fun x => [ros m, ros w, .rw (knC (some ⟨0,0,none⟩) m.length c z) none, rowP (allL m z), rowP (fl m z w r x)], fun x => nA m z - x, fun _ _ => none⟩]
  (fun _ b => b) (fun i j => match i, j with | 0, 0 => [fun b => b] | 0, _ => [nsub 4 5] | _, _ => [fun b => b, nsub 4 6]))
def finW (F : List Int) (m w : List Int) (v : Value) (H : Heap) : Prop := (F = [] → v = nilS) ∧ (F ≠ [] → ∃ b, 2 ≤ b ∧ v = newS b (F.length / 2) ∧ H[0]? = some (ros m) ∧ H[1]? = some (ros w) ∧ H[b]? = some (rowP F))
noncomputable def wtV_s0 (m : List Int) (c : Nat) (w : List Int) (d : Nat) (z : Bool) (r : Int) := (List.map (Value.int IntKind.i64) (allL m z))
noncomputable def wtV_s1 (m : List Int) (c : Nat) (w : List Int) (d : Nat) (z : Bool) (r : Int) : List Value := [Value.slice (some (ad0 0)) m.length c, Value.bool z]
noncomputable def wtV_s2 (m : List Int) (c : Nat) (w : List Int) (d : Nat) (z : Bool) (r : Int) := (List.map (Value.int IntKind.i64) w)
noncomputable def wtV_s3 (m : List Int) (c : Nat) (w : List Int) (d : Nat) (z : Bool) (r : Int) := (List.map (Value.int IntKind.i64) m)
noncomputable def wtV_s4 (m : List Int) (c : Nat) (w : List Int) (d : Nat) (z : Bool) (r : Int) (x : Nat) := (getI (wtV_s0 m c w d z r) ((0 : Nat) + (↑x : Int).toNat * (2 : Nat) + (1 : Nat)))
noncomputable def wtV_s5 (m : List Int) (c : Nat) (w : List Int) (d : Nat) (z : Bool) (r : Int) (x : Nat) := (getI (wtV_s0 m c w d z r) ((0 : Nat) + (↑x : Int).toNat * (2 : Nat)))
noncomputable def wtV_s6 (m : List Int) (c : Nat) (w : List Int) (d : Nat) (z : Bool) (r : Int) := (AObj.rw (wtV_s0 m c w d z r) (some (2 : Nat)))
noncomputable def wtV_s7 (m : List Int) (c : Nat) (w : List Int) (d : Nat) (z : Bool) (r : Int) (x : Nat) := (ckAsk [CK.i IntKind.i64, CK.i IntKind.i64] (wtV_s0 m c w d z r) ((0 : Nat) + (↑x : Int).toNat * (2 : Nat)))
noncomputable def wtV_s8 (m : List Int) (c : Nat) (w : List Int) (d : Nat) (z : Bool) (r : Int) := ((allL m z).length / (2 : Nat))
noncomputable def wtV :=
fun (m : List Int) (c : Nat) (w : List Int) (d : Nat) (z : Bool) (r : Int) ↦ Ob ((true = true ∧ Flat (wtV_s3 m c w d z r)) ∧ okM (Leaf.view (wtV_s3 m c w d z r) m.length false) ∧ allL (intsOf (wtV_s3 m c w d z r)) z ≠ []) ∧ ((∃ (y : Nat), Ob (y ≤ nA m z ∧ fl m z w r y = []) ∧ (Ob (AObj.ro (wtV_s3 m c w d z r) = AObj.ro (List.map (nmap1 fun (b : Nat) ↦ b) (wtV_s3 m c w d z r)) ∧ AObj.sc (4 : Nat) (AObj.ro (wtV_s3 m c w d z r)) = true) ∧ Ob (AObj.ro (wtV_s2 m c w d z r) = AObj.ro (List.map (nmap1 fun (b : Nat) ↦ b) (wtV_s2 m c w d z r)) ∧ AObj.sc (4 : Nat) (AObj.ro (wtV_s2 m c w d z r)) = true) ∧ Ob (AObj.rw (wtV_s1 m c w d z r) none = AObj.rw (wtV_s1 m c w d z r) none ∧ true = true) ∧ Ob (AObj.rw (List.map (Value.int IntKind.i64) (allL (intsOf (wtV_s3 m c w d z r)) z)) (some (2 : Nat)) = AObj.rw (List.map (nmap1 fun (b : Nat) ↦ b) (wtV_s0 m c w d z r)) (some (2 : Nat)) ∧ AObj.sc (4 : Nat) (wtV_s6 m c w d z r) = true) ∧ True) ∧ Ob (Value.slice (some (ad0 1)) w.length d = Value.slice (some (ad0 1)) w.length d) ∧ Ob (r = r) ∧ Ob (Value.slice none (0 : Nat) (0 : Nat) = Value.slice none (0 : Nat) (0 : Nat)) ∧ Ob (Value.slice (some { block := (3 : Nat), off := (0 : Nat), spot := some (0 : Nat) }) ((allL (intsOf (wtV_s3 m c w d z r)) z).length / (2 : Nat)) (0 : Nat) = Value.slice (some { block := (3 : Nat), off := (0 : Nat), spot := some (0 : Nat) }) (wtV_s8 m c w d z r) (0 : Nat)) ∧ Ob ((0 : Int) = (↑y : Int)) ∧ True) ∨ ∃ (y : Nat), Ob (y ≤ nA m z ∧ fl m z w r y ≠ []) ∧ (Ob (AObj.ro (wtV_s3 m c w d z r) = AObj.ro (List.map (nmap1 fun (b : Nat) ↦ b) (wtV_s3 m c w d z r)) ∧ AObj.sc (5 : Nat) (AObj.ro (wtV_s3 m c w d z r)) = true) ∧ Ob (AObj.ro (wtV_s2 m c w d z r) = AObj.ro (List.map (nmap1 fun (b : Nat) ↦ b) (wtV_s2 m c w d z r)) ∧ AObj.sc (5 : Nat) (AObj.ro (wtV_s2 m c w d z r)) = true) ∧ Ob (AObj.rw (wtV_s1 m c w d z r) none = AObj.rw (wtV_s1 m c w d z r) none ∧ true = true) ∧ Ob (AObj.rw (List.map (Value.int IntKind.i64) (allL (intsOf (wtV_s3 m c w d z r)) z)) (some (2 : Nat)) = AObj.rw (List.map (nmap1 fun (b : Nat) ↦ b) (wtV_s0 m c w d z r)) (some (2 : Nat)) ∧ AObj.sc (5 : Nat) (wtV_s6 m c w d z r) = true) ∧ False) ∧ Ob (Value.slice (some (ad0 1)) w.length d = Value.slice (some (ad0 1)) w.length d) ∧ Ob (r = r) ∧ Ob (Value.slice none (0 : Nat) (0 : Nat) = Value.slice (some { block := (4 : Nat), off := (0 : Nat), spot := some (0 : Nat) }) ((fl m z w r y).length / (2 : Nat)) (0 : Nat)) ∧ Ob (Value.slice (some { block := (3 : Nat), off := (0 : Nat), spot := some (0 : Nat) }) ((allL (intsOf (wtV_s3 m c w d z r)) z).length / (2 : Nat)) (0 : Nat) = Value.slice (some { block := (3 : Nat), off := (0 : Nat), spot := some (0 : Nat) }) (wtV_s8 m c w d z r) (0 : Nat)) ∧ Ob ((0 : Int) = (↑y : Int)) ∧ True) ∧ (∀ (x : Nat), Ob (x ≤ nA m z ∧ fl m z w r x = []) → (decide ((↑x : Int) < (↑(wtV_s8 m c w d z r) : Int)) = true → Ob ((0 : Int) ≤ (↑x : Int) ∧ (↑x : Int) < (↑(wtV_s8 m c w d z r) : Int) ∧ true = true) ∧ Ob (wtV_s7 m c w d z r x) ∧ Ob ((true = true ∧ Flat (wtV_s2 m c w d z r)) ∧ okM (Leaf.view (wtV_s2 m c w d z r) w.length false) ∧ (∀ (xq : Int), xq ∈ intsOf (wtV_s2 m c w d z r) → (-1 : Int) ≤ xq ∧ xq ≤ (1 : Int)) ∧ okC w.length (wtV_s5 m c w d z r x) (wtV_s4 m c w d z r x)) ∧ ((resV (intsOf (wtV_s2 m c w d z r)) (wtV_s5 m c w d z r x) (wtV_s4 m c w d z r x) == r) = true → Ob ((0 : Int) ≤ (↑x : Int) ∧ (↑x : Int) < (↑(wtV_s8 m c w d z r) : Int) ∧ true = true) ∧ Ob (wtV_s7 m c w d z r x) ∧ Ob (andP (some ((0 : Nat) + (2 : Nat) ≤ (2 : Nat) ∧ true = true)) ((1 : Nat) ≤ (1099511627776 : Nat) ∧ (4128 : Nat) ≤ (281474976710656 : Nat) ∧ (2 : Nat) = (2 : Nat) ∧ (0 : Nat) = (0 : Nat) ∧ (0 : Nat) < (1 : Nat))) ∧ ((∃ (y : Nat), Ob (y ≤ nA m z ∧ fl m z w r y = []) ∧ Ob (nA m z - y < nA m z - x) ∧ (Ob (AObj.ro (wtV_s3 m c w d z r) = AObj.ro (List.map (nmap1 fun (b : Nat) ↦ b) (wtV_s3 m c w d z r)) ∧ AObj.sc (4 : Nat) (AObj.ro (wtV_s3 m c w d z r)) = true) ∧ Ob (AObj.ro (wtV_s2 m c w d z r) = AObj.ro (List.map (nmap1 fun (b : Nat) ↦ b) (wtV_s2 m c w d z r)) ∧ AObj.sc (4 : Nat) (AObj.ro (wtV_s2 m c w d z r)) = true) ∧ Ob (AObj.rw (wtV_s1 m c w d z r) none = AObj.rw (wtV_s1 m c w d z r) none ∧ true = true) ∧ Ob (AObj.rw (wtV_s0 m c w d z r) (some (2 : Nat)) = AObj.rw (List.map (nmap1 fun (b : Nat) ↦ b) (wtV_s0 m c w d z r)) (some (2 : Nat)) ∧ AObj.sc (4 : Nat) (wtV_s6 m c w d z r) = true) ∧ True) ∧ Ob (Value.slice (some (ad0 1)) w.length d = Value.slice (some (ad0 1)) w.length d) ∧ Ob (r = r) ∧ Ob (Value.slice (some { block := (5 : Nat), off := (0 : Nat), spot := some (0 : Nat) }) (1 : Nat) (0 : Nat) = Value.slice none (0 : Nat) (0 : Nat)) ∧ Ob (Value.slice (some { block := (3 : Nat), off := (0 : Nat), spot := some (0 : Nat) }) (wtV_s8 m c w d z r) (0 : Nat) = Value.slice (some { block := (3 : Nat), off := (0 : Nat), spot := some (0 : Nat) }) (wtV_s8 m c w d z r) (0 : Nat)) ∧ Ob (IntKind.i64.wrap ((↑x : Int) + (1 : Int)) = (↑y : Int)) ∧ True) ∨ ∃ (y : Nat), Ob (y ≤ nA m z ∧ fl m z w r y ≠ []) ∧ Ob (nA m z - y < nA m z - x) ∧ (Ob (AObj.ro (wtV_s3 m c w d z r) = AObj.ro (List.map (nmap1 (nsub (4 : Nat) (5 : Nat))) (wtV_s3 m c w d z r)) ∧ AObj.sc (5 : Nat) (AObj.ro (wtV_s3 m c w d z r)) = true) ∧ Ob (AObj.ro (wtV_s2 m c w d z r) = AObj.ro (List.map (nmap1 (nsub (4 : Nat) (5 : Nat))) (wtV_s2 m c w d z r)) ∧ AObj.sc (5 : Nat) (AObj.ro (wtV_s2 m c w d z r)) = true) ∧ Ob (AObj.rw (wtV_s1 m c w d z r) none = AObj.rw (wtV_s1 m c w d z r) none ∧ true = true) ∧ Ob (AObj.rw (wtV_s0 m c w d z r) (some (2 : Nat)) = AObj.rw (List.map (nmap1 (nsub (4 : Nat) (5 : Nat))) (wtV_s0 m c w d z r)) (some (2 : Nat)) ∧ AObj.sc (5 : Nat) (wtV_s6 m c w d z r) = true) ∧ Ob (AObj.rw [vi (wtV_s5 m c w d z r x), vi (wtV_s4 m c w d z r x)] (some (2 : Nat)) = AObj.rw (List.map (nmap1 (nsub (4 : Nat) (5 : Nat))) (List.map (Value.int IntKind.i64) (fl m z w r y))) (some (2 : Nat)) ∧ AObj.sc (5 : Nat) (AObj.rw (List.map (Value.int IntKind.i64) (fl m z w r y)) (some (2 : Nat))) = true) ∧ True) ∧ Ob (Value.slice (some (ad0 1)) w.length d = Value.slice (some (ad0 1)) w.length d) ∧ Ob (r = r) ∧ Ob (Value.slice (some { block := (5 : Nat), off := (0 : Nat), spot := some (0 : Nat) }) (1 : Nat) (0 : Nat) = Value.slice (some { block := (5 : Nat), off := (0 : Nat), spot := some (0 : Nat) }) ((fl m z w r y).length / (2 : Nat)) (0 : Nat)) ∧ Ob (Value.slice (some { block := (3 : Nat), off := (0 : Nat), spot := some (0 : Nat) }) (wtV_s8 m c w d z r) (0 : Nat) = Value.slice (some { block := (3 : Nat), off := (0 : Nat), spot := some (0 : Nat) }) (wtV_s8 m c w d z r) (0 : Nat)) ∧ Ob (IntKind.i64.wrap ((↑x : Int) + (1 : Int)) = (↑y : Int)) ∧ True)) ∧ ((resV (intsOf (wtV_s2 m c w d z r)) (wtV_s5 m c w d z r x) (wtV_s4 m c w d z r x) == r) = false → (∃ (y : Nat), Ob (y ≤ nA m z ∧ fl m z w r y = []) ∧ Ob (nA m z - y < nA m z - x) ∧ (Ob (AObj.ro (wtV_s3 m c w d z r) = AObj.ro (List.map (nmap1 fun (b : Nat) ↦ b) (wtV_s3 m c w d z r)) ∧ AObj.sc (4 : Nat) (AObj.ro (wtV_s3 m c w d z r)) = true) ∧ Ob (AObj.ro (wtV_s2 m c w d z r) = AObj.ro (List.map (nmap1 fun (b : Nat) ↦ b) (wtV_s2 m c w d z r)) ∧ AObj.sc (4 : Nat) (AObj.ro (wtV_s2 m c w d z r)) = true) ∧ Ob (AObj.rw (wtV_s1 m c w d z r) none = AObj.rw (wtV_s1 m c w d z r) none ∧ true = true) ∧ Ob (AObj.rw (wtV_s0 m c w d z r) (some (2 : Nat)) = AObj.rw (List.map (nmap1 fun (b : Nat) ↦ b) (wtV_s0 m c w d z r)) (some (2 : Nat)) ∧ AObj.sc (4 : Nat) (wtV_s6 m c w d z r) = true) ∧ True) ∧ Ob (Value.slice (some (ad0 1)) w.length d = Value.slice (some (ad0 1)) w.length d) ∧ Ob (r = r) ∧ Ob (Value.slice none (0 : Nat) (0 : Nat) = Value.slice none (0 : Nat) (0 : Nat)) ∧ Ob (Value.slice (some { block := (3 : Nat), off := (0 : Nat), spot := some (0 : Nat) }) (wtV_s8 m c w d z r) (0 : Nat) = Value.slice (some { block := (3 : Nat), off := (0 : Nat), spot := some (0 : Nat) }) (wtV_s8 m c w d z r) (0 : Nat)) ∧ Ob (IntKind.i64.wrap ((↑x : Int) + (1 : Int)) = (↑y : Int)) ∧ True) ∨ ∃ (y : Nat), Ob (y ≤ nA m z ∧ fl m z w r y ≠ []) ∧ Ob (nA m z - y < nA m z - x) ∧ (Ob (AObj.ro (wtV_s3 m c w d z r) = AObj.ro (List.map (nmap1 (nsub (4 : Nat) (5 : Nat))) (wtV_s3 m c w d z r)) ∧ AObj.sc (5 : Nat) (AObj.ro (wtV_s3 m c w d z r)) = true) ∧ Ob (AObj.ro (wtV_s2 m c w d z r) = AObj.ro (List.map (nmap1 (nsub (4 : Nat) (5 : Nat))) (wtV_s2 m c w d z r)) ∧ AObj.sc (5 : Nat) (AObj.ro (wtV_s2 m c w d z r)) = true) ∧ Ob (AObj.rw (wtV_s1 m c w d z r) none = AObj.rw (wtV_s1 m c w d z r) none ∧ true = true) ∧ Ob (AObj.rw (wtV_s0 m c w d z r) (some (2 : Nat)) = AObj.rw (List.map (nmap1 (nsub (4 : Nat) (5 : Nat))) (wtV_s0 m c w d z r)) (some (2 : Nat)) ∧ AObj.sc (5 : Nat) (wtV_s6 m c w d z r) = true) ∧ False) ∧ Ob (Value.slice (some (ad0 1)) w.length d = Value.slice (some (ad0 1)) w.length d) ∧ Ob (r = r) ∧ Ob (Value.slice none (0 : Nat) (0 : Nat) = Value.slice (some { block := (5 : Nat), off := (0 : Nat), spot := some (0 : Nat) }) ((fl m z w r y).length / (2 : Nat)) (0 : Nat)) ∧ Ob (Value.slice (some { block := (3 : Nat), off := (0 : Nat), spot := some (0 : Nat) }) (wtV_s8 m c w d z r) (0 : Nat) = Value.slice (some { block := (3 : Nat), off := (0 : Nat), spot := some (0 : Nat) }) (wtV_s8 m c w d z r) (0 : Nat)) ∧ Ob (IntKind.i64.wrap ((↑x : Int) + (1 : Int)) = (↑y : Int)) ∧ True)) ∧ (decide ((↑x : Int) < (↑(wtV_s8 m c w d z r) : Int)) = false → True ∧ Ob (finW (fl m z w r (nA m z)) m w (Value.slice none (0 : Nat) (0 : Nat)) [AObj.ro (wtV_s3 m c w d z r), AObj.ro (wtV_s2 m c w d z r), AObj.rw (wtV_s1 m c w d z r) none, AObj.rw (wtV_s0 m c w d z r) (some (2 : Nat))]))) ∧ ∀ (x : Nat), Ob (x ≤ nA m z ∧ fl m z w r x ≠ []) → (decide ((↑x : Int) < (↑(wtV_s8 m c w d z r) : Int)) = true → Ob ((0 : Int) ≤ (↑x : Int) ∧ (↑x : Int) < (↑(wtV_s8 m c w d z r) : Int) ∧ true = true) ∧ Ob (wtV_s7 m c w d z r x) ∧ Ob ((true = true ∧ Flat (wtV_s2 m c w d z r)) ∧ okM (Leaf.view (wtV_s2 m c w d z r) w.length false) ∧ (∀ (xqq : Int), xqq ∈ intsOf (wtV_s2 m c w d z r) → (-1 : Int) ≤ xqq ∧ xqq ≤ (1 : Int)) ∧ okC w.length (wtV_s5 m c w d z r x) (wtV_s4 m c w d z r x)) ∧ ((resV (intsOf (wtV_s2 m c w d z r)) (wtV_s5 m c w d z r x) (wtV_s4 m c w d z r x) == r) = true → Ob ((0 : Int) ≤ (↑x : Int) ∧ (↑x : Int) < (↑(wtV_s8 m c w d z r) : Int) ∧ true = true) ∧ Ob (wtV_s7 m c w d z r x) ∧ Ob (andP (some ((0 : Nat) + (2 : Nat) ≤ (2 : Nat) ∧ true = true)) ((fl m z w r x).length / (2 : Nat) + (1 : Nat) ≤ (1099511627776 : Nat) ∧ ((2 : Nat) * ((fl m z w r x).length / (2 : Nat) + (1 : Nat)) + (256 : Nat)) * (16 : Nat) ≤ (281474976710656 : Nat) ∧ (2 : Nat) = (2 : Nat) ∧ (List.map (Value.int IntKind.i64) (fl m z w r x)).length = (fl m z w r x).length / (2 : Nat) * (2 : Nat))) ∧ (((∃ (y : Nat), Ob (y ≤ nA m z ∧ fl m z w r y = []) ∧ Ob (nA m z - y < nA m z - x) ∧ (Ob (AObj.ro (wtV_s3 m c w d z r) = AObj.ro (List.map (nmap1 fun (b : Nat) ↦ b) (wtV_s3 m c w d z r)) ∧ AObj.sc (4 : Nat) (AObj.ro (wtV_s3 m c w d z r)) = true) ∧ Ob (AObj.ro (wtV_s2 m c w d z r) = AObj.ro (List.map (nmap1 fun (b : Nat) ↦ b) (wtV_s2 m c w d z r)) ∧ AObj.sc (4 : Nat) (AObj.ro (wtV_s2 m c w d z r)) = true) ∧ Ob (AObj.rw (wtV_s1 m c w d z r) none = AObj.rw (wtV_s1 m c w d z r) none ∧ true = true) ∧ Ob (AObj.rw (wtV_s0 m c w d z r) (some (2 : Nat)) = AObj.rw (List.map (nmap1 fun (b : Nat) ↦ b) (wtV_s0 m c w d z r)) (some (2 : Nat)) ∧ AObj.sc (4 : Nat) (wtV_s6 m c w d z r) = true) ∧ True) ∧ Ob (Value.slice (some (ad0 1)) w.length d = Value.slice (some (ad0 1)) w.length d) ∧ Ob (r = r) ∧ Ob (Value.slice (some { block := (6 : Nat), off := (0 : Nat), spot := some (0 : Nat) }) ((fl m z w r x).length / (2 : Nat) + (1 : Nat)) (0 : Nat) = Value.slice none (0 : Nat) (0 : Nat)) ∧ Ob (Value.slice (some { block := (3 : Nat), off := (0 : Nat), spot := some (0 : Nat) }) (wtV_s8 m c w d z r) (0 : Nat) = Value.slice (some { block := (3 : Nat), off := (0 : Nat), spot := some (0 : Nat) }) (wtV_s8 m c w d z r) (0 : Nat)) ∧ Ob (IntKind.i64.wrap ((↑x : Int) + (1 : Int)) = (↑y : Int)) ∧ True) ∨ ∃ (y : Nat), Ob (y ≤ nA m z ∧ fl m z w r y = []) ∧ Ob (nA m z - y < nA m z - x) ∧ (Ob (AObj.ro (wtV_s3 m c w d z r) = AObj.ro (List.map (nmap1 (nsub (4 : Nat) (6 : Nat))) (wtV_s3 m c w d z r)) ∧ AObj.sc (4 : Nat) (AObj.ro (wtV_s3 m c w d z r)) = true) ∧ Ob (AObj.ro (wtV_s2 m c w d z r) = AObj.ro (List.map (nmap1 (nsub (4 : Nat) (6 : Nat))) (wtV_s2 m c w d z r)) ∧ AObj.sc (4 : Nat) (AObj.ro (wtV_s2 m c w d z r)) = true) ∧ Ob (AObj.rw (wtV_s1 m c w d z r) none = AObj.rw (wtV_s1 m c w d z r) none ∧ true = true) ∧ Ob (AObj.rw (wtV_s0 m c w d z r) (some (2 : Nat)) = AObj.rw (List.map (nmap1 (nsub (4 : Nat) (6 : Nat))) (wtV_s0 m c w d z r)) (some (2 : Nat)) ∧ AObj.sc (4 : Nat) (wtV_s6 m c w d z r) = true) ∧ True) ∧ Ob (Value.slice (some (ad0 1)) w.length d = Value.slice (some (ad0 1)) w.length d) ∧ Ob (r = r) ∧ Ob (Value.slice (some { block := (6 : Nat), off := (0 : Nat), spot := some (0 : Nat) }) ((fl m z w r x).length / (2 : Nat) + (1 : Nat)) (0 : Nat) = Value.slice none (0 : Nat) (0 : Nat)) ∧ Ob (Value.slice (some { block := (3 : Nat), off := (0 : Nat), spot := some (0 : Nat) }) (wtV_s8 m c w d z r) (0 : Nat) = Value.slice (some { block := (3 : Nat), off := (0 : Nat), spot := some (0 : Nat) }) (wtV_s8 m c w d z r) (0 : Nat)) ∧ Ob (IntKind.i64.wrap ((↑x : Int) + (1 : Int)) = (↑y : Int)) ∧ True) ∨ (∃ (y : Nat), Ob (y ≤ nA m z ∧ fl m z w r y ≠ []) ∧ Ob (nA m z - y < nA m z - x) ∧ (Ob (AObj.ro (wtV_s3 m c w d z r) = AObj.ro (List.map (nmap1 fun (b : Nat) ↦ b) (wtV_s3 m c w d z r)) ∧ AObj.sc (5 : Nat) (AObj.ro (wtV_s3 m c w d z r)) = true) ∧ Ob (AObj.ro (wtV_s2 m c w d z r) = AObj.ro (List.map (nmap1 fun (b : Nat) ↦ b) (wtV_s2 m c w d z r)) ∧ AObj.sc (5 : Nat) (AObj.ro (wtV_s2 m c w d z r)) = true) ∧ Ob (AObj.rw (wtV_s1 m c w d z r) none = AObj.rw (wtV_s1 m c w d z r) none ∧ true = true) ∧ Ob (AObj.rw (wtV_s0 m c w d z r) (some (2 : Nat)) = AObj.rw (List.map (nmap1 fun (b : Nat) ↦ b) (wtV_s0 m c w d z r)) (some (2 : Nat)) ∧ AObj.sc (5 : Nat) (wtV_s6 m c w d z r) = true) ∧ Ob (AObj.gone = AObj.rw (List.map (nmap1 fun (b : Nat) ↦ b) (List.map (Value.int IntKind.i64) (fl m z w r y))) (some (2 : Nat)) ∧ AObj.sc (5 : Nat) (AObj.rw (List.map (Value.int IntKind.i64) (fl m z w r y)) (some (2 : Nat))) = true) ∧ True) ∧ Ob (Value.slice (some (ad0 1)) w.length d = Value.slice (some (ad0 1)) w.length d) ∧ Ob (r = r) ∧ Ob (Value.slice (some { block := (6 : Nat), off := (0 : Nat), spot := some (0 : Nat) }) ((fl m z w r x).length / (2 : Nat) + (1 : Nat)) (0 : Nat) = Value.slice (some { block := (4 : Nat), off := (0 : Nat), spot := some (0 : Nat) }) ((fl m z w r y).length / (2 : Nat)) (0 : Nat)) ∧ Ob (Value.slice (some { block := (3 : Nat), off := (0 : Nat), spot := some (0 : Nat) }) (wtV_s8 m c w d z r) (0 : Nat) = Value.slice (some { block := (3 : Nat), off := (0 : Nat), spot := some (0 : Nat) }) (wtV_s8 m c w d z r) (0 : Nat)) ∧ Ob (IntKind.i64.wrap ((↑x : Int) + (1 : Int)) = (↑y : Int)) ∧ True) ∨ ∃ (y : Nat), Ob (y ≤ nA m z ∧ fl m z w r y ≠ []) ∧ Ob (nA m z - y < nA m z - x) ∧ (Ob (AObj.ro (wtV_s3 m c w d z r) = AObj.ro (List.map (nmap1 (nsub (4 : Nat) (6 : Nat))) (wtV_s3 m c w d z r)) ∧ AObj.sc (5 : Nat) (AObj.ro (wtV_s3 m c w d z r)) = true) ∧ Ob (AObj.ro (wtV_s2 m c w d z r) = AObj.ro (List.map (nmap1 (nsub (4 : Nat) (6 : Nat))) (wtV_s2 m c w d z r)) ∧ AObj.sc (5 : Nat) (AObj.ro (wtV_s2 m c w d z r)) = true) ∧ Ob (AObj.rw (wtV_s1 m c w d z r) none = AObj.rw (wtV_s1 m c w d z r) none ∧ true = true) ∧ Ob (AObj.rw (wtV_s0 m c w d z r) (some (2 : Nat)) = AObj.rw (List.map (nmap1 (nsub (4 : Nat) (6 : Nat))) (wtV_s0 m c w d z r)) (some (2 : Nat)) ∧ AObj.sc (5 : Nat) (wtV_s6 m c w d z r) = true) ∧ Ob (AObj.rw (List.map (Value.int IntKind.i64) (fl m z w r x) ++ [vi (wtV_s5 m c w d z r x), vi (wtV_s4 m c w d z r x)]) (some (2 : Nat)) = AObj.rw (List.map (nmap1 (nsub (4 : Nat) (6 : Nat))) (List.map (Value.int IntKind.i64) (fl m z w r y))) (some (2 : Nat)) ∧ AObj.sc (5 : Nat) (AObj.rw (List.map (Value.int IntKind.i64) (fl m z w r y)) (some (2 : Nat))) = true) ∧ True) ∧ Ob (Value.slice (some (ad0 1)) w.length d = Value.slice (some (ad0 1)) w.length d) ∧ Ob (r = r) ∧ Ob (Value.slice (some { block := (6 : Nat), off := (0 : Nat), spot := some (0 : Nat) }) ((fl m z w r x).length / (2 : Nat) + (1 : Nat)) (0 : Nat) = Value.slice (some { block := (6 : Nat), off := (0 : Nat), spot := some (0 : Nat) }) ((fl m z w r y).length / (2 : Nat)) (0 : Nat)) ∧ Ob (Value.slice (some { block := (3 : Nat), off := (0 : Nat), spot := some (0 : Nat) }) (wtV_s8 m c w d z r) (0 : Nat) = Value.slice (some { block := (3 : Nat), off := (0 : Nat), spot := some (0 : Nat) }) (wtV_s8 m c w d z r) (0 : Nat)) ∧ Ob (IntKind.i64.wrap ((↑x : Int) + (1 : Int)) = (↑y : Int)) ∧ True)) ∧ ((resV (intsOf (wtV_s2 m c w d z r)) (wtV_s5 m c w d z r x) (wtV_s4 m c w d z r x) == r) = false → ((∃ (y : Nat), Ob (y ≤ nA m z ∧ fl m z w r y = []) ∧ Ob (nA m z - y < nA m z - x) ∧ (Ob (AObj.ro (wtV_s3 m c w d z r) = AObj.ro (List.map (nmap1 fun (b : Nat) ↦ b) (wtV_s3 m c w d z r)) ∧ AObj.sc (4 : Nat) (AObj.ro (wtV_s3 m c w d z r)) = true) ∧ Ob (AObj.ro (wtV_s2 m c w d z r) = AObj.ro (List.map (nmap1 fun (b : Nat) ↦ b) (wtV_s2 m c w d z r)) ∧ AObj.sc (4 : Nat) (AObj.ro (wtV_s2 m c w d z r)) = true) ∧ Ob (AObj.rw (wtV_s1 m c w d z r) none = AObj.rw (wtV_s1 m c w d z r) none ∧ true = true) ∧ Ob (AObj.rw (wtV_s0 m c w d z r) (some (2 : Nat)) = AObj.rw (List.map (nmap1 fun (b : Nat) ↦ b) (wtV_s0 m c w d z r)) (some (2 : Nat)) ∧ AObj.sc (4 : Nat) (wtV_s6 m c w d z r) = true) ∧ True) ∧ Ob (Value.slice (some (ad0 1)) w.length d = Value.slice (some (ad0 1)) w.length d) ∧ Ob (r = r) ∧ Ob (Value.slice (some { block := (4 : Nat), off := (0 : Nat), spot := some (0 : Nat) }) ((fl m z w r x).length / (2 : Nat)) (0 : Nat) = Value.slice none (0 : Nat) (0 : Nat)) ∧ Ob (Value.slice (some { block := (3 : Nat), off := (0 : Nat), spot := some (0 : Nat) }) (wtV_s8 m c w d z r) (0 : Nat) = Value.slice (some { block := (3 : Nat), off := (0 : Nat), spot := some (0 : Nat) }) (wtV_s8 m c w d z r) (0 : Nat)) ∧ Ob (IntKind.i64.wrap ((↑x : Int) + (1 : Int)) = (↑y : Int)) ∧ True) ∨ ∃ (y : Nat), Ob (y ≤ nA m z ∧ fl m z w r y = []) ∧ Ob (nA m z - y < nA m z - x) ∧ (Ob (AObj.ro (wtV_s3 m c w d z r) = AObj.ro (List.map (nmap1 (nsub (4 : Nat) (6 : Nat))) (wtV_s3 m c w d z r)) ∧ AObj.sc (4 : Nat) (AObj.ro (wtV_s3 m c w d z r)) = true) ∧ Ob (AObj.ro (wtV_s2 m c w d z r) = AObj.ro (List.map (nmap1 (nsub (4 : Nat) (6 : Nat))) (wtV_s2 m c w d z r)) ∧ AObj.sc (4 : Nat) (AObj.ro (wtV_s2 m c w d z r)) = true) ∧ Ob (AObj.rw (wtV_s1 m c w d z r) none = AObj.rw (wtV_s1 m c w d z r) none ∧ true = true) ∧ Ob (AObj.rw (wtV_s0 m c w d z r) (some (2 : Nat)) = AObj.rw (List.map (nmap1 (nsub (4 : Nat) (6 : Nat))) (wtV_s0 m c w d z r)) (some (2 : Nat)) ∧ AObj.sc (4 : Nat) (wtV_s6 m c w d z r) = true) ∧ True) ∧ Ob (Value.slice (some (ad0 1)) w.length d = Value.slice (some (ad0 1)) w.length d) ∧ Ob (r = r) ∧ Ob (Value.slice (some { block := (4 : Nat), off := (0 : Nat), spot := some (0 : Nat) }) ((fl m z w r x).length / (2 : Nat)) (0 : Nat) = Value.slice none (0 : Nat) (0 : Nat)) ∧ Ob (Value.slice (some { block := (3 : Nat), off := (0 : Nat), spot := some (0 : Nat) }) (wtV_s8 m c w d z r) (0 : Nat) = Value.slice (some { block := (3 : Nat), off := (0 : Nat), spot := some (0 : Nat) }) (wtV_s8 m c w d z r) (0 : Nat)) ∧ Ob (IntKind.i64.wrap ((↑x : Int) + (1 : Int)) = (↑y : Int)) ∧ True) ∨ (∃ (y : Nat), Ob (y ≤ nA m z ∧ fl m z w r y ≠ []) ∧ Ob (nA m z - y < nA m z - x) ∧ (Ob (AObj.ro (wtV_s3 m c w d z r) = AObj.ro (List.map (nmap1 fun (b : Nat) ↦ b) (wtV_s3 m c w d z r)) ∧ AObj.sc (5 : Nat) (AObj.ro (wtV_s3 m c w d z r)) = true) ∧ Ob (AObj.ro (wtV_s2 m c w d z r) = AObj.ro (List.map (nmap1 fun (b : Nat) ↦ b) (wtV_s2 m c w d z r)) ∧ AObj.sc (5 : Nat) (AObj.ro (wtV_s2 m c w d z r)) = true) ∧ Ob (AObj.rw (wtV_s1 m c w d z r) none = AObj.rw (wtV_s1 m c w d z r) none ∧ true = true) ∧ Ob (AObj.rw (wtV_s0 m c w d z r) (some (2 : Nat)) = AObj.rw (List.map (nmap1 fun (b : Nat) ↦ b) (wtV_s0 m c w d z r)) (some (2 : Nat)) ∧ AObj.sc (5 : Nat) (wtV_s6 m c w d z r) = true) ∧ Ob (AObj.rw (List.map (Value.int IntKind.i64) (fl m z w r x)) (some (2 : Nat)) = AObj.rw (List.map (nmap1 fun (b : Nat) ↦ b) (List.map (Value.int IntKind.i64) (fl m z w r y))) (some (2 : Nat)) ∧ AObj.sc (5 : Nat) (AObj.rw (List.map (Value.int IntKind.i64) (fl m z w r y)) (some (2 : Nat))) = true) ∧ True) ∧ Ob (Value.slice (some (ad0 1)) w.length d = Value.slice (some (ad0 1)) w.length d) ∧ Ob (r = r) ∧ Ob (Value.slice (some { block := (4 : Nat), off := (0 : Nat), spot := some (0 : Nat) }) ((fl m z w r x).length / (2 : Nat)) (0 : Nat) = Value.slice (some { block := (4 : Nat), off := (0 : Nat), spot := some (0 : Nat) }) ((fl m z w r y).length / (2 : Nat)) (0 : Nat)) ∧ Ob (Value.slice (some { block := (3 : Nat), off := (0 : Nat), spot := some (0 : Nat) }) (wtV_s8 m c w d z r) (0 : Nat) = Value.slice (some { block := (3 : Nat), off := (0 : Nat), spot := some (0 : Nat) }) (wtV_s8 m c w d z r) (0 : Nat)) ∧ Ob (IntKind.i64.wrap ((↑x : Int) + (1 : Int)) = (↑y : Int)) ∧ True) ∨ ∃ (y : Nat), Ob (y ≤ nA m z ∧ fl m z w r y ≠ []) ∧ Ob (nA m z - y < nA m z - x) ∧ (Ob (AObj.ro (wtV_s3 m c w d z r) = AObj.ro (List.map (nmap1 (nsub (4 : Nat) (6 : Nat))) (wtV_s3 m c w d z r)) ∧ AObj.sc (5 : Nat) (AObj.ro (wtV_s3 m c w d z r)) = true) ∧ Ob (AObj.ro (wtV_s2 m c w d z r) = AObj.ro (List.map (nmap1 (nsub (4 : Nat) (6 : Nat))) (wtV_s2 m c w d z r)) ∧ AObj.sc (5 : Nat) (AObj.ro (wtV_s2 m c w d z r)) = true) ∧ Ob (AObj.rw (wtV_s1 m c w d z r) none = AObj.rw (wtV_s1 m c w d z r) none ∧ true = true) ∧ Ob (AObj.rw (wtV_s0 m c w d z r) (some (2 : Nat)) = AObj.rw (List.map (nmap1 (nsub (4 : Nat) (6 : Nat))) (wtV_s0 m c w d z r)) (some (2 : Nat)) ∧ AObj.sc (5 : Nat) (wtV_s6 m c w d z r) = true) ∧ False) ∧ Ob (Value.slice (some (ad0 1)) w.length d = Value.slice (some (ad0 1)) w.length d) ∧ Ob (r = r) ∧ Ob (Value.slice (some { block := (4 : Nat), off := (0 : Nat), spot := some (0 : Nat) }) ((fl m z w r x).length / (2 : Nat)) (0 : Nat) = Value.slice (some { block := (6 : Nat), off := (0 : Nat), spot := some (0 : Nat) }) ((fl m z w r y).length / (2 : Nat)) (0 : Nat)) ∧ Ob (Value.slice (some { block := (3 : Nat), off := (0 : Nat), spot := some (0 : Nat) }) (wtV_s8 m c w d z r) (0 : Nat) = Value.slice (some { block := (3 : Nat), off := (0 : Nat), spot := some (0 : Nat) }) (wtV_s8 m c w d z r) (0 : Nat)) ∧ Ob (IntKind.i64.wrap ((↑x : Int) + (1 : Int)) = (↑y : Int)) ∧ True)) ∧ (decide ((↑x : Int) < (↑(wtV_s8 m c w d z r) : Int)) = false → True ∧ Ob (finW (fl m z w r (nA m z)) m w (Value.slice (some { block := (4 : Nat), off := (0 : Nat), spot := some (0 : Nat) }) ((fl m z w r x).length / (2 : Nat)) (0 : Nat)) [AObj.ro (wtV_s3 m c w d z r), AObj.ro (wtV_s2 m c w d z r), AObj.rw (wtV_s1 m c w d z r) none, AObj.rw (wtV_s0 m c w d z r) (some (2 : Nat)), AObj.rw (List.map (Value.int IntKind.i64) (fl m z w r x)) (some (2 : Nat))]))
theorem wtV_eq : wtV = fun (m : List Int) (c : Nat) (w : List Int) (d : Nat) (z : Bool) (r : Int) => vc Try.prog wtE 2 34 true (wtI m c w d z r) wtB [] (argFr 0 [knV (some ⟨0,0,none⟩) m.length c z, .slice (some ⟨1,0,none⟩) w.length d, vi r]) [ros m, ros w] (retK Try.prog Try.f46 (finW (fl m z w r (nA m z)) m w)) := by kernel_rfl
theorem fl_yes {m : List Int} {z : Bool} {w : List Int} {r : Int} {x : Nat} (h : resV w ((allL m z).getD (x * 2) 0) ((allL m z).getD (x * 2 + 1) 0) = r) : fl m z w r (x + 1) = fl m z w r x ++ [(allL m z).getD (x * 2) 0, (allL m z).getD (x * 2 + 1) 0] := by
  simp only [fl, filL]; rw [if_pos (show resV w (ca (allL m z) x) (ck (allL m z) x) = r from h)]; rfl
theorem fl_no {m : List Int} {z : Bool} {w : List Int} {r : Int} {x : Nat} (h : ¬ resV w ((allL m z).getD (x * 2) 0) ((allL m z).getD (x * 2 + 1) 0) = r) : fl m z w r (x + 1) = fl m z w r x := by
  simp only [fl, filL]; rw [if_neg (show ¬ resV w (ca (allL m z) x) (ck (allL m z) x) = r from h)]
theorem fl_len {m : List Int} {z : Bool} {w : List Int} {r : Int} (x : Nat) : (fl m z w r x).length % 2 = 0 ∧ (fl m z w r x).length ≤ 2 * x := fil_len x
theorem fl_ok {m : List Int} {z : Bool} {w : List Int} {r : Int} : okL m.length (fl m z w r (nA m z)) := ok_fil ok_all _ (Nat.le_refl _)
theorem ok_at {m : List Int} {z : Bool} {x : Nat} (h : x < nA m z) : okC m.length ((allL m z).getD (x * 2) 0) ((allL m z).getD (x * 2 + 1) 0) := ok_all x h
theorem wtV_ok (m : List Int) (c : Nat) (w : List Int) (d : Nat) (z : Bool) (r : Int) (hm : m.length ≤ 1000) (he : ¬ allL m z = []) (hw : w.length = m.length) (hb : ∀ x ∈ w, -1 ≤ x ∧ x ≤ 1) : wtV m c w d z r := by
  unfold wtV wtV_s8 wtV_s7 wtV_s6 wtV_s5 wtV_s4 wtV_s3 wtV_s2 wtV_s1 wtV_s0
  simp only [SS, reduceCtorEq, Arg.list, Arg.num, Arg.flag, intOf, andP, Nat.reduceLeDiff, Nat.reduceAdd, Nat.reduceMul, Nat.reduceLT, Asks, ckAsk, CK.ask, rowP]
  have hmax := all_max (m := m) (z := z)
  have hev := all_len (m := m) (z := z)
  have hn : nA m z = (allL m z).length / 2 := rfl
  have hf := fun x => fl_len (m := m) (z := z) (w := w) (r := r) x
  have okA : ∀ x, x < nA m z → okC w.length ((allL m z).getD (x * 2) 0) ((allL m z).getD (x * 2 + 1) 0) := fun x hx => by rw [hw]; exact ok_at hx
  refine ⟨⟨flat_ints, okM_ints hm, he⟩, ⟨0, ⟨by omega, rfl⟩, rfl⟩, fun x ⟨hx, hc⟩ => ⟨fun h1 => ⟨by omega, ⟨by omega, by omega⟩, ⟨flat_ints, okM_ints (by omega), hb, okA x (by omega)⟩, fun h2 => ⟨by omega, ⟨by omega, by omega⟩, x + 1, ⟨by omega, ?_⟩, by omega, ?_, ?_, wrap_succ (n := nA m z) (by omega) (by omega)⟩, fun h2 => ⟨x + 1, ⟨by omega, ?_⟩, by omega, wrap_succ (n := nA m z) (by omega) (by omega)⟩⟩, fun h1 => ?_⟩,
    fun x ⟨hx, hc⟩ => ⟨fun h1 => ⟨by omega, ⟨by omega, by omega⟩, ⟨flat_ints, okM_ints (by omega), hb, okA x (by omega)⟩, fun h2 => ⟨by omega, ⟨by omega, by omega⟩, ?_, x + 1, ⟨by omega, ?_⟩, by omega, ?_, ?_, wrap_succ (n := nA m z) (by omega) (by omega)⟩, fun h2 => ⟨x + 1, ⟨by omega, ?_⟩, by omega, ?_, ?_, wrap_succ (n := nA m z) (by omega) (by omega)⟩⟩, fun h1 => ?_⟩⟩
  · rw [fl_yes h2]; exact List.append_ne_nil_of_right_ne_nil _ (by simp)
  · rw [fl_yes h2, hc]; rfl
  · rw [fl_yes h2, hc]; simp
  · rw [fl_no h2]; exact hc
  · obtain rfl : x = nA m z := by omega
    exact ⟨fun _ => rfl, fun k => absurd hc k⟩
  · have := hf x; omega
  · rw [fl_yes h2]; exact List.append_ne_nil_of_right_ne_nil _ (by simp)
  · rw [fl_yes h2, snoc_map]
  · have := hf x
    rw [fl_yes h2, List.length_append]; simp only [List.length_cons, List.length_nil]; omega
  · rw [fl_no h2]; exact hc
  · rw [fl_no h2]
  · rw [fl_no h2]
  · obtain rfl : x = nA m z := by omega
    exact ⟨fun k => absurd k hc, fun _ => ⟨4, by omega, rfl, rfl, rfl, rfl⟩⟩
theorem nsG_ok : ∀ args H φ v H' l, pureG [] nsS args H = some (φ, v, H', l) → Asks φ → Call Try.prog 62 args H (fun v' H2 => v' = v ∧ H2 = H') ∧ Kept H H' l :=
  pureG_ok fun r hk hs => match r, hk with
    | [], _ => ⟨by simp [nsS, sc, sc2, sc1, sc0], fun caps => Call.ofVc E0_ok mixed (c := nsB) Try.func62 (by kernel_rfl) (cast (congrFun nsV_eq ()) (nsV_ok ()))⟩
theorem kbE_ok : VOk Try.prog kbE := ⟨CtOk.none.add nsG_ok, E0_ok.cc, E0_ok.yc, slO_ok⟩
theorem lfE_ok : VOk Try.prog lfE := ⟨CtOk.none, E0_ok.cc, E0_ok.yc, slO_ok⟩
abbrev psL : List K3 := [.one (.int .i64), .one (.rows [.i .i64, .i .i64] false)]
def lfS : List Arg3 → Option Born
  | [.one (.plain (.int .i64 n)), .one (.view cs q _)] => some ⟨(0 ≤ n ∧ n ≤ 12) ∧ cs = (intsOf cs).map (.int .i64) ∧ cs.length = q * 2 ∧ q ≤ 100000 ∧ okL n.toNat (intsOf cs), fun b => .agg #[.slice (some ⟨b, 0, none⟩) n.toNat n.toNat, .bool (lkZ (intsOf cs) q)], [madeA (lkL n.toNat (intsOf cs) q)]⟩
  | [.one (.plain (.int .i64 _)), .one _] => some ⟨False, fun _ => nilS, []⟩
  | _ => none
def BCalls (f : FuncId) : Prop := ∀ n F q d, n ≤ 12 → F.length = q * 2 → q ≤ 100000 → okL n F → Call Try.prog f [vi (n : Nat), .slice (some ⟨0,0,none⟩) q d] [ros F] (finB n F q)
theorem lfS_ok {f : FuncId} (C : BCalls f) : ∀ args H φ v H' l, born3 psL lfS args H = some (φ, v, H', l) → Asks φ → Call Try.prog f args H (fun v' H2 => v' = v ∧ H2 = H') ∧ Kept H H' l :=
  born3_ok fun r s hk hs hψ => by
    match r, hk with
    | [.one _, .one y], ⟨⟨n, rfl⟩, hl, _⟩ =>
      rcases hl with rfl | ⟨t, rfl⟩ | ⟨cs, q, rfl⟩ <;> cases hs
      · exact hψ.elim
      · exact hψ.elim
      · obtain ⟨⟨h0, h1⟩, h2, h3, h4, h5⟩ := hψ
        obtain ⟨k, rfl⟩ : ∃ k : Nat, n = k := ⟨n.toNat, by omega⟩
        simp only [Int.toNat_natCast] at h5 ⊢
        refine ⟨⟨fun j o h => ?_, fun ρ b ρ' c ha => ?_, fun n => by simp [sc, sc2, sc1, sc0]⟩, fun caps _ => ?_⟩
        · cases j with
          | zero => cases h; exact .inr ⟨_, _, rfl, all_sc_int⟩
          | succ j => simp at h
        · obtain ⟨h1, h2, h3⟩ := ha 0 (by simp)
          simp only [Nat.add_zero] at h1 h2
          have e : ren1 ρ (.slice (some ⟨b, 0, none⟩) k k) = ren1 ρ' (.slice (some ⟨c, 0, none⟩) k k) := by
            show Value.slice (some (Ren.adr _ _ _)) k k = Value.slice (some (Ren.adr _ _ _)) k k
            rw [adr_std (std_none rfl), adr_std (std_none rfl)]
            simp only [Ren.addr, h1, h2]
          show Value.agg (Array.map (ren1 ρ) _) = Value.agg (Array.map (ren1 ρ') _)
          simp only [List.map_toArray, List.map_cons, List.map_nil, e]
          rfl
        · have hH : canonH3 [.one (.plain (.int .i64 (k : Int))), .one (.view cs q false)] = [ros (intsOf cs)] := by
            show [AObj.ro cs] = [.ro ((intsOf cs).map (.int .i64))]; rw [← h2]
          rw [hH]
          have hc := C k (intsOf cs) q (caps 0) (by omega) (by rw [intsOf, List.length_map]; exact h3) h4 h5
          refine Call.anew (hc.mono fun v H' hk => ?_)
          obtain ⟨b, hb, rfl, g0, g1⟩ := hk
          refine ⟨nsub 1 b, .agg #[.slice (some ⟨1, 0, none⟩) k k, .bool (lkZ (intsOf cs) q)], [ros (intsOf cs), madeA (lkL k (intsOf cs) q)], ⟨by simp, fun b' hb' => ?_, fun b' o ho => ?_, fun b1 b2 o h1 h2 _ _ _ he => ?_, fun b' o ho => ?_⟩, ?_, ?_, rfl, rfl⟩
          · have : b' = 0 := by simp at hb'; omega
            subst this; rfl
          · right
            rcases b' with _ | _ | b'
            · cases ho
              rw [show nsub 1 b 0 = 0 from rfl, g0]
              simp only [omap, ros, map_nmap_int]
            · cases ho
              rw [show nsub 1 b (0 + 1) = b from rfl, g1]
              simp only [omap, madeA, map_nmap_int]
            · simp at ho
          · simp at h1 h2
            rcases b1 with _ | _ | b1 <;> rcases b2 with _ | _ | b2 <;> first | rfl | omega | (simp [nsub, Nat.beq] at he; omega)
          · rcases b' with _ | _ | b'
            · cases ho; exact sc_ro_int
            · cases ho; exact sc_rw_int
            · simp at ho
          · simp [nmap, nmap2, nmap1, nmap0, am, nsub, Nat.beq]
          · simp [sc, sc2, sc1, sc0]
theorem kbG_ok : ∀ args H φ v H' l, born3 psL lfS args H = some (φ, v, H', l) → Asks φ → Call Try.prog 45 args H (fun v' H2 => v' = v ∧ H2 = H') ∧ Kept H H' l :=
  lfS_ok fun n F q d h1 h2 h3 h4 => by
    have h := kbV_ok n F q d h1 h2 h3 h4
    rw [kbV_eq] at h
    exact Call.ofVc kbE_ok mixed (c := kbB) (inv := kbI n F q d) Try.func45 (by kernel_rfl) h
theorem lfG_ok : ∀ args H φ v H' l, born3 psL lfS args H = some (φ, v, H', l) → Asks φ → Call Try.prog 47 args H (fun v' H2 => v' = v ∧ H2 = H') ∧ Kept H H' l :=
  lfS_ok fun n F q d h1 h2 h3 h4 => by
    have h := lfV_ok n F q d h1 h2 h3 h4
    rw [lfV_eq] at h
    exact Call.ofVc lfE_ok mixed (c := lfB) (inv := lfI n F q d) Try.func47 (by kernel_rfl) h
end Go.Pier.Sk
